import PyProof.Rows.All
import KE.KIsAll
import PyProof.ExcArgsOwn
import PyProof.InstStoreFacts
import PyProof.ExcInit
import KE.KStateDown
import KE.RegKIsAll
import KE.KRevIter
import KE.KDictOf
import Wide.Line
import Open.Line
import OpenK.KLine
import PyProof.Rows.KernelRfl
import KE.KTupSum
import PySem.Challenge.RW_loomarrays_k29_refused_alike
set_option Elab.async false
open PySem
set_option linter.defProp false
abbrev RY(x:PySem.Str):Prop:=(x == ("__debug__" : PySem.Str))=false
abbrev BG(x:PySem.Str):Prop:=(x == ("__classdict__" : PySem.Str))=false
abbrev YY:=PySem.Value->PySem.Shared->Prop
def Wm:=@Heap.get?_push_of_some
def Zv:=@Heap.get?_push_size
def Pj:=@decide_eq_true
def Zq:=@decide_eq_false
def SY:=@List.mem_cons_of_mem
def TL:=@List.mem_cons_self
def Ct:=@List.mem_of_getElem?
def UK:=@List.getElem?_eq_getElem
def Vh:=@List.getD_eq_getElem?_getD
def Sq:=@Nat.lt_of_lt_of_le
def IV:=@List.getElem?_append_left
def XB:=@List.mem_map_of_mem
def By:=@List.getElem?_eq_none
def IZ:=@Int.toNat_natCast
theorem WB{A:Sort _}{a:A}:a=a:=Eq.trans rfl rfl
set_option compiler.extract_closed false
noncomputable section
abbrev WK:=List PySem.Expr
abbrev Ra:=Option PySem.Addr
abbrev xW:=List PySem.Addr
abbrev IW:=Option PySem.Value
abbrev Zg:=List PySem.Value
abbrev TY:=List PySem.Str
abbrev Ju:=List (PySem.Str×Bool)
abbrev VA:=Option Int
abbrev Qg:=List Bool
abbrev WC:=List Nat
abbrev Zw:=List Int
abbrev IK:=List (Nat×Nat)
abbrev Q6:=List (Int×Int×Int)
abbrev T1:=List (List Int)
theorem WR{p:Prop}(h:p:=by lia):p:=h
theorem T2{p:Prop}(h:p:=by simp):p:=h
theorem Yh{p:Prop}(h:p:=by kernel_rfl!):p:=h
theorem Ry{p:Prop}(h:p:=by omega):p:=h
theorem BQ{p:Prop}(h:p:=by first|exact Or.inl rfl|exact Or.inr (Or.inl rfl)|exact Or.inr (Or.inr rfl)):p:=h
theorem Fm{p:Prop}(h:p:=by first|exact .inl rfl|exact .inr rfl|assumption):p:=h
theorem Jm{p:Prop}(h:p:=by first|exact Or.inl rfl|exact Or.inr rfl):p:=h
theorem R2{p:Prop}(h:p:=by first|decide|lia):p:=h
theorem SJ{p:Prop}(h:p:=by with_unfolding_all rfl):p:=h
theorem Rc{p:Prop}(h:p:=by intro _;rfl):p:=h
theorem SX{p:Prop}(h:p:=by intro _ _;rfl):p:=h
theorem II{p:Prop}(h:p:=by decide +kernel):p:=h
def bx:=@wpAny_bind
def Zx:=@wpAny_pure
def TC:=@Nat.le_refl
def JY:=@Option.some.inj
def Hz:=@Heap.lt_size
def Fj:=@List.size_toArray
def Zh:=@if_pos
def BE:=@List.map_cons
def Y4:=@if_neg
def Ss:=@Bool.and_eq_true
def Jn:=@List.getElem?_append_right
def Rb:=@Nat.ne_of_lt
def Jj:=@List.getElem?_set_ne
def SS:=@List.length_map
def Sh:=@List.not_mem_nil
def Xh:=@List.getElem?_set_self
def Jr:=@PyProof.Rows.callWith_type1
def Xc:=@Bool.false_ne_true
def UM:=@Heap.get?_update_other
def D7:=@wpAny_newObj_type
def Xm:=@List.length_range
def Gk:=@wpAny_field
def Fh:=@mem_of_lookup
def JL:=@Ne.symm
def Hr:=@Nat.zero_le
def RH:=@List.length_append
def FC:=@List.getElem?_map
def F4:=@List.length_cons
def JQ:=@List.getElem?_take_of_lt
def Xs:=@Heap.get?_update_self
def HJ:=@Nat.le_trans
def P7:=@of_decide_eq_true
def Bs:=@wpAny_callSpecial?_slot
def XA:=@wpAny_call_entry
def U7:=@wpAny_truthy_bool
def Yc:=@builtinLookup_eq_fast
def Xy:=@wpAny_seqItems
def Bz:=@wpAny_Call_Name_kw
def C6:=@Nat.pow_le_pow_right
def Fw:=@Nat.lt_irrefl
def IX:=@wpAny_pyIter_list
def Pd:=@F.plain_max_loop
def S6:=@List.map_append
def Xp:=@List.lookup_cons
def IB:=@wpAny_of_eq
def rj:=@Heap.size_push
def O5:=@List.mem_of_mem_drop
def B0:=@Around.under_plainId
def Jq:=@codeAny_builtin
def Q9:=@List.replicate_succ
def tC:=@sizeLine_eq
def ET:=@wpAny_specialOf
def UD:=@typeLookup_type
def ug:=@List.of_mem_zip
def Jd:=@Nat.le_succ
def Sr:=@Calls.spliced_nil
def Bn:=@List.mem_of_mem_take
def U5:=@F.slot_tuple_iterator_next
def P9:=@wpAny_mono
def RL:=@wpAny_holding
def F2:=@plainId_quiet
def B3:=@PyProof.Rows.slot_tuple_getitem
def Q1:=@List.length_take
def Vz:=@List.getElem_mem
def IS:=@List.getElem?_replicate
def QF:=@List.map_map
def ye:=@wpAny_setField_rec
def xB:=@wpAny_pyIter_tuple
def Tq:=@Obj.data_mapFields
def S8:=@Calls.spliced_cons
def JS:=@List.append_nil
def yU:=@List.any_cons
def ro:=@List.flatten_cons
def EF:=@isSubtype_type
def Ql:=@Nat.lt_succ_self
def IU:=@Nat.le_max_right
def Xx:=@List.map_reverse
def Il:=@List.getElem?_range
def JI:=@List.all_cons
def QR:=@wpAny_updateSeq
def O7:=@wpAny_letGo
def GP:=@wpAny_typeOf
def GJ:=@F.slot_zip_next
def Q8:=@List.length_filter_le
def WU:=@wpAny_rule
def VG:=@call_meets
def Qs:=@wpAny_isInstance
def QU:=@List.getElem_inj
def WT:=@List.ext_getElem
def QN:=@wpAny_standAt
def J6:=@wpAny_attempt
def Xv:=@Nat.le_max_left
def Iq:=@Bool.or_eq_true
def Js:=@wpAny_tryCatch
def IP:=@wpAny_setField
def wY:=@Int.emod_lt_of_pos
def qZ:=@F.plain_reversed_new
def yC:=@F.args_object_init_2
def Yd:=@List.drop_eq_getElem_cons
def BN:=@W.mg_of
def EE:=@wpAny_assign_Name
def Vf:=@Nat.lt_succ_of_lt
def JC:=@List.reverse_cons
def Ik:=@F.args_tuple_mul_2
def Hn:=@F.args_tuple_add_2
def R6:=@AutoSeq1.wpAny_loadPart'
def X3:=@List.filter_cons
def Ji:=@List.all_reverse
def JM:=@F.entry_tuple_mul
def GF:=@F.entry_tuple_add
def R4:=@W.callWith_K
def yB:=@Nat.ne_of_gt
def X5:=@F.slot_tuple_mul
def Tn:=@F.slot_tuple_add
def Dh:=@F.entry_max_loop
def Ic:=@List.take_of_length_le
def PE:=@Calls.callWith_builtin
def EO:=@wpAny_ite_false
def yJ:=@Obj.isFreed_of_fields
def JH:=@List.getElem?_reverse
def R1:=@Int.mul_nonneg
def QB:=@wpAny_updateSeq_pair
def UO:=@Heap.SameBut.update
def xE:=@wpAny_onRaise
set_option autoImplicit true
section
set_option Elab.async false
set_option linter.all false
set_option maxRecDepth 100000
namespace L2
open PySem PySem.Spec PyProof.Rows
abbrev Key:=Sum Int Str
noncomputable def Ad:Key->Value->Bool|.inl k,v=>Value.isInt k v|.inr x,v=>Value.isStrOf x v
noncomputable def aa8(w:World):Key->Int|.inl k=>hashInt k|.inr x=>hashStr w x
theorem bj:∀{k:Key}{v:Value},Ad k v=true->(∃i t,k=Sum.inl i/\v=Value.int i t)\/(∃x t,k=Sum.inr x/\v=Value.str x t)|.inl i,v,h=>by obtain⟨t,e⟩:=Value.isInt_shape (k:=i) (v:=v) h;exact .inl ⟨i,t,rfl,e⟩|.inr x,v,h=>by obtain⟨t,e⟩:=Value.isStrOf_shape (x:=x) (v:=v) h;exact .inr ⟨x,t,rfl,e⟩
theorem Q0F(i:Int)(t:Tok):Ad (.inl i) (.int i t)=true:=by simp[Ad,Value.isInt]
theorem Qb(a b:Int):decide ((Sum.inl a:Key)=Sum.inl b)=(a == b):=by by_cases e:a=b;subst e;simp;have h:¬(Sum.inl a:Key)=Sum.inl b:=λq=>e<|Sum.inl.inj q;rw[Zq h];exact(beq_eq_false_iff_ne.mpr e).symm
theorem Qe(a b:Str):decide ((Sum.inr a:Key)=Sum.inr b)=decide (a=b):=by by_cases e:a=b;subst e;simp;have h:¬(Sum.inr a:Key)=Sum.inr b:=λq=>e<|Sum.inr.inj q;rw[Zq h,Zq e]
theorem Qc(a:Int)(b:Str):decide ((Sum.inl a:Key)=Sum.inr b)=false:=Zq (λq=>nomatch q)
theorem Qd(a:Str)(b:Int):decide ((Sum.inr a:Key)=Sum.inl b)=false:=Zq (λq=>nomatch q)
def ie(prog:Program)(w:World):PySem.KeyKind prog w Key where
 is:=Ad
 hash:=aa8 w
 inj:=λv a b ha hb=>by
  rcases bj ha with ⟨i,t,rfl,rfl⟩|⟨x,t,rfl,rfl⟩
  rcases bj hb with ⟨j,u,rfl,e⟩|⟨y,u,rfl,e⟩
  injection e with e1 _;rw[e1];exact nomatch e;rcases bj hb with ⟨j,u,rfl,e⟩|⟨y,u,rfl,e⟩
  exact nomatch e;injection e with e1 _;rw[e1]
 byValue:=λk v h=>by rcases bj h with ⟨i,t,rfl,rfl⟩|⟨x,t,rfl,rfl⟩<;>rfl
 pyHash:=λhv h=>by
  rcases bj hv with ⟨i,t,rfl,rfl⟩|⟨x,t,rfl,rfl⟩
  exact wpAny_pyHash_int h;exact wpAny_pyHash_str h
 eqBool:=λhu hv h=>by
  rcases bj hu with ⟨i,t,rfl,rfl⟩|⟨x,t,rfl,rfl⟩
  rcases bj hv with ⟨j,u,rfl,rfl⟩|⟨y,u,rfl,rfl⟩
  rw[Qb] at h;exact wpAny_eqBool_int h;rw[Qc] at h;exact SeqAt.EqAt.int_str i t y u _ _ _ _ h;rcases bj hv with ⟨j,u,rfl,rfl⟩|⟨y,u,rfl,rfl⟩
  rw[Qd] at h;exact SeqAt.EqAt.str_int x t j u _ _ _ _ h;rw[Qe] at h;exact wpAny_eqBool_str h
 «strs» := λk x t v h=>by
  rcases bj h with ⟨i,u,rfl,e⟩|⟨y,u,rfl,e⟩
  exact nomatch e;injection e with e1 _;subst e1;cases v<;>rfl
theorem oi(prog:Program)(w:World)(i:Int)(t:Tok):(ie prog w).is (.inl i) (.int i t)=true:=Q0F i t
inductive V where
 |aQ|bl (b:Bool)|int (i:Int)|str (x:Str)|byt (b:Array UInt8)|MV (b:UInt64)|ref (a:Addr)|ty (n:String)
 deriving DecidableEq
def RelV:V->Value->Prop|.aQ,u=>u=Value.none|.bl b,u=>u=Value.bool b|.int i,u=>∃t,u=Value.int i t|.str x,u=>∃t,u=Value.str x t|.byt b,u=>∃t,u=Value.bytes b t|.MV b,u=>∃t,u=Value.float b t|.ref a,u=>u=Value.ref a|.ty n,u=>u=Value.type n
abbrev Vals:List V->Zg->Prop:=Paired RelV
inductive HO where
 |lst (xs:List V)|tup (xs:List V)|dK (kvs:List (Key×V)) (ep:Nat)|dT (kvs:List (List Key×V))|set (S:Int->Bool) (n:Nat)|ins (C dx:Addr) (fs:List (Str×V))|own (x:Addr)|xd (fs:List (Str×V))|met (f x:Addr)|rng (lo hi:Int)|frz (o:Obj) (u:HO)|tbl (ps:Array Value)|ext (φ:Heap->Prop)
abbrev Hp:=Addr->Option HO
def OU(h:Heap)(a:Addr)(items:Array Value):Prop:=∃o,h.get? a=some o/\o.cls=.type "tuple" /\ (∃n,o.data=.seq items n)/\o.dict=none
theorem OU.tup(x:OU h a items):IsTup h a items:=let ⟨o,ho,hc,hd,_⟩:=x;⟨o,ho,hc,hd⟩
noncomputable def ZF(h:Heap)(H:Hp):xW:=(List.range h.objs.size).filter λa=>(H a).isSome
def Ef(h:Heap)(H:Hp):Heap:=W.hideAll h (ZF h H)
theorem Q12(h:Heap)(H:Hp):(Ef h H).objs.size=h.objs.size:=W.hideAll_size _ _
theorem Eg(e:h.get? b=some o)(n:H b=none):(Ef h H).get? b=some o:=W.hideAll_get _ e λhm=>by have q:(H b).isSome=true:=(List.mem_filter.mp hm).2;rw[n] at q;simp at q
theorem Q0D(e:(Ef h H).get? b=some o):h.get? b=some o/\H b=none:=by have e':h.get? b=some o:=W.of_hideAll (ZF h H) e;refine⟨e',?_⟩;cases q:H b with|none=>rfl|some x=>have hm:b∈ZF h H:=List.mem_filter.mpr ⟨List.mem_range.mpr<|Hz e',by simp[q]⟩;have z:(Ef h H).get? b=none:=W.hideAll_none (ZF h H) hm;rw[z] at e;cases e
structure Mod(K:W.Frag)(mg:Str->IW)(base:Heap):Prop where
 gu:K.In base
 glob:base.Ns mainGlobals mg
 blt:∃mb,base.Ns builtinsNs mb/\∀x:Str,x≠"__name__" -> mb x=bootBuiltins x
 nolimit:base.NoLimit
noncomputable def qa(l:List Env):xW:=l.filterMap (·.frame)
def pH(sc:Scope)(x:Str):Prop:=sc.names.lookup x=some .local\/sc.names.lookup x=some .cell\/sc.names.lookup x=some .free
def Loc(sc:Scope)(x:Str):Prop:=sc.names.lookup x=some .local\/sc.names.lookup x=some .cell
def Look(env:Env)(h:Heap)(m:Str->IW)(x:Str)(u:Value):Prop:=(env.kindOf x=some .local/\m x=some u)\/((env.kindOf x=some .cell\/env.kindOf x=some .free)/\∃c,env.cells.lookup x=some c/\h.IsCell c (some u))
section
variable{X:Cx}{pins:List (Addr×Obj)}{σ:List (Option V)}{H H':Hp}{s:Shared}{h':Heap}
theorem qr{N:TY}(hN:N.Nodup){i j:Nat}{x:Str}(a:N[i]?=some x)(b:N[j]?=some x):i=j:=by obtain⟨h1,e1⟩:=List.getElem?_eq_some_iff.mp a;obtain⟨h2,e2⟩:=List.getElem?_eq_some_iff.mp b;exact(QU hN).mp (e1.trans e2.symm)
end
theorem xh{α:Type}{t:Sem α}{Q Q':α->Shared->Prop}(h:wpAny M A t Q E s)(hQ:∀a s,Q a s->Q' a s):wpAny M A t Q' E s:=P9 h hQ λ_ _ x=>x
theorem zW(ho:s.heap.get? it=some o)(hc:o.cls=.type n)(hd:o.data=.fields vs)
    (hn:["enumerate","zip","dict_itemiterator","dict_reverseitemiterator","odict_iterator","itertools.zip_longest","itertools.pairwise"].contains n=false) (hQ:Q () s):wpAny M A (letOwnedTupleGo tg (.ref it) u) Q E s:=by
  unfold letOwnedTupleGo
  cases tg<;>first
    |exact Zx hQ
    | (cases u<;>first
        |exact Zx hQ
        | (refine bx (wpAny_load ho ?_)
           rw[hc,hd]
           show wpAny M A (if (["enumerate","zip","dict_itemiterator","dict_reverseitemiterator","odict_iterator","itertools.zip_longest","itertools.pairwise"].contains n&&vs[0]? == some (rawInt _))=true then _ else _) Q E s
           rw[Y4 (by intro h;rw[hn,Bool.false_and] at h;cases h)]
           exact Zx hQ))
section
variable{X:Cx}{a b c:Expr}{ta tb tc:TE}{pos:Pos}
theorem E4(b:Expr)(h:op≠.In:=by decide)(h2:op≠.NotIn:=by decide):behindInMarks op b=false:=by
 have e1:(op == CmpOp.In)=false:=by cases op<;>first|rfl|exact absurd rfl h
 have e2:(op == CmpOp.NotIn)=false:=by cases op<;>first|rfl|exact absurd rfl h2
 cases b<;>simp[behindInMarks,e1,e2]
theorem xY:(sizeLine:Nat)<2 ^ 63:=by rw[tC];decide
end
structure A5(h:Heap)(x dx C:Addr)(mA:Str->IW):Prop where
 obj:h.get? x=some (W.instObj C dx)
 ns:h.Ns1 dx mA
 ne:dx≠x
theorem mW{h:Heap}{dx:Addr}{mA:Str->IW}(n:h.Ns1 dx mA):∃od,h.get? dx=some od/\∀name,W.lookIn name od=some (mA name):=by
 obtain⟨o,es,ep,ho,hd,hk,_,hm⟩:=n;refine⟨o,ho,λname=>?_⟩;have e:=hm name;unfold nsFind findBy at e;rw[<-Array.find?_toList] at e;unfold W.lookIn;rw[hd];dsimp only;split;rename_i y q;rw[q] at e;exact congrArg some e;rename_i q;rw[q] at e;have a:es.toList.any (·.refKey)=false:=by rw[List.any_eq_false];intro y hy;obtain⟨z,t,PG⟩:=hk y<|Array.mem_toList_iff.mp hy;simp[DictEntry.refKey,PG]
 have a':¬es.toList.any (·.refKey)=true:=by rw[a];exact Xc
 rw[Y4 a'];exact congrArg some e
theorem A5.look(I:A5 h x dx C mA):∃od,W.InstAt h x (W.instObj C dx) C (some od)/\∀name,W.lookIn name od=some (mA name):=
 let ⟨od,ho,hl⟩:=mW I.ns
 ⟨od,⟨I.obj,rfl,rfl,ho⟩,hl⟩
section
variable{prog:Program}{w:World}{A:Around}{E:YY}{s:Shared}{K:W.Frag}{x dx C f:Addr}{mA:Str->IW}{name:Str}{v:Value}
theorem get_map(X:K.In s.heap)(I:A5 s.heap x dx C mA)(hg:W.plainGet K C name=true)(hh:W.hasDictIn K C=true)
  (ha:W.findIn K (.ref C) name=some none) (hv:mA name=some v) (z9:W.handedIn v=true) (h:Q v {s with toks:=s.toks+1}) :
  wpAny (model prog w) A (getAttr (.ref x) name expr) Q E s:=by
 obtain⟨od,J,hl⟩:=I.look;exact W.get_value X J (W.plainGet_of hg).1 (W.findObj_own hh ha rfl (by rw[hl,hv])) z9 h
theorem Q0p(X:K.In s.heap)(I:A5 s.heap x dx C mA)(hg:W.plainGet K C name=true)
  (hf:W.findIn K (.ref C) name=some (some<|.ref f)) (ht:W.isFn K (.ref f)=true) (hv:mA name=none) (h:Q (.ref f,[.ref x]) s) :
  wpAny (model prog w) A (getMethod (.ref x) name pl) Q E s:=by
 obtain⟨od,J,hl⟩:=I.look;exact W.method_fn X J (W.plainGet_of hg).1 (W.plainGet_of hg).2 hf (beq_iff_eq.mp ht) (by show (W.lookIn name od).map (·.isSome)=some false;rw[hl,hv];rfl) h
theorem Q0t(X:K.In s.heap)(I:A5 s.heap x dx C mA)
  (hs:W.findIn K (.ref C) "__setattr__" = some (some<|.builtin "object.__setattr__")) (hp:W.plainOver K C=true) (ht:W.takerIn K C name=some none) (hh:W.hasDictIn K C=true)
  (hw:PySem.Within mA ns) (hsz:ns.length<=sizeLine)
  (h:∀h',A5 h' x dx C (λy=>if y=name then some v else mA y)->Heap.SameBut dx s.heap h'->Q () {s with heap:=h',toks:=s.toks+2}) :
  wpAny (model prog w) A (setAttr (.ref x) name v) Q E s:=by
 obtain⟨od,J,hl⟩:=I.look;refine W.set_plain X J hs<|W.osa_open (s:={s with toks:=s.toks+1}) (r:=none) X J hp ht λb=>?_;obtain⟨cd,hc,vR⟩:=W.any_some hh;have hx:s.heap.get? x=some ⟨.ref C,some dx,.plain,#[]⟩:=I.obj;refine bx<|Zx<|bx<|bx<|wpAny_loadPart hx<|bx<|W.Looks.here (s:={s with toks:=s.toks+1}) (W.looks_clsIn X hc) ?_;rw[vR];refine Zx (a:=some dx)<|bx<|Zx<|bx ?_;refine wpAny_nsSet1 (s:={s with toks:=s.toks+1}) I.ns λh' TU kT=>?_;obtain⟨oD,esD,epD,Wb,VU,VR⟩:=TU.count<|PySem.Within.cons name v hw;refine bx<|wpAny_lookBehind Wb (by rw[VU];exact pastItsLine_dict<|HJ VR (by rw[F4];omega)) ?_;exact Zx (h _ ⟨(kT.2 _<|JL I.ne).trans I.obj,TU,I.ne⟩ kT)
theorem EZ(X:K.In s.heap)(hm:W.makesIn K C=true)
  (hi:W.findIn K (.ref C) "__init__" = some (some<|.ref f)) (hf:W.typeIn K (.ref f)=some (.type "function"))
  (h:codeAny (model prog w) (A.under<|.builtin "type.__call__" ⟨.ref C::vs,kw⟩) (.call (.ref f) ⟨.ref (s.heap.objs.size+1)::vs,kw⟩) (W.InitBack (s.heap.objs.size+1) R) {s with heap:=(s.heap.push W.emptyDict).push (W.instObj C s.heap.objs.size)}) :
  codeAny (model prog w) A (.call (.ref C) ⟨vs,kw⟩) R s:=by
 obtain⟨hh,g,d,t,os⟩:=s;exact W.make_core (W.makes_of X hm) (W.looks_findIn X hi) (λself=>W.bind_fn X self hf) (.inl rfl) h
end
structure OR(K:W.Frag)(C:Addr):Prop where
 pg:W.plainGet K C Str.empty=true
 hd:W.hasDictIn K C=true
 po:W.plainOver K C=true
 sa:W.findIn K (.ref C) "__setattr__" = some (some<|.builtin "object.__setattr__")
theorem OR.get{K:W.Frag}{C:Addr}(c:OR K C)(f:Str):W.plainGet K C f=true:=c.pg
def sV(K:W.Frag)(C:Addr)(f:Str):Prop:=W.findIn K (.ref C) f=some none
theorem sV.AX{K:W.Frag}{C:Addr}{f:Str}(n:sV K C f):W.takerIn K C f=some none:=by unfold W.takerIn;rw[show W.findIn K (.ref C) f=some none from n];rfl
structure Meth(K:W.Frag)(C:Addr)(m:Str)(f:Addr):Prop where
 at_:W.findIn K (.ref C) m=some (some<|.ref f)
 fn:W.isFn K (.ref f)=true
 kp:W.keepIn K (.ref f)=true
section
variable{X:Cx}{pins:List (Addr×Obj)}{σ:St}{H:Hp}{s:Shared}{a C dx:Addr}{fs:List (Str×V)}{f:Str}{v:V}{A:Around}{E:YY}
theorem y7(hb:attributeBase e f env (eval e env)=eval e env)(h:wpAny (model prog w) A (eval e env) (λo aK=>wpAny (model prog w) A (getAttr o f true) Q E aK) E s):wpAny (model prog w) A (eval (.Attribute e f pos) env) Q E s:=
 Attribute_any_ h (by rw[arm_eval_Attribute,hb])
end
structure bE(k:Nat)(A:Around):Prop where
 hd:A.handled=none
 dp:A.depth+3*k+5<recursionLimit
 un:A.units+16*k+200<cLine
theorem bE.mono(r:bE k A)(h:j<=k):bE j A:=⟨r.hd,by have:=r.dp;omega,by have:=r.un;omega⟩
theorem bE.deeper(r:bE (k+1) A)(env:Env):bE k (A.deeper env):=⟨r.hd,by have:=r.dp;show A.depth+1+3*k+5<_;omega,by have:=r.un;show A.units+3+16*k+200<_;omega⟩
theorem yb{A:Around}{C:Addr}{us:Zg}{kw:List (Str×Value)}:(A.under<|.builtin "type.__call__" ⟨.ref C::us,kw⟩).depth=A.depth+1:=by first|rfl|simp[Around.under,Code.weight,Code.isCreation,Code.isGuard,Code.isCaller,Code.frames,Code.isFrame,guardIds]
theorem yc{A:Around}{C:Addr}{us:Zg}{kw:List (Str×Value)}:(A.under<|.builtin "type.__call__" ⟨.ref C::us,kw⟩).units=A.units+1:=by first|rfl|simp[Around.under,Code.cUnits,Code.frames,Code.isFrame]
theorem bE.make(r:bE (k+1) A)(C:Addr)(us:Zg)(kw:List (Str×Value)):bE k (A.under<|.builtin "type.__call__" ⟨.ref C::us,kw⟩):=⟨r.hd,by have:=r.dp;rw[yb];omega,by have:=r.un;rw[yc];omega⟩
theorem bE.depth(r:bE k A):A.depth<recursionLimit:=by have:=r.dp;omega
theorem bE.units(r:bE k A):A.units+64<cLine:=by have:=r.un;omega
def Binds(K:W.Frag)(fd:FuncData)(ps:TY)(ds:Zg):Prop:=∀(s:Shared)(us:Zg),K.In s.heap->(us++ds).length=ps.length->BindsTo s fd ⟨us,[]⟩ (ps.zip<|us++ds)
theorem Binds.all{K:W.Frag}{fd:FuncData}{ps:TY}(h:∀us:Zg,us.length=ps.length->bindArgs fd ⟨us,[]⟩=pure (ps.zip us)):Binds K fd ps []:=λs us _ hl=>by rw[JS] at hl ⊢;exact .of_eq (h us hl)
section
variable{X:Cx}{CX:CXT}{k:Nat}{f C:Addr}{fd:FuncData}{ps:TY}{sp:Sp}{dvs:List V}{ds:Zg}{E:XK}{x m:Str}{p pos TX:Pos}{e o:Expr}{es:WK}{ta:TE}{t:TA}
structure Mk(K:W.Frag)(C f:Addr):Prop where
 makes:W.makesIn K C=true
 init:W.findIn K (.ref C) "__init__" = some (some<|.ref f)
 fn:W.isFn K (.ref f)=true
 kp:W.keepIn K (.ref C)=true
end
structure bD(N P:TY)(sc:Scope):Prop where
 kind:sc.kind=.function
 co:sc.isCoroutine=false
 gen:sc.isGenerator=false
 nd:N.Nodup
 pre:N.take P.length=P
 par:∀x∈P,sc.names.lookup x=some .local\/sc.names.lookup x=some .cell
 QE:∀y∈sc.names,y.2≠.free
theorem rL{kindOf:Str->Option NameKind}{x:Str}:∀{binds:List (Str×Value)}{m:Str->IW},(∀v,(x,v)∉binds)->bindL kindOf binds m x=m x
|[],_,_=>rfl| (n,v)::r,m,h=>by
 unfold bindL;rw[rL λw hw=>h w<|SY _ hw];split;have:x≠n:=by rintro rfl;exact h v TL
 simp[this];rfl
theorem rJ{kindOf:Str->Option NameKind}{x:Str}:∀{binds:List (Str×Value)}{m:Str->IW},(∀v,(x,v)∉binds)->bindC kindOf binds m x=m x
|[],_,_=>rfl| (n,v)::r,m,h=>by
 unfold bindC;rw[rJ λw hw=>h w<|SY _ hw];split;rfl;have:x≠n:=by rintro rfl;exact h v TL
 simp[this]
theorem rK{kindOf:Str->Option NameKind}{x:Str}{v:Value}:∀{P:TY}{vs:Zg}{i:Nat}{m:Str->IW},P.Nodup->P[i]?=some x->vs[i]?=some v->kindOf x=some .local->bindL kindOf (P.zip vs) m x=some v
|[],_,_,_,_,h,_,_=>by simp at h|_::_,[],_,_,_,_,h,_=>by simp at h|p::P,w::vs,0,m,nd,h1,h2,hk=>by simp at h1 h2;subst h1;subst h2;show bindL kindOf ((p,w)::P.zip vs) m p=_;unfold bindL;rw[rL λv hv=>(List.nodup_cons.mp nd).1 (ug hv).1,Zh hk];simp|p::P,w::vs,i+1,m,nd,h1,h2,hk=>by show bindL kindOf ((p,w)::P.zip vs) m x=_;unfold bindL;exact rK (i:=i) (List.nodup_cons.mp nd).2 (by simpa using h1) (by simpa using h2) hk
theorem rI{kindOf:Str->Option NameKind}{x:Str}{v:Value}:∀{P:TY}{vs:Zg}{i:Nat}{m:Str->IW},P.Nodup->P[i]?=some x->vs[i]?=some v->kindOf x≠some .local->bindC kindOf (P.zip vs) m x=some v
|[],_,_,_,_,h,_,_=>by simp at h|_::_,[],_,_,_,_,h,_=>by simp at h|p::P,w::vs,0,m,nd,h1,h2,hk=>by simp at h1 h2;subst h1;subst h2;show bindC kindOf ((p,w)::P.zip vs) m p=_;unfold bindC;rw[rJ λv hv=>(List.nodup_cons.mp nd).1 (ug hv).1,Y4 hk];simp|p::P,w::vs,i+1,m,nd,h1,h2,hk=>by show bindC kindOf ((p,w)::P.zip vs) m x=_;unfold bindC;exact rI (i:=i) (List.nodup_cons.mp nd).2 (by simpa using h1) (by simpa using h2) hk
theorem vi{sc:Scope}{n:Nat}{x:Str}(h:sc.names.lookup x=some .cell):∃c,(cellsFrom n sc.names []).lookup x=some c:=by have q:=W.cellsFrom_some sc.names n []<|.inl h;exact Option.isSome_iff_exists.mp q
end L2
namespace HT
open PySem PyProof.Rows
section
variable{prog:Program}{w:World}{A:Around}{E:YY}{s:Shared}
theorem Hw(ht:IsTup s.heap t vs.toArray)(hb:IsTup s.heap b ws.toArray)(hv:vs≠[])
  (h1:ws=[]->Q (.ref t) s) (h2:ws≠[]->Q (.ref s.heap.objs.size) {s with heap:=s.heap.push {cls:=.type "tuple",data:=.seq (vs++ws).toArray}})
  (hsz:vs.length+ws.length<=sizeLine):wpAny (model prog w) A (binaryOp .Add (.ref t)<|.ref b) Q E s:=by
 obtain⟨⟨cls,dd,data,sl⟩,ho,hc,n,hd⟩:=id ht;obtain⟨⟨aam,ML,data2,T9⟩,G2,Eb,n2,hd2⟩:=id hb;simp only at hc hd Eb hd2;subst hc hd Eb hd2;have e:vs.toArray++ws.toArray=(vs++ws).toArray:=T2;by_cases hw:ws=[];exact concat_meets ⟨_,ho,rfl⟩ ⟨_,G2,rfl⟩ noFill_tuple_add seq_tuple_add Tn GF (Hn _ _) (tuple_addW1 t b vs.toArray ws.toArray n n2 dd ML sl T9 (by simpa using hv) (by simp[hw])) ⟨ho,G2,h1 hw⟩;refine concat_meets ⟨_,ho,rfl⟩ ⟨_,G2,rfl⟩ noFill_tuple_add seq_tuple_add Tn GF (Hn _ _) (tuple_addW2 t b vs.toArray ws.toArray n n2 dd ML sl T9 (by simpa using hv) (by simpa using hw) (by rw[Fj,Fj];exact hsz)) ⟨ho,G2,?_⟩;rw[e];exact h2 hw
def eD(n d:Nat):VA->Nat|none=>d|some v=>if v<0 then(v+(n:Int)).toNat else min v.toNat n
theorem Q0f(n d:Nat)(hd:d<=n)(o:VA):eD n d o<=n:=by cases o with|none=>exact hd|some v=>show (if v<0 then(v+(n:Int)).toNat else min v.toNat n)<=n;by_cases hv:v<0;rw[Zh hv];omega;rw[Y4 hv];exact Nat.min_le_right _ _
theorem zm(v:Int)(n d:Nat):(if v<0 then max (v+(n:Int)) 0 else min v (n:Int))=((eD n d (some v):Nat):Int):=by show (if v<0 then max (v+(n:Int)) 0 else min v (n:Int))=(((if v<0 then(v+(n:Int)).toNat else min v.toNat n):Nat):Int);by_cases hv:v<0;simp only[if_pos hv];omega;simp only[if_neg hv];omega
theorem xo(lo hi:VA)(n:Nat):Builtin.Slice.sliceAdjust lo hi 1 (n:Int)=(((eD n 0 lo:Nat):Int),((eD n n hi:Nat):Int)):=by
 have h1:¬((1:Int)<0):=Ry;unfold Builtin.Slice.sliceAdjust;simp only[h1,if_false];refine Prod.ext ?_ ?_;cases lo with|none=>rfl|some v=>exact zm v n 0
 cases hi with|none=>rfl|some v=>exact zm v n n
theorem yA(i j:Nat):Builtin.Slice.slicePlaces (i:Int) (j:Int) 1=j-i:=by unfold Builtin.Slice.slicePlaces;have h1:(1:Int) > 0:=Ry;simp only[h1,if_true,Int.ediv_one];split<;>omega
theorem qK(p:IsPart v o)(h:Q o s):wpAny (model prog w) A (Builtin.Slice.slicePartIndex v) Q E s:=by cases p with|none=>exact slicePart_none h|int i t=>exact slicePart_int h
theorem gV{sl:Addr}{vl vu:Value}{lo hi:VA}{n:Nat}{Q:Int×Int×Nat->Shared->Prop}(hs:s.heap.IsSliceOf sl vl vu .none)(pl:IsPart vl lo)(pu:IsPart vu hi)(h:Q (((eD n 0 lo:Nat):Int),1,eD n n hi-eD n 0 lo) s):wpAny (model prog w) A (Builtin.Slice.sliceApplied (.ref sl)<|pure (n:Int)) Q E s:=by obtain⟨os,PO,Ec,mM⟩:=id hs;unfold Builtin.Slice.sliceApplied Builtin.Slice.sliceFields;refine bx<|bx<|Gk PO mM (x:=vl) rfl<|bx<|Gk PO mM (x:=vu) rfl<|bx<|Gk PO mM (x:=.none) rfl<|Zx ?_;refine bx<|slicePart_none ?_;show wpAny _ _ (if ((1:Int) == 0)=true then _ else _) _ _ s;rw[Y4 (by decide)];refine bx<|qK pl<|bx<|qK pu<|bx<|Zx ?_;show wpAny _ _ (match Builtin.Slice.sliceAdjust lo hi 1 (n:Int) with|(lo,hi)=>pure (lo,(1:Int),Builtin.Slice.slicePlaces lo hi 1)) _ _ s;rw[xo lo hi n];show wpAny _ _ (pure (((eD n 0 lo:Nat):Int),(1:Int),Builtin.Slice.slicePlaces ((eD n 0 lo:Nat):Int) ((eD n n hi:Nat):Int) 1)) _ _ s;rw[yA];exact Zx h
theorem Fq(xs:Array Value)(i k:Nat):((List.range k).filterMap λ(m:Nat)=>xs[((i:Int)+(m:Int)*1).toNat]?).toArray=((xs.toList.drop i).take k).toArray:=by
 have e:(λ(m:Nat)=>xs[((i:Int)+(m:Int)*1).toNat]?)=λm=>xs[i+m]?:=by funext m;have:((i:Int)+(m:Int)*1).toNat=i+m:=Ry;rw[this]
 rw[e];have:=pick_run xs i k;rw[List.filterMap_map] at this;have e2:((λx=>xs[x]?)∘λx=>i+x)=λm=>xs[i+m]?:=rfl;rw[e2] at this;rw[this]
theorem lA{t sl:Addr}{items:Array Value}{vl vu:Value}{lo hi:VA}{Q:YY}(ht:IsTup s.heap t items)(hs:s.heap.IsSliceOf sl vl vu .none)(pl:IsPart vl lo)(pu:IsPart vu hi)
  (hw:¬(eD items.size 0 lo=0/\eD items.size items.size hi=items.size))
  (h:Q (.ref s.heap.objs.size) {s with heap:=s.heap.push {cls:=.type "tuple",data:=.seq ((items.toList.drop<|eD items.size 0 lo).take<|eD items.size items.size hi-eD items.size 0 lo).toArray}})
  (hsz:items.size<=sizeLine):wpAny (model prog w) A (getItem (.ref t)<|.ref sl) Q E s:=by
 have z7:sizeOk (.seq ((items.toList.drop<|eD items.size 0 lo).take<|eD items.size items.size hi-eD items.size 0 lo).toArray):=by show ((items.toList.drop<|eD items.size 0 lo).take<|eD items.size items.size hi-eD items.size 0 lo).toArray.size<=sizeLine;rw[Fj,Q1,List.length_drop,Array.length_toList];omega
 have hj:eD items.size items.size hi<=items.size:=Q0f _ _ (TC _) hi;obtain⟨os,PO,Ec,mM⟩:=id hs;have hTs:s.TypeIs (.ref sl) "slice" := ⟨os,PO,Ec⟩;unfold getItem;try with_reducible refine RL ?_
 first|refine bx (Zx ?_)|skip
 refine bx<|wpAny_sequenceKey ht.typeIs (by decide) ?_;refine bx<|Bs (name:=Str.ofString "__getitem__") ht.typeIs B3<|XA B3 ht.typeIs entry_tuple_getitem ?_<|args_tuple_getitem _ _;show wpAny _ _ (Builtin.Tuple.tupleItemsOf (.ref t) >>= _) _ _ s;refine bx<|tupleItemsOf_ ht ?_;refine bx<|GP hTs ?_;rw[Zh (by decide)];refine bx<|gV hs pl pu ?_;have M9:¬((((eD items.size 0 lo:Nat):Int) == 0&&(1:Int) == 1&&(eD items.size items.size hi-eD items.size 0 lo) == items.size)=true):=by intro q;rw[Ss,Ss] at q;have q1:((eD items.size 0 lo:Nat):Int)=0:=eq_of_beq q.1.1;have q2:eD items.size items.size hi-eD items.size 0 lo=items.size:=eq_of_beq q.2;exact hw ⟨Ry,Ry⟩
 show wpAny _ _ (if (((eD items.size 0 lo:Nat):Int) == 0&&(1:Int) == 1&&(eD items.size items.size hi-eD items.size 0 lo) == items.size)=true then _ else _) _ _ s;rw[Y4 M9,Fq];first|exact bx (m:=Builtin.Tuple.tupleExact _) (D7 (Zx ⟨_,rfl,Zx h⟩) z7)|exact bx (m:=Builtin.Tuple.tupleExact _) (D7 (bx<|Zx<|Zx ⟨_,rfl,Zx h⟩) z7)|exact bx (bx (m:=Builtin.Tuple.tupleExact _)<|D7 (Zx<|Zx ⟨_,rfl,Zx h⟩) z7)|exact bx (bx (m:=Builtin.Tuple.tupleExact _)<|D7 (Zx ⟨_,rfl,Zx h⟩) z7)
end
end HT
namespace L2
open PySem PySem.Spec PyProof.Rows
noncomputable def TZ(n:Nat)(i:Int):Option Nat:=if 0<=i then(if i<n then some i.toNat else none) else if -(n:Int)<=i then some (i+n).toNat else none
theorem uf(h:TZ n i=some j):seqIndex? i n=some j/\j<n/\-(n:Int)<=i/\i<n:=by unfold TZ at h;by_cases h0:0<=i;rw[Zh h0] at h;by_cases h1:i<n;rw[Zh h1] at h;have e:i.toNat=j:=JY h;exact⟨by rw[seqIndex_of h0 h1,e],Ry,Ry,h1⟩;rw[Y4 h1] at h;cases h;rw[Y4 h0] at h;by_cases h1:-(n:Int)<=i;rw[Zh h1] at h;have e:(i+n).toNat=j:=JY h;exact⟨by rw[seqIndex_neg Ry h1,e],Ry,h1,Ry⟩;rw[Y4 h1] at h;cases h
def oQ(b:Expr):Prop:=∀o i,subscripted b false o i=operate [o,i] (getItem o i)
section
variable{X:Cx}{a b:Expr}{ta tb:TE}{pos:Pos}
theorem uJ(lo hi:VA)(n:Nat):(sliceBounds lo hi none n).1=((HT.eD n 0 lo:Nat):Int)/\(sliceBounds lo hi none n).2.1=((HT.eD n n hi:Nat):Int)/\(sliceBounds lo hi none n).2.2=1:=by
 refine⟨?_,?_,rfl⟩;cases lo with|none=>simp[sliceBounds,HT.eD]|some i=>simp only[sliceBounds,HT.eD,Option.getD_none,show (1:Int) > 0 by decide,if_true];by_cases h:i<0;simp only[h,if_true]<;>omega;simp only[h,if_false]<;>omega
 cases hi with|none=>simp[sliceBounds,HT.eD]|some i=>simp only[sliceBounds,HT.eD,Option.getD_none,show (1:Int) > 0 by decide,if_true];by_cases h:i<0;simp only[h,if_true]<;>omega;simp only[h,if_false]<;>omega
theorem rl(aY:Zg)(lo hi:VA):slicePick aY.toArray lo hi none=((aY.drop<|HT.eD aY.length 0 lo).take<|HT.eD aY.length aY.length hi-HT.eD aY.length 0 lo).toArray:=by obtain⟨h1,h2,h3⟩:=uJ lo hi aY.toArray.size;unfold slicePick;rw[h1,h2,h3];simp only[sliceRange_one,pick_run,List.size_toArray]<;>rfl
noncomputable def nX:V->Bool|.aQ=>true|.bl _=>true|.int _=>true|.str _=>true|_=>false
noncomputable def HA:V->V->Bool|.aQ,.aQ=>true|.bl a,.bl b=>a == b|.bl a,.int b=>(if a then 1 else 0) == b|.int a,.bl b=>a == (if b then 1 else 0)|.int a,.int b=>a == b|.str a,.str b=>a == b|_,_=>false
theorem Pf(ry:RelV y u)(rx:RelV x v)(fy:nX y=true)(fx:nX x=true):SeqAt.EqAt A s u v (HA y x):=by
 cases y with
 |aQ=>cases ry;cases x with|aQ=>cases rx;exact SeqAt.EqAt.same _|bl b=>cases rx;exact SeqAt.EqAt.none_bool b|int b=>obtain⟨t,rfl⟩:=rx;exact SeqAt.EqAt.none_int b t|str b=>obtain⟨t,rfl⟩:=rx;exact SeqAt.EqAt.none_str b t|_=>exact absurd (show false=true from fx) Xc
 |bl a=>cases ry;cases x with|aQ=>cases rx;exact SeqAt.EqAt.bool_none a|bl b=>cases rx;exact SeqAt.EqAt.bool_bool a b|int b=>obtain⟨t,rfl⟩:=rx;exact SeqAt.EqAt.bool_int a b t|str b=>obtain⟨t,rfl⟩:=rx;exact SeqAt.EqAt.bool_str a b t|_=>exact absurd (show false=true from fx) Xc
 |int a=>obtain⟨t',rfl⟩:=ry;cases x with|aQ=>cases rx;exact SeqAt.EqAt.int_none a t'|bl b=>cases rx;exact SeqAt.EqAt.int_bool a t' b|int b=>obtain⟨t,rfl⟩:=rx;exact SeqAt.EqAt.int_int a t' b t|str b=>obtain⟨t,rfl⟩:=rx;exact SeqAt.EqAt.int_str a t' b t|_=>exact absurd (show false=true from fx) Xc
 |str a=>obtain⟨t',rfl⟩:=ry;cases x with|aQ=>cases rx;exact SeqAt.EqAt.str_none a t'|bl b=>cases rx;exact SeqAt.EqAt.str_bool a t' b|int b=>obtain⟨t,rfl⟩:=rx;exact SeqAt.EqAt.str_int a t' b t|str b=>obtain⟨t,rfl⟩:=rx;exact SeqAt.EqAt.str_str a t' b t|_=>exact absurd (show false=true from fx) Xc
 |_=>exact absurd (show false=true from fy) Xc
def GU(x:V)(u:Value):Bool:=match u with|.none=>HA .aQ x|.bool b=>HA (.bl b) x|.int i _=>HA (.int i) x|.str z _=>HA (.str z) x|_=>false
theorem Dr(r:RelV y u)(f:nX y=true):GU x u=HA y x:=by cases y with|aQ=>cases r;rfl|bl b=>cases r;rfl|int i=>obtain⟨t,rfl⟩:=r;rfl|str z=>obtain⟨t,rfl⟩:=r;rfl|_=>exact absurd (show false=true from f) Xc
theorem y6:∀{xs:List V}{us:Zg},Vals xs us->xs.all nX=true->us.any (GU x)=xs.any λy=>HA y x|_,_,.nil,_=>rfl|y::xs,u::us,.cons r t,f=>by rw[JI,Ss] at f;rw[yU,yU,Dr r f.1,y6 t f.2]
theorem wa(rx:RelV x v)(fx:nX x=true):∀{xs:List V}{us:Zg},Vals xs us->xs.all nX=true->∀u∈us,SeqAt.EqAt A s u v (GU x u)|_,_,.nil,_=>λu hu=>by cases hu|y::xs,u::us,.cons r t,f=>λu' hu=>by rw[JI,Ss] at f;rcases List.mem_cons.mp hu with rfl|hu;rw[Dr r f.1];exact Pf r rx f.1 fx;exact wa rx fx t f.2 u' hu
variable{o e:Expr}{es:WK}{to:TE}{t:TA}{name:Str}{TX bM:Pos}{T id:String}{r:V->List V->Hp->VK->Prop}
end
theorem foldl_rep(aY:Zg):∀(k:Nat)(acc:Zg),List.foldl (λx1 x2=>x1++x2) acc.toArray (List.replicate k aY.toArray)=(acc++(List.replicate k aY).flatten).toArray
|0,acc=>T2|k+1,acc=>by
 have e:acc.toArray++aY.toArray=(acc++aY).toArray:=T2;have e2:(acc++aY)++(List.replicate k aY).flatten=acc++(List.replicate (k+1) aY).flatten:=by rw[Q9,ro,List.append_assoc]
 rw[<-e2,<-foldl_rep aY k (acc++aY),<-e,Q9,List.foldl_cons]
section
variable{X:Cx}{pins:List (Addr×Obj)}{σ:St}{H:Hp}{s:Shared}{l b:Addr}{xs ys zs:List V}
theorem E5(h:n<=sizeLine):Builtin.List.listTooLong n=false:=by unfold Builtin.List.listTooLong;exact Zq Ry
end
section
variable{X:Cx}
theorem len_rep{α:Type}(xs:List α)(k:Nat):(List.replicate k xs).flatten.length=k*xs.length:=by induction k with|zero=>simp|succ k ih=>rw[Q9,ro,RH,ih,Nat.succ_mul,Nat.add_comm]
end
end L2
namespace Att
open PySem PySem.W PySem.Calls PyProof.Rows
theorem oJ:∀(ns:Zw)(vs:Zg),WellAll P h vs (ns.map WData.int)->IntsAre vs ns:=by intro ns;induction ns with|nil=>intro vs w;rw[List.map_nil] at w;cases w;exact .nil|cons n ns ih=>intro vs w;rw[BE] at w;cases w with|cons a b=>cases a;exact .cons _ _ (ih _ b)
theorem BY{l:OpenLaw}{n:Nat}(hn:l.most=some n){P:Params}{h:Heap}{args:List WData}{vals:Zg}
  (HU:l.row.toRowW.claim.pre args=true) (hwl:WellAll P h vals args) :
  ∃a vs ns,vals=[Value.ref a]/\args=[WData.list<|ns.map WData.int]/\h.get? a=some {cls:=.type "list",data:=.seq vs.toArray}/\IntsAre vs ns/\ns.length<=n:=by
 have hsh:WShape.hasAll [] args [.list .int]=true:=(pre_splitW HU).1;have hc:l.pre.holds [] {args:=args}=true:=(pre_splitW HU).2;obtain⟨d,r,rfl,h1,h2⟩:=hasAllW_cons hsh;obtain rfl:=hasAllW_nil h2;obtain⟨xs,rfl,h3⟩:=hasW_list h1;obtain⟨ns,rfl⟩:=items_int h3;have BX:ns.length<=n:=by
  unfold OpenLaw.pre at hc;have h4:(WTm.not<|.lt (.lit<|.int (n:Int))<|.len<|.arg 0).holds [] {args:=[.list<|ns.map .int]}=true:=by have h4:=(holds_andW hc).1;rw[hn] at h4;exact h4
  have h5:=condW_of h4<|w_not<|w_lt w_lit<|w_len_list<|w_arg rfl;rw[SS] at h5;refine Nat.le_of_not_lt λq=>?_;have q':(n:Int)<((ns.length:Nat):Int):=Ry;first| (rw[Pj q'] at h5;exact absurd h5 (by decide))| (simp at h5;omega)
 cases hwl with|cons w1 w2=>cases w2;cases w1 with|list ho aaF=>exact⟨_,_,ns,rfl,rfl,ho,oJ ns _ aaF,BX⟩
theorem BM(l:OpenLaw)(args:List WData):l.row.toRowW.claim.post args (.bool true) args=true:=postW_of (r:=l.row.toRowW) (X:=(true == true))
 (show WShape.has [] (.bool true) .bool=true by first|rfl|decide|simp[WShape.has,WShape.arms,WShape.armsAll])
 (show (WTm.eq .res<|.lit<|.bool true).value [] {args:=args,res:=some<|.bool true,after:=args}=some (.bool<|true == true) from w_eq_bool (w_res rfl) w_lit) rfl
theorem vb{l:OpenLaw}{n:Nat}{q:Program}{loose:TY}{XP:(Str->IW)->Heap->Prop}{YP:World->Heap->Prop}{d:DefRec}
  (hn:l.most=some n) (hdf:d.params.defaults=[])
  (call:∀(w:World)(JP aK:Shared)(mg mb:Str->IW)(fa:Addr)(o:Obj)(pm cd doc:Value)(a:Addr)(vs:Zg)(ns:Zw),
   Ground q loose [] XP w JP mg mb aK.heap->YP w aK.heap ->
   aK.heap.get? fa=some o->o.data=.func (docDef d.name d.params d.body d.scope pm cd doc)->aK.heap.CodeRec cd d.name->mg d.name=some (.ref fa) ->
   aK.heap.get? a=some {cls:=.type "list",data:=.seq vs.toArray}->IntsAre vs ns->ns.length<=n->aK.gens=#[] ->
   codeAny (model l.prog w) callerA (.call (.ref fa) ⟨[.ref a],[]⟩) (λr s'=>r=.ok (.ret<|.bool true)/\OldK aK.heap s'.heap/\s'.os=aK.os/\AllBare s'.gens) aK) :
  WalkO q loose XP YP l.row.toRowW d [] (λf vs=>PySem.call f vs):=by
 intro w JP aK mg mb G Y fa o pm cd doc dV kV ho hd jI hD V9 hg args vals as HU aey Zb hwl Cd;obtain rfl:dV=.none:=Dflts.none hD hdf;obtain rfl:kV=.none:=Dflts.noKw hD;obtain⟨a,vs,ns,rfl,rfl,PK,hints,BX⟩:=BY hn HU hwl;refine enter_call<|codeAny_mono (call w JP aK mg mb fa o pm cd doc a vs ns G Y ho (fd_plain hd) jI V9 PK hints BX hg) λr s' hq=>?_;obtain⟨rfl,h2,h3,h4⟩:=hq;exact⟨.inl ⟨.bool true,.bool true,[],rfl,λ_=>rfl,.bool true,BM l _,λ_=>⟨List.Pairwise.nil,λ_ hm=>(nomatch hm)⟩⟩,h2,h3,h4⟩
end Att
namespace L2
open PySem PySem.Spec PyProof.Rows
def inClass(s:Stmt)(j:Nat):Stmt:=match s with|.ClassDef _ _ _ body _ _ _ _ _ _ _=>body.getD j (.Pass ⟨0,0,0,0⟩)|_=>.Pass ⟨0,0,0,0⟩
def cf(s:Stmt):Arguments:=match s with|.FunctionDef _ a _ _ _ _ _ _ _ _=>a|_=>{posonlyargs:=[],args:=[],vararg:=none,kwonlyargs:=[],kw_defaults:=[],kwarg:=none,defaults:=[]}
def bh(s:Stmt):List Stmt:=match s with|.FunctionDef _ _ b _ _ _ _ _ _ _=>b|_=>[]
def aw(s:Stmt):Scope:=match s with|.FunctionDef _ _ _ _ _ _ sc _ _ _=>sc|_=>{kind:=.function,names:=[],isGenerator:=false,isCoroutine:=false}
structure GR(K:W.Frag)(x Z7:Str)(st:Stmt)(f:Addr)(fd:FuncData):Prop where
 ex:∃(oc:Value)(od:Ra)(kV doc pm:Value)(an:Ra)(j3 ct:Value)(RT:Array (Option Value)),fd=W.fnOf x Z7 (cf st) (bh st) (aw st) .none kV doc pm an j3 ct/\K.lookup f=some ⟨oc,od,.func fd,RT⟩/\W.codeIn K j3 Z7=true
 kp:W.keepIn K (.ref f)=true
section
variable{P:Program}{w:World}{K:W.Frag}{mg:Str->IW}{base:Heap}
theorem GR.binds{x Z7:Str}{st:Stmt}{f:Addr}{fd:FuncData}{ps:TY}(F:GR K x Z7 st f fd)(h:∀(kV doc pm:Value)(an:Ra)(j3 ct:Value)(us:Zg),us.length=ps.length->bindArgs (W.fnOf x Z7 (cf st) (bh st) (aw st) .none kV doc pm an j3 ct) ⟨us,[]⟩=pure (ps.zip us)):Binds K fd ps []:=by obtain⟨oc,od,kV,doc,pm,an,j3,ct,RT,rfl,lk,jI⟩:=F.ex;exact .all (h kV doc pm an j3 ct)
theorem D4{x Z7:Str}{st:Stmt}{f:Addr}{oc:Value}{od an:Ra}{RT:Array (Option Value)}{kV doc pm j3 ct:Value}(l:K.lookup f=some ⟨oc,od,.func<|W.fnOf x Z7 (cf st) (bh st) (aw st) .none kV doc pm an j3 ct,RT⟩)(c:W.codeIn K j3 Z7=true) (k:W.keepIn K (.ref f)=true):GR K x Z7 st f (W.fnOf x Z7 (cf st) (bh st) (aw st) .none kV doc pm an j3 ct):=⟨⟨oc,od,kV,doc,pm,an,j3,ct,RT,rfl,l,c⟩,k⟩
end
end L2
end
section
set_option Elab.async false
set_option linter.all false
set_option maxRecDepth 100000
namespace L2
open PySem PySem.Spec PyProof.Rows
def Uu(i:Expr):Prop:=∀ov iv,subscripted i false ov iv=operate [ov,iv] (getItem ov iv)
theorem JO{prog:Program}{w:World}{A:Around}{E:YY}{s:Shared}{env:Env}{value slice:Expr}{pos:Pos}{T id:String}{Q:YY}
  (hl:typeLookup (.type T) "__getitem__" = pure (some<|.builtin id)) (hs:Uu slice)
  (h:wpAny (model prog w) A (eval value env) (λo aK=>wpAny (model prog w) A (eval slice env) (λi iR=>iR.TypeIs o T/\wpAny (model prog w) A (getItem o i) Q E iR) E aK) E s) :
  wpAny (model prog w) A (eval (.Subscript value slice pos) env) Q E s:=by
 refine Subscript_<|P9 h (λo aK bB=>P9 bB (λi iR iP=>?_) λ_ _ x=>x) λ_ _ x=>x;obtain⟨hT,iP⟩:=iP;unfold subscriptTail;refine bx ?_;rw[getitemInPython_of_ne hT.not_modules];refine bx<|ET hT hl ?_;have fin:wpAny (model prog w) A (subscripted slice false o i) (λr F9=>wpAny (model prog w) A (letTemporaryGo value o r >>= λ_=>pure r) Q E F9) E iR:=by rw[hs o i];exact wpAny_operating (P9 iP (λr F9 lE=>bx<|wpAny_letTemporaryGo<|Zx lE) λ_ _ x=>x)
 first|exact Zx (bx fin)|exact bx (Zx<|bx fin)|exact bx fin
end L2
end
section
namespace VP
theorem gl{P:Prop}(h:∀Q:Prop,Q=P->Q):P:=h P rfl
inductive D where
 |aQ|bl (b:Bool)|int (i:Int)|str (x:Str)|tup (xs:List D)|lst (xs:List D)|gp (ks:List (Sum Int Str)) (vs:List D)|ins (c:Str) (ns:TY) (vs:List D)|fm (c:Str) (ns:TY) (vs:List D)
 deriving Inhabited
abbrev Y1:=Option D
abbrev Y5:=List D
inductive Sl where
 |no|sh (d:D)|ow (d:D)|io (d:D)
 deriving Inhabited
abbrev ay:=List Sl
structure Xn where
 cls:Str
 ns:List Str
 vs:List D
inductive Res(α:Type) where
 |ok (a:α) (r:ay)|exc (x:Xn) (r:ay)|no
abbrev M(α:Type):=ay->Res α
inductive Fl where
 |nx|bk|ct|rt (d:D)
noncomputable def ret{α:Type}(a:α):M α:=λr=>.ok a r
noncomputable def Zi{α β:Type}(f:M α)(g:α->M β):M β:=λr=>match f r with|.ok a r'=>g a r'|.exc x r'=>.exc x r'|.no=>.no
noncomputable def stuck{α:Type}:M α:=λ_=>.no
def opt{α:Type}:Option α->M α|some a=>ret a|none=>stuck
noncomputable def aa(i:Nat):M D:=λr=>match r[i]? with|some (.sh d)=>.ok d r|_=>.no
noncomputable def xg(i:Nat):M D:=λr=>match r[i]? with|some (.sh d)=>.ok d r|some (.ow d)=>.ok d r|some (.io d)=>.ok d r|_=>.no
noncomputable def free:Option Sl->Bool|some (.io _)=>false|some _=>true|none=>false
def mY(i:Nat)(d:D):M Unit:=λr=>if free r[i]? then .ok () (r.set i<|.sh d) else .no
def BD(i:Nat)(d:D):M Unit:=λr=>if free r[i]? then .ok () (r.set i<|.ow d) else .no
noncomputable def own:Option Sl->Option D|some (.ow d)=>some d|some (.io d)=>some d|_=>none
noncomputable def dh(i:Nat)(d:D)(r:ay):ay:=match r[i]? with|some (.ow _)=>r.set i (.ow d)|some (.io _)=>r.set i (.io d)|_=>r
noncomputable def Qm(i:Nat):M Unit:=λr=>match r[i]? with|some (.ow d)=>.ok () (r.set i<|.sh d)|some (.sh d)=>.ok () r|_=>.no
def gC(i:Nat)(g:D->Y1):M Unit:=λr=>match own r[i]? with
 |some d=>match g d with
   |some d'=>.ok () (dh i d' r)|none=>.no
  |none=>.no
def mC(d:D):M D:=ret d
def m1(g:D->Y1)(a:M D):M D:=Zi a λx=>opt (g x)
def m2(g:D->D->Y1)(a b:M D):M D:=Zi a λx=>Zi b λy=>opt (g x y)
def mL:List (M D)->M (List D)|[]=>ret []|f::fs=>Zi f λx=>Zi (mL fs) λxs=>ret (x::xs)
def mF(g:Y5->Y1)(as:List (M D)):M D:=Zi (mL as) λxs=>opt (g xs)
def tB(a:M D):M Bool:=Zi a λx=>match x with|.bl b=>ret b|_=>stuck
def lZ(a:M Bool):M Bool:=Zi a λb=>ret (!b)
def uL(a b:M Bool):M Bool:=Zi a λx=>if x then b else ret false
def Gg(a b:M Bool):M Bool:=Zi a λx=>if x then ret true else b
def WV(a:M Bool):M D:=Zi a λb=>ret (.bl b)
def Nr(c:M Bool)(a b:M D):M D:=Zi c λx=>if x then a else b
def ai(f g:M Fl):M Fl:=Zi f λk=>match k with|.nx=>g|.bk=>ret .bk|.ct=>ret .ct|.rt d=>ret (.rt d)
def aJ:M Fl:=ret .nx
def Cj(f:M Unit):M Fl:=Zi f λ_=>ret .nx
def iL(f:M D):M Fl:=Zi f λ_=>ret .nx
def a8(f:M D):M Fl:=Zi f λd=>ret (.rt d)
def eC(c:M Bool)(a b:M Fl):M Fl:=Zi c λx=>if x then a else b
def aO(i:Nat)(f:M D):M Fl:=Zi f λd=>Cj (mY i d)
def gU(i:Nat)(f:M D):M Fl:=Zi f λd=>Cj (BD i d)
def BW(i:Nat)(f:M Fl):M Fl:=Zi (Qm i) λ_=>f
def ao(i:Nat):D->M Unit:=λd=>mY i d
def q9:WC->Y5->M Unit|[],[]=>ret ()|i::is,d::ds=>Zi (mY i d) λ_=>q9 is ds|_,_=>stuck
def b8(is:WC):D->M Unit:=λd=>match d with|.tup ds=>q9 is ds|_=>stuck
def loop(g:D->M Unit)(body:M Fl):Y5->M Fl|[]=>ret .nx|d::ds=>Zi (g d) λ_=>Zi body λk=>match k with|.nx=>loop g body ds|.ct=>loop g body ds|.bk=>ret .nx|.rt e=>ret (.rt e)
def iQ(it:M (List D))(g:D->M Unit)(body:M Fl):M Fl:=Zi it λds=>loop g body ds
noncomputable def fQ(x:D):D->Option D|.lst xs=>if xs.length<16777216 then some (.lst<|xs++[x]) else none|_=>none
def turns(k:Nat)(g:D->M Unit)(test:M Bool)(elt:M D):Y5->M Unit
|[]=>ret ()|d::ds=>Zi (g d) λ_=>Zi test λb=>if b
 then Zi elt λx=>Zi (gC k<|fQ x) λ_=>turns k g test elt ds
 else turns k g test elt ds
noncomputable def inner(n:Nat)(f:Nat->M Unit):M D:=λr=>match f (r.length+n) (r++List.replicate n .no++[.ow<|.lst []]) with
 |.ok _ r'=>match r'[r.length+n]? with
   |some (.ow d)=>.ok d (r'.take r.length)|_=>.no
  |.exc x r'=>.exc x (r'.take r.length)|.no=>.no
def aC(n:Nat)(it:M (List D))(g:D->M Unit)(test:M Bool)(elt:M D):M D:=Zi it λds=>inner n λk=>turns k g test elt ds
def gG(c:M Bool)(body:M Fl):Nat->M Fl
|0=>stuck|n+1=>Zi c λb=>if b
 then Zi body λk=>match k with|.nx=>gG c body n|.ct=>gG c body n|.bk=>ret .nx|.rt e=>ret (.rt e)
 else ret .nx
inductive FR where
 |ok (d:D) (ios:Y5)|exc (x:Xn) (ios:Y5)|no
abbrev Fn:=List D->FR
noncomputable def aR(n:Nat):Qg->Y5->ay|b::bs,d::ds=>(if b then .io d else .sh d)::aR (n-1) bs ds|_,_=>List.replicate n .no
noncomputable def bz:Qg->ay->Option (List D)|[],_=>some []|true::bs,.io d::r=>(bz bs r).map (d::·)|false::bs,_::r=>bz bs r|_,_=>none
def defn(n:Nat)(fl:Qg)(body:M Fl):Fn:=λds=>
 if ds.length=fl.length then
  match body (aR n fl ds) with
  |.ok (.rt d) r=>match bz fl r with|some ios=>.ok d ios|none=>.no
  |.ok .nx r=>match bz fl r with|some ios=>.ok .aQ ios|none=>.no
  |.ok .bk _=>.no|.ok .ct _=>.no|.exc x r=>match bz fl r with|some ios=>.exc x ios|none=>.no
  |.no=>.no
 else .no
inductive Arg where
 |val (f:M D)|io (j:Nat)
inductive AV where
 |val (d:D)|io (j:Nat)
def aW:List Arg->M (List AV)|[]=>ret []|.val f::as=>Zi f λd=>Zi (aW as) λvs=>ret (.val d::vs)|.io j::as=>λr=>if (own r[j]?).isSome then Zi (aW as) (λvs=>ret (.io j::vs)) r else .no
def gj:List AV->ay->Option (List D)|[],_=>some []|.val d::as,r=>(gj as r).map (d::·)|.io j::as,r=>match own r[j]? with|some d=>(gj as r).map (d::·)|none=>none
noncomputable def bJ:List AV->List Nat|[]=>[]|.val _::as=>bJ as|.io j::as=>j::bJ as
def putAll:WC->Y5->ay->ay|j::js,d::ds,r=>putAll js ds (dh j d r)|_,_,r=>r
noncomputable def Arg.isIo:Arg->Bool|.val _=>false|.io _=>true
def qo(f:Fn)(vs:List AV):M D:=λr=>
 match gj vs r with
 |some ds=>if (bJ vs).Nodup then match f ds with
   |.ok d ios=>.ok d (putAll (bJ vs) ios r)|.exc x ios=>.exc x (putAll (bJ vs) ios r)|.no=>.no
  else .no
 |none=>.no
def au(f:Fn)(as:List Arg):M D:=Zi (aW as) λvs=>qo f vs
def sk(a b:M D):M D:=Zi a λx=>match x with|.bl true=>b|.bl false=>ret (.bl false)|_=>stuck
def EU(a b:M D):M D:=Zi a λx=>match x with|.bl true=>ret (.bl true)|.bl false=>b|_=>stuck
noncomputable def Gs(ds:Y5):Y1:=if ds.length<=16777216 then some (.tup ds) else none
noncomputable def EN(ds:Y5):Y1:=if ds.length<=16777216 then some (.lst ds) else none
def bR(fl:List (M D)):M D:=Zi (mL fl) λxs=>opt (Gs xs)
def gB(fl:List (M D)):M D:=Zi (mL fl) λxs=>opt (EN xs)
noncomputable def iz:Nat:=16777216
noncomputable def adE:D->D->Option D|.int i,.int j=>some (.int<|i+j)|_,_=>none
noncomputable def jv:D->D->Option D|.int i,.int j=>some (.int<|i-j)|_,_=>none
noncomputable def um:D->D->Option D|.int i,.int j=>if (-(2 ^ 64)<i/\i<2 ^ 64)\/(-(2 ^ 64)<j/\j<2 ^ 64) then some (.int<|i*j) else none|_,_=>none
noncomputable def rW:D->D->Option D|.int i,.int j=>if 0<j/\j<1073741824 then some (.int<|i / j) else none|_,_=>none
noncomputable def fM:D->D->Option D|.int i,.int j=>if 0<j then some (.int<|i % j) else none|_,_=>none
noncomputable def yi:D->Option D|.int i=>some (.int<|-i)|_=>none
noncomputable def ltI:D->D->Option D|.int i,.int j=>some (.bl<|decide<|i<j)|_,_=>none
noncomputable def EG:D->D->Option D|.int i,.int j=>some (.bl<|decide<|i<=j)|_,_=>none
noncomputable def HK:D->D->Option D|.int i,.int j=>some (.bl<|decide<|j<i)|_,_=>none
noncomputable def TM:D->D->Option D|.int i,.int j=>some (.bl<|decide<|j<=i)|_,_=>none
noncomputable def Dq:D->D->Option Bool|.aQ,.aQ=>some true|.aQ,.int _=>some false|.int _,.aQ=>some false|.aQ,.bl _=>some false|.bl _,.aQ=>some false|.aQ,.str _=>some false|.str _,.aQ=>some false|.int i,.int j=>some (decide<|i=j)|.bl i,.bl j=>some (decide<|i=j)|.str i,.str j=>some (decide<|i=j)|.int _,.str _=>some false|.str _,.int _=>some false|.bl _,.str _=>some false|.str _,.bl _=>some false|_,_=>none
noncomputable def isNon:D->Bool|.aQ=>true|_=>false
def isND(x y:D):Y1:=if isNon y then some (.bl<|isNon x) else none
def adG:D->D->Option D|.tup xs,.tup ys=>if xs.length+ys.length<=iz then some (.tup<|xs++ys) else none|_,_=>none
def adF:D->D->Option D|.lst xs,.lst ys=>if xs.length+ys.length<=iz then some (.lst<|xs++ys) else none|_,_=>none
noncomputable def orE(g g':D->D->Y1)(x y:D):Y1:=match g x y with|some d=>some d|none=>g' x y
noncomputable def xf(n:Nat)(i:Int):Option Nat:=if 0<=i then(if i<n then some i.toNat else none) else if -(n:Int)<=i then some (i+n).toNat else none
def Ac(xs:Y5)(i:Int):Y1:=(xf xs.length i).bind λj=>xs[j]?
def aj:D->D->Option D|.tup xs,.int i=>Ac xs i|.lst xs,.int i=>Ac xs i|_,_=>none
mutual
noncomputable def eqB:D->D->Bool|.aQ,.aQ=>true|.bl a,.bl b=>a == b|.bl a,.int j=>(if a then 1 else 0) == j|.int i,.bl b=>i == (if b then 1 else 0)|.int i,.int j=>i == j|.str x,.str y=>x == y|.lst xs,.lst ys=>oG xs ys|.tup xs,.tup ys=>oG xs ys|_,_=>false
noncomputable def oG:Y5->Y5->Bool|[],[]=>true|x::xs,y::ys=>eqB x y&&oG xs ys|[],_::_=>false|_::_,[]=>false
end
theorem vp(i j:Int):eqB (.int i) (.int j)=(i == j):=WB
theorem Dn(x y:Str):eqB (.str x) (.str y)=(x == y):=WB
theorem Dm(xs ys:Y5):eqB (.lst xs) (.lst ys)=oG xs ys:=WB
theorem zu(xs ys:Y5):eqB (.tup xs) (.tup ys)=oG xs ys:=WB
noncomputable def jW(x:Str):Bool:=x.cps.toList.all (·<0x110000)
mutual
noncomputable def plain:Nat->D->Bool|_,.aQ=>true|_,.bl _=>true|_,.int _=>true|_,.str x=>jW x|n+1,.tup xs=>eS n xs|n+1,.lst xs=>eS n xs|_,_=>false
noncomputable def eS:Nat->Y5->Bool|_,[]=>true|n,x::xs=>plain n x&&eS n xs
end
def eh(x y:D):Y1:=if plain 60 x&&plain 60 y then some (.bl<|eqB x y) else none
def jo(x y:D):Y1:=if plain 60 x&&plain 60 y then some (.bl<|!eqB x y) else none
noncomputable def b9:D->Option (List D)|.tup ds=>some ds|.lst ds=>some ds|_=>none
def cG(f:M D):M (List D):=Zi f λd=>opt (b9 d)
noncomputable def rk:Y5->Option (List D)|[.int j]=>if -(2 ^ 62)<=j/\j<2 ^ 62 then some ((List.range j.toNat).map λ(i:Nat)=>.int i) else none|_=>none
noncomputable def afB:Y5->Option (List D)|[.int i,.int j]=>if (-(2 ^ 62)<=i/\i<2 ^ 62)/\-(2 ^ 62)<=j/\j<2 ^ 62 then some ((List.range (j-i).toNat).map λ(k:Nat)=>.int<|i+k) else none|_=>none
def bO(fl:List (M D)):M (List D):=Zi (mL fl) λxs=>opt (rk xs)
noncomputable def cw:D->Option D|.tup ds=>some (.int ds.length)|.lst ds=>some (.int ds.length)|_=>none
noncomputable def iM:D->Option D|.tup ds=>some (.tup ds)|.lst ds=>some (.tup ds)|_=>none
noncomputable def eX:D->Option D|.tup ds=>some (.lst ds)|.lst ds=>some (.lst ds)|_=>none
noncomputable def maxD:Y5->Option D|[.int i,.int j]=>some (.int<|if j > i then j else i)|_=>none
noncomputable def minD:Y5->Option D|[.int i,.int j]=>some (.int<|if j<i then j else i)|_=>none
noncomputable def intD:Y5->Option D|[.int i]=>some (.int i)|[.bl b]=>some (.int<|if b then 1 else 0)|_=>none
noncomputable def Nk:D->Option String|.aQ=>some "NoneType"|.bl _=>some "bool"|.int _=>some "int"|.str _=>some "str"|.tup _=>some "tuple"|.lst _=>some "list"|.gp _ _=>some "dict"|.ins _ _ _=>none|.fm _ _ _=>none
def Eo(T:String)(x:D):Y1:=(Nk x).map λk=>.bl (k == T||(k == "bool" && T == "int"))
def nJ:Y5->Option (List D)
|[a,b]=>match b9 a,b9 b with
  |some xs,some ys=>some (List.zipWith (λx y=>D.tup [x,y]) xs ys)|_,_=>none
 |_=>none
def ui(fl:List (M D)):M (List D):=Zi (mL fl) λxs=>opt (nJ xs)
noncomputable def bT:Y5->Option (List Int)|[]=>some []|.int i::r=>(bT r).map (i::·)|_=>none
def F8(d:D):Y1:=match b9 d with|some ds=>(bT ds).map λns=>.int ns.sum|none=>none
noncomputable def isLst:Y1->Bool|some (.lst _)=>true|_=>false
def nv(i:Nat)(fe:M D):M Fl:=λr=>if isLst (own r[i]?) then Zi fe (λx=>Cj<|gC i<|fQ x) r else .no
def setAt(k v:D):D->Option D
|.lst xs=>match k with
  |.int i=>(xf xs.length i).map λj=>.lst (xs.set j v)|_=>none
 |_=>none
def jr(i:Nat)(fk fv:M D):M Fl:=Zi fv λv=>λr=>if isLst (own r[i]?) then Zi fk (λk=>Cj<|gC i<|setAt k v) r else .no
noncomputable def j9(n d:Nat):VA->Nat|none=>d|some v=>if v<0 then(v+n).toNat else min v.toNat n
def cutD(xs:Y5)(lo hi:VA):Y5:=(xs.drop<|j9 xs.length 0 lo).take (j9 xs.length xs.length hi-j9 xs.length 0 lo)
def lK:Option (M D)->M (Option Int)|none=>ret none|some f=>Zi f λd=>match d with|.int i=>ret (some i)|_=>stuck
def cC(d:D)(lo hi:VA):Y1:=match d with|.tup xs=>some (.tup<|cutD xs lo hi)|_=>none
def EY(g:D->VA->VA->Y1)(f:M D)(lo hi:Option (M D)):M D:=Zi f λd=>Zi (lK lo) λl=>Zi (lK hi) λh=>opt (g d l h)
def Et(j:Nat)(i:D):M D:=λr=>match own r[j]? with|some d=>opt (aj d i) r|none=>.no
def jm(j:Nat)(fb:M D):M D:=λr=>if (own r[j]?).isSome then Zi fb (Et j) r else .no
def aV:D->D->Option D|.int i,.int j=>some (.int<|i+j)|.tup xs,.tup ys=>if xs.length+ys.length<=iz then some (.tup<|xs++ys) else none|.lst xs,.lst ys=>if xs.length+ys.length<=iz then some (.lst<|xs++ys) else none|_,_=>none
def g6(d:D)(lo hi:VA):Y1:=match d with|.tup xs=>some (.tup<|cutD xs lo hi)|.lst xs=>some (.lst<|cutD xs lo hi)|_=>none
def IC(g g2:D->D->Y1)(a b c:M D):M D:=Zi a λx=>Zi b λy=>Zi (opt<|g x y) λd=>match d with|.bl true=>Zi c λz=>opt (g2 y z)|.bl false=>ret (.bl false)|_=>stuck
noncomputable def B4(t:List (Str×D)):D->Option D|.str k=>t.lookup k|_=>none
def EV(f:M D):M (List D):=Zi f λd=>opt ((b9 d).map List.reverse)
def wC(d:D):Y1:=(b9 d).map λxs=>.tup xs.reverse
def JA(d:D):Y1:=(b9 d).map λxs=>.lst xs.reverse
noncomputable def i7:Y5->Option (List Bool)|[]=>some []|.bl b::r=>(i7 r).map (b::·)|_=>none
def oC(al:Bool):D->Option D|.lst ds=>(i7 ds).map λbs=>.bl (if al then bs.all id else bs.any id)|_=>none
noncomputable def uN(neg:Bool)(t:List (Str×D))(ab:TY):D->Option D
|.str k=>match t.lookup k with
  |some _=>some (.bl<|!neg)|none=>if ab.contains k then some (.bl neg) else none
 |_=>none
noncomputable def iI:D->Bool|.aQ=>true|.bl _=>true|.int _=>true|.str _=>true|_=>false
def inD(neg:Bool)(x y:D):Y1:=match b9 y with|some ds=>if iI x&&ds.all iI then some (.bl<|if neg then !(ds.any λy=>eqB y x) else ds.any λy=>eqB y x) else none|none=>none
noncomputable def bq(cs:TY)(f:Str):D->Option D|.ins c ns vs=>if cs.contains c then(ns.zip vs).lookup f else none|_=>none
noncomputable def dN(f:Str)(v:D):TY->Y5->List Str×List D|n::ns,x::vs=>if n=f then(n::ns,v::vs) else(n::(dN f v ns vs).1,x::(dN f v ns vs).2)|_,_=>([f],[v])
def sD(cs:TY)(f:Str)(v:D):D->Option D|.ins c ns vs=>if cs.contains c&&decide (ns.length<1000) then some (.ins c (dN f v ns vs).1 (dN f v ns vs).2) else none|_=>none
def bY(i:Nat)(cs:TY)(f:Str)(fv:M D):M Fl:=Zi fv λv=>Cj (gC i<|sD cs f v)
def BC(c:Str)(f:Fn)(vs:List AV):M D:=λr=>match qo f (.io r.length::vs) (r++[.ow<|.ins c [] []]) with
 |.ok .aQ r'=>match r'[r.length]? with
   |some (.ow d)=>.ok d (r'.take r.length)|_=>.no
  |.exc x r'=>.exc x (r'.take r.length)|_=>.no
def n6(c:Str)(f:Fn)(as:List Arg):M D:=Zi (aW as) λvs=>BC c f vs
noncomputable def gP(c m:Str):D->Bool|.ins c' ns _=>c' == c&&!ns.contains m|_=>false
def gR(c m:Str)(f:Fn)(fo:M D)(as:List Arg):M D:=Zi fo λo=>if gP c m o then Zi (aW as) λvs=>qo f (.val o::vs) else stuck
noncomputable def dg(subs:Ju)(x:D):Y1:=match x with|.ins c _ _=>(subs.lookup c).map .bl|_=>none
def qG:M Fl:=stuck
noncomputable def iE(ds:Y5):Y5:=List.zipWith (λ(i:Nat) d=>D.tup [.int i,d]) (List.range ds.length) ds
def gK:Y5->Option (List D)|[.lst ds]=>some (iE ds)|_=>none
def qp(fl:List (M D)):M (List D):=Zi (mL fl) λxs=>opt (gK xs)
noncomputable def FW:Y5->Option (List D)|[.int i,.int j,.int k]=>if k=-1/\(-(2 ^ 62)<=i/\i<2 ^ 62)/\-(2 ^ 62)<=j/\j<2 ^ 62 then some ((List.range (i-j).toNat).map λ(k:Nat)=>.int<|i-k) else none|_=>none
def Ai(fl:List (M D)):M (List D):=Zi (mL fl) λxs=>opt (FW xs)
end VP
end
section
namespace VP
def yf:D->D->Option D|.int i,.int j=>um (.int i) (.int j)|.tup xs,.int k=>if -(iz:Int)<=k/\k<=iz/\xs.length*k.toNat<=iz then some (.tup (List.replicate k.toNat xs).flatten) else none|_,_=>none
def QO(neg:Bool)(x y:D):Y1:=if neg then jo x y else eh x y
def uH(c:PySem.Str)(fs:List (M D)):M Fl:=Zi (mL fs) λds r=>if ds.length<=1000 then .exc ⟨c,[],[]⟩ r else .no
noncomputable def vN(cs:List PySem.Str)(f:PySem.Str):D->Option D|.fm c ns vs=>if cs.contains c then(ns.zip vs).lookup f else none|_=>none
noncomputable def Ie(subs:List (PySem.Str×Bool)):D->Option D|.fm c _ _=>(subs.lookup c).map .bl|_=>none
end VP
end
section
namespace VP
noncomputable def sortI(xs:Zw):Zw:=xs.mergeSort λa b=>decide (a<=b)
theorem sortI_perm(xs:Zw):(sortI xs).Perm xs:=List.mergeSort_perm ..
theorem B1(xs:Zw):(sortI xs).Pairwise (·<=·):=by have:=List.pairwise_mergeSort (le:=λ(a b:Int)=>decide<|a<=b) (λa b c h1 h2=>by simp at *;lia) (λa b=>by simp;lia) xs;exact this.imp λh=>by simpa using h
theorem wI(p:ys.Perm xs)(o:ys.Pairwise (·<=·)):ys=sortI xs:=List.Perm.eq_of_pairwise (λx y _ _ h1 h2=>Int.le_antisymm h1 h2) o (B1 xs) (p.trans (sortI_perm xs).symm)
def sG(d:D):Y1:=match b9 d with
|some ds=>match bT ds with
  |some ns=>if ns.length<64 then some (.lst<|(sortI ns).map .int) else none|none=>none
 |none=>none
noncomputable def EM:Y5->Option D|[.int j]=>if -1000<=j/\j<=1000 then some (.lst<|(List.range j.toNat).map λ(k:Nat)=>.int k) else none|_=>none
def yH(c:M Bool)(body:M Fl):M Fl:=gG c body 10000
def afi(i:Nat):M D:=λr=>match own r[i]? with
 |some (.lst xs)=>match xs.getLast? with
   |some d=>.ok d (dh i (.lst xs.dropLast) r)|none=>.no
  |_=>.no
def Du(x:D):D->Option D
|.lst xs=>match x with
  |.lst ys=>if xs.length+ys.length<=iz then some (.lst<|xs++ys) else none|_=>none
 |_=>none
def FX(i:Nat)(fe:M D):M Fl:=λr=>if isLst (own r[i]?) then Zi fe (λx=>Cj<|gC i<|Du x) r else .no
def mZ(x y:D):Y1:=match x with
|.tup ds=>match bT ds with
  |some []=>some y|some (i::is)=>some (.int<|is.foldl (λa b=>if a<b then b else a) i)|none=>none
 |_=>none
noncomputable def eY:Sl->Sl|.ow d=>.sh d|.io d=>.sh d|s=>s
mutual
noncomputable def RO:D->Bool|.aQ=>true|.bl _=>true|.int _=>true|.str _=>true|.tup ds=>noLs ds|_=>false
noncomputable def noLs:Y5->Bool|[]=>true|d::ds=>RO d&&noLs ds
end
def jn(f:M D):M D:=λr=>match f (r.map eY) with|.ok (.lst ds) _=>if noLs ds then .ok (.lst ds) r else .no|_=>.no
def okN(fn:Str):D->Bool|.ins _ [n1,n2] [v1,.lst ds]=>decide (n1≠fn)&&(decide (n2=fn)&&(RO v1&&noLs ds))|_=>false
def Bw(ds:Y5)(y:D):Y1:=match bT ds with
|some ns=>match y with
  |.int k=>if k∈ns then some (.int (ns.idxOf k:Nat)) else none|_=>none
 |none=>none
def vY(fo fe:M D):M D:=Zi fo λx=>match x with|.tup ds=>Zi fe λy=>opt (Bw ds y)|_=>stuck
noncomputable def TH:List (Sum Int Str)->Y5->Sum Int Str->Option D|k'::ks,v::vs,k=>if k'=k then some v else TH ks vs k|_,_,_=>none
noncomputable def Bl(k:Sum Int Str)(v:D):List (Sum Int Str)->Y5->List (Sum Int Str)×List D|k'::ks,x::vs=>if k'=k then(k'::ks,v::vs) else(k'::(Bl k v ks vs).1,x::(Bl k v ks vs).2)|_,_=>([k],[v])
def Bk:D->D->Option D|.gp ks vs,.int k=>TH ks vs (.inl k)|_,_=>none
def putD(k v:D):D->Option D
|.gp ks vs=>match k with
  |.int i=>if ks.length<1000 then some (.gp (Bl (.inl i) v ks vs).1 (Bl (.inl i) v ks vs).2) else none|_=>none
 |_=>none
def AK(i:Nat)(fk fv:M D):M Fl:=Zi fv λv=>λr=>if (own r[i]?).isSome then Zi fk (λk=>Cj<|gC i<|putD k v) r else .no
noncomputable def EA:Sum Int Str->D|.inl i=>.int i|.inr s=>.str s
def EC:D->Option (List D)|.gp ks _=>some (ks.map EA)|_=>none
def vZ(f:M D):M (List D):=Zi f λd=>opt (EC d)
def sr:D->Option D
|.gp _ vs=>match bT vs with
  |some (i::is)=>some (.int<|is.foldl (λa b=>if a<b then b else a) i)|_=>none
 |_=>none
noncomputable def De:D->Option D|.gp ks vs=>some (.gp ks vs)|_=>none
noncomputable def hide:Sl->Sl|.ow _=>.no|.io _=>.no|s=>s
noncomputable def Cw(f:Fn)(d:D)(ds:Y5):M D:=λr=>match f (d::ds) with|.ok v [_]=>.ok v r|.exc x [_]=>.exc x r|_=>.no
def lJ(f:Fn)(a:M D)(fl:List (M D)):M D:=Zi a λd r=>match mL fl (r.map hide) with|.ok ds _=>Cw f d ds r|_=>.no
end VP
end
section
namespace VP
def XZ(cs:List PySem.Str)(f:PySem.Str)(d:D):D->Option D|.fm c ns vs=>if cs.contains c&&decide (ns.length<1000) then some (.fm c (dN f d ns vs).1 (dN f d ns vs).2) else none|_=>none
def F0(i:Nat)(cs:List PySem.Str)(f:PySem.Str)(fe:M D):M Fl:=Zi fe λd=>Cj (gC i<|XZ cs f d)
noncomputable def XI(c:PySem.Str)(r:ay):FR->Res Fl|.ok .aQ [.fm c' ns vs]=>if c'=c then .exc ⟨c',ns,vs⟩ r else .no|_=>.no
def XJ(f:Fn)(c:PySem.Str)(n:Nat)(ds:Y5):M Fl:=λr=>if ds.length=n then XI c r (f (.fm c [] []::ds)) else .no
def fZ(c:PySem.Str)(f:Fn)(fs:List (M D)):M Fl:=Zi (mL fs) (XJ f c fs.length)
def tQ(j:Nat):Res Fl->Res Fl|.ok f r=>if free r[j]? then .ok f (r.set j .no) else .no|_=>.no
noncomputable def abu:Res Fl->Res Fl|.ok f r=>.ok f r|_=>.no
def tU:Option Nat->M Fl->Xn->M Fl|some j,h,x=>λr=>if (match r[j]? with|some .no=>true|_=>false) then tQ j (h<|r.set j<|.sh<|.fm x.cls x.ns x.vs) else .no|none,h,_=>λr=>abu (h r)
def Q1D:Option Bool->M Fl->M Fl->M Fl|some true,a,_=>a|some false,_,b=>b|none,_,_=>stuck
def FY:List (List (PySem.Str×Bool)×Option Nat×M Fl)->Xn->M Fl|[],_=>stuck| (subs,j,h)::rest,x=>Q1D (subs.lookup x.cls) (tU j h x) (FY rest x)
theorem OA:∀{hs:List (List (PySem.Str×Bool)×Option Nat×M Fl)}{x y:Xn}{r r':ay},FY hs x r≠.exc y r'
|[],_,_,_,_,h=>by cases h| (subs,j,f)::rest,x,y,r,r',h=>by
 rw[FY] at h;cases z:subs.lookup x.cls with
 |none=>rw[z] at h;cases h|some b=>
  rw[z] at h;cases b with
  |false=>exact OA (hs:=rest) h|true=>
   have h:tU j f x r=.exc y r':=h;cases j with
   |none=>simp only[tU] at h;cases q:f r<;>rw[q] at h<;>cases h|some j=>
    simp only[tU] at h;split at h;generalize f (r.set j<|.sh<|.fm x.cls x.ns x.vs)=v at h;cases v with|ok a b=>cases z2:free b[j]?<;>simp[tQ,z2] at h|_=>cases h
    cases h
def Yl(hs:List (List (PySem.Str×Bool)×Option Nat×M Fl)):Res Fl->Res Fl|.exc x r=>FY hs x r|z=>z
def lT(f:M Fl)(hs:List (List (PySem.Str×Bool)×Option Nat×M Fl)):M Fl:=λr=>Yl hs (f r)
end VP
end
section
set_option linter.all false
set_option maxRecDepth 100000
namespace VS
open PySem PySem.Spec PyProof.Rows L2 VP
abbrev Frag:=W.Frag
abbrev MG:=Str->Option Value
section
variable{X:Cx}{EX:XE}{st:Stmt}{rest:List Stmt}{e a b c tg:Expr}{fe fa fb:M D}{f g:M Fl}{pos:Pos}
theorem jH:∀d r x r',ao i d r≠.exc x r':=λd r x r' h=>by unfold ao mY at h;split at h<;>cases h
theorem D5:∀{is:WC}{ds:Y5}{r:ay}{x:Xn}{r':ay},q9 is ds r≠.exc x r'|[],[],_,_,_,h=>by cases h|[],_::_,_,_,_,h=>by cases h|_::_,[],_,_,_,h=>by cases h|i::is,d::ds,r,x,r',h=>by simp only[q9,VP.Zi,mY] at h;split at h;rename_i a r2 q;exact D5 h;rename_i x2 r2 q;split at q<;>cases q;cases h
theorem xK:∀d r x r',b8 is d r≠.exc x r':=λd r x r' h=>by unfold b8 at h;cases d with|tup ds=>exact D5 h|_=>cases h
end
def j4(cells:List (Str×Addr)):List (Str×NameKind)->List (Str×Addr)->List (Str×Addr)
|[],acc=>acc| (x,k)::r,acc=>if k == .free then
  (match cells.lookup x with|some c=>j4 cells r ((x,c)::acc)|none=>j4 cells r acc)
 else j4 cells r acc
theorem k7:∀{names:List (Str×NameKind)}{acc:List (Str×Addr)}{p:Str×Addr},p∈j4 cells names acc->p∈acc\/cells.lookup p.1=some p.2
|[],_,_,h=>.inl h| (x,k)::r,acc,p,h=>by
 unfold j4 at h;split at h;cases q:cells.lookup x with|none=>rw[q] at h;exact k7 h|some c=>rw[q] at h;rcases k7 h with h|h;rcases List.mem_cons.mp h with h|h;subst h;exact .inr q;exact .inl h;exact .inr h
 exact k7 h
theorem jC:∀{names:List (Str×NameKind)}{acc:List (Str×Addr)}{p:Str×Addr},p∈acc->p∈j4 cells names acc
|[],_,_,h=>h| (x,k)::r,acc,p,h=>by
 unfold j4;split;cases q:cells.lookup x with|none=>exact jC h|some c=>exact jC (SY _ h)
 exact jC h
theorem kZ(hc:cells.lookup x=some c):∀{names:List (Str×NameKind)}{acc:List (Str×Addr)},(x,NameKind.free)∈names->(x,c)∈j4 cells names acc
| (y,k)::r,acc,h=>by
 unfold j4;rcases List.mem_cons.mp h with h|h;cases h;simp only[beq_self_eq_true,if_true,hc];exact jC TL;split;cases q:cells.lookup y with|none=>exact kZ hc h|some c'=>exact kZ hc h
 exact kZ hc h
theorem fK{α:Type}{a:α}:∀{l:List (Str×α)},(x,a)∈l->∃b,l.lookup x=some b
| (y,b)::r,h=>by
 by_cases e:(x == y)=true;exact⟨b,by simp[List.lookup_cons,e]⟩;have e':(x == y)=false:=by simpa using e
 rcases List.mem_cons.mp h with h|h;cases h;simp at e';obtain⟨c,hc⟩:=fK h;exact⟨c,by simp[List.lookup_cons,e',hc]⟩
theorem fU(h:(j4 cells names []).lookup x=some c):cells.lookup x=some c:=by rcases k7 (Fh h) with h|h;cases h;exact h
theorem Bj(hc:cells.lookup x=some c)(h:(x,NameKind.free)∈names):(j4 cells names []).lookup x=some c:=by obtain⟨b,hb⟩:=fK<|kZ (acc:=[]) hc h;have:=fU hb;rw[hc] at this;cases this;exact hb
theorem oE(h:∀p∈scope.names,p.2=.free->∃c,env.cells.lookup p.1=some c):closureFor scope env=pure (j4 env.cells scope.names []):=by
 have gen:∀(names:List (Str×NameKind))(acc:List (Str×Addr)),(∀p∈names,p.2=.free->∃c,env.cells.lookup p.1=some c)->(forIn names acc λ(x:Str×NameKind) r=>(if x.2 == .free then(do let c <-cellOf env x.1;pure<|ForInStep.yield ((x.1,c)::r)) else pure (ForInStep.yield r):Sem _))=pure (j4 env.cells names acc):=by
  intro names;induction names with
  |nil=>intro acc _;rfl|cons p r ih=>
   intro acc hp;obtain⟨x,k⟩:=p;rw[List.forIn_cons];unfold j4;by_cases hk:k=.free;subst hk;obtain⟨c,hc⟩:=hp (x,.free) TL rfl;have e:cellOf env x=pure c:=by unfold cellOf;rw[show env.cells.lookup x=some c from hc]
   simp only[beq_self_eq_true,if_true,e,hc];exact ih _ λq hq=>hp q<|SY _ hq;have hb:(k == NameKind.free)=false:=by simpa using hk
   simp only[hb,Bool.false_eq_true,if_false];exact ih _ λq hq=>hp q (SY _ hq)
 have:=gen scope.names [] h;unfold closureFor;simpa using this
theorem dO:(relabel scope env).names.lookup x=(scope.names.lookup x).map λk=>if (k == .free&&env.scope.kind == .function&&env.kindOf x == some .cell) then .cell else k:=by
 unfold relabel;generalize scope.names=l;induction l with
 |nil=>rfl|cons p r ih=>
  obtain⟨n,k⟩:=p;simp only[List.map_cons];by_cases hx:(x == n)=true;have e:x=n:=by simpa using hx
  subst e;simp only[List.lookup_cons,beq_self_eq_true,Option.map_some];split<;>simp[List.lookup_cons];have e':(x == n)=false:=by simpa using hx
  have e2:List.lookup x ((n,k)::r)=List.lookup x r:=by simp[List.lookup_cons,e']
  rw[e2,<-ih];split<;>simp[List.lookup_cons,e']
def gZ(outer inner:List (Str×NameKind))(N N':TY):Bool:=
 inner.all (λp=>p.2 != .cell&&(p.2 != .free||outer.lookup p.1 == some .cell||outer.lookup p.1 == some .free)&&(p.2 != .local||inner.lookup p.1 == some .local)) &&
 decide (N.length<=N'.length)&&(List.range N.length).all (λi=>match N'[i]? with|some x=>inner.lookup x != some .local&&(inner.lookup x == none||N[i]? == some x)|none=>true)&&(match N'[N'.length-1]? with|some x=>inner.lookup x == none|none=>false)&&decide (N.length+1<=N'.length)
section
variable{prog:Program}{w:World}{A:Around}{E:YY}{s:Shared}
theorem lN{items}(hit:s.heap.IsTupleIter it t i)
  (ht:s.heap.IsTuple t items) (hx:items[i]?=some x)
  (hQ:∀h',h'.IsTupleIter it t (i+1)->Heap.SameBut it s.heap h'->Q x {s with heap:=h'}) :
  wpAny (model prog w) A (Builtin.SmallTypes.nextOf<|.ref it) Q E s:=by
 obtain⟨o,ho,hc,hd⟩:=id hit;refine VP.gl λQQ eQ=>?_;obtain⟨ol,Za,_,nl,hdl⟩:=ht;subst eQ;unfold Builtin.SmallTypes.nextOf;refine bx<|Bs (name:=Str.ofString "__next__") hit.typeIs U5<|XA U5 hit.typeIs PySem.F.entry_tuple_iterator_next ?_<|PySem.F.args_tuple_iterator_next_1 _;show wpAny _ _ (field (.ref it) 0 >>= _) _ _ s;refine bx<|Gk ho hd (x:=.ref t) rfl ?_;show wpAny _ _ (if (Value.ref t == Value.none)=true then _ else _) _ _ s;rw[Y4<|show ¬((Value.ref t == Value.none)=true) from Xc];show wpAny _ _ (field (.ref it) 1 >>= _) _ _ s;refine bx<|Gk ho hd (x:=.int i 0) rfl ?_;show wpAny _ _ (seqItems? (.ref t) >>= _) _ _ s;refine bx<|Xy Za hdl ?_;simp only[IZ,hx];refine bx<|IP ho hd T2<|Zx ⟨x,rfl,Zx<|hQ _ ?_<|UO ..⟩;exact⟨_,Xs _ ho<|yJ<|Tq hd _,(Obj.cls_mapFields ..).trans hc,by rw[Tq hd];simp[rawInt]⟩
theorem m6{items}(hh:A.handled=none)
  (hit:s.heap.IsTupleIter it t i) (ht:s.heap.IsTuple t items) (hx:items[i]?=none)
  (hE:∀h' e,Heap.ExtBut it s.heap h'->(∃o,h'.get? e=some o/\o.cls=.type "StopIteration")->E (.ref e) {s with heap:=h'}) :
  wpAny (model prog w) A (Builtin.SmallTypes.nextOf<|.ref it) Q E s:=by
 obtain⟨o,ho,hc,hd⟩:=id hit;refine VP.gl λQQ eQ=>?_;obtain⟨ol,Za,_,nl,hdl⟩:=ht;subst eQ;unfold Builtin.SmallTypes.nextOf;refine bx<|Bs (name:=Str.ofString "__next__") hit.typeIs U5<|XA U5 hit.typeIs PySem.F.entry_tuple_iterator_next ?_<|PySem.F.args_tuple_iterator_next_1 _;show wpAny _ _ (field (.ref it) 0 >>= _) _ _ s;refine bx<|Gk ho hd (x:=.ref t) rfl ?_;show wpAny _ _ (if (Value.ref t == Value.none)=true then _ else _) _ _ s;rw[Y4<|show ¬((Value.ref t == Value.none)=true) from Xc];show wpAny _ _ (field (.ref it) 1 >>= _) _ _ s;refine bx<|Gk ho hd (x:=.int i 0) rfl ?_;show wpAny _ _ (seqItems? (.ref t) >>= _) _ _ s;refine bx<|Xy Za hdl ?_;simp only[IZ,hx];refine bx<|WU<|bx<|IP ho hd T2 ?_;show wpAny _ _ (newExc (.type "StopIteration") [] >>= _) _ _ _;refine bx ?_;simp only[newExc,newTuple];refine bx<|D7 ?_ (by size_fits);refine bx (m:=firstArgMember _ _)<|IB (a:=Value.none) (by first|rfl|(simp only[firstArgMember];rfl)) ?_;refine D7 ?_ (by size_fits);simp only[raiseNew];refine bx<|wpAny_handled ?_;first|rw[show A.in1.handled=none from hh]|rw[hh]
 refine bx<|Zx<|wpAny_throw ?_;exact hE _ _ (((UO ..).extBut.push _).push _) ⟨_,Zv _ rfl,rfl⟩
end
def cZ(t:Bool)(it a:Addr)(i:Nat)(h:Heap):Prop:=if t then h.IsTupleIter it a i else h.IsListIter it a i
def iU(t:Bool)(h:Heap)(a:Addr)(items:Array Value):Prop:=if t then h.IsTuple a items else h.IsList a items
theorem cZ.at(x:cZ t it a i h)(e:∀o,h.get? it=some o->h'.get? it=some o):cZ t it a i h':=by cases t;exact Heap.IsListIter.at (h:=h) (h':=h') x e;exact Heap.IsTupleIter.at (h:=h) (h':=h') x e
theorem cZ.obj(x:cZ t it a i h):∃o,h.get? it=some o/\∀v,o.data≠.cell v:=by cases t;obtain⟨o,e,c,d⟩:=(show h.IsListIter it a i from x);exact⟨o,e,λv z=>by rw[d] at z;cases z⟩;obtain⟨o,e,c,d⟩:=(show h.IsTupleIter it a i from x);exact⟨o,e,λv z=>by rw[d] at z;cases z⟩
theorem jD(hh:A.handled=none)(t:Bool)(it l:Addr)(GY:l≠it)(items:Array Value) : Draws prog w A it [it,l] items.size (λi v=>items[i]?=some v) (λi h=>cZ t it l i h/\iU t h l items):=by
 cases t with
 |false=>exact Draws.list hh it l GY items|true=>exact {
  live:=λ_ _ st=>let ⟨o,ho,_⟩:=st.1;⟨o,ho⟩
  frame:=λ_ _ _ st hk=>⟨Heap.IsTupleIter.at st.1 λo e=>hk it T2 o e,by obtain⟨o,e,r⟩:=(show Heap.IsTuple _ l items from st.2);exact⟨o,hk l T2 o e,r⟩⟩
  item:=λi s Q E hi st hQ=>by refine lN (show s.heap.IsTupleIter it l i from st.1) (show s.heap.IsTuple l items from st.2) (x:=items[i]) (by simp[hi]) λh' HQ Wd=>?_;refine hQ _ h' s.toks (by simp[hi]) ⟨HQ,?_⟩ Wd;obtain⟨o,e,r⟩:=(show Heap.IsTuple _ l items from st.2);exact⟨o,Wd.extBut l o GY e,r⟩
  done:=λs Q E st hE=>m6 hh (show s.heap.IsTupleIter it l _ from st.1) (show s.heap.IsTuple l items from st.2) T2 hE}
section
variable{prog:Program}{w:World}{A:Around}{E:YY}{s:Shared}{z TI TO i1 i2:Addr}{Ca MY:xW}{n1 n2 k:Nat}{P1 P2:Nat->Value->Prop}{Tx Uz:Nat->Heap->Prop}{a b:Value}
structure sY(z TI TO i1 i2:Addr)(Ca MY:xW):Prop where
 TIz:TI≠z
 TOz:TO≠z
 i1z:i1≠z
 i2z:i2≠z
 TITO:TI≠TO
 TIi1:TI≠i1
 TIi2:TI≠i2
 TOi1:TO≠i1
 TOi2:TO≠i2
 i12:i1≠i2
 z1:z∉Ca
 z2:z∉MY
 o1:TO∉Ca
 o2:TO∉MY
 x12:i1∉MY
 x21:i2∉Ca
theorem B9{Q:YY}(D1:Draws prog w A i1 Ca n1 P1 Tx)(D2:Draws prog w A i2 MY n2 P2 Uz)(D:sY z TI TO i1 i2 Ca MY)
  (hz:IsZip s.heap z TI TO .none) (zX:IsPair s.heap TI (.ref i1) (.ref i2)) (Bq:IsPair s.heap TO a b) (h1:Tx k s.heap) (h2:Uz k s.heap) (k1:k<n1) (k2:k<n2)
  (hQ:∀x y h' tk,P1 k x->P2 k y->IsZip h' z TI TO (rawInt s.heap.objs.size)->IsPair h' TO x y->Tx (k+1) h'->Uz (k+1) h'->IsPair h' s.heap.objs.size x y->(∀c o,c≠z->c≠TO->c≠i1->c≠i2->s.heap.get? c=some o->h'.get? c=some o)->Q (.ref s.heap.objs.size) {s with heap:=h',toks:=tk}) :
  wpAny (model prog w) A (Builtin.«zip.__next__» ⟨[.ref z],[]⟩) (λfin s'=>∃v,fin=.done (.ret v)/\Q v s') E s:=by
 show wpAny _ _ (field (.ref z) 2 >>= _) _ _ _;refine bx<|Gk hz rfl (x:=.bool false) rfl ?_;show wpAny _ _ (field (.ref z) 3 >>= _) _ _ _;refine bx<|Gk hz rfl (x:=.ref TI) rfl ?_;refine bx<|Xy zX rfl ?_;show wpAny _ _ (Builtin.SmallTypes.ownedTupleIsFree (.ref z) >>= _) _ _ _;refine bx ?_;unfold Builtin.SmallTypes.ownedTupleIsFree;refine bx<|Gk hz rfl (x:=.none) rfl<|Zx ?_;simp only[if_true];refine bx<|WU ?_;refine bx<|Gk hz rfl (x:=.ref TO) rfl ?_;refine bx<|ye hz T2 λbB nZ dW=>?_;replace nZ:IsZip bB z TI TO .ellipsis:=nZ;refine bx ?_;simp only[List.zipIdx_cons,List.zipIdx_nil,List.forIn_cons,List.forIn_nil];refine bx<|bx<|xE ?_;show wpAny _ _ (Builtin.SmallTypes.nextOf (.ref i1) >>= _) _ _ _;refine bx<|D1.item k _ _ _ k1 (D1.frame k _ bB h1 λb hb o e=>dW.extBut b o (λq=>D.z1<|q ▸ hb) e) λx iP Yj px MZ eG=>Zx ?_;replace eG:Heap.SameBut i1 bB iP:=eG;have qb:IsPair iP TO a b:=eG.extBut _ _ D.TOi1<|dW.extBut _ _ D.TOz Bq;refine bx<|Xy qb rfl ?_;refine bx<|QB qb λlE tV eW=>?_;replace tV:IsPair lE TO x b:=tV;replace eW:Heap.SameBut TO iP lE:=eW;refine bx<|O7<|Zx ?_;refine bx<|bx<|xE ?_;show wpAny _ _ (Builtin.SmallTypes.nextOf (.ref i2) >>= _) _ _ _;refine bx<|D2.item k _ _ _ k2 (D2.frame k _ lE h2 λb hb o e=>eW.extBut b o (λq=>D.o2<|q ▸ hb)<|eG.extBut b o (λq=>D.x12<|q ▸ hb)<|dW.extBut b o (λq=>D.z2<|q ▸ hb) e) λy xQ adn py VL iK=>Zx ?_;replace iK:Heap.SameBut i2 lE xQ:=iK;have D9:IsPair xQ TO x b:=iK.extBut _ _ D.TOi2 tV;refine bx<|Xy D9 rfl ?_;refine bx<|QB D9 λkG tW ko=>?_;replace tW:IsPair kG TO x y:=tW;replace ko:Heap.SameBut TO xQ kG:=ko;refine bx<|O7<|Zx<|Zx ?_;refine bx<|Xy tW rfl ?_;refine bx<|wpAny_newTuple ?_;have hsz:kG.objs.size=s.heap.objs.size:=by rw[ko.1,iK.1,eW.1,eG.1,dW.1]
 have Ng:IsZip kG z TI TO .ellipsis:=ko.extBut _ _ D.TOz.symm<|iK.extBut _ _ D.i2z.symm<|eW.extBut _ _ D.TOz.symm<|eG.extBut _ _ D.i1z.symm nZ;have V7:∀c o,c≠z->c≠TO->c≠i1->c≠i2->s.heap.get? c=some o->kG.get? c=some o:=λc o c1 c2 c3 c4 e=>ko.extBut _ _ c2<|iK.extBut _ _ c4<|eW.extBut _ _ c2<|eG.extBut _ _ c3<|dW.extBut _ _ c1 e;have We:z<kG.objs.size:=Hz Ng;show wpAny _ _ (Builtin.SmallTypes.ownedTupleHandOut (.ref z) (.ref kG.objs.size) >>= _) _ _ _;refine bx ?_;unfold Builtin.SmallTypes.ownedTupleHandOut;have Wg:IsZip (kG.push {cls:=.type "tuple",data:=.seq #[x,y]}) z TI TO .ellipsis:=Wm _ Ng;refine bx<|ye Wg T2 λaa3 El Na=>?_;replace El:IsZip aa3 z TI TO (rawInt kG.objs.size):=El;refine ye El T2 λBv Aa Nb=>?_;replace Aa:IsZip Bv z TI TO (rawInt kG.objs.size):=Aa;have up:∀c o,c≠z->kG.get? c=some o->Bv.get? c=some o:=λc o c1 e=>Nb.extBut _ _ c1<|Na.extBut _ _ c1<|Wm _ e;have M4:IsPair Bv kG.objs.size x y:=Nb.extBut _ _ (yB We)<|Na.extBut _ _ (yB We)<|Zv _ rfl;rw[hsz] at Aa M4;refine Zx ⟨_,rfl,?_⟩;show Q (.ref kG.objs.size) _;rw[hsz];refine hQ x y Bv _ px py Aa (up _ _ D.TOz tW) (D1.frame _ iP Bv MZ λb hb o e=>up b o (λq=>D.z1<|q ▸ hb)<|ko.extBut b o (λq=>D.o1<|q ▸ hb)<|iK.extBut b o (λq=>D.x21<|q ▸ hb)<|eW.extBut b o (λq=>D.o1<|q ▸ hb) e) (D2.frame _ xQ Bv VL λb hb o e=>up b o (λq=>D.z2<|q ▸ hb)<|ko.extBut b o (λq=>D.o2<|q ▸ hb) e) M4 λc o c1 c2 c3 c4 e=>up c o c1 (V7 c o c1 c2 c3 c4 e)
theorem Q1p{Q:Fin->Shared->Prop}{m:Nat}(hh:A.handled=none)(D1:Draws prog w A i1 Ca n1 P1 Tx)(D2:Draws prog w A i2 MY n2 P2 Uz)(D:sY z TI TO i1 i2 Ca MY)
  (hz:IsZip s.heap z TI TO .none) (zX:IsPair s.heap TI (.ref i1) (.ref i2)) (Bq:IsPair s.heap TO a b) (h1:Tx k s.heap) (h2:Uz k s.heap) (Pz:k=n1\/(k<n1/\k=n2))
  (hE:∀h' e tk,(∀c o,c≠z->c≠TO->c≠i1->c≠i2->s.heap.get? c=some o->h'.get? c=some o)->(∃o,h'.get? e=some o/\o.cls=.type "StopIteration")->E (.ref e) {s with heap:=h',toks:=tk}) :
  wpAny (model prog w) A (Builtin.«zip.__next__» ⟨[.ref z],[]⟩) Q E s:=by
 show wpAny _ _ (field (.ref z) 2 >>= _) _ _ _;refine bx<|Gk hz rfl (x:=.bool false) rfl ?_;show wpAny _ _ (field (.ref z) 3 >>= _) _ _ _;refine bx<|Gk hz rfl (x:=.ref TI) rfl ?_;refine bx<|Xy zX rfl ?_;show wpAny _ _ (Builtin.SmallTypes.ownedTupleIsFree (.ref z) >>= _) _ _ _;refine bx ?_;unfold Builtin.SmallTypes.ownedTupleIsFree;refine bx<|Gk hz rfl (x:=.none) rfl<|Zx ?_;simp only[if_true];refine bx<|WU ?_;refine bx<|Gk hz rfl (x:=.ref TO) rfl ?_;refine bx<|ye hz T2 λbB nZ dW=>?_;replace nZ:IsZip bB z TI TO .ellipsis:=nZ;refine bx ?_;simp only[List.zipIdx_cons,List.zipIdx_nil,List.forIn_cons,List.forIn_nil];refine bx<|bx<|xE ?_;show wpAny _ _ (Builtin.SmallTypes.nextOf (.ref i1) >>= _) _ _ _;have Zy:Tx k bB:=D1.frame k _ bB h1 λb hb o e=>dW.extBut b o (λq=>D.z1<|q ▸ hb) e;rcases Pz with rfl|⟨k1,rfl⟩;refine bx<|D1.done _ _ _ Zy λiP e eG he=>?_;obtain⟨oe,PM,VT⟩:=he;have Nd:IsZip iP z TI TO .ellipsis:=eG _ _ D.i1z.symm nZ;have hez:e≠z:=λx=>by subst x;rw[Nd] at PM;cases PM;simp at VT
 refine ye Nd T2 λlE _ eW=>hE lE e _ (λc o c1 _ c3 _ x=>eW.extBut _ _ c1<|eG _ _ c3<|dW.extBut _ _ c1 x) ⟨oe,eW.extBut _ _ hez PM,VT⟩;refine bx<|D1.item k _ _ _ k1 Zy λx iP Yj px MZ eG=>Zx ?_;replace eG:Heap.SameBut i1 bB iP:=eG;have qb:IsPair iP TO a b:=eG.extBut _ _ D.TOi1<|dW.extBut _ _ D.TOz Bq;refine bx<|Xy qb rfl ?_;refine bx<|QB qb λlE tV eW=>?_;replace eW:Heap.SameBut TO iP lE:=eW;refine bx<|O7<|Zx ?_;refine bx<|bx<|xE ?_;show wpAny _ _ (Builtin.SmallTypes.nextOf (.ref i2) >>= _) _ _ _;refine bx<|D2.done _ _ _ (D2.frame k _ lE h2 λb hb o e=>eW.extBut b o (λq=>D.o2<|q ▸ hb)<|eG.extBut b o (λq=>D.x12<|q ▸ hb)<|dW.extBut b o (λq=>D.z2<|q ▸ hb) e) λxQ e iK he=>?_;replace iK:Heap.ExtBut i2 lE xQ:=iK;obtain⟨oe,PM,VT⟩:=he;have Nf:IsZip xQ z TI TO .ellipsis:=iK _ _ D.i2z.symm<|eW.extBut _ _ D.TOz.symm<|eG.extBut _ _ D.i1z.symm nZ;have hez:e≠z:=λx=>by subst x;rw[Nf] at PM;cases PM;simp at VT
 refine ye Nf T2 λkG _ ko=>hE kG e _ (λc o c1 c2 c3 c4 x=>ko.extBut _ _ c1<|iK _ _ c4<|eW.extBut _ _ c2<|eG.extBut _ _ c3<|dW.extBut _ _ c1 x) ⟨oe,ko.extBut _ _ hez PM,VT⟩
end
abbrev Er(t:Bool)(l:Addr):Obj:={cls:=.type<|if t then "tuple_iterator" else "list_iterator",data:=.fields #[.ref l,.int 0 0]}
abbrev ZI(h:Heap)(t1:Bool)(l1:Addr):Heap:=h.push (Er t1 l1)
abbrev ZJ(h:Heap)(t1 t2:Bool)(l1 l2:Addr):Heap:=(ZI h t1 l1).push (Er t2 l2)
abbrev ZK(h:Heap)(t1 t2:Bool)(l1 l2:Addr):Heap:=(ZJ h t1 t2 l1 l2).push {cls:=.type "tuple",data:=.seq #[.ref h.objs.size,.ref (ZI h t1 l1).objs.size]}
abbrev ZL(h:Heap)(t1 t2:Bool)(l1 l2:Addr):Heap:=(ZK h t1 t2 l1 l2).push {cls:=.type "tuple",data:=.seq #[.none,.none]}
abbrev Ud(h:Heap)(t1 t2:Bool)(l1 l2:Addr):Heap:=(ZL h t1 t2 l1 l2).push {cls:=.type "zip",data:=.fields #[.none,.bool false,.bool false,.ref (ZJ h t1 t2 l1 l2).objs.size,.ref (ZK h t1 t2 l1 l2).objs.size]}
theorem IsTuple.push{h:Heap}{a:Addr}{items:Array Value}(x:h.IsTuple a items)(o:Obj):(h.push o).IsTuple a items:=let ⟨ob,e,r⟩:=x;⟨ob,Wm _ e,r⟩
set_option maxHeartbeats 4000000 in
theorem BF(t1 t2:Bool)(l1 l2:Addr)(xs ys:Array Value) : Meets (Builtin.«zip.__new__» ⟨[.type "zip",.ref l1,.ref l2],[]⟩) (λ_ R s=>iU t1 s.heap l1 xs/\iU t2 s.heap l2 ys/\R (.ok<|.ret<|.ref (ZL s.heap t1 t2 l1 l2).objs.size) {s with heap:=Ud s.heap t1 t2 l1 l2}):=
 .of_wp λprog w A R s h=>by
  refine VP.gl λQQ eQ=>?_;obtain⟨hp,g,d,tk,os⟩:=s;obtain⟨TS,HR,h⟩:=h;subst eQ;have Bu:=sub_zip;cases t1 with
   |false=>
    have VM:Heap.IsList (Shared.heap ⟨hp,g,d,tk,os⟩) l1 xs:=TS;cases t2 with
    |false=>
     have Pu:Heap.IsList (Shared.heap ⟨hp.push {cls:=.type "list_iterator",data:=.fields #[.ref l1,.int 0 0]},g,d,tk,os⟩) l2 ys:=Heap.IsList.push HR _
     wp_walk using IX VM,IX Pu
     exact⟨_,rfl,h⟩
    |true=>
     have Pu:Heap.IsTuple (Shared.heap ⟨hp.push {cls:=.type "list_iterator",data:=.fields #[.ref l1,.int 0 0]},g,d,tk,os⟩) l2 ys:=IsTuple.push HR _
     wp_walk using IX VM,xB Pu
     exact⟨_,rfl,h⟩
   |true=>
    have VM:Heap.IsTuple (Shared.heap ⟨hp,g,d,tk,os⟩) l1 xs:=TS;cases t2 with
    |false=>
     have Pu:Heap.IsList (Shared.heap ⟨hp.push {cls:=.type "tuple_iterator",data:=.fields #[.ref l1,.int 0 0]},g,d,tk,os⟩) l2 ys:=Heap.IsList.push HR _
     wp_walk using xB VM,IX Pu
     exact⟨_,rfl,h⟩
    |true=>
     have Pu:Heap.IsTuple (Shared.heap ⟨hp.push {cls:=.type "tuple_iterator",data:=.fields #[.ref l1,.int 0 0]},g,d,tk,os⟩) l2 ys:=IsTuple.push HR _
     wp_walk using xB VM,xB Pu
     exact⟨_,rfl,h⟩
theorem sC(e:h.get? it=some (Er t l)):cZ t it l 0 h:=by cases t;exact⟨_,e,rfl,rfl⟩;exact⟨_,e,rfl,rfl⟩
theorem Q18{prog:Program}{w:World}{A:Around}{E:YY}{s:Shared}{t1 t2:Bool}{l1 l2:Addr}{xs ys:Array Value}{Q:YY}(TS:iU t1 s.heap l1 xs)(HR:iU t2 s.heap l2 ys)
  (h:∀h',IsZip h' (s.heap.objs.size+4) (s.heap.objs.size+2) (s.heap.objs.size+3) .none->IsPair h' (s.heap.objs.size+2) (.ref s.heap.objs.size) (.ref<|s.heap.objs.size+1) ->
   IsPair h' (s.heap.objs.size+3) .none .none->cZ t1 s.heap.objs.size l1 0 h'->cZ t2 (s.heap.objs.size+1) l2 0 h' ->
   (∀c o,s.heap.get? c=some o->h'.get? c=some o)->Q (.ref<|s.heap.objs.size+4) {s with heap:=h'}) :
  wpAny (model prog w) A (call (.type "zip") [.ref l1,.ref l2]) Q E s:=by
 refine callType_new PySem.F.called_zip (by decide) (PySem.F.typeCall_zip_2 _ _) (PySem.F.newCall_zip_2 _ _) (λobj=>PySem.F.args_object_init_3 obj _ _) PySem.F.entry_zip_new (BF t1 t2 l1 l2 xs ys) ⟨TS,HR,?_⟩;have z1:(ZI s.heap t1 l1).objs.size=s.heap.objs.size+1:=rj ..;have z2:(ZJ s.heap t1 t2 l1 l2).objs.size=s.heap.objs.size+2:=by rw[rj,z1]
 have z3:(ZK s.heap t1 t2 l1 l2).objs.size=s.heap.objs.size+3:=by rw[rj,z2]
 have z4:(ZL s.heap t1 t2 l1 l2).objs.size=s.heap.objs.size+4:=by rw[rj,z3]
 have g5:(Ud s.heap t1 t2 l1 l2).get? (ZL s.heap t1 t2 l1 l2).objs.size=some _:=Zv _ rfl;have g4:(Ud s.heap t1 t2 l1 l2).get? (ZK s.heap t1 t2 l1 l2).objs.size=some _:=Wm _<|Zv _ rfl;have g3:(Ud s.heap t1 t2 l1 l2).get? (ZJ s.heap t1 t2 l1 l2).objs.size=some _:=Wm _<|Wm _<|Zv _ rfl;have g2:(Ud s.heap t1 t2 l1 l2).get? (ZI s.heap t1 l1).objs.size=some _:=Wm _<|Wm _<|Wm _<|Zv _ rfl;have g1:(Ud s.heap t1 t2 l1 l2).get? s.heap.objs.size=some _:=Wm _<|Wm _<|Wm _<|Wm _<|Zv _ rfl;show _/\_;rw[z2,z3,z4] at g5;rw[z1,z2] at g3;rw[z3] at g4;rw[z1] at g2;rw[z4];exact⟨⟨_,g5,rfl⟩,h _ g5 g3 g4 (sC g1) (sC g2) λc o x=>Wm _<|Wm _<|Wm _<|Wm _<|Wm _ x⟩
section
variable{X:Cx}{EX:XE}{L:Lc}{e a b:Expr}{fa fb fe:M D}{pos p:Pos}{x:Str}
theorem Ir(K:Frag):∀k∈["NoneType","bool","int","str","tuple","list","dict"],∀T∈["int","bool","tuple","list","str","dict"],W.kitOne K (.type k) (.type T)=some (k == T||(k == "bool" && T == "int")):=by intro k hk T hT;simp only[List.mem_cons,List.not_mem_nil,or_false] at hk hT;rcases hk with rfl|rfl|rfl|rfl|rfl|rfl|rfl<;>rcases hT with rfl|rfl|rfl|rfl|rfl|rfl<;>first|rfl|decide +kernel|(show W.kitOne K _ _=_;kernel_rfl)
end
theorem qc{js:WC}{m n:Nat}(h:js.all (λj=>decide (m<=j)&&decide (j<m+n))=true):∀j∈js,m<=j/\j<m+n:=λj hj=>by have:=List.all_eq_true.mp h j hj;rw[Ss] at this;exact⟨P7 this.1,P7 this.2⟩
structure sO(K:Frag)(mg:MG)(x:Str)(st:Stmt)(ps:TY)(f:Addr)(fd:FuncData):Prop where
 fu:GR K x x st f fd
 bi:Binds K fd ps []
 mg:mg x=some (.ref f)
section
variable{X:Cx}{EX:XE}{L:Lc}{e a b c:Expr}{fa fb fc fe:M D}{pos:Pos}{x:Str}
def cY:D->Value->Prop|.aQ,v=>v=.none|.bl k,v=>v=.bool k|.int i,v=>∃t,v=.int i t|.str s,v=>∃t,v=.str s t|_,_=>False
def Ri(mg:MG)(x:Str)(d:D):Prop:=∃v,mg x=some v/\cY d v
end
namespace RV
theorem BZ:Slot "reversed" "__init__" "object.__init__":=.of (owner:="object") (n:="__init__") (by rw[UD,Yc];kernel_rfl) (by decide +kernel) (by decide +kernel) (by decide +kernel) (by first|exact .inl (by decide +kernel)|exact .inr (by decide +kernel)) (by rw[EF];kernel_rfl)
theorem called:TypeCalled "reversed" "reversed.__new__" "object.__init__":=⟨by decide +kernel,PySem.F.create_reversed,⟨_,_,PySem.F.mro_reversed⟩,PySem.F.made_reversed,qZ,PySem.F.sub_reversed_self,BZ⟩
theorem slot_next:Slot "reversed" "__next__" "reversed.__next__":=.of (owner:="reversed") (n:="__next__") (by rw[UD,Yc];kernel_rfl) (by decide +kernel) (by decide +kernel) (by decide +kernel) (by first|exact .inl (by decide +kernel)|exact .inr (by decide +kernel)) (by rw[EF];kernel_rfl)
theorem entry_next:entryFor table "reversed.__next__" = some Builtin.«reversed.__next__» := entryFor_of_tree (by kernel_rfl)
theorem ng:Manifest.owners.lookup (String.ofList ['d','e','s','r','e','v','e','r'].reverse)=some Manifest.sig_reversed:=by kernel_rfl
theorem args_next(a:Value):argsOk "reversed.__next__" ⟨[a],[]⟩:=by unfold argsOk;rw[signature?_of (id:="reversed.__next__") (n:=['_','_','t','x','e','n','_','_']) (o:=['d','e','s','r','e','v','e','r']) (by kernel_rfl) ng];kernel_rfl
theorem sF:Slot "reversed" "__iter__" "reversed.__iter__":=.of (owner:="reversed") (n:="__iter__") (by rw[UD,Yc];kernel_rfl) (by decide +kernel) (by decide +kernel) (by decide +kernel) (by first|exact .inl (by decide +kernel)|exact .inr (by decide +kernel)) (by rw[EF];kernel_rfl)
theorem Bd(a:Value):argsOk "reversed.__iter__" ⟨[a],[]⟩:=by unfold argsOk;rw[signature?_of (id:="reversed.__iter__") (n:=['_','_','r','e','t','i','_','_']) (o:=['d','e','s','r','e','v','e','r']) (by kernel_rfl) ng];kernel_rfl
theorem xG:entryFor table "reversed.__iter__" = some Builtin.«dict_keyiterator.__iter__»:=entryFor_alias (id':="dict_keyiterator.__iter__") (by kernel_rfl) (by first|rfl|decide +kernel|(unfold String.splitOn;simp +decide [String.splitOnAux])) (by decide +kernel) (by kernel_rfl)
theorem uo:typeLookup (.type "tuple") "__reversed__" = pure none:=by rw[UD,Yc];kernel_rfl
theorem Q1g:isSubtype (.type "tuple") (.type "dict")=pure false:=by rw[EF];kernel_rfl
section
variable{prog:Program}{w:World}{A:Around}{E:YY}{s:Shared}
def obj(t:Addr)(i:Int):Obj:={cls:=.type "reversed",data:=.fields #[.ref t,rawInt i]}
def Is(h:Heap)(a t:Addr)(i:Int):Prop:=∃o,h.get? a=some o/\o.cls=.type "reversed" /\ o.data=.fields #[.ref t,rawInt i]
theorem C7(ht:IsTup s.heap t items)(hz:items.size<=sizeLine)
  (h:∀tk,Q₁ (.ref s.heap.objs.size) {s with heap:=s.heap.push<|obj t<|(items.size:Int)-1,toks:=tk}) :
  codeAny (model prog w) A (.call (.builtin "reversed.__new__") ⟨[.type "reversed",.ref t],[]⟩) (wants Q₁ E) s:=by
 refine codeAny_of_tree ?_;refine bx (m:=checkBuiltinCall "reversed.__new__" ⟨[.type "reversed",.ref t],[]⟩)<|IB (PySem.F.newCall_reversed_1 _)<|Zx ⟨F2 qZ _,Jq PySem.F.entry_reversed_new ?_⟩;rw[B0 qZ _];unfold Builtin.«reversed.__new__»;refine bx<|IB (newClass_reversed _) ?_;refine bx<|IB (a:=()) (by first|rfl|kernel_rfl) ?_;refine bx<|IB (a:=()) (by first|rfl|kernel_rfl) ?_;try dsimp only
 refine bx<|ET ht.typeIs uo ?_;try dsimp only
 refine bx<|bx (m:=isInstance (.ref t)<|.type "dict")<|Qs (b:=false) ht.typeIs Q1g ?_;refine bx (m:=specialOf (.ref t) "__getitem__")<|ET ht.typeIs PyProof.Rows.slot_tuple_getitem.lookup ?_;refine Zx ?_;refine bx (m:=call (Value.builtin "len") [Value.ref t])<|len_tuple ht (by rw[tC] at hz;lia) ?_;refine bx (m:=asInt?<|.int items.size _)<|Zx ?_;refine bx (m:=newObj (.type "reversed")<|.fields #[.ref t,rawInt<|(items.size:Int)-1]) (D7<|Zx<|h _)
theorem make(ht:IsTup s.heap t items)(hz:items.size<=sizeLine)(h:∀tk,Q (.ref s.heap.objs.size) {s with heap:=s.heap.push<|obj t<|(items.size:Int)-1,toks:=tk}):wpAny (model prog w) A (call (.type "reversed") [.ref t]) Q E s:=by refine callType_codes (Q₁:=λo aK=>aK.TypeIs o "reversed" /\ Q o aK) called (PySem.F.typeCall_reversed_1 _) PySem.F.entry_object_init (C7 ht hz λtk=>⟨⟨_,Zv _ rfl,rfl⟩,h tk⟩) λo aK bB=>?_;exact⟨bB.1,yC o _,object_init_meets called.init.lookup called.made (by decide) prog w A.in1 _ aK ⟨bB.1,rfl,bB.2⟩⟩
theorem Is.typeIs(x:Is s.heap a t i):s.TypeIs (.ref a) "reversed" := let ⟨o,ho,hc,_⟩:=x;⟨o,ho,hc⟩
theorem Is.at(x:Is h a t i)(e:∀o,h.get? a=some o->h'.get? a=some o):Is h' a t i:=let ⟨o,ho,r⟩:=x;⟨o,e _ ho,r⟩
theorem next_item{it t:Addr}{i:Nat}{items:Array Value}{x:Value}{Q:IW->Shared->Prop}(hit:Is s.heap it t (i:Int))(ht:IsTup s.heap t items)(hx:items[i]?=some x)(hz:items.size<=sizeLine)(hQ:∀h' tk,Is h' it t ((i:Int)-1)->Heap.SameBut it s.heap h'->Q (some x) {s with heap:=h',toks:=tk}):wpAny (model prog w) A (pyNext<|.ref it) Q E s:=by
 obtain⟨o,ho,hc,hd⟩:=id hit;unfold pyNext;refine bx<|J6<|Bs (name:=Str.ofString "__next__") hit.typeIs slot_next<|XA slot_next hit.typeIs entry_next ?_<|args_next _;unfold Builtin.«reversed.__next__»;refine bx<|IB (a:=(Value.ref it,[])) rfl ?_;refine bx<|Gk ho hd (x:=.ref t) rfl ?_;refine bx<|Gk ho hd (x:=rawInt (i:Int)) rfl ?_;show wpAny _ _ (if (i:Int)<0 then _ else _) _ _ s;rw[Y4 WR];refine bx (m:=specialOf (.ref t) "__getitem__")<|ET ht.typeIs PyProof.Rows.slot_tuple_getitem.lookup ?_;have hi:i<items.size:=(Array.getElem?_eq_some_iff.mp hx).1;have hz':(items.size:Int)<=16777216:=by rw[tC] at hz;lia
 refine bx (m:=mkInt (i:Int))<|wpAny_mkInt ?_;refine bx (m:=(getItem (Value.ref t) _).attempt)<|J6<|getItem_tuple (items:=items) (j:=i) ht WR WR ?_ hx ?_;unfold seqIndex?;simp;lia;refine bx (m:=field (Value.ref it) 1)<|Gk ho hd (x:=rawInt (i:Int)) rfl ?_;refine bx (m:=setField (Value.ref it) 1<|rawInt<|(i:Int)-1)<|IP ho hd T2 ?_;refine Zx ⟨x,rfl,Zx<|hQ _ _ ?_<|UO ..⟩;exact⟨_,Xs _ ho<|yJ<|Tq hd _,(Obj.cls_mapFields ..).trans hc,by rw[Tq hd];simp⟩
theorem next_end(hh:A.handled=none)(hit:Is s.heap it t (-1))(hQ:∀h',Heap.ExtBut it s.heap h'->Q none {s with heap:=h'}):wpAny (model prog w) A (pyNext<|.ref it) Q E s:=by
 obtain⟨o,ho,hc,hd⟩:=id hit;unfold pyNext;refine bx<|J6<|Bs (name:=Str.ofString "__next__") hit.typeIs slot_next<|XA slot_next hit.typeIs entry_next ?_<|args_next _;unfold Builtin.«reversed.__next__»;refine bx<|IB (a:=(Value.ref it,[])) rfl ?_;refine bx<|Gk ho hd (x:=.ref t) rfl ?_;refine bx<|Gk ho hd (x:=rawInt<|-1) rfl ?_;show wpAny _ _ (if (-1:Int)<0 then _ else _) _ _ s;rw[Zh (by decide)];refine bx<|WU ?_;refine bx<|bx (m:=setField (Value.ref it) 1<|rawInt<|-1)<|IP ho hd T2 ?_;have ho1:=Xs (Obj.mapFields λvs=>vs.set! 1 (rawInt<|-1)) ho<|yJ<|Tq hd _;have Py:(Obj.mapFields (λvs=>vs.set! 1 (rawInt<|-1)) o).data=.fields #[.ref t,rawInt<|-1]:=by rw[Tq hd];simp
 refine IP ho1 Py T2 ?_;refine bx (m:=Builtin.SmallTypes.stopIteration) ?_;refine bx (m:=newExc (.type "StopIteration") []) ?_;simp only[newExc,newTuple];refine bx<|D7 ?_ (by size_fits);refine bx (m:=firstArgMember _ _)<|IB (a:=Value.none) (by first|rfl|(simp only[firstArgMember];rfl)) ?_;refine D7 ?_ (by size_fits);simp only[raiseNew];refine bx<|wpAny_handled ?_;first|rw[show A.in1.handled=none from hh]|rw[hh]
 refine bx<|Zx<|wpAny_throw ?_;refine bx<|Qs (T:="StopIteration") (b:=true) ⟨_,Zv _ rfl,rfl⟩ isSubtype_stop ?_;refine Zx<|hQ _ λb ob hb e=>?_;refine Wm _<|Wm _ ?_;exact(UM _ _<|JL hb).trans ((UM _ _<|JL hb).trans e)
theorem mT(hit:Is s.heap it t i)(h:Q (.ref it) s):wpAny (model prog w) A (pyIter<|.ref it) Q E s:=by refine wpAny_pyIter_slot hit.typeIs sF<|XA sF hit.typeIs xG ?_<|Bd _;exact Zx ⟨_,rfl,"reversed",_,hit.typeIs,slot_next.lookup,h⟩
end
end RV
def nN(t:Bool)(it q:Addr)(i:Int)(h:Heap):Prop:=if t then RV.Is h it q i else h.IsRevIter it q i
theorem nN.at(x:nN t it q i h)(e:∀o,h.get? it=some o->h'.get? it=some o):nN t it q i h':=by cases t;exact Heap.IsRevIter.at x e;exact RV.Is.at x e
theorem nN.obj(x:nN t it q i h):∃o n vs,h.get? it=some o/\o.cls=.type n/\o.data=.fields vs/\["enumerate","zip","dict_itemiterator","dict_reverseitemiterator","odict_iterator","itertools.zip_longest","itertools.pairwise"].contains n=false:=by cases t;obtain⟨o,h1,h2,h3⟩:=x;exact⟨o,_,_,h1,h2,h3,by decide⟩;obtain⟨o,h1,h2,h3⟩:=x;exact⟨o,_,_,h1,h2,h3,by decide⟩
namespace GA
def Hj(T:String):Prop:=T="list_reverseiterator" \/ T="reversed"
section
variable{prog:Program}{w:World}{A:Around}{E:YY}{s:Shared}{I:Addr}{fp wr:xW}{n:Nat}{P:Nat->Value->Prop}{St:Nat->Heap->Prop}{T:String}
def Hint(prog:Program)(w:World)(A:Around)(I:Addr)(St:Nat->Heap->Prop):Prop:=∀(s:Shared)(Q:Bool->Shared->Prop)(E:YY),St 0 s.heap->(∀b tk,s.toks<=tk->Q b {s with toks:=tk})->wpAny (model prog w) A (Builtin.List.listLengthHint<|.ref I) Q E s
theorem extend(h2:Hj T)(W:WalksS prog w A.in1 I fp wr (λa b=>b=a) n P (λi s=>St i s.heap))(hT:∀(i:Nat)(s:Shared),St i s.heap->s.TypeIs (.ref I) T)(hh:Hint prog w A.in1 I St)(S:Addr)(res:Value)(c₀:Nat)(iO:St 0 s.heap)(D8:S∉fp)(hI:I∈fp)
  (hS:s.heap.get? S=some {cls:=.type "list",data:=.seq #[] c₀}) (hn:n<=sizeLine)
  (hR:∀s' pI c',Moved (S::wr) (λa b=>b=a) s s'->s'.heap.get? S=some {cls:=.type "list",dict:=none,data:=.seq pI c',slots:=#[]}->ItemsOf P pI n->R (.ok<|.ret res) s') :
  wpAny (model prog w) A.in1 (Builtin.List.listExtendWith (.ref S) (.ref I) res) (λfin s'=>match fin with|.done f=>R (.ok f) s'|.again c'=>c'.quiet=true/\codeAny (model prog w) A c' R s') (λe s'=>R (.error e) s') s:=by
 have hSI:S≠I:=λe=>D8<|e ▸ hI;have h1:Builtin.List.listSameRef (.ref S) (.ref I)=false:=by simp[Builtin.List.listSameRef,hSI]
 unfold Builtin.List.listExtendWith;refine bx<|GP (hT 0 _ iO) ?_;rw[Y4 (by rw[h1];rcases h2 with rfl|rfl<;>decide)];refine bx<|W.self 0 _ _ _ iO<|bx<|RL<|hh s _ _ iO λb tk TV=>?_;have qL:=W.frame 0 s s.heap tk iO TV λb _ o e=>e;cases b with|false=>rw[Y4 (by rcases h2 with rfl|rfl<;>decide)];refine Zx ⟨F2 PySem.F.plain_extend_loop _,codeAny_extend_loopS W hn _ D8 _ n 0 _ _ _ rfl (Hr _) qL hS (ItemsOf.nil P) λs' pI c' hm Pw hU=>hR s' pI c' ?_ Pw hU⟩;have mv:Moved (S::wr) (λa b=>b=a) s {s with toks:=tk}:=⟨λb o hb e=>e,rfl,rfl,rfl,TV⟩;exact Moved.trans W.gtrans mv hm|true=>rw[Zh (by rcases h2 with rfl|rfl<;>decide)];refine bx<|WU<|bx (m:=updateSeq S (·.push .none) >>= λ_=>updateSeq S (·.pop))<|bx<|QR hS rfl ?_;have q1:=Xs (Obj.mapSeq (·.push Value.none)) hS rfl;refine QR (hz:=by seq_fits) q1 rfl ?_;have q2:=Xs (Obj.mapSeq (·.pop)) q1 rfl;have Cg:∀b o,b≠S->s.heap.get? b=some o->((s.heap.update S<|Obj.mapSeq (·.push Value.none)).update S<|Obj.mapSeq (·.pop)).get? b=some o:=λb o hb e=>(UM _ _<|JL hb).trans<|(UM _ _<|JL hb).trans e;refine Zx ⟨F2 PySem.F.plain_extend_loop _,codeAny_extend_loopS W hn _ D8 _ n 0 _ _ _ rfl (Hr _) (W.frame 0 s _ tk iO TV λb hb o e=>Cg b o (λz=>D8<|z ▸ hb) e) q2 (ItemsOf.nil P) λs' pI c' hm Pw hU=>hR s' pI c' ?_ Pw hU⟩;have mv:Moved (S::wr) (λa b=>b=a) s {s with heap:=(s.heap.update S<|Obj.mapSeq (·.push Value.none)).update S<|Obj.mapSeq (·.pop),toks:=tk}:=⟨λb o hb e=>Cg b o (λz=>hb (by rw[z];exact TL)) e,rfl,rfl,rfl,TV⟩;exact Moved.trans W.gtrans mv hm
theorem gathered(h2:Hj T)(W:WalksS prog w A.in1 I fp wr (λa b=>b=a) n P (λi s=>St i s.heap))(hT:∀(i:Nat)(s:Shared),St i s.heap->s.TypeIs (.ref I) T)(hh:Hint prog w A.in1 I St)(iO:St 0 s.heap)(w8:∀b∈fp,b<s.heap.objs.size)(hI:I∈fp)(hn:n<=sizeLine)(hQ:∀s' acc,Moved wr (λa b=>b=a) s s'->ItemsOf P acc n->Q acc.toList s'):wpAny (model prog w) A (collect<|.ref I) Q E s:=by have D8:s.heap.objs.size∉fp:=λhm=>Fw _<|w8 _ hm;refine bx (m:=runValue<|.builtin "proto.collect" ⟨[.ref I],[]⟩)<|wpAny_runValue<|Jq PySem.F.entry_proto_collect ?_;rw[B0 PySem.F.plain_proto_collect _];refine bx (m:=newList [])<|D7<|Zx ⟨F2 PySem.F.plain_list_iadd _,Jq PySem.F.entry_list_iadd ?_⟩;rw[B0 PySem.F.plain_list_iadd _];have X:=extend (R:=λr s'=>r=.ok (.ret<|.ref s.heap.objs.size)/\∃acc c,Moved (s.heap.objs.size::wr) (λa b=>b=a) {s with heap:=s.heap.push {cls:=.type "list",data:=.seq ([]:Zg).toArray}} s'/\s'.heap.get? s.heap.objs.size=some {cls:=.type "list",dict:=none,data:=.seq acc c,slots:=#[]}/\ItemsOf P acc n) (s:={s with heap:=s.heap.push {cls:=.type "list",data:=.seq ([]:Zg).toArray}}) h2 W hT hh s.heap.objs.size (.ref s.heap.objs.size) 0 (W.frame 0 s _ s.toks iO (TC _) λb _ o e=>Wm _ e) D8 hI (Zv _ rfl) hn λs' acc c hm hS hU=>⟨rfl,acc,c,hm,hS,hU⟩;have fin:∀s',(∃acc c,Moved (s.heap.objs.size::wr) (λa b=>b=a) {s with heap:=s.heap.push {cls:=.type "list",data:=.seq ([]:Zg).toArray}} s'/\s'.heap.get? s.heap.objs.size=some {cls:=.type "list",dict:=none,data:=.seq acc c,slots:=#[]}/\ItemsOf P acc n)->wpAny (model prog w) A (do let o <-load s.heap.objs.size;match o.data with|.seq xs _=>pure xs.toList|_=>unsupported "internal:collect") Q E s':=λs' ⟨acc,c,hm,hS,hU⟩=>bx<|wpAny_load hS<|Zx<|hQ s' acc (Moved.drop_new (o:={cls:=.type "list",data:=.seq ([]:Zg).toArray}) (tk:=s.toks) hm<|TC _) hU;refine P9 X (λf s' h=>?_) λe s' h=>absurd h.1 T2;cases f with|done f=>obtain⟨e,h⟩:=h;cases e;exact fin s' h|again c'=>exact⟨h.1,codeAny_mono h.2 λr BU ⟨e,h⟩=>by subst e;exact fin BU h⟩
theorem Q1b(h2:Hj T)(W:WalksS prog w A.in1.in1 I fp wr (λa b=>b=a) n P (λi s=>St i s.heap))(hT:∀(i:Nat)(s:Shared),St i s.heap->s.TypeIs (.ref I) T)(hh:Hint prog w A.in1.in1 I St)(iO:St 0 s.heap)(w8:∀b∈fp,b<s.heap.objs.size)(hI:I∈fp)(hn:n<=sizeLine)
  (h:∀s' acc,Moved wr (λa b=>b=a) s s'->ItemsOf P acc n->Q₁ (.ref s'.heap.objs.size) {s' with heap:=s'.heap.push {cls:=.type "tuple",data:=.seq acc}}) :
  codeAny (model prog w) A (.call (.builtin "tuple.__new__") ⟨[.type "tuple",.ref I],[]⟩) (wants Q₁ E) s:=by
 refine codeAny_of_tree<|bx (m:=checkBuiltinCall "tuple.__new__" ⟨[.type "tuple",.ref I],[]⟩)<|IB (PySem.F.newCall_tuple_1 _)<|Zx ⟨F2 PySem.F.plain_tuple_new _,Jq PySem.F.entry_tuple_new ?_⟩;rw[B0 PySem.F.plain_tuple_new _];have k1:=sub_tuple_self;have k2:=init_tuple_lookup;have k3:=madeHere_tuple;have k4:=hT 0 s iO;rcases h2 with rfl|rfl;have z2:Hj "list_reverseiterator" := .inl rfl
 wp_walk using GP k4,gathered z2 W hT hh iO w8 hI hn
 intro s' acc hm hU;refine bx (m:=Builtin.Tuple.tupleExact acc.toList.toArray)<|D7 (Zx ?_) (by show acc.toList.toArray.size<=sizeLine;simp only[Array.toArray_toList];rw[hU.1];exact hn);rw[show acc.toList.toArray=acc by simp];exact h s' acc hm hU;have z2:Hj "reversed" := .inr rfl
 wp_walk using GP k4,gathered z2 W hT hh iO w8 hI hn
 intro s' acc hm hU;refine bx (m:=Builtin.Tuple.tupleExact acc.toList.toArray)<|D7 (Zx ?_) (by show acc.toList.toArray.size<=sizeLine;simp only[Array.toArray_toList];rw[hU.1];exact hn);rw[show acc.toList.toArray=acc by simp];exact h s' acc hm hU
theorem xw(h2:Hj T)(W:WalksS prog w A.in1.in1.in1 I fp wr (λa b=>b=a) n P (λi s=>St i s.heap))(hT:∀(i:Nat)(s:Shared),St i s.heap->s.TypeIs (.ref I) T)(hh:Hint prog w A.in1.in1.in1 I St)(iO:St 0 s.heap)(w8:∀b∈fp,b<s.heap.objs.size)(hI:I∈fp)(hn:n<=sizeLine)(hQ:∀s' acc,Moved wr (λa b=>b=a) s s'->ItemsOf P acc n->Q (.ref s'.heap.objs.size) {s' with heap:=s'.heap.push {cls:=.type "tuple",data:=.seq acc}}):wpAny (model prog w) A (call (.type "tuple") [.ref I]) Q E s:=by refine callType_codes (Q₁:=λobj aK=>aK.TypeIs obj "tuple" /\ Q obj aK) PySem.F.called_tuple (PySem.F.typeCall_tuple_1 _) PySem.F.entry_object_init (Q1b h2 W hT hh iO w8 hI hn λs' acc hm hU=>⟨⟨_,Zv _ rfl,rfl⟩,hQ s' acc hm hU⟩) λobj aK bB=>?_;exact⟨bB.1,yC obj _,object_init_meets PySem.F.called_tuple.init.lookup PySem.F.called_tuple.made (by decide) prog w A.in1 _ aK ⟨bB.1,rfl,bB.2⟩⟩
end
theorem IT:typeLookup (.type "list_reverseiterator") "__len__" = pure none:=by rw[UD,Yc];kernel_rfl
theorem Q2O:typeLookup (.type "list_reverseiterator") "__length_hint__" = pure (some<|.builtin "list_reverseiterator.__length_hint__"):=by rw[UD,Yc];kernel_rfl
theorem Q1j:typeLookup (.type "reversed") "__len__" = pure none:=by rw[UD,Yc];kernel_rfl
theorem Eh:typeLookup (.type "reversed") "__length_hint__" = pure (some<|.builtin "reversed.__length_hint__"):=by rw[UD,Yc];kernel_rfl
theorem sE:Slot "reversed" "__length_hint__" "reversed.__length_hint__":=.of (owner:="reversed") (n:="__length_hint__") Eh (by decide +kernel) (by decide +kernel) (by decide +kernel) (by first|exact .inl (by decide +kernel)|exact .inr (by decide +kernel)) (by rw[EF];kernel_rfl)
theorem ixF:entryFor table "reversed.__length_hint__" = some Builtin.«reversed.__length_hint__» := entryFor_of_tree (by kernel_rfl)
theorem Ih1(a:Value):argsOk "reversed.__length_hint__" ⟨[a],[]⟩:=by unfold argsOk;rw[signature?_of (id:="reversed.__length_hint__") (n:=['_','_','t','n','i','h','_','h','t','g','n','e','l','_','_']) (o:=['d','e','s','r','e','v','e','r']) (by kernel_rfl) RV.ng];kernel_rfl
section
variable{prog:Program}{w:World}{A:Around}
def Hx(it q:Addr)(items:Array Value):Nat->Heap->Prop:=λi h=>i<=items.size/\h.IsRevIter it q ((items.size:Int)-1-(i:Int))/\h.IsList q items
def ZZ(it q:Addr)(items:Array Value):Nat->Heap->Prop:=λi h=>i<=items.size/\RV.Is h it q ((items.size:Int)-1-(i:Int))/\IsTup h q items
theorem V3:Hint prog w A it (Hx it q items):=λs Q E st h=>by
 have hT:s.TypeIs (.ref it) "list_reverseiterator" := st.2.1.typeIs;unfold Builtin.List.listLengthHint;refine bx<|ET hT IT ?_;refine bx (m:=specialOf (.ref it) "__length_hint__")<|ET hT Q2O ?_;generalize V2:("list_reverseiterator.__length_hint__" : String)=id0
 wp_delta
 rw[show splitId id0=some ("list_reverseiterator","__length_hint__") from by subst V2;decide +kernel];subst V2;refine bx (Qs (b:=true) hT (by rw[EF];kernel_rfl)<|Zx<|h _ s.toks<|TC _)
theorem V4(hz:items.size<=sizeLine):Hint prog w A it (ZZ it q items):=λs Q E st h=>by
 have hT:s.TypeIs (.ref it) "reversed" := st.2.1.typeIs;unfold Builtin.List.listLengthHint;refine bx<|ET hT Q1j ?_;refine bx (m:=specialOf (.ref it) "__length_hint__")<|ET hT Eh ?_;generalize V2:("reversed.__length_hint__" : String)=id0
 wp_delta
 rw[show splitId id0=some ("reversed","__length_hint__") from by subst V2;decide +kernel];subst V2;refine bx<|Qs (b:=true) hT (by rw[EF];kernel_rfl) ?_;obtain⟨_,⟨o,ho,hc,hd⟩,ht⟩:=id st;have hz':(items.size:Int)<=16777216:=by rw[tC] at hz;lia
 rw[Y4 (show ¬((!true)=true) by decide)];dsimp only[];rw[Y4 (by decide)];refine bx<|WU<|bx<|IB (sE.bind _) ?_;refine bx (m:=(call (.builtin "reversed.__length_hint__") [.ref it]).attempt)<|J6<|XA sE hT ixF ?_<|Ih1 _;unfold Builtin.«reversed.__length_hint__»;refine bx<|IB (a:=Value.ref it) (by first|rfl|kernel_rfl) ?_;refine bx<|Gk ho hd (x:=.ref q) rfl ?_;rw[Y4 (by intro z;cases z)];dsimp only[];refine bx (m:=call (Value.builtin "len") [Value.ref q])<|len_tuple ht WR ?_;refine bx (m:=asInt?<|.int items.size _)<|Zx ?_;refine bx (m:=field (.ref it) 1)<|Gk (s:={s with toks:=s.toks+1+1}) ho hd (x:=rawInt<|(items.size:Int)-1-((0:Nat):Int)) rfl ?_;have e0:(items.size:Int)-1-((0:Nat):Int)+1=items.size:=WR;show wpAny _ _ (if (items.size:Int)<(items.size:Int)-1-((0:Nat):Int)+1 then _ else retInt ((items.size:Int)-1-((0:Nat):Int)+1)) _ _ _;rw[Y4 WR,e0];have f1:Builtin.List.listFitsIndex (items.size:Int)=true:=by
  unfold Builtin.List.listFitsIndex;simp only[Bool.and_eq_true,decide_eq_true_eq]
  lia
 have f2:Builtin.List.listTooLong ((items.size:Int).toNat)=false:=by unfold Builtin.List.listTooLong;rw[IZ];simp only[decide_eq_false_iff_not,gt_iff_lt,Nat.not_lt];exact hz
 have f3:¬(items.size:Int)<0:=WR;generalize (items.size:Int)=k at f1 f2 f3 ⊢;refine bx (m:=mkInt k)<|wpAny_mkInt<|Zx ⟨_,rfl,?_⟩;dsimp only[];refine bx<|IB (a:=some k) rfl ?_;dsimp only[];rw[Y4 (by rw[f1];decide),Y4 f3,Y4 (by rw[f2];decide)];exact Zx (h _ _ (by show s.toks<=s.toks+1+1+1;lia))
theorem Yz(hh:A.handled=none)(it q:Addr)(GY:q≠it)(items:Array Value)(hz:items.size<=sizeLine):Walks prog w A it [it,q] [it] items.size (λi v=>items[items.size-1-i]?=some v) (ZZ it q items) where
 sub:=λb hb=>by simp at hb;simp[hb]
 frame:=λ_ _ _ x hk=>⟨x.1,x.2.1.at λo e=>hk it T2 o e,by obtain⟨o,e,r⟩:=x.2.2;exact⟨o,hk q T2 o e,r⟩⟩
 item:=λi s Q E hi x hQ=>by have e:(items.size:Int)-1-(i:Int)=((items.size-1-i:Nat):Int):=WR;have e2:((items.size-1-i:Nat):Int)-1=(items.size:Int)-1-((i+1:Nat):Int):=WR;have hit:=x.2.1;rw[e] at hit;have hx:items[items.size-1-i]?=some (items[items.size-1-i]' WR):=Array.getElem?_eq_getElem WR;refine RV.next_item hit x.2.2 hx hz λh' tk HQ sb=>?_;rw[e2] at HQ;refine hQ _ h' tk hx ⟨hi,HQ,?_⟩ λb o hb eo=>(sb.2 b λz=>hb (by simp[z])).trans eo;obtain⟨o,eo,r⟩:=x.2.2;exact⟨o,(sb.2 q GY).trans eo,r⟩
 done:=λs Q E x hQ=>by have e:(items.size:Int)-1-(items.size:Int)=-1:=WR;have hit:=x.2.1;rw[e] at hit;exact RV.next_end hh hit λh' he=>hQ h' s.toks λb o hb eo=>he b o (λz=>hb (by simp[z])) eo
 self:=λ_ _ _ _ x hQ=>RV.mT x.2.1 hQ
end
end GA
section
variable{X:Cx}{EX:XE}{L:Lc}{e a b tg:Expr}{fa fb fe:M D}{pos p To p':Pos}
theorem se{items acc:Array Value}(h:ItemsOf (λi v=>items[items.size-1-i]?=some v) acc items.size):acc=items.toList.reverse.toArray:=by
 obtain⟨h1,h2⟩:=h;apply Array.ext';refine List.ext_getElem? λi=>?_;by_cases hi:i<acc.size;have e:=h2 i acc[i]<|Array.getElem?_eq_getElem hi;have l:acc.toList[i]?=some acc[i]:=by simp[hi]
 rw[l];simp only[List.toList_toArray];rw[JH (by simp;lia),<-e];simp;have TQ:¬i<items.size:=WR;rw[By (by simp;lia),By (by simp;lia)]
end
namespace GA
section
variable{prog:Program}{w:World}{A:Around}{E:YY}{s:Shared}{I:Addr}{fp wr:xW}{n:Nat}{P:Nat->Value->Prop}{St:Nat->Heap->Prop}{T:String}
theorem Bo(h2:Hj T)(W:WalksS prog w A.in1 I fp wr (λa b=>b=a) n P (λi s=>St i s.heap))(hT:∀(i:Nat)(s:Shared),St i s.heap->s.TypeIs (.ref I) T)(hh:Hint prog w A.in1 I St)(S:Addr)(iO:St 0 s.heap)(D8:S∉fp)(hI:I∈fp)
  (hS:s.heap.get? S=some {cls:=.type "list",data:=.seq #[]}) (hn:n<=sizeLine)
  (hR:∀s' acc c,Moved (S::wr) (λa b=>b=a) s s'->s'.heap.get? S=some {cls:=.type "list",dict:=none,data:=.seq acc c,slots:=#[]}->ItemsOf P acc n->R (.ok<|.ret .none) s') :
  wpAny (model prog w) A.in1 (Builtin.«list.__init__» ⟨[.ref S,.ref I],[]⟩) (λfin s'=>match fin with|.done f=>R (.ok f) s'|.again c'=>c'.quiet=true/\codeAny (model prog w) A c' R s') (λe s'=>R (.error e) s') s:=by
 have q2:=Xs (Obj.mapSeq (λ_=>(#[]:Array Value))) hS rfl;have Cg:∀b o,b≠S->s.heap.get? b=some o->(s.heap.update S<|Obj.mapSeq (λ_=>(#[]:Array Value))).get? b=some o:=λb o hb e=>by rw[UM _ _<|JL hb];exact e
 refine bx (m:=Builtin.List.listItems<|.ref S) ?_;unfold Builtin.List.listItems;refine bx<|Xy hS rfl<|Zx ?_;refine bx (m:=updateSeq S (λ_=>#[]))<|QR hS rfl<|bx<|O7 ?_;refine extend (s:={s with heap:=s.heap.update S (Obj.mapSeq (λ_=>(#[]:Array Value)))}) h2 W hT hh S .none _ (W.frame 0 s _ s.toks iO (TC _) λb hb o e=>Cg b o (λz=>D8<|z ▸ hb) e) D8 hI q2 hn λs' acc c hm Pw hU=>hR s' acc c ?_ Pw hU;have mv:Moved (S::wr) (λa b=>b=a) s {s with heap:=s.heap.update S (Obj.mapSeq (λ_=>(#[]:Array Value)))}:=⟨λb o hb e=>Cg b o (λz=>hb (by rw[z];exact TL)) e,rfl,rfl,rfl,TC _⟩;exact Moved.trans W.gtrans mv hm
theorem Bh(h2:Hj T)(W:WalksS prog w A.in1.in1 I fp wr (λa b=>b=a) n P (λi s=>St i s.heap))(hT:∀(i:Nat)(s:Shared),St i s.heap->s.TypeIs (.ref I) T)(hh:Hint prog w A.in1.in1 I St)(iO:St 0 s.heap)(w8:∀b∈fp,b<s.heap.objs.size)(hI:I∈fp)(hn:n<=sizeLine)
  (hQ:∀s' acc c,Moved (s.heap.objs.size::wr) (λa b=>b=a) {s with heap:=s.heap.push {cls:=.type "list",data:=.seq #[]}} s'->s'.heap.get? s.heap.objs.size=some {cls:=.type "list",dict:=none,data:=.seq acc c,slots:=#[]}->ItemsOf P acc n->Q (.ref s.heap.objs.size) s') :
  wpAny (model prog w) A (call (.type "list") [.ref I]) Q E s:=by
 have D8:s.heap.objs.size∉fp:=λhm=>Fw _<|w8 _ hm;have hS:(s.heap.push {cls:=.type "list",data:=.seq #[]}).get? s.heap.objs.size=some {cls:=.type "list",data:=.seq #[]}:=Zv _ rfl;refine callType_codes (Q₁:=λobj aK=>obj=.ref s.heap.objs.size/\aK={s with heap:=s.heap.push {cls:=.type "list",data:=.seq #[]}}) PySem.F.called_list (PySem.F.typeCall_list_1 _) PySem.F.entry_list_init (code_list_new _ ⟨rfl,rfl⟩) λobj aK z=>?_;obtain⟨rfl,rfl⟩:=z;refine⟨⟨_,hS,rfl⟩,PySem.F.args_list_init_2 _ _,?_⟩;exact Bo (s:={s with heap:=s.heap.push {cls:=.type "list",data:=.seq #[]}}) h2 W hT hh _ (W.frame 0 s _ s.toks iO (TC _) λb _ o e=>Wm _ e) D8 hI hS hn λs' acc c hm Pw hU=>⟨rfl,hQ s' acc c hm Pw hU⟩
end
end GA
section
variable{X:Cx}{EX:XE}{L:Lc}{a:Expr}{fa:M D}{p pos p' To:Pos}
theorem range_all(bs:Qg):(List.range bs.length).all (λi=>bs.getD i false)=bs.all id/\(List.range bs.length).any (λi=>bs.getD i false)=bs.any id:=by
 have e:(List.range bs.length).map (λi=>bs.getD i false)=bs:=by apply WT;simp;intro i h1 h2;simp[h2]
 refine⟨?_,?_⟩;rw[show bs.all id=((List.range bs.length).map λi=>bs.getD i false).all id by rw[e],List.all_map];rfl;rw[show bs.any id=((List.range bs.length).map λi=>bs.getD i false).any id by rw[e],List.any_map];rfl
theorem boot_all:bootBuiltins "all" = some (.builtin "all"):=by kernel_rfl
theorem boot_any:bootBuiltins "any" = some (.builtin "any"):=by kernel_rfl
variable{b value:Expr}{fk fv:M D}{x:Str}
end
section
variable{X:Cx}{EX:XE}{L:Lc}{e a b c:Expr}{fa fb fc fe:M D}{pos:Pos}{x:Str}
def qY(K:Frag)(d:D)(v:Value):Prop:=cY d v\/∃(ds:Y5)(q:Addr)(aY:Array Value)(n:Nat),d=.tup ds/\v=.ref q/\K.lookup q=some ⟨.type "tuple",none,.seq aY n,#[]⟩/\aY.size<=sizeLine/\Paired cY ds aY.toList
theorem ab1{K:Frag}{ds:Y5}{q:Addr}{aY:Array Value}{n:Nat}(hl:K.lookup q=some ⟨.type "tuple",none,.seq aY n,#[]⟩)(hz:aY.size<=sizeLine)(hp:Paired cY ds aY.toList):qY K (.tup ds) (.ref q):=.inr ⟨ds,q,aY,n,rfl,rfl,hl,hz,hp⟩
structure Hg(w:World)(K:Frag)(mg:MG)(x:Str)(t:List (Str×D))(ab:TY):Prop where
 ex:∃(q:Addr)(es:Array DictEntry)(n:Nat),mg x=some (.ref q)/\(q == sysModules)=false/\K.lookup q=some ⟨.type "dict",none,.dict es n,#[]⟩/\W.KeysLit w.params es.toList/\(∀k d,t.lookup k=some d->∃v,W.nsIn K q k=some (some v)/\qY K d v)/\∀k∈ab,W.nsIn K q k=some none
theorem Gi{K:Frag}{q:Addr}{t:List (Str×D)}(h:∀p∈t,∃v,W.nsIn K q p.1=some (some v)/\qY K p.2 v):∀k d,t.lookup k=some d->∃v,W.nsIn K q k=some (some v)/\qY K d v:=λk d e=>h (k,d) (Fh e)
end
section
variable{X:Cx}{EX:XE}{L:Lc}{e a b o value:Expr}{es:WK}{fa fe fo:M D}{as:List VP.Arg}{pos p TX:Pos}{x c m:Str}
variable{CX:CXT}{k:Nat}{fA C:Addr}{fd:FuncData}{ps:TY}{fl:Qg}{fs:Fn}{cs:TY}{f:Str}
def Ha(K:Frag)(mg:MG)(cs:TY)(f:Str):Prop:=∀c∈cs,∃C,mg c=some (.ref C)/\OR K C/\sV K C f
end
theorem Q1a(l:Addr)(xs:Array Value)(n:Nat)(sl:Array (Option Value)):Meets (Builtin.«enumerate.__new__» ⟨[.type "enumerate",.ref l],[]⟩) (λ_ R s=>s.heap.get? l=some {cls:=.type "list",dict:=none,data:=.seq xs n,slots:=sl}/\R (.ok<|.ret<|.ref (s.heap.push {cls:=.type "list_iterator",data:=.fields #[.ref l,.int 0 0]}).objs.size) {s with heap:=(s.heap.push {cls:=.type "list_iterator",data:=.fields #[.ref l,.int 0 0]}).push {cls:=.type "enumerate",data:=.fields #[.none,.bool false,.ref s.heap.objs.size,rawInt 0,.none,.none]}}):=
 .of_wp λprog w A R s z=>by
  obtain⟨hp,g,d,tk,os⟩:=s;obtain⟨q1,q2⟩:=z;have z1:=sub_enumerate;have z2:Heap.IsList (Shared.heap ⟨hp,g,d,tk,os⟩) l xs:=⟨_,q1,rfl,n,rfl⟩
  wp_walk using R6 q1
  refine wpAny_stack_any λst=>Zx ?_;split;rename_i c _ _ _ _ _;cases (c == Value.type "enumerate")<;>(wp_walk using R6 q1,IX z2;exact⟨_,rfl,q2⟩)
  wp_walk using R6 q1,IX z2
  exact⟨_,rfl,q2⟩
section
variable{X:Cx}{EX:XE}{L:Lc}{e a b:Expr}{fa fb fe:M D}{pos p:Pos}{x:Str}
theorem boot_enumerate:bootBuiltins "enumerate" = some (.type "enumerate"):=by kernel_rfl
end
section
variable{X:Cx}{EX:XE}{L:Lc}{e a b:Expr}{fa fb fe:M D}{pos p:Pos}{x c:Str}
structure Hd(K:Frag)(D:Addr):Prop where
 pg:W.plainGet K D "__class__" = true
 hd:W.hasDictIn K D=true
 fi:W.findIn K (.ref D) "__class__" = some (some<|.builtin "object.__class__")
 mr:W.mroIn K D (.type "object")=some true
structure Um(K:Frag)(mg:MG)(c:Str)(subs:Ju):Prop where
 sp:W.specialIn K (.builtin "object.__class__") "__get__" = some (some<|.builtin "getset_descriptor.__get__")
 tk:W.takesIn K (.builtin "object.__class__")=some true
 ex:∃C,mg c=some (.ref C)/\∀p∈subs,∃D,mg p.1=some (.ref D)/\Hd K D/\W.kitOne K (.ref D) (.ref C)=some p.2
end
open PySem.AutoSeq1 (wpAny_loadPart')
theorem noFill_tuple_mul:fillsNumberSlot (.type "tuple") "mul" = pure false:=PySem.fillsNumberSlot_seq (id:="tuple.__mul__") (r:=some<|.builtin "tuple.__rmul__") PySem.F.slot_tuple_mul.lookup (by decide +kernel) PySem.F.slot_tuple_rmul.lookup (by decide +kernel)
theorem uF:seqRepeat? (.type "tuple")=pure (some<|.builtin "tuple.__mul__"):=by unfold seqRepeat?;rw[PySem.seqSlot_of (T:="tuple") (name:="__mul__") (id:="tuple.__mul__") PySem.F.slot_tuple_mul.lookup (by decide +kernel),PySem.seqSlot_of (T:="tuple") (name:="__rmul__") (id:="tuple.__rmul__") PySem.F.slot_tuple_rmul.lookup (by decide +kernel)];rfl
theorem qf(a:Int)(t:Tok)(l:Addr)(items:Array Value)(n:Nat)(dd:Ra)(sl:Array (Option Value)) : Meets (Builtin.«int.__rmul__» ⟨[.int a t,.ref l],[]⟩) (λ_ R s=>s.heap.get? l=some {cls:=.type "tuple",dict:=dd,data:=.seq items n,slots:=sl}/\R (.ok<|.ret Value.notImplemented) s):=
 .of_wp λprog w A R s h=>by obtain⟨hp,g,d,tk,os⟩:=s;obtain⟨hl,h⟩:=h;wp_walk;exact⟨_,rfl,h⟩
theorem yQ(l:Addr)(items:Array Value)(n:Nat)(dd:Ra)(sl:Array (Option Value))(x:Int)(u:Tok)(h1:¬(decide (x < -(2 ^ 63))||decide (x>=2 ^ 63))=true)(h2:(items.isEmpty||x == 1)=true) : Meets (Builtin.«tuple.__mul__» ⟨[.ref l,.int x u],[]⟩) (λ_ R s=>s.heap.get? l=some {cls:=.type "tuple",dict:=dd,data:=.seq items n,slots:=sl}/\R (.ok<|.ret<|Value.ref l) {s with heap:=s.heap,toks:=s.toks}):=
 .of_wp λprog w A R s h=>by obtain⟨hp,g,d,tk,os⟩:=s;obtain⟨hl,h⟩:=h;wp_walk using wpAny_loadPart' hl;refine EO (Zq h1) ?_;wp_walk using wpAny_loadPart' hl;exact⟨_,rfl,h⟩
theorem yR(l:Addr)(items:Array Value)(n:Nat)(dd:Ra)(sl:Array (Option Value))(x:Int)(u:Tok)(h1:¬(decide (x < -(2 ^ 63))||decide (x>=2 ^ 63))=true)(h2:¬(items.isEmpty||x == 1)=true)(h3:(decide (x<=0)||items.isEmpty)=true) : Meets (Builtin.«tuple.__mul__» ⟨[.ref l,.int x u],[]⟩) (λ_ R s=>s.heap.get? l=some {cls:=.type "tuple",dict:=dd,data:=.seq items n,slots:=sl}/\R (.ok<|.ret<|Value.ref s.heap.objs.size) {s with heap:=s.heap.push {cls:=Value.type "tuple",data:=Data.seq #[]},toks:=s.toks}):=
 .of_wp λprog w A R s h=>by obtain⟨hp,g,d,tk,os⟩:=s;obtain⟨hl,h⟩:=h;wp_walk using wpAny_loadPart' hl;refine EO (Zq h1) ?_;wp_walk using wpAny_loadPart' hl;exact⟨_,rfl,h⟩
theorem yS(l:Addr)(items:Array Value)(n:Nat)(dd:Ra)(sl:Array (Option Value))(x:Int)(u:Tok)(h1:¬(decide (x < -(2 ^ 63))||decide (x>=2 ^ 63))=true)(h2:¬(items.isEmpty||x == 1)=true)(h3:¬(decide (x<=0)||items.isEmpty)=true)
  (h4:¬((items.size:Int)*x > (2 ^ 63-1) / 8)) (h5:¬Builtin.Tuple.tupleTooMany ((items.size:Int)*x)=true) (hsz:(List.foldl (λx1 x2=>x1++x2) #[]<|List.replicate x.toNat items).size<=sizeLine) :
  Meets (Builtin.«tuple.__mul__» ⟨[.ref l,.int x u],[]⟩) (λ_ R s=>s.heap.get? l=some {cls:=.type "tuple",dict:=dd,data:=.seq items n,slots:=sl}/\R (.ok<|.ret<|Value.ref s.heap.objs.size) {s with heap:=s.heap.push {cls:=Value.type "tuple",data:=Data.seq (List.foldl (λx1 x2=>x1++x2) #[]<|List.replicate x.toNat items)},toks:=s.toks}):=
 .of_wp λprog w A R s h=>by obtain⟨hp,g,d,tk,os⟩:=s;obtain⟨hl,h⟩:=h;wp_walk using wpAny_loadPart' hl;refine EO (Zq h1) ?_;wp_walk using wpAny_loadPart' hl;refine EO (Zq h4) ?_;wp_walk using wpAny_loadPart' hl;exact⟨_,rfl,h⟩
structure DM(K:Frag)(x qn:Str)(st:Stmt)(f:Addr):Prop where
 l:∃(oc:Value)(od:Ra)(kV doc pm:Value)(an:Ra)(cd ct:Value)(sl:Array (Option Value)),K.lookup f=some ⟨oc,od,.func<|W.fnOf x qn (cf st) (bh st) (aw st) .none kV doc pm an cd ct,sl⟩/\W.codeIn K cd qn=true
 k:W.keepIn K (.ref f)=true
structure DH(K:Frag)(x:Str)(st:Stmt)(f:Addr):Prop where
 a:W.nsIn K mainGlobals x=some (some<|.ref f)
 m:DM K x x st f
abbrev Cn(x qn:Str)(st:Stmt)(ps:TY):Prop:=∀(kV doc pm:Value)(an:Ra)(cd ct:Value)(us:Zg),us.length=ps.length->bindArgs (W.fnOf x qn (cf st) (bh st) (aw st) .none kV doc pm an cd ct) ⟨us,[]⟩=pure (ps.zip us)
section
variable{K:Frag}{mg:MG}{h:Heap}{x qn:Str}{st:Stmt}{f:Addr}{ps:TY}
theorem DM.is(d:DM K x qn st f)(b:Cn x qn st ps):∃fd,GR K x qn st f fd/\Binds K fd ps []:=by obtain⟨⟨oc,od,kV,doc,pm,an,cd,ct,sl,l,c⟩,k⟩:=d;exact⟨_,D4 l c k,(D4 l c k).binds b⟩
theorem DH.is(d:DH K x st f)(X:K.In h)(G:h.Ns mainGlobals mg)(b:Cn x x st ps):∃fd,sO K mg x st ps f fd:=by obtain⟨fd,F,B⟩:=d.m.is b;exact⟨fd,F,B,BN X G d.a⟩
end
theorem v0{P:Zg->Prop}(h:P []):∀us:Zg,us.length=0->P us:=λus e=>List.length_eq_zero_iff.mp e ▸ h
theorem vc{n:Nat}{P:Zg->Prop}(h:∀a,∀us:Zg,us.length=n->P (a::us)):∀us:Zg,us.length=n+1->P us:=λus e=>by cases us with|nil=>cases e|cons a us=>exact h a us (Nat.succ.inj e)
theorem Pr{x qn:Str}{st:Stmt}{p0:Str}(h:∀(kV doc pm:Value)(an:Ra)(cd ct:Value)(a0:Value),bindArgs (W.fnOf x qn (cf st) (bh st) (aw st) .none kV doc pm an cd ct) ⟨[a0],[]⟩=pure ([p0].zip [a0]):=by intros;rfl):Cn x qn st [p0]:=λkV doc pm an cd ct=>vc λ_=>v0 (h _ _ _ _ _ _ _)
theorem P8{x qn:Str}{st:Stmt}{p0 p1:Str}(h:∀(kV doc pm:Value)(an:Ra)(cd ct:Value)(a0 a1:Value),bindArgs (W.fnOf x qn (cf st) (bh st) (aw st) .none kV doc pm an cd ct) ⟨[a0,a1],[]⟩=pure ([p0,p1].zip [a0,a1]):=by intros;rfl):Cn x qn st [p0,p1]:=λkV doc pm an cd ct=>vc λ_=>vc λ_=>v0 (h _ _ _ _ _ _ _ _)
theorem Ih{x qn:Str}{st:Stmt}{p0 p1 p2:Str}(h:∀(kV doc pm:Value)(an:Ra)(cd ct:Value)(a0 a1 a2:Value),bindArgs (W.fnOf x qn (cf st) (bh st) (aw st) .none kV doc pm an cd ct) ⟨[a0,a1,a2],[]⟩=pure ([p0,p1,p2].zip [a0,a1,a2]):=by intros;rfl):Cn x qn st [p0,p1,p2]:=λkV doc pm an cd ct=>vc λ_=>vc λ_=>vc λ_=>v0 (h _ _ _ _ _ _ _ _ _)
theorem O0{x qn:Str}{st:Stmt}{p0 p1 p2 p3:Str}(h:∀(kV doc pm:Value)(an:Ra)(cd ct:Value)(a0 a1 a2 a3:Value),bindArgs (W.fnOf x qn (cf st) (bh st) (aw st) .none kV doc pm an cd ct) ⟨[a0,a1,a2,a3],[]⟩=pure ([p0,p1,p2,p3].zip [a0,a1,a2,a3]):=by intros;rfl):Cn x qn st [p0,p1,p2,p3]:=λkV doc pm an cd ct=>vc λ_=>vc λ_=>vc λ_=>vc λ_=>v0 (h _ _ _ _ _ _ _ _ _ _)
theorem U0{x qn:Str}{st:Stmt}{p0 p1 p2 p3 p4:Str}(h:∀(kV doc pm:Value)(an:Ra)(cd ct:Value)(a0 a1 a2 a3 a4:Value),bindArgs (W.fnOf x qn (cf st) (bh st) (aw st) .none kV doc pm an cd ct) ⟨[a0,a1,a2,a3,a4],[]⟩=pure ([p0,p1,p2,p3,p4].zip [a0,a1,a2,a3,a4]):=by intros;rfl):Cn x qn st [p0,p1,p2,p3,p4]:=λkV doc pm an cd ct=>vc λ_=>vc λ_=>vc λ_=>vc λ_=>vc λ_=>v0 (h _ _ _ _ _ _ _ _ _ _ _)
theorem ya{x qn:Str}{st:Stmt}{p0 p1 p2 p3 p4 p5:Str}(h:∀(kV doc pm:Value)(an:Ra)(cd ct:Value)(a0 a1 a2 a3 a4 a5:Value),bindArgs (W.fnOf x qn (cf st) (bh st) (aw st) .none kV doc pm an cd ct) ⟨[a0,a1,a2,a3,a4,a5],[]⟩=pure ([p0,p1,p2,p3,p4,p5].zip [a0,a1,a2,a3,a4,a5]):=by intros;rfl):Cn x qn st [p0,p1,p2,p3,p4,p5]:=λkV doc pm an cd ct=>vc λ_=>vc λ_=>vc λ_=>vc λ_=>vc λ_=>vc λ_=>v0 (h _ _ _ _ _ _ _ _ _ _ _ _)
theorem Sy{x qn:Str}{st:Stmt}{p0 p1 p2 p3 p4 p5 p6:Str}(h:∀(kV doc pm:Value)(an:Ra)(cd ct:Value)(a0 a1 a2 a3 a4 a5 a6:Value),bindArgs (W.fnOf x qn (cf st) (bh st) (aw st) .none kV doc pm an cd ct) ⟨[a0,a1,a2,a3,a4,a5,a6],[]⟩=pure ([p0,p1,p2,p3,p4,p5,p6].zip [a0,a1,a2,a3,a4,a5,a6]):=by intros;rfl):Cn x qn st [p0,p1,p2,p3,p4,p5,p6]:=λkV doc pm an cd ct=>vc λ_=>vc λ_=>vc λ_=>vc λ_=>vc λ_=>vc λ_=>vc λ_=>v0 (h _ _ _ _ _ _ _ _ _ _ _ _ _)
theorem Ck{N P:TY}{sc:Scope}(h1:sc.kind=.function:=by rfl)(h2:sc.isCoroutine=false:=by rfl)(h3:sc.isGenerator=false:=by rfl)(h4:N.Nodup:=by exact II)(h5:N.take P.length=P:=by rfl)(h6:∀x∈P,sc.names.lookup x=some .local\/sc.names.lookup x=some .cell:=by exact II) (h7:∀y∈sc.names,y.2≠.free:=by exact II):bD N P sc:=⟨h1,h2,h3,h4,h5,h6,h7⟩
theorem QY(l:TY)(h:l.Nodup:=by exact II):List.Nodup l:=h
section
variable{prog:Program}{w:World}{A:Around}{E:YY}{s:Shared}
theorem vk(hl:s.heap.IsTuple l vs.toArray)
  (h:Q vs {s with heap:=(s.heap.push<|seqObj "list" #[] 0).update s.heap.objs.size (Obj.mapSeq (·++vs.toArray))}) (hsz:vs.length<=sizeLine) :
  wpAny (model prog w) A (collect<|.ref l) Q E s:=by
 obtain⟨o,ho,hc,n,hd⟩:=id hl;unfold collect;refine bx<|wpAny_runValue<|Jq entry_proto_collect' ?_;show wpAny _ _ (do again (.builtin "list.__iadd__" ⟨[<-newList [],.ref l],[]⟩)) _ _ s;refine bx<|wpAny_newList<|Zx ⟨Code.quiet_builtin _ (by decide +kernel),Jq entry_list_iadd' ?_⟩;show wpAny _ _ (Builtin.List.listExtendWith (.ref s.heap.objs.size) (.ref l)<|.ref s.heap.objs.size) _ _ {s with heap:=s.heap.push (seqObj "list" #[] 0)};unfold Builtin.List.listExtendWith;have G1:(s.heap.push<|seqObj "list" #[] 0).get? l=some o:=Wm _ ho;refine bx<|GP (T:="tuple") ⟨o,G1,hc⟩ ?_;have ht:(Value.type "tuple" == Value.type "tuple")=true:=by rfl
 rw[Zh (by rw[ht];simp)];refine bx<|listItems_at G1 hd ?_;refine bx<|listItems_at (xs:=#[]) (n:=0) (Zv _ rfl) rfl ?_;rw[Y4 T2];refine bx<|listUpdate_at (xs:=#[]) (n:=0) (Zv _ rfl) rfl ?_ (Hr _) (by show (#[]++vs.toArray).size<=sizeLine+1;simp only[Array.size_append,List.size_toArray,List.length_nil];lia);refine Zx ?_;show wpAny (model prog w) A (do
  let o <-load s.heap.objs.size
  match o.data with|.seq xs _=>pure xs.toList|_=>unsupported "internal:collect") Q E {s with heap:=(s.heap.push<|seqObj "list" #[] 0).update s.heap.objs.size (Obj.mapSeq (·++vs.toArray))}
 refine bx<|wpAny_load (get?_update_seq (Zv _ rfl) _) ?_;show wpAny _ _ (pure ((#[]:Array Value)++vs.toArray).toList) Q E _;rw[show ((#[]:Array Value)++vs.toArray).toList=vs by simp];exact Zx h
theorem uK(hl:s.heap.IsTuple l vs.toArray)(hI:IntsAre vs ns)(Y8:vs.length<64)
  (h:∀(out:Array Value)(G3:Zw),IntsAre out.toList G3->G3.Perm ns->G3.Pairwise (·<=·)->Q (.ref<|s.heap.objs.size+1) {s with heap:=sortedAll s.heap vs out}) :
  wpAny (model prog w) A (call (.builtin "sorted") [.ref l]) Q E s:=by
 refine Calls.call_function_entry kind_sorted plain_sorted entry_sorted (args_sorted1 _) ?_;unfold Builtin.«sorted»;refine bx (m:=checkCount "sorted" 1 1 _)<|Zx ?_;refine bx<|vk hl ?_ (by rw[tC];lia);refine bx<|wpAny_newList ?_;have hsz:((s.heap.push<|seqObj "list" #[] 0).update s.heap.objs.size<|Obj.mapSeq (·++vs.toArray)).objs.size=s.heap.objs.size+1:=by rw[Heap.size_update,size_push']
 have hoL:(((s.heap.push<|seqObj "list" #[] 0).update s.heap.objs.size<|Obj.mapSeq (·++vs.toArray)).push<|seqObj "list" vs.toArray 0).get? (s.heap.objs.size+1)=some (seqObj "list" vs.toArray 0):=by rw[<-hsz];exact Zv _ rfl
 show wpAny _ _ _ _ _ {s with heap:=((s.heap.push<|seqObj "list" #[] 0).update s.heap.objs.size<|Obj.mapSeq (·++vs.toArray)).push (seqObj "list" vs.toArray 0)};rw[hsz];refine bx<|RL<|XA slot_list_sort ⟨_,hoL,rfl⟩ entry_list_sort (list_sort_tree hoL hI Y8 λout G3 a1 a2 a3=>⟨_,rfl,?_⟩)<|args_list_sort _;exact Zx ⟨_,rfl,h out G3 a1 a2 a3⟩
end
abbrev rz:Zg:=[.type "ValueError",.type "Exception",.type "BaseException",.type "object"]
theorem HC{K:Frag}{h:Heap}{C:Addr}{bb:Zg}{nid:String}(gu:K.In h)(q:W.excIn K C bb nid=true) : ∃bm N nm qn bs hd sn sub ab col dd k0 k1 k2 k3 k5 mN,h.get? C=some (excClassObj nm qn C N bs bm hd sn sub ab col dd k0 k1 k2 k3 k5 nid)/\h.Ns N mN/\mN "__init__" = none/\OwnTail h bb bm:=by
 revert q;unfold W.excIn;cases hl:K.lookup C with
 |none=>intro q;cases q|some o=>
  intro q;obtain⟨cl,dd,data,sl⟩:=o;split at q;rename_i Y3 cd T8 e;injection e with e;injection e with e1 e2 e3 e4;subst e1 e2 e3 e4;split at q;rename_i C' bm k0 k1 k2 k3 nn k5 hm hs;simp only[Bool.and_eq_true,beq_iff_eq,Bool.not_eq_true'] at q;obtain⟨⟨⟨⟨⟨z1,z2⟩,z3⟩,z4⟩,z5⟩,z6⟩:=q;subst z1 z2;cases cd with
  |mk nm bs mro ns qn hd sn sub ab col del=>
   dsimp only at hm z3 z5 z6;subst hm z3;have HV:sl=#[k0,k1,k2,k3,some<|.builtin nn,k5]:=by cases sl with|mk l=>exact congrArg Array.mk hs
   subst HV;exact⟨bm,ns,nm,qn,bs,hd,sn,sub,ab,col,dd,k0,k1,k2,k3,k5,_,gu _ _ hl,.of_isNs<|W.isNs_of_in gu z5,W.nsMap_none_of_in gu z5 z6,W.tail_of_in gu z4⟩
  cases q;cases q
structure G8(K:Frag)(C:Addr):Prop where
 ga:W.findIn K (.ref C) "__getattribute__" = some (some<|.builtin "BaseException.__getattribute__")
 gh:W.findIn K (.ref C) "__getattr__" = some none
 mb:W.mroIn K C (.type "BaseException")=some true
 mo:W.mroIn K C (.type "object")=some true
section
variable{prog:Program}{w:World}{A:Around}{E:YY}{s:Shared}{K:Frag}{e C:Addr}{oe:Obj}{od:Option Obj}{name:Str}
theorem Q2L{tk:Tok}{r:Builtin.ObjectAttr.Found}{Q:PySem.Fin->Shared->Prop}(gu:K.In s.heap)(I:W.InstAt s.heap e oe C od)(hf:W.findObj K C od name=some r)
  (h:match r with|.value v=>Q (.done<|.ret v) s|.bind g a=>wpAny (model prog w) A (call g [a,.ref e,.ref C]) (λv s'=>Q (.done<|.ret v) s') E s|_=>False) :
  wpAny (model prog w) A (Builtin.«object.__getattribute__» ⟨[.ref e,.str name tk],[]⟩) Q E s:=by
 obtain⟨hh,gg,d,t,os⟩:=s;have L0:=I.type (M:=model prog w);have L1:=W.looks_find (M:=model prog w) gu I hf;unfold Builtin.«object.__getattribute__»;refine bx<|Zx ?_;refine bx<|Zx ?_;refine bx<|L0.at<|bx<|L1.at ?_;cases r with|value v=>exact Zx h|bind g a=>show wpAny _ _ (holding [a] (call g [a,.ref e,.ref C]) >>= ret) _ _ _;exact bx (RL<|P9 h (λv s' z=>Zx z) λ_ _ z=>z)|missing=>exact h.elim
theorem Kk{tk:Tok}{Q:Unit->Shared->Prop}(gu:K.In s.heap)(I:W.InstAt s.heap e oe C od)(k:G8 K C)(h:Q () s):wpAny (model prog w) A (checkBuiltinCall "BaseException.__getattribute__" ⟨[.ref e,.str name tk],[]⟩) Q E s:=by
 obtain⟨hh,gg,d,t,os⟩:=s;have L0:=I.type (M:=model prog w);have L1:=W.looks_mroIn (M:=model prog w) gu k.mb;have hk:builtinKind "BaseException.__getattribute__" = some .slot:=by decide +kernel
 have PT:splitId "BaseException.__getattribute__" = some ("BaseException","__getattribute__"):=by decide +kernel
 have ha:=PySem.F.args_bexc_ga (.ref e)<|.str name tk;simp only[checkBuiltinCall,hk,PT];refine bx ?_;unfold isInstance;refine bx<|L0.at<|L1.at ?_;repeat (first|assumption|wp_step)
theorem YD{tk:Tok}{fill ex:Bool}{r:Builtin.ObjectAttr.Found}{Q:YY}(gu:K.In s.heap)(I:W.InstAt s.heap e oe C od)(k:G8 K C)(hf:W.findObj K C od name=some r)
  (h:match r with|.value v=>wpAny (model prog w) A (handedOut v) Q E s|.bind g a=>wpAny (model prog w) A.in1 (call g [a,.ref e,.ref C]) (λv s'=>wpAny (model prog w) A (handedOut v) Q E s') (λ_ _=>False) s|_=>False) :
  wpAny (model prog w) A (getAttrBy (.ref e) (.str name tk) fill ex) Q E s:=by
 obtain⟨hh,gg,d,t,os⟩:=s;have L0:=I.type (M:=model prog w);have L1:=W.looks_findIn (M:=model prog w) gu k.ga;have L2:=W.looks_findIn (M:=model prog w) gu k.gh;have f3:=PySem.F.excAttr_ValueError.ga.bind<|.ref e;unfold getAttrBy;refine RL<|bx<|L0.at<|bx<|L1.at ?_;have hx0:(ex&&onTheHeap (Value.builtin "BaseException.__getattribute__"))=false:=by cases ex<;>rfl
 dsimp only;rw[Y4 (by rw[show (Value.builtin "BaseException.__getattribute__" == Value.builtin "object.__getattribute__")=false by decide +kernel];simp)];unfold getAttrByItsOwn hookBefore;refine bx ?_;rw[Zh<|show onTheHeap (Value.ref C)=true from rfl];refine L2.at ?_;refine bx<|J6<|RL ?_;unfold callGetattribute;rw[hx0,Y4 Xc];unfold boundAndCalled;rw[f3];refine bx<|Zx ?_;refine wpAny_call<|codeAny_call_builtin PySem.F.excAttr_ValueError.ga.plain PySem.F.entry_bexc_ga<|Kk gu I k<|Q2L gu I hf ?_;cases r with|value v=>exact h|bind g a=>exact P9 h (λv s' z=>z) λ_ _ z=>z.elim|missing=>exact h.elim
def Ko(e C:Addr)(h:Heap):Prop:=∃oe od,W.InstAt h e oe C od
structure G7(K:Frag)(C:Addr):Prop extends G8 K C where
 cl:W.isClsIn K C=true
 fc:W.findIn K (.ref C) "__class__" = some (some<|.builtin "object.__class__")
theorem ED(k:G7 K C)(hn:W.specialIn K (.builtin "object.__class__") "__get__" = some (some<|.builtin "getset_descriptor.__get__"))(TV:W.takesIn K (.builtin "object.__class__")=some true) : W.KitX K (.ref e) (.ref C) (Ko e C) where
 ty:=λ_ _ _ ⟨_,_,I⟩=>I.type
 it:=λ_ _ gu _=>by have z:(W.clsIn K C).isSome=true:=k.cl;unfold W.clsIn at z;split at z;rename_i ho;intro A' Q' E' s' kk q;unfold isType loadHead;exact bx<|wpAny_loadPart (kk _ _<|gu _ _ ho)<|Zx q;cases z
 ne:=λh tp dd aY n sl gu htp=>by refine Bool.eq_false_iff.mpr λq=>?_;have z:(W.clsIn K C).isSome=true:=k.cl;cases Value.ref.inj (beq_iff_eq.mp q);unfold W.clsIn at z;split at z;rename_i ho;have y:=(gu _ _ ho).symm.trans htp;cases y;cases z
 ca:=λ{prog w A E Q s} gu ⟨oe,od,I⟩ h=>by
  have hf:W.findObj K C od "__class__" = some (.bind (.builtin "getset_descriptor.__get__")<|.builtin "object.__class__"):=by obtain⟨cd,hc⟩:=Option.isSome_iff_exists.mp<|show (W.clsIn K C).isSome=true from k.cl;unfold W.findObj;simp[hc,k.fc,hn,TV]
  unfold getAttr? getAttrBy?;refine bx<|wpAny_mkText<|bx<|J6 ?_;refine YD (s:={s with toks:=s.toks+1}) gu I k.1 hf ?_;exact wpAny_call (W.class_get (s:={s with toks:=s.toks+1}) gu I k.mo<|W.handed_on rfl<|Zx h)
end
open PySem.W (Looks)
section
variable{prog:Program}{w:World}{A:Around}{E:YY}{s:Shared}{K:Frag}{e C D:Addr}{oe:Obj}{b:Bool}
structure A3(K:Frag)(D:Addr):Prop where
 ty:W.typeIn K (.ref D)=some (.type "type")
 cl:W.isClsIn K D=true
 mb:W.mroIn K D (.type "BaseException")=some true
theorem Q1N{M:Model}{h:Heap}(gu:K.In h)(cl:(W.clsIn K D).isSome=true):W.Looks M h (isType<|.ref D) true:=by unfold W.clsIn at cl;split at cl;rename_i ho;intro A' Q' E' s' kk q;unfold isType loadHead;exact bx<|wpAny_loadPart (kk _ _<|gu _ _ ho)<|Zx q;cases cl
theorem sM{Q:Bool->Shared->Prop}(gu:K.In s.heap)(k:A3 K D)(he:s.heap.get? e=some oe)(hc:oe.cls=.ref C)(hm:W.mroIn K C (.ref D)=some b)(h:Q b s):wpAny (model prog w) A (excMatches (.ref e)<|.ref D) Q E s:=by
 obtain⟨hh,gg,d,t,os⟩:=s;have L1:=W.looks_typeIn (M:=model prog w) gu k.ty;have L2:=Q1N (M:=model prog w) gu k.cl;have L3:=W.looks_mroIn (M:=model prog w) gu k.mb;have L4:=W.looks_mroIn (M:=model prog w) gu hm;have L0:W.Looks (model prog w) hh (typeOf<|.ref e) (.ref C):=hc ▸ (W.Looks.ld he).andThen .now;have f:=tc_notTuple;unfold excMatches isExcClass isInstance;refine bx<|bx<|L1.at ?_;refine IB f ?_;repeat (first|lk|wp_step)
 cases b<;>(repeat (first|exact h|lk|wp_step))
end
section
variable{X:Cx}{EX:XE}{e a b:Expr}{fa fb fe:M D}{pos p pT:Pos}{x c:Str}
structure Uo(K:Frag)(mg:MG)(t:Value)(subs:Ju):Prop where
 sp:W.specialIn K (.builtin "object.__class__") "__get__" = some (some<|.builtin "getset_descriptor.__get__")
 tk:W.takesIn K (.builtin "object.__class__")=some true
 ex:∀p∈subs,∃D,mg p.1=some (.ref D)/\G7 K D/\W.kitOne K (.ref D) t=some p.2
end
open PySem.W (Looks)
noncomputable def zw:Zg->Bool|.ref _::r=>zw r|l=>l == rz
theorem sA(self:Value):∀{l:Zg},zw l=true->refuseLoop self "__setattr__" l=pure ()|[],e=>by cases e|v::r,e=>by cases v with|ref c=>rw[refuseLoop_ref];exact sA self e|_=>rw[show _::r=rz from beq_iff_eq.mp e];exact PySem.F.store_ValueError.passes self
theorem Dt:∀{l:Zg},zw l=true->l.contains (.type "object")=true|[],e=>by cases e|v::r,e=>by cases v with|ref c=>rw[List.contains_cons,Dt (l:=r) e,Bool.or_true]|_=>rw[show _::r=rz from beq_iff_eq.mp e];decide
def Ds(K:Frag)(C:Addr):Bool:=(W.clsIn K C).any λcd=>zw cd.mro
section
variable{prog:Program}{w:World}{A:Around}{R:Result->Shared->Prop}{E:YY}{s:Shared}{K:Frag}{x e C dx:Addr}{name:Str}{v:Value}
theorem sv{ox:Obj}{od:Option Obj}{tk:Tok}{r:IW}(X:K.In s.heap)(I:W.InstAt s.heap x ox C od)(hp:Ds K C=true)(ht:W.takerIn K C name=some r)
  (h:∀b,wpAny (model prog w) A.in1 (match r with|some a=>Builtin.ObjectAttr.setByDescriptor a (.ref x) v|none=>Builtin.ObjectAttr.storeInOwnDict (.ref x) (.ref C) (.str name tk) name v b) (λfin s'=>match fin with|.done f=>R (.ok f) s'|.again c'=>c'.quiet=true/\codeAny (model prog w) A c' R s') (λe s'=>R (.error e) s') s) :
  codeAny (model prog w) A (.call (.builtin "object.__setattr__") ⟨[.ref x,.str name tk,v],[]⟩) R s:=by
 have SF:=PySem.F.store_object;obtain⟨cd,hc,ho⟩:=W.any_some hp;have ne:cd.mro.isEmpty=false:=by cases q:cd.mro with|nil=>rw[q] at ho;cases ho|cons _ _=>rfl
 have sub:Looks (model prog w) s.heap (isInstance (.ref x)<|.type "object") true:=I.type.andThen<|W.looks_mroIn X (by unfold W.mroIn;rw[hc,Option.bind_some,Y4 (by rw[ne];decide),Dt ho]);refine codeAny_call_builtin SF.slot.plain SF.entry<|@W.check_slot (model prog w) _ _ s "object.__setattr__" "object" "__setattr__" (.ref x) [.str name tk,v] [] _ SF.kind SF.split sub (SF.args (.ref x) (.str name tk) v) ?_;obtain⟨attr,ha,hr⟩:=Option.bind_eq_some_iff.mp ht;have hm:Looks (model prog w) s.heap (mroOf<|.ref C) cd.mro:=(W.looks_clsIn X hc).andThen .now;have L3:Looks (model prog w) s.heap (Builtin.ObjectAttr.storeTaker? attr) r:=by cases attr with|none=>cases hr;exact .now|some a=>obtain⟨b,hb,rfl⟩:=Option.map_eq_some_iff.mp hr;refine(W.looks_takesIn X hb).andThen ?_;cases b<;>exact .now
 rw[W.osa_eq,refuse_eq];refine bx<|bx<|I.type.here<|bx<|hm.here ?_;rw[sA _ ho];refine Zx<|bx<|I.type.here<|bx<|(W.looks_findIn X ha).here<|bx<|L3.here ?_;exact h _
structure sQ(K:Frag)(C:Addr)(f:Str):Prop where
 sa:W.findIn K (.ref C) "__setattr__" = some (some<|.builtin "object.__setattr__")
 ov:Ds K C=true
 na:W.findIn K (.ref C) f=some none
 hd:W.hasDictIn K C=true
theorem sQ.AX{f:Str}(k:sQ K C f):W.takerIn K C f=some none:=by unfold W.takerIn;rw[k.na];rfl
theorem Tp{vs:Array Value}{sl:Array (Option Value)}{ns:TY}{mA:Str->IW}{Q:Unit->Shared->Prop}(X:K.In s.heap)(hx:s.heap.get? x=some ⟨.ref C,some dx,.fields vs,sl⟩)(hn:s.heap.Ns1 dx mA)(GY:dx≠x)(k:sQ K C name)
  (hw:PySem.Within mA ns) (hsz:ns.length<=sizeLine)
  (h:∀h',h'.get? x=some ⟨.ref C,some dx,.fields vs,sl⟩->h'.Ns1 dx (λy=>if y=name then some v else mA y)->Heap.SameBut dx s.heap h'->Q () {s with heap:=h',toks:=s.toks+2}) :
  wpAny (model prog w) A (setAttr (.ref x) name v) Q E s:=by
 obtain⟨od,ho,hl⟩:=mW hn;have J:W.InstAt s.heap x ⟨.ref C,some dx,.fields vs,sl⟩ C (some od):=⟨hx,rfl,rfl,ho⟩;refine W.set_plain X J k.sa<|sv (s:={s with toks:=s.toks+1}) (r:=none) X J k.ov k.AX λb=>?_;obtain⟨cd,hc,vR⟩:=W.any_some k.hd;refine bx<|Zx<|bx<|bx<|wpAny_loadPart hx<|bx<|W.Looks.here (s:={s with toks:=s.toks+1}) (W.looks_clsIn X hc) ?_;rw[vR];refine Zx (a:=some dx)<|bx<|Zx<|bx ?_;refine wpAny_nsSet1 (s:={s with toks:=s.toks+1}) hn λh' TU kT=>?_;obtain⟨oD,esD,epD,Wb,VU,VR⟩:=TU.count<|PySem.Within.cons name v hw;refine bx<|wpAny_lookBehind Wb (by rw[VU];exact pastItsLine_dict<|HJ VR (by rw[F4];lia)) ?_;exact Zx (h _ ((kT.2 _<|JL GY).trans hx) TU kT)
theorem Q2v{vs:Array Value}{sl:Array (Option Value)}{Q:Unit->Shared->Prop}(X:K.In s.heap)(hx:s.heap.get? x=some ⟨.ref C,none,.fields vs,sl⟩)(k:sQ K C name)
  (h:∀h',h'.get? x=some ⟨.ref C,some s.heap.objs.size,.fields vs,sl⟩->h'.Ns1 s.heap.objs.size (λy=>if y=name then some v else none)->(∀b o,b≠x->s.heap.get? b=some o->h'.get? b=some o)->Q () {s with heap:=h',toks:=s.toks+2}) :
  wpAny (model prog w) A (setAttr (.ref x) name v) Q E s:=by
 have J:W.InstAt s.heap x ⟨.ref C,none,.fields vs,sl⟩ C none:=⟨hx,rfl,rfl,trivial⟩;refine W.set_plain X J k.sa<|sv (s:={s with toks:=s.toks+1}) (r:=none) X J k.ov k.AX λb=>?_;obtain⟨cd,hc,vR⟩:=W.any_some k.hd;refine bx<|Zx<|bx<|bx<|wpAny_loadPart hx<|bx<|W.Looks.here (s:={s with toks:=s.toks+1}) (W.looks_clsIn X hc) ?_;rw[vR];have Nc:(s.heap.push {cls:=.type "dict",data:=.dict #[]}).get? x=some ⟨.ref C,none,.fields vs,sl⟩:=Wm _ hx;have Zc:x≠s.heap.objs.size:=Rb<|Hz hx;dsimp only;refine bx<|wpAny_alloc' ?_;refine bx<|wpAny_update' Nc ?_;refine Zx ?_;have hgd:((s.heap.push {cls:=.type "dict",data:=.dict #[]}).update x λo=>{cls:=o.cls,dict:=some s.heap.objs.size,data:=o.data,slots:=o.slots}).get? s.heap.objs.size=some {cls:=.type "dict",data:=.dict #[]}:=
  (Heap.get?_update_ne _ _ _ _ Zc.symm).trans (Heap.get?_push_at rfl rfl)
 have Y9:((s.heap.push {cls:=.type "dict",data:=.dict #[]}).update x λo=>{cls:=o.cls,dict:=some s.heap.objs.size,data:=o.data,slots:=o.slots}).Ns s.heap.objs.size (λ_=>none):=⟨_,#[],_,hgd,rfl,λe he=>absurd he T2,λ_=>rfl⟩;refine bx<|Zx<|bx<|wpAny_nsSet1 (s:={s with heap:=_,toks:=s.toks+1}) (Heap.Ns1.of_empty Y9) λh' rg hs=>?_;obtain⟨oD,esD,epD,Wb,VU,VR⟩:=rg.count<|PySem.Within.cons name v PySem.Within.nil;refine bx<|wpAny_lookBehind Wb (by rw[VU];exact pastItsLine_dict<|HJ VR (by rw[F4,List.length_nil,tC];lia)) ?_;refine Zx<|h h' ?_ rg λb ob hbx hb=>?_;exact(hs.2 x Zc).trans<|Xs _ Nc rfl;exact(hs.2 b<|Rb<|Hz hb).trans ((Heap.get?_update_ne _ _ _ _ hbx).trans<|Wm _ hb)
end
def OV(K:Frag)(mg:MG)(cs:TY)(f:Str):Prop:=∀c∈cs,∃C,mg c=some (.ref C)/\G8 K C/\W.findIn K (.ref C) f=some none/\W.hasDictIn K C=true
structure G9(K:Frag)(C fI:Addr):Prop where
 ex:∃bm N nm qn bs hd sn sub ab col dd k0 k1 k2 k3 k5,K.lookup C=some (excClassObj nm qn C N bs bm hd sn sub ab col dd k0 k1 k2 k3 k5 "ValueError.__new__")/\W.nsOkIn K N=true/\W.nsIn K N "__init__" = some (some<|.ref fI)/\W.tailIn K rz bm=true
 fn:W.isFn K (.ref fI)=true
theorem we{K:Frag}{h:Heap}{N:Addr}{x:Str}{v:Value}(X:K.In h)(e:W.nsOkIn K N=true)(q:W.nsIn K N x=some (some v)):h.nsMap N x=some v:=by obtain⟨o,es,ep,ho,hd,_,hf⟩:=Heap.Ns.of_isNs<|W.isNs_of_in X e;unfold W.nsIn at q;split at q;rename_i c d Pk n' sl q';have:=X _ _ q';rw[ho] at this;cases this;cases hd;split at q;rename_i en he;cases q;rw[<-hf];unfold nsFind findBy;rw[<-Array.find?_toList,he];rfl;split at q<;>cases q;cases q
structure eV(k:Nat)(A:Around):Prop where
 dp:A.depth+3*k+5<recursionLimit
 un:A.units+16*k+200<cLine
theorem eV.of{k n:Nat}{A:Around}{v:IW}(r:bE n A)(h:k<=n):eV k (A.mark v):=⟨by have:=r.dp;show A.depth+3*k+5<_;lia,by have:=r.un;show A.units+16*k+200<_;lia⟩
theorem eV.deeper{k:Nat}{A:Around}(r:eV (k+1) A)(env:Env):eV k (A.deeper env):=⟨by have:=r.dp;show A.depth+1+3*k+5<_;lia,by have:=r.un;show A.units+3+16*k+200<_;lia⟩
theorem eV.depth{k:Nat}{A:Around}(r:eV k A):A.depth<recursionLimit:=by have:=r.dp;lia
section
variable{pg:Program}{wd:World}{A:Around}{R:Result->Shared->Prop}{It:Addr}{fp wr:xW}{n:Nat}{P:Nat->Value->Prop}{Z:Nat->Heap->Prop}{dv:Value}
theorem Be(a d:Value):argsOk "max" ⟨[a],[("default",d)]⟩:=by unfold argsOk;kernel_rfl
theorem jQ:(toString "max" ++ toString ".loop" : String)="max.loop" := by decide
theorem Q0d(W:Walks pg wd A.in1 It fp wr n P Z)(bt:Nat->Nat->Bool)(cm:CmpOf pg wd A.in1 .Gt P bt)(S:Addr)(nS:S∉fp) :
  ∀(m i:Nat)(t:Shared)(best:Value)(cap:Nat),n-(i+1)=m->i+1<=n->Z (i+1) t.heap->P (argBest bt i) best ->
  t.heap.get? S=some {cls:=.type "list",dict:=none,data:=.seq #[best,best] cap,slots:=#[]} ->
  (∀v g tk,P (argBest bt<|n-1) v->(∀b o,b∉wr->b≠S->t.heap.get? b=some o->g.get? b=some o)->R (.ok<|.ret v) {t with heap:=g,toks:=tk}) ->
  codeAny (model pg wd) A (.builtin "max.loop" ⟨[.ref It,.none,.ref S],[("default",dv)]⟩) R t:=by
 have nw:S∉wr:=λq=>nS<|W.sub _ q;intro m;induction m with|zero=>intro i t best cap e1 e2 hz hb hS fin;have en:i+1=n:=WR;refine Jq Dh ?_;rw[B0 Pd _];refine bx (m:=seqItems?<|.ref S)<|Xy hS rfl ?_;refine bx (m:=tryCatch (pyNext<|.ref It) _)<|Js<|W.done t _ _ (en ▸ hz) λg tk kp=>?_;have M3:=kp S _ nw hS;refine bx (m:=updateSeq S (λ_=>#[]))<|QR M3 rfl<|bx<|O7<|Zx ?_;exact fin best _ tk (by rw[<-en];exact hb) λb o q1 q2 z=>(UM _ _<|JL q2).trans (kp b o q1 z)|succ m ih=>intro i t best cap e1 e2 hz hb hS fin;have lt:i+1<n:=WR;refine Jq Dh ?_;rw[B0 Pd _];refine bx (m:=seqItems?<|.ref S)<|Xy hS rfl ?_;refine bx (m:=tryCatch (pyNext<|.ref It) _)<|Js<|W.item (i+1) t _ _ lt hz λv g tk hv Zd kp=>?_;have M3:=kp S _ nw hS;refine bx (m:=tryCatch (holding [v,v]<|richCompare .Gt v best >>= _) _)<|Js<|RL<|bx<|cm (i+1) (argBest bt i) v best _ _ _ hv hb ?_;refine bx<|RL<|U7<|bx<|O7<|Zx ?_;cases q:bt (i+1) (argBest bt i) with|true=>simp only[if_true];refine bx<|QR M3 rfl<|bx<|O7 ?_;rw[jQ];refine Zx ⟨F2 Pd _,ih (i+1) _ v _ WR lt (W.frame _ _ _ Zd λb mb o z=>(UM _ _ (λw:S=b=>nS (by rw[w];exact mb))).trans z) (by simp only[argBest,q,if_true];exact hv) (Xs _ M3 rfl) λv2 g2 Yi y1 y2=>?_⟩;exact fin v2 g2 Yi y1 λb o q1 q2 z=>y2 b o q1 q2 ((UM _ _<|JL q2).trans<|kp b o q1 z)|false=>simp only[Bool.false_eq_true,if_false];refine bx<|O7 ?_;rw[jQ];exact Zx ⟨F2 Pd _,ih (i+1) _ best cap WR lt Zd (by simp only[argBest,q,Bool.false_eq_true,if_false];exact hb) M3 λv2 g2 Yi y1 y2=>fin v2 g2 Yi y1 λb o q1 q2 z=>y2 b o q1 q2<|kp b o q1 z⟩
theorem yd(W:Walks pg wd A.in1 It fp wr n P Z)(bt:Nat->Nat->Bool)(cm:CmpOf pg wd A.in1 .Gt P bt)(S:Addr)(nS:S∉fp)(hz:Z 0 t.heap)
  (hS:t.heap.get? S=some {cls:=.type "list",dict:=none,data:=.seq #[] cap,slots:=#[]})
  (fin:∀v g tk,(n=0/\v=dv\/0<n/\P (argBest bt<|n-1) v)->(∀b o,b∉wr->b≠S->t.heap.get? b=some o->g.get? b=some o)->R (.ok<|.ret v) {t with heap:=g,toks:=tk}) :
  codeAny (model pg wd) A (.builtin "max.loop" ⟨[.ref It,.none,.ref S],[("default",dv)]⟩) R t:=by
 have nw:S∉wr:=λq=>nS<|W.sub _ q;refine Jq Dh ?_;rw[B0 Pd _];refine bx (m:=seqItems?<|.ref S)<|Xy hS rfl ?_;by_cases hn:0<n;refine bx (m:=tryCatch (pyNext<|.ref It) _)<|Js<|W.item 0 t _ _ hn hz λv g tk hv Zd kp=>?_;have M3:=kp S _ nw hS;refine bx (m:=updateSeq S (λ_=>#[v,v]))<|QR M3 rfl ?_;rw[jQ];refine Zx ⟨F2 Pd _,Q0d W bt cm S nS _ 0 _ v _ rfl hn (W.frame _ _ _ Zd λb mb o z=>(UM _ _ (λw:S=b=>nS (by rw[w];exact mb))).trans z) hv (Xs _ M3 rfl) λv2 g2 Yi y1 y2=>?_⟩;exact fin v2 g2 Yi (.inr ⟨hn,y1⟩) λb o q1 q2 z=>y2 b o q1 q2<|(UM _ _<|JL q2).trans<|kp b o q1 z;have n0:n=0:=WR;refine bx (m:=tryCatch (pyNext<|.ref It) _)<|Js<|W.done t _ _ (n0 ▸ hz) λg tk kp=>?_;exact bx (WU<|Zx<|fin dv g tk (.inl ⟨n0,rfl⟩) λb o q1 _ z=>kp b o q1 z)
end
noncomputable def mx(a b:Int):Int:=if a<b then b else a
theorem zh(ns:Zw):∀k,k<ns.length->argBest (λi j=>decide<|ns.getD i 0 > ns.getD j 0) k<=k/\ns.getD (argBest (λi j=>decide<|ns.getD i 0 > ns.getD j 0) k) 0=((ns.drop 1).take k).foldl mx (ns.getD 0 0)
|0,_=>⟨TC _,by simp[argBest]⟩|k+1,h=>by
 obtain⟨i1,i2⟩:=zh ns k WR;have e:((ns.drop 1).take<|k+1).foldl mx (ns.getD 0 0)=mx (((ns.drop 1).take k).foldl mx<|ns.getD 0 0) (ns.getD (k+1) 0):=by
  rw[List.take_succ,List.foldl_append];have:(ns.drop 1)[k]?=some (ns.getD (k+1) 0):=by rw[List.getElem?_drop,show 1+k=k+1 by lia];simp[h]
  rw[this];rfl
 rw[e,<-i2];have st:argBest (λi j=>decide<|ns.getD i 0 > ns.getD j 0) (k+1)=if decide (ns.getD (k+1) 0 > ns.getD (argBest (λi j=>decide<|ns.getD i 0 > ns.getD j 0) k) 0)=true then k+1 else argBest (λi j=>decide<|ns.getD i 0 > ns.getD j 0) k:=rfl
 rw[st];generalize argBest (λi j=>decide<|ns.getD i 0 > ns.getD j 0) k=m at *;by_cases q:ns.getD (k+1) 0 > ns.getD m 0;rw[Pj q,Zh rfl];exact⟨TC _,by unfold mx;rw[Zh q]⟩;rw[Zq q,Y4 (by decide)];exact⟨WR,by unfold mx;rw[Y4 q]⟩
theorem vg(i:Int)(is:Zw):(i::is).getD (argBest (λa b=>decide<|(i::is).getD a 0 > (i::is).getD b 0)<|(i::is).length-1) 0=is.foldl mx i:=by rw[(zh (i::is) ((i::is).length-1) T2).2];simp
section
variable{pg:Program}{wd:World}{A:Around}{E:YY}{s:Shared}
theorem Q0Z{id:String}{b:Builtin}{args:Zg}{kw:List (Str×Value)}{Q:YY}(k0:builtinKind id=none)(p0:plainId id=true)(e0:entryFor table id=some b)(a0:argsOk id ⟨args,kw⟩)
  (go:wpAny (model pg wd) A.in1 (b ⟨args,kw⟩) (λfin s'=>match fin with|.done f=>(match (Except.ok f:Result) with|.ok (.ret v)=>Q v s'|.ok _=>False|.error e=>E e s')|.again c'=>c'.quiet=true/\codeAny (model pg wd) A c' (λr s'=>match r with|.ok (.ret v)=>Q v s'|.ok _=>False|.error e=>E e s') s') E s) :
  wpAny (model pg wd) A (call (.builtin id) args kw) Q E s:=by
 refine wpAny_call<|codeAny_call_builtin p0 e0 ?_;simp only[checkBuiltinCall,k0];cases q:Manifest.signature? id with
 |none=>exact Zx go|some sig=>
  have h2:Bind.checkArgs id sig ⟨args,kw⟩=pure ():=by simpa only[argsOk,q] using a0
  simp only[h2];exact Zx go
theorem Bi(hh:A.handled=none)(hl:s.heap.IsTuple q aY.toArray)(hi:IntsAre aY ns)
  (h:∀v h' tk,(ns=[]/\v=dv\/∃i is t,ns=i::is/\v=.int (is.foldl mx i) t)->(∀b o,s.heap.get? b=some o->h'.get? b=some o)->Q v {s with heap:=h',toks:=tk}) :
  wpAny (model pg wd) A (call (.builtin "max") [.ref q] [("default",dv)]) Q E s:=by
 refine Q0Z PySem.F.kind_max PySem.F.plain_max PySem.F.entry_max (Be _ _) ?_;refine bx (m:=Builtin.Builtins.bindParams "max" ["key","default"] 0 ⟨[],[("default",dv)]⟩)<|IB (show _=pure [none,some dv] from rfl) ?_;refine bx<|Zx<|bx<|xB hl ?_;have lt:q<s.heap.objs.size:=by obtain⟨o,e,_⟩:=hl;exact Hz e
 have vals:∀i v,aY.toArray[i]?=some v->∃t,v=Value.int (ns.getD i 0) t:=λi v e=>by
  have e':aY[i]?=some v:=by simpa using e
  clear e h hl;induction hi generalizing i with|nil=>simp at e'|cons n t hr ih=>cases i with|zero=>simp at e';exact⟨t,by simp[<-e']⟩|succ i=>exact ih i (by simpa using e')
 have W:=Walks.tuple (prog:=pg) (w:=wd) (A:=A.in1) hh s.heap.objs.size q (Rb lt) aY.toArray;refine bx<|D7 ?_;have hsz:(s.heap.push {cls:=.type "tuple_iterator",data:=.fields #[.ref q,.int 0 0]}).objs.size=s.heap.objs.size+1:=rj ..;rw[jQ];refine Zx ⟨F2 Pd _,yd W _ (CmpOf.ints_gt (λi=>ns.getD i 0) vals) _ ?_ (cap:=0) ?_ ?_ λv g tk hv kp=>?_⟩;intro hm;rw[hsz] at hm;simp at hm;rw[<-hm] at lt;exact Fw _<|Nat.lt_of_succ_lt lt;exact⟨⟨_,Wm _<|Zv _ rfl,rfl,rfl⟩,(hl.push _).push _⟩;exact Zv _ rfl;have WE:aY.length=ns.length:=by clear h hl vals W hv kp;induction hi with|nil=>rfl|cons n t hr ih=>simp[ih]
 refine h v g tk ?_ λb o e=>kp b o ?_ ?_<|Wm _<|Wm _ e;rcases hv with ⟨h0,rfl⟩|⟨h0,hv⟩
 refine .inl ⟨?_,rfl⟩;have:aY.length=0:=by simpa using h0
 exact List.length_eq_zero_iff.mp WR;obtain⟨t,e⟩:=vals _ _ hv;cases ns with
 |nil=>simp at h0;rw[WE] at h0;simp at h0|cons i is=>
  refine .inr ⟨i,is,t,rfl,?_⟩;rw[e,<-vg i is];have:aY.toArray.size-1=(i::is).length-1:=by rw[<-WE];simp
  rw[this]
 have:=Hz e;intro hm;have z:b=s.heap.objs.size:=by simpa using hm
 rw[z] at this;exact Fw _ this;have:=Hz e;intro z;rw[z,hsz] at this;exact Fw _ (Nat.lt_of_succ_lt this)
end
theorem wO(t:Addr)(items:Array Value)(n:Nat)(sl:Array (Option Value))(dd:Ra)(x:Value)(e:Value->Bool)(he:∀y,y∈items->MeetsSeq.EqGives y x (e y))(j:Nat)(hj:j<items.size)(hit:e items[j]=true)(M9:∀m (hm:m<items.size),m<j->e items[m]=false) : Meets (Builtin.«tuple.index» ⟨[.ref t,x],[]⟩) (λ_ R s=>s.heap.get? t=some {cls:=.type "tuple",dict:=dd,data:=.seq items n,slots:=sl}/\R (.ok<|.ret<|.int j s.toks) {s with toks:=s.toks+1}):=by
 intro prog w A R s h;obtain⟨hp,g,d,tk,os⟩:=s;obtain⟨hl,h⟩:=h
 wp_walk using wpAny_loadPart' hl
 have key:wpAny (model prog w) A.in1 (forIn (m:=Sem) ([:min items.size items.size]:Std.Legacy.Range) ((none,()):Option PySem.Fin×Unit) (λ(i:Nat)(__s:Option PySem.Fin×Unit)=>match items[i]? with
   |some y=>do
    let b <-eqBool y x
    if b=true then do
     let r <-retInt ((i:Nat):Int)
     pure (ForInStep.done (some r,()))
    else pure (ForInStep.yield (none,()))
   |x=>pure<|ForInStep.yield (none,()))) (λa s'=>a.1=some (.done<|.ret<|.int j tk)/\s'=⟨hp,g,d,tk+1,os⟩) (λe s'=>R (.error e) s') ⟨hp,g,d,tk,os⟩:=by
  rw[Std.Legacy.Range.forIn_eq_forIn_range'];simp only[Std.Legacy.Range.size,Nat.sub_zero,Nat.add_sub_cancel,Nat.div_one,Nat.min_self];refine wpAny_forIn_list _ (λrest b s'=>∃i,s'=⟨hp,g,d,tk,os⟩/\rest=List.range' i (items.size-i)/\i<=j) _ ?_ ?_ _ _ ⟨0,rfl,T2,Hr _⟩;rintro x' rest b s' ⟨i,rfl,hr,hi⟩;have e1:items.size-i=(items.size-(i+1))+1:=WR;rw[e1,List.range'_succ] at hr;injection hr with h1 h2;subst h1;have dQ:x'<items.size:=WR;rw[show items[x']?=some items[x'] by simp[dQ]];refine bx<|he _ (Array.getElem_mem dQ) prog w _ _ _ _ ?_;by_cases hij:x'=j;subst hij;rw[hit]
  wp_walk
  exact⟨rfl,rfl⟩;rw[M9 x' dQ WR]
  wp_walk
  exact⟨_,rfl,h2,WR⟩;rintro b s' ⟨i,rfl,hr,hi⟩;have e1:items.size-i=(items.size-(i+1))+1:=WR;rw[e1,List.range'_succ] at hr;cases hr
 exact P9 key (λa s' ⟨h1,h2⟩=>by obtain⟨a1,a2⟩:=a;cases h1;subst h2;exact Zx h) λ_ _ z=>z
section
variable{X:Cx}{EX:XE}{o e:Expr}{es:WK}{to:TE}{t:TA}{name:Str}{TX bM:Pos}{T id:String}{r:V->List V->Hp->VK->Prop}{fo fe:M D}
theorem nsS{ds:Y5}{y d:D}(h:Bw ds y=some d):∃ns k,ds=List.map D.int ns/\y=.int k/\k∈ns/\d=.int (ns.idxOf k:Nat):=by
 unfold Bw at h;cases q:bT ds with
 |none=>rw[q] at h;cases h|some ns=>
  rw[q] at h;cases y with
  |int k=>
   dsimp only at h;split at h;rename_i hk;cases h;refine⟨ns,k,?_,rfl,hk,rfl⟩;clear hk;induction ds generalizing ns with
   |nil=>cases q;rfl|cons d ds ih=>
    cases d with
    |int i=>simp only[bT] at q;cases q2:bT ds with|none=>rw[q2] at q;cases q|some ms=>rw[q2] at q;cases q;rw[BE,<-ih ms q2]
    |_=>cases q
   cases h
  |_=>cases h
end
section
variable{X:Cx}{EX:XE}{L:Lc}{e a b c value:Expr}{fa fb fe fk fv:M D}{pos:Pos}{x:Str}{to ti tv:TE}
theorem boot_dict:bootBuiltins "dict" = some (.type "dict"):=by kernel_rfl
end
section
variable{X:Cx}{EX:XE}{L:Lc}{e a b:Expr}{fa fb fe:M D}{pos p:Pos}{c1 c2:Str}
structure Un(K:Frag)(mg:MG)(c1 c2:Str)(subs:Ju):Prop where
 sp:W.specialIn K (.builtin "object.__class__") "__get__" = some (some<|.builtin "getset_descriptor.__get__")
 tk:W.takesIn K (.builtin "object.__class__")=some true
 ex:∃C1 C2,mg c1=some (.ref C1)/\mg c2=some (.ref C2)/\∀p∈subs,∃D,mg p.1=some (.ref D)/\Hd K D/\W.kitAny K (.ref D) [.ref C1,.ref C2]=some p.2
end
structure Uh(K:Frag)(mg:MG)(c m:Str)(C f:Addr):Prop where
 mg:mg c=some (.ref C)
 sp:W.specialIn K (.ref C) "__getattribute__" = some (some<|.builtin "type.__getattribute__")
 rd:W.readsIn K C (.type "type")=true
 fi:W.findCls K (.ref C) (.type "type") m=some (.val<|.ref f)
 kp:W.keepIn K (.ref f)=true
structure G6 where
 f:Nat->Addr
 d:Nat->FuncData
 g:Nat->Addr
 e:Nat->FuncData
 c:Nat->Addr
abbrev u4:=Str×Stmt×List Str
abbrev Cr:=Str×Str×Str×Bool×Stmt×List Str
structure Hh where
 b:List Str
 n:List (Str×D)
 t:List (Str×List (Str×D)×List Str)
 d:List u4
 m:List Cr
 k:List Str
 f:List (Str×List Str)
 a:List Str
 i:List (Str×List (Str×Bool))
 j:List (Str×Str×List (Str×Bool))
structure Cq(K:Frag)(mg:MG)(c x qn:Str)(bs:Bool)(st:Stmt)(ps:TY)(C f:Addr)(fd:FuncData):Prop where
 fu:GR K x qn st f fd
 bi:Binds K fd ps []
 gm:mg c=some (.ref C)
 cls:OR K C
 me:Meth K C x f
 mke:x="__init__" -> Mk K C f
 ba:bs=true->Uh K mg c x C f
structure Txt(L:Hh)(w:World)(K:Frag)(mg:MG)(a:G6):Prop where
 b:∀(i:Nat) {x} (_:L.b[i]?=some x:=by rfl),mg x=none
 n:∀(i:Nat) {x d} (_:L.n[i]?=some (x,d):=by rfl),Ri mg x d
 t:∀(i:Nat) {x t ab} (_:L.t[i]?=some (x,t,ab):=by rfl),Hg w K mg x t ab
 d:∀(i:Nat) {x st ps} (_:L.d[i]?=some (x,st,ps):=by rfl),sO K mg x st ps (a.f i) (a.d i)
 m:∀(i:Nat) {c x qn bs st ps} (_:L.m[i]?=some (c,x,qn,bs,st,ps):=by rfl),Cq K mg c x qn bs st ps (a.c i) (a.g i) (a.e i)
 f:∀(i:Nat) {f cs} (_:L.f[i]?=some (f,cs):=by rfl),Ha K mg cs f
 i:∀(i:Nat) {c su} (_:L.i[i]?=some (c,su):=by rfl),Um K mg c su
 j:∀(i:Nat) {c1 c2 su} (_:L.j[i]?=some (c1,c2,su):=by rfl),Un K mg c1 c2 su
def Uv(K:Frag)(q:Addr):TY->Prop|[]=>True|x::l=>W.nsIn K q x=some none/\Uv K q l
def YS(K:Frag):List (Str×D)->Prop|[]=>True| (x,d)::l=>(∃v,W.nsIn K mainGlobals x=some (some v)/\cY d v)/\YS K l
def YU(K:Frag)(q:Addr):List (Str×D)->Prop|[]=>True| (x,d)::l=>(∃v,W.nsIn K q x=some (some v)/\qY K d v)/\YU K q l
def YT(w:World)(K:Frag):List (Str×List (Str×D)×List Str)->Prop|[]=>True| (x,t,ab)::l=>(∃(q:Addr)(es:Array DictEntry)(n:Nat),W.nsIn K mainGlobals x=some (some<|.ref q)/\(q == sysModules)=false/\K.lookup q=some ⟨.type "dict",none,.dict es n,#[]⟩/\W.KeysLit w.params es.toList/\YU K q t/\Uv K q ab)/\YT w K l
def Uk(K:Frag):List u4->Prop|[]=>True| (x,st,_)::l=>(∃f,DH K x st f)/\Uk K l
structure rlB(K:Frag)(c x qn:Str)(bs:Bool)(st:Stmt)(C f:Addr):Prop where
 n:W.nsIn K mainGlobals c=some (some<|.ref C)
 i:W.findIn K (.ref C) x=some (some<|.ref f)
 fn:W.isFn K (.ref f)=true
 m:DM K x qn st f
 mke:W.makesIn K C=true
 kc:W.keepIn K (.ref C)=true
 ba:bs=true->W.specialIn K (.ref C) "__getattribute__" = some (some<|.builtin "type.__getattribute__")/\W.readsIn K C (.type "type")=true/\W.findCls K (.ref C) (.type "type") x=some (.val<|.ref f)
def Ur(K:Frag):List Cr->Prop|[]=>True| (c,x,qn,bs,st,_)::l=>(∃C f,rlB K c x qn bs st C f)/\Ur K l
def Ui(K:Frag):TY->Prop|[]=>True|c::l=>(∃C,W.nsIn K mainGlobals c=some (some<|.ref C)/\OR K C)/\Ui K l
def YH(K:Frag):TY->Prop|[]=>True|c::l=>(∃C,W.nsIn K mainGlobals c=some (some<|.ref C)/\Hd K C)/\YH K l
def Us(K:Frag)(f:Str):TY->Prop|[]=>True|c::l=>(∃C,W.nsIn K mainGlobals c=some (some<|.ref C)/\W.findIn K (.ref C) f=some none)/\Us K f l
def YL(K:Frag):List (Str×List Str)->Prop|[]=>True| (f,cs)::l=>Us K f cs/\YL K l
def Up(K:Frag)(C:Addr):Ju->Prop|[]=>True| (c,b)::l=>(∃D,W.nsIn K mainGlobals c=some (some<|.ref D)/\W.kitOne K (.ref D) (.ref C)=some b)/\Up K C l
def YN(K:Frag):List (Str×List (Str×Bool))->Prop|[]=>True| (c,su)::l=>(∃C,W.nsIn K mainGlobals c=some (some<|.ref C)/\Up K C su)/\YN K l
def Uq(K:Frag)(C C':Addr):Ju->Prop|[]=>True| (c,b)::l=>(∃D,W.nsIn K mainGlobals c=some (some<|.ref D)/\W.kitAny K (.ref D) [.ref C,.ref C']=some b)/\Uq K C C' l
def YO(K:Frag):List (Str×Str×List (Str×Bool))->Prop|[]=>True| (c,c',su)::l=>(∃C C',W.nsIn K mainGlobals c=some (some<|.ref C)/\W.nsIn K mainGlobals c'=some (some<|.ref C')/\Uq K C C' su)/\YO K l
def YI:List u4->Prop|[]=>True| (x,st,ps)::l=>Cn x x st ps/\YI l
def YJ:List Cr->Prop|[]=>True| (_,x,qn,_,st,ps)::l=>Cn x qn st ps/\YJ l
noncomputable def Hh.oH(L:Hh):Bool:=L.f.all (λp=>p.2.all λc=>L.k.elem c)&&L.m.all (λr=>L.k.elem r.1)&&L.i.all (λp=>p.2.all λq=>L.a.elem q.1)&&L.j.all (λp=>p.2.2.all λq=>L.a.elem q.1)
section
variable{K:Frag}{mg:MG}{h:Heap}{w:World}
theorem Uv.at:∀{l:TY},Uv K q l->∀{x},x∈l->W.nsIn K q x=some none|_::_,⟨h,t⟩,_,m=>by cases m with|head=>exact h|tail _ m=>exact t.at m
theorem YS.at:∀{l:List (Str×D)},YS K l->∀{x d},(x,d)∈l->∃v,W.nsIn K mainGlobals x=some (some v)/\cY d v|_::_,⟨h,t⟩,_,_,m=>by cases m with|head=>exact h|tail _ m=>exact t.at m
theorem YU.at:∀{l:List (Str×D)},YU K q l->∀p∈l,∃v,W.nsIn K q p.1=some (some v)/\qY K p.2 v|_::_,⟨h,t⟩,_,m=>by cases m with|head=>exact h|tail _ m=>exact t.at _ m
theorem YT.at(X:K.In h)(G:h.Ns mainGlobals mg){l:List (Str×List (Str×D)×List Str)}(n:YT w K l){x t ab}(m:(x,t,ab)∈l):Hg w K mg x t ab:=by induction l with|nil=>cases m|cons a l ih=>obtain⟨⟨q,es,n,h1,h2,h3,h4,h5,h6⟩,tl⟩:=n;cases m with|head=>exact⟨⟨q,es,n,BN X G h1,h2,h3,h4,Gi h5.at,λk hk=>h6.at hk⟩⟩|tail _ m=>exact ih tl m
theorem Ui.at:∀{l:TY},Ui K l->∀{c C},c∈l->W.nsIn K mainGlobals c=some (some<|.ref C)->OR K C|_::_,⟨⟨D,h,k⟩,t⟩,_,_,m,e=>by cases m with|head=>rw[h] at e;cases e;exact k|tail _ m=>exact t.at m e
theorem YH.at:∀{l:TY},YH K l->∀{c C},c∈l->W.nsIn K mainGlobals c=some (some<|.ref C)->Hd K C|_::_,⟨⟨D,h,k⟩,t⟩,_,_,m,e=>by cases m with|head=>rw[h] at e;cases e;exact k|tail _ m=>exact t.at m e
theorem Us.at:∀{l:TY},Us K f l->∀{c},c∈l->∃C,W.nsIn K mainGlobals c=some (some<|.ref C)/\sV K C f|_::_,⟨h,t⟩,_,m=>by cases m with|head=>exact h|tail _ m=>exact t.at m
theorem YL.at:∀{l:List (Str×List Str)},YL K l->∀{f cs},(f,cs)∈l->Us K f cs|_::_,⟨h,t⟩,_,_,m=>by cases m with|head=>exact h|tail _ m=>exact t.at m
theorem Up.at:∀{l:Ju},Up K C l->∀p∈l,∃D,W.nsIn K mainGlobals p.1=some (some<|.ref D)/\W.kitOne K (.ref D) (.ref C)=some p.2|_::_,⟨h,t⟩,_,m=>by cases m with|head=>exact h|tail _ m=>exact t.at _ m
theorem YN.at:∀{l:List (Str×List (Str×Bool))},YN K l->∀{c su},(c,su)∈l->∃C,W.nsIn K mainGlobals c=some (some<|.ref C)/\Up K C su|_::_,⟨h,t⟩,_,_,m=>by cases m with|head=>exact h|tail _ m=>exact t.at m
theorem Uq.at:∀{l:Ju},Uq K C C' l->∀p∈l,∃D,W.nsIn K mainGlobals p.1=some (some<|.ref D)/\W.kitAny K (.ref D) [.ref C,.ref C']=some p.2|_::_,⟨h,t⟩,_,m=>by cases m with|head=>exact h|tail _ m=>exact t.at _ m
theorem YO.at:∀{l:List (Str×Str×List (Str×Bool))},YO K l->∀{c c' su},(c,c',su)∈l->∃C C',W.nsIn K mainGlobals c=some (some<|.ref C)/\W.nsIn K mainGlobals c'=some (some<|.ref C')/\Uq K C C' su|_::_,⟨h,t⟩,_,_,_,m=>by cases m with|head=>exact h|tail _ m=>exact t.at m
theorem Uk.is(X:K.In h)(G:h.Ns mainGlobals mg):∀{l:List u4},Uk K l->YI l->∃ps:List (Addr×FuncData),∀(i:Nat) {x st qs},l[i]?=some (x,st,qs)->sO K mg x st qs (ps.getD i default).1 (ps.getD i default).2|[],_,_=>⟨[],λi _ _ _ e=>by simp at e⟩|_::_,⟨⟨f,d⟩,t⟩,⟨b,bs⟩=>by obtain⟨ps,hp⟩:=Uk.is X G t bs;obtain⟨fd,D⟩:=d.is X G b;refine⟨(f,fd)::ps,λi _ _ _ e=>?_⟩;cases i with|zero=>simp only[List.getElem?_cons_zero,Option.some.injEq,Prod.mk.injEq] at e;obtain⟨rfl,rfl,rfl⟩:=e;exact D|succ i=>exact hp i (by simpa using e)
theorem Ur.is(X:K.In h)(G:h.Ns mainGlobals mg)(C:Ui K ks):∀{l:List Cr},Ur K l->YJ l->(∀r∈l,r.1∈ks)->∃ps:List (Addr×Addr×FuncData),∀(i:Nat) {c x qn bs st qs},l[i]?=some (c,x,qn,bs,st,qs)->Cq K mg c x qn bs st qs (ps.getD i default).1 (ps.getD i default).2.1 (ps.getD i default).2.2|[],_,_,_=>⟨[],λi _ _ _ _ _ _ e=>by simp at e⟩|_::_,⟨⟨c,f,d⟩,t⟩,⟨b,bs⟩,hk=>by obtain⟨ps,hp⟩:=Ur.is X G C t bs λr hr=>hk r<|SY _ hr;obtain⟨fd,F,B⟩:=d.m.is b;refine⟨(c,f,fd)::ps,λi _ _ _ _ _ _ e=>?_⟩;cases i with|zero=>simp only[List.getElem?_cons_zero,Option.some.injEq,Prod.mk.injEq] at e;obtain⟨rfl,rfl,rfl,rfl,rfl,rfl⟩:=e;have m:=BN X G d.n;refine⟨F,B,m,C.at (hk _ TL) d.n,⟨d.i,d.fn,d.m.k⟩,λe=>⟨d.mke,?_,d.fn,d.kc⟩,λe=>⟨m,(d.ba e).1,(d.ba e).2.1,(d.ba e).2.2,d.m.k⟩⟩;rw[<-e];exact d.i|succ i=>exact hp i (by simpa using e)
theorem Q07(X:K.In h)(G:h.Ns mainGlobals mg)(oH:L.oH=true)(bd:YI L.d)(bm:YJ L.m)(hb:Uv K mainGlobals L.b)(hn:YS K L.n)(ht:YT w K L.t)(hd:Uk K L.d)(hc:Ui K L.k)(hm:Ur K L.m)(hf:YL K L.f)(ha:YH K L.a)(hi:YN K L.i)(hj:YO K L.j)(sp:W.specialIn K (.builtin "object.__class__") "__get__" = some (some<|.builtin "getset_descriptor.__get__")) (tk:W.takesIn K (.builtin "object.__class__")=some true):∃a:G6,Txt L w K mg a:=by simp only[Hh.oH,Bool.and_eq_true,List.all_eq_true,List.elem_eq_contains,List.contains_iff_mem] at oH;obtain⟨⟨⟨f1,f2⟩,f3⟩,f4⟩:=oH;obtain⟨ps,hp⟩:=hd.is X G bd;obtain⟨qs,hq⟩:=hm.is X G hc bm f2;refine⟨⟨λi=>(ps.getD i default).1,λi=>(ps.getD i default).2,λi=>(qs.getD i default).2.1,λi=>(qs.getD i default).2.2,λi=>(qs.getD i default).1⟩,λi x e=>W.mg_none_of X G (hb.at<|Ct e),λi x d e=>?_,λi x t ab e=>ht.at X G (Ct e),hp,hq,λi f cs e c Ec=>?_,λi c su e=>?_,λi c c' su e=>?_⟩;obtain⟨v,e1,e2⟩:=hn.at<|Ct e;exact⟨v,BN X G e1,e2⟩;have m:=Ct e;obtain⟨C,e1,e2⟩:=(hf.at m).at Ec;exact⟨C,BN X G e1,hc.at (f1 _ m c Ec) e1,e2⟩;have m:=Ct e;obtain⟨C,e1,e2⟩:=hi.at m;refine⟨sp,tk,C,BN X G e1,λp hp=>?_⟩;obtain⟨D,e3,e4⟩:=e2.at p hp;exact⟨D,BN X G e3,ha.at (f3 _ m p hp) e3,e4⟩;have m:=Ct e;obtain⟨C,C',e1,e1',e2⟩:=hj.at m;refine⟨sp,tk,C,C',BN X G e1,BN X G e1',λp hp=>?_⟩;obtain⟨D,e3,e4⟩:=e2.at p hp;exact⟨D,BN X G e3,ha.at (f4 _ m p hp) e3,e4⟩
theorem sO.law{x p:Str}{st:Stmt}{f:Addr}{fd:FuncData}(d:sO K mg x st [p] f fd)(c:∀(kV doc pm:Value)(an:Ra)(cd ct:Value)(s:Shared)(v:Value),BindsTo s (W.fnOf x x (cf st) (bh st) (aw st) .none kV doc pm an cd ct) ⟨[v],[]⟩ [(p,v)]) (s:Shared) (v:Value):BindsTo s fd ⟨[v],[]⟩ [(p,v)]:=by obtain⟨oc,od,kV,doc,pm,an,j3,ct,RT,rfl,lk,jI⟩:=d.fu.ex;exact c _ _ _ _ _ _ s v
end
abbrev aA:=Str×List Bool×Fn
structure Tc where
 N:List Str
 sc:Scope
 ow:List Str
 dc:List Str
 fz:List (Nat×Nat)
 ds:List aA
 ms:List (Str×aA)
 ks:List aA
 L:Hh
 tx:List (Str×D)
 st:Stmt
noncomputable def gd{α:Type}(b:Bool)(o:Option α):Option α:=cond b o none
section
variable{α β:Type}{o o':Option α}{k:α->Option β}{f:α->β}{r:β}{C:Prop}
theorem nn{a:α}(h:none=some a):C:=by cases h
theorem fb(h:false=true):C:=by cases h
theorem ob(h:o.bind k=some r)(q:∀a,o=some a->k a=some r->C):C:=by cases o with|none=>cases h|some a=>exact q a rfl h
theorem om(h:(o.bind λa=>some<|f a)=some r)(q:∀a,o=some a->f a=r->C):C:=by cases o with|none=>cases h|some a=>exact q a rfl (JY h)
theorem oc{a:α}(h:cond b o o'=some a)(q:b=true->o=some a->C)(q':o'=some a->C):C:=by cases b with|true=>exact q rfl h|false=>exact q' h
theorem og{a:α}(h:gd b o=some a)(q:b=true->o=some a->C):C:=oc h q nn
theorem oa(h:(a&&b)=true)(q:a=true->b=true->C):C:=by rw[Ss] at h;exact q h.1 h.2
theorem ne(h:(!a)=true):a=false:=by cases a<;>first|rfl|cases h
theorem ct{x:Str}{l:TY}(h:l.contains x=true):x∈l:=List.contains_iff_mem.mp h
theorem lk{a:α}{l:List (Str×α)}(h:l.lookup x=some a):(x,a)∈l:=Fh h
end
noncomputable def xF(x:Str):TY->WC->Option Nat|y::l,i::is=>cond (y == x) (some i) (xF x l is)|_,_=>none
noncomputable def nums:WC:=[0,1,2,3,4,5,6,7,8,9,10,11,12,13,14,15,16,17,18,19,20,21,22,23,24,25,26,27,28,29,30,31,32,33,34,35,36,37,38,39,40,41,42,43,44,45,46,47,48,49,50,51,52,53,54,55,56,57,58,59,60,61,62,63]
def Eu(x:Str)(l:TY):Option Nat:=(xF x l nums).bind λi=>gd (l[i]? == some x) (some i)
theorem oV(h:Eu x l=some i):l[i]?=some x:=ob h λj _ h=>og h λq h=>by cases h;exact eq_of_beq q
def Wr:Option NameKind->Nat|some .local=>1|some .cell=>2|some .free=>3|_=>0
def S5(sc:Scope)(x:Str):Bool:=Wr (sc.names.lookup x) != 0
def EI(sc:Scope)(x:Str):Bool:=Wr (sc.names.lookup x) == 1||Wr (sc.names.lookup x) == 2
theorem Ey(h:Wr k=n):n=0\/k=some .local/\n=1\/k=some .cell/\n=2\/k=some .free:=by unfold Wr at h;split at h<;>subst h;exact .inr<|.inl ⟨rfl,rfl⟩;exact .inr<|.inr<|.inl ⟨rfl,rfl⟩;exact .inr<|.inr<|.inr rfl;exact .inl rfl
theorem Ka(h:S5 sc x=true):pH sc x:=by rcases Ey (k:=sc.names.lookup x) rfl with e|e|e|e;unfold S5 at h;rw[e] at h;cases h;exact .inl e.1;exact .inr<|.inl e.1;exact .inr (.inr e)
theorem Ag(h:EI sc x=true):Loc sc x:=by rcases Ey (k:=sc.names.lookup x) rfl with e|e|e|e;unfold EI at h;rw[e] at h;cases h;exact .inl e.1;exact .inr e.1;unfold EI at h;rw[e] at h;cases h
noncomputable def okN(x:Str):Bool:=!(x == ("__debug__" : Str))&&!(x == ("__classdict__" : Str))
def slot(c:Tc)(x:Str):Option Nat:=gd (S5 c.sc x&&okN x) (Eu x c.N)
noncomputable def isGl(sc:Scope)(x:Str):Bool:=sc.names.lookup x == some .globalImplicit
def Dg(c:Tc)(x:Str):Bool:=isGl c.sc x&&okN x
def TF(c:Tc)(x:Str):Bool:=isGl c.sc x&&c.L.b.contains x
noncomputable def Cf:Expr->Option Str|.Name x _=>some x|_=>none
noncomputable def aa9:Expr->Option Str|.Name x _=>some x|.Attribute _ f _=>some f|_=>none
theorem ij(h:Cf e=some x):∃p,e=.Name x p:=by cases e with|Name=>cases h;exact⟨_,rfl⟩|_=>exact nn h
def isOw(c:Tc)(e:Expr):Bool:=(Cf e).any c.ow.contains
def isDc(c:Tc)(e:Expr):Bool:=(aa9 e).any c.dc.contains
noncomputable def isS(x:Str):D->Bool|.str y=>y == x|_=>false
noncomputable def Vg(g:Nat->Str):TY->WC->List (Str×D)|x::l,i::is=>(x,.str<|g i)::Vg g l is|_,_=>[]
def cD(c:Tc):Const->Option D|.none=>some .aQ|.bool b=>some (.bl b)|.int i=>some (.int i)|.str x=>(c.tx.lookup x).bind λd=>gd (isS x d) (some d)|_=>none
def unD:UnaryOp->Option (D->Y1)|.USub=>some yi|_=>none
def BL:Operator->Option (D->D->Y1)|.Add=>some aV|.Sub=>some jv|.Mult=>some um|.Mod=>some fM|.FloorDiv=>some rW|_=>none
def Y0:CmpOp->Option (D->D->Y1)|.Lt=>some ltI|.LtE=>some EG|.Gt=>some HK|.GtE=>some TM|.Eq=>some eh|.NotEq=>some jo|.Is=>some isND|.In=>some (inD false)|_=>none
abbrev mw:=Expr->Option (M D)
abbrev Hi:=Expr->Option (M Bool)
noncomputable def tL(E:mw):WK->Option (List<|M D)|[]=>some []|e::es=>(E e).bind λf=>(tL E es).bind λl=>some (f::l)
def tA(c:Tc)(E:mw):Qg->WK->Option (List VP.Arg)|[],[]=>some []|false::fl,e::es=>(E e).bind λf=>(tA c E fl es).bind λl=>some (.val f::l)|true::fl,e::es=>(Cf e).bind λx=>(slot c x).bind λj=>(tA c E fl es).bind λl=>some (.io j::l)|_,_=>none
noncomputable def tO(E:mw):Option Expr->Option (Option<|M D)|none=>some none|some e=>(E e).bind λz=>some (some z)
def tR(c:Tc)(E:mw)(e:Expr):Option (M D):=cond (isOw c e) ((Cf e).bind λx=>(slot c x).bind λz=>some<|xg z) (E e)
def Rz(c:Tc)(E:mw)(a b:Expr):Option (M D):=cond (isOw c a) ((Cf a).bind λx=>(slot c x).bind λj=>(E b).bind λg=>some<|jm j g) ((E a).bind λf=>(E b).bind λg=>cond (isDc c a) (some<|m2 Bk f g)<|some<|m2 aj f g)
def tX(c:Tc)(E:mw)(a b:Expr):Option (M D):=match b with|.Slice lo hi none _=>(E a).bind λf=>(tO E lo).bind λl=>(tO E hi).bind λh=>some (EY g6 f l h)|.Slice _ _ _ _=>none|b=>Rz c E a b
def tN(c:Tc)(E:mw)(x:Str):WK->Option (M D)|[a]=>cond (x == "int") ((E a).bind λf=>some<|mF intD [f]) ((tR c E a).bind λf=>(cond (x == "len") (some cw)<|cond (x == "tuple") (some iM)<|cond (x == "list") (some eX)<|cond (x == "all") (some<|oC true)<|cond (x == "any") (some<|oC false)<|cond (x == "sum") (some F8)<|gd (x == "sorted")<|some sG).bind λg=>some<|m1 g f)|[a,b]=>cond (x == "isinstance") ((Cf b).bind λk=>gd (Dg c k)<|(tR c E a).bind λf=>(c.L.i.lookup k).bind λsu=>some<|m1 (dg su) f) (gd (x == "max")<|(E a).bind λf=>(E b).bind λg=>some<|mF maxD [f,g])|_=>none
def F5(c:Tc)(E:mw)(x:Str)(es:WK):Option (M D):=gd (Dg c x) (match c.ds.lookup x with|some (fl,g)=>(tA c E fl es).bind λas=>some (au g as)|none=>match c.ks.lookup x with|some (fl,g)=>(tA c E fl es).bind λas=>some (n6 x g as)|none=>gd (c.L.b.contains x)<|tN c E x es)
def Q1K(c:Tc)(E:mw)(x:Str):WK->Option (M D)|[]=>none|e::es=>F5 c E x (e::es)
def tM(c:Tc)(E:mw)(o:Expr)(m:Str)(ap pos:Pos):WK->Option (M D)|[]=>none|e::es=>gd (ap.endLine == pos.line&&decide (es.length<20)) ((c.ms.lookup m).bind λq=>match q with| (k,fl,g)=>(E o).bind λfo=>(tA c E fl (e::es)).bind λas=>some<|gR k m g fo as)
def tK(E:mw)(a:Expr):List CmpOp->WK->Option (M D)|[o],[b]=>(E a).bind λf=>(E b).bind λg=>(Y0 o).bind λd=>some (m2 d f g)|[o,o'],[b,b']=>(E a).bind λf=>(E b).bind λg=>(E b').bind λh=>(Y0 o).bind λd=>(Y0 o').bind λd'=>some (IC d d' f g h)|_,_=>none
def C8(B:Hi)(o:BoolOp):WK->Option (M Bool)|[]=>none|[a]=>B a|a::l=>(B a).bind λf=>(C8 B o l).bind λg=>match o with|.And=>some (uL f g)|.Or=>some (Gg f g)
def J5(E:mw)(o:BoolOp):WK->Option (M D)|[]=>none|[a]=>E a|a::l=>(E a).bind λf=>(J5 E o l).bind λg=>match o with|.And=>some (sk f g)|.Or=>some (EU f g)
def tT(E:mw):Nat->Expr->Option (M Bool)
|0,_=>none|n+1,e=>match e with
 |.UnaryOp o a _=>match o with
   |.Not=>(tT E n a).bind λz=>some (lZ z)|_=>none
  |.BoolOp o l _=>C8 (tT E n) o l|.Compare a os bs _=>(tK E a os bs).bind λz=>some (tB z)|.IfExp _ _ _ _=>none|e=>(E e).bind λz=>some (tB z)
def Bg(lb:Scope->Str->Bool)(c:Tc):WK->Option (List Nat)|[]=>some []|e::es=>(Cf e).bind λx=>gd (lb c.sc x) ((Eu x c.N).bind λi=>(Bg lb c es).bind λl=>some (i::l))
def tG(lb:Scope->Str->Bool)(c:Tc):Expr->Option (List Nat×(D->M Unit))|.Name x _=>gd (lb c.sc x) ((Eu x c.N).bind λi=>some<|([i],ao i))|.Tuple es _ _=>(Bg lb c es).bind λl=>some ((l,b8 l))|_=>none
noncomputable def isTup:Expr->Bool|.Tuple _ _ _=>true|_=>false
noncomputable def cv:Expr->Option (Expr×List Expr×Pos)|.Call g es [] p=>some (g,es,p)|_=>none
noncomputable def av:Expr->Option (Expr×Str×Pos)|.Attribute o m p=>some (o,m,p)|_=>none
noncomputable def o1:WK->Option Expr|[a]=>some a|_=>none
theorem MK(h:cv e=some (g,es,p)):e=.Call g es [] p:=by
 cases e with
 |Call _ _ ks=>cases ks with|nil=>cases h;rfl|_=>exact nn h
 |_=>exact nn h
theorem UC(h:av e=some (o,m,p)):e=.Attribute o m p:=by cases e with|Attribute=>cases h;rfl|_=>exact nn h
theorem Nv(h:o1 es=some a):es=[a]:=by cases es with|nil=>exact nn h|cons _ l=>cases l with|nil=>cases h;rfl|_=>exact nn h
def zk(e:Expr):Option (Str×List Expr):=(cv e).bind λ(g,es,_)=>(Cf g).bind λx=>some (x,es)
theorem vh(h:zk e=some (x,es)):∃p pos,e=.Call (.Name x p) es [] pos:=ob h λ⟨g,Pk,p⟩ h1 h=>ob h λx h2 h=>by cases h;obtain⟨q,e⟩:=ij h2;exact⟨q,p,e ▸ MK h1⟩
def ZC(c:Tc)(E:mw)(t:Bool)(e:Expr):Option (M<|List D):=match zk e with|some (x,[a])=>cond (x == "range") (gd (TF c x)<|(E a).bind λf=>some<|bO [f]) (cond (x == "reversed") (gd (TF c x)<|(E a).bind λz=>some<|EV z)<|cond (x == "enumerate") (gd (TF c x&&t)<|(E a).bind λf=>some<|qp [f])<|(E e).bind λz=>some<|cG z)|some (x,[a,b])=>cond (x == "zip") (gd (TF c x&&t)<|(E a).bind λf=>(E b).bind λg=>some<|ui [f,g]) ((E e).bind λz=>some<|cG z)|_=>(E e).bind λz=>some (cG z)
def JV:Expr->List Str|.Name x _=>[x]|.Tuple es _ _=>es.filterMap Cf|_=>[]
def gT:List Comprehension->List Str|[g]=>JV g.target|_=>[]
def MH(scope sc:Scope):Scope:={scope with names:=scope.names.map λ(n,k)=>if (k == NameKind.free&&sc.kind == .function&&sc.names.lookup n == some .cell) then(n,NameKind.cell) else(n,k)}
def lX(c:Tc)(scope:Scope)(ts:TY):Tc:={c with N:=(c.N.map λx=>if ts.contains x then("?r" : Str) else x)++ts++[if c.N.contains "?a" then("?b" : Str) else "?a"],sc:=MH scope c.sc}
noncomputable def abf(sc:Scope)(x:Str):Bool:=sc.names.lookup x == some .local
def okC(c:Tc)(scope:Scope)(ts:TY)(js:WC):Bool:=(scope.kind == .function&&gZ c.sc.names scope.names c.N (lX c scope ts).N)&&(decide (lX c scope ts).N.Nodup&&js.all λj=>decide (c.N.length<=j)&&decide (j<c.N.length+ts.length))
def Vy(B:Hi):WK->Option (M Bool)|[]=>some (ret true)|[t]=>B t|_=>none
noncomputable def Qi:TY->Option Nat|[_]=>some 1|[_,_]=>some 2|[_,_,_]=>some 3|_=>none
theorem Iv(h:Qi l=some n):n=l.length:=by unfold Qi at h;split at h<;>cases h<;>rfl
def J4(c:Tc)(scope:Scope)(E E':mw)(B:Hi)(elt:Expr):List Comprehension->Option (M D)
|[⟨tg,it,ifs,0⟩]=>(ZC c E (isTup tg) it).bind λi=>(tG abf (lX c scope<|JV tg) tg).bind λq=>match q with
  | (js,gf)=>(Vy B ifs).bind λt=>(E' elt).bind λf=>(Qi<|JV tg).bind λn=>gd (okC c scope (JV tg) js) (some<|aC n i gf t f)
 |_=>none
def tE:Nat->Tc->mw|0,_,_=>none|n+1,c,e=>match e with|.Name x _=>cond (Dg c x) ((c.L.n.lookup x).bind λz=>some<|mC z) ((slot c x).bind λz=>some<|aa z)|.Constant k _ _=>(cD c k).bind λz=>some (mC z)|.BinOp a o b _=>(tE n c a).bind λf=>(tE n c b).bind λg=>(BL o).bind λd=>some (m2 d f g)|.UnaryOp o a _=>(tE n c a).bind λf=>(unD o).bind λd=>some (m1 d f)|.BoolOp o l _=>J5 (tE n c) o l|.Compare a os bs _=>tK (tE n c) a os bs|.Subscript a b _=>tX c (tE n c) a b|.Tuple es _ _=>(tL (tE n c) es).bind λz=>some (bR z)|.List es _=>(tL (tE n c) es).bind λz=>some (gB z)|.Attribute a f _=>(tE n c a).bind λg=>(c.L.f.lookup f).bind λcs=>some (m1 (bq cs f) g)|.Call (.Name x _) es [] _=>Q1K c (tE n c) x es|.Call (.Attribute o m q) es [] p=>tM c (tE n c) o m q p es|.IfExp t a b _=>(tT (tE n c) n t).bind λg=>(tE n c a).bind λf=>(tE n c b).bind λh=>some (Nr g f h)|.ListComp e gs sc _=>J4 c sc (tE n c) (tE n<|lX c sc<|gT gs) (tT (tE n<|lX c sc<|gT gs) n) e gs|_=>none
noncomputable def isCmp:Expr->Bool|.Compare _ _ _ _=>true|.IfExp _ _ _ _=>true|.BoolOp _ _ _=>true|.UnaryOp _ _ _=>true|_=>false
noncomputable def isLC:Expr->Bool|.ListComp _ _ _ _=>true|_=>false
section
variable{X:Cx}{EX:XE}{c:Tc}{E:mw}{B:Hi}
theorem isTup_ok(h:isTup g=true):∃es k p,g=.Tuple es k p:=by cases g with|Tuple=>exact⟨_,_,_,rfl⟩|_=>exact fb h
end
def JU(S:Stmt->Option (M Fl)):List Stmt->Option (M Fl)|[]=>some aJ|s::l=>(S s).bind λf=>(JU S l).bind λg=>some (ai f g)
noncomputable def Vn(sc:Scope)(x:Str)(p:Pos):Expr->Bool|.ListComp _ _ s q=>sc.names.lookup x == some .local&&p.line == q.line&&!(s.names.any λ(n,k)=>n == x&&(k == .local||k == .cell))|_=>true
def Yw(c:Tc)(E:mw)(e:Expr):Option (M D):=(zk e).bind λ(x,es)=>(o1 es).bind λa=>gd (x == "list" && TF c x) ((tR c E a).bind λf=>some<|m1 eX f)
def tF(c:Tc)(E:mw)(e:Expr):Option (M D):=match e with|.List es _=>(tL E es).bind λz=>some (gB z)|.Dict [] [] _=>some (mC<|.gp [] [])|e=>Yw c E e
def X7(c:Tc)(E:mw)(e:Expr):Expr->Option (M Fl)|.Name x p=>gd (EI c.sc x&&Vn c.sc x p e) ((Eu x c.N).bind λi=>cond (c.ow.contains x) (cond (isLC e) ((E e).bind λf=>some<|gU i f)<|(tF c E e).bind λf=>some<|gU i f)<|(E e).bind λf=>some<|aO i f)|.Attribute o f _=>gd (!isLC e) ((Cf o).bind λx=>(slot c x).bind λi=>(c.L.f.lookup f).bind λcs=>cond (f == "cells") ((Yw c E e).bind λg=>some<|bY i cs f g)<|(E e).bind λg=>some<|bY i cs f g)|.Subscript o b _=>gd (!isLC e) ((Cf o).bind λx=>(slot c x).bind λi=>(E b).bind λk=>(E e).bind λg=>cond (isDc c o) (some<|AK i k g)<|some<|jr i k g)|_=>none
def X8(c:Tc)(E:mw)(e:Expr):WK->Option (M Fl)|[t]=>X7 c E e t|_=>none
def Xa(c:Tc)(E:mw)(e:Expr):Option (M Fl):=(cv e).bind λ(g,es,p)=>(av g).bind λ(o,m,ap)=>(o1 es).bind λa=>gd (m == "append" && ap.endLine == p.line) ((Cf o).bind λx=>(slot c x).bind λi=>(E a).bind λf=>some<|nv i f)
def VC(c:Tc)(l:Nat)(f:M Fl):Option (M Fl):=match c.fz.lookup l with|some i=>some (BW i f)|none=>some f
def tS(c:Tc)(E:mw)(B:Hi):Nat->Stmt->Option (M Fl)
|0,_=>none|n+1,s=>match s with
 |.Return (some e) p=>(E e).bind λf=>VC c p.line (a8 f)|.If t a b _=>(B t).bind λf=>(JU (tS c E B n) a).bind λg=>(JU (tS c E B n) b).bind λh=>some (eC f g h)|.Assign ts e p=>(X8 c E e ts).bind (VC c p.line)|.For g e b [] _=>(ZC c E (isTup g) e).bind λi=>(tG EI c g).bind λq=>match q with
   | (_,gf)=>(JU (tS c E B n) b).bind λf=>some (iQ i gf f)
  |.While t b [] _=>(B t).bind λf=>(JU (tS c E B n) b).bind λg=>some (yH f g)|.Expr e p=>(Xa c E e).bind (VC c p.line)|.Raise _ _ _=>some qG|_=>none
def ZU(c:Tc):Hi:=tT (tE 32 c) 32
def ZD(c:Tc):Stmt->Option (M Fl):=tS c (tE 32 c) (ZU c) 32
noncomputable def WI:Nat->List Stmt->List (List Stmt)|0,_=>[]|n+1,l=>l.flatMap λs=>match s with|.For _ _ b _ _=>b::WI n b|.While _ b _ _=>WI n b|.If _ a b _=>WI n a++WI n b|_=>[]
abbrev yZ(c:Tc)(j:Nat):=∀f,JU (ZD c) ((WI 9<|bh c.st).getD j [])=some f->M Fl
abbrev ZP(c:Tc)(f:M Fl):Prop:=JU (ZD c) (bh c.st)=some f
abbrev aH(c:Tc):=∀f,ZP c f->M Fl
end VS
end
section
set_option linter.all false
set_option maxRecDepth 100000
namespace WL
open PySem PySem.Spec PyProof.Rows L2 VP
abbrev MG:=Str->Option Value
def pG(K:W.Frag)(a:Addr)(d:D):Prop:=∃(t:Bool)(ds:Y5)(aY:Array Value)(n:Nat),d=(if t then .tup ds else .lst ds)/\K.lookup a=some ⟨.type<|if t then "tuple" else "list",none,.seq aY n,#[]⟩/\aY.size<=sizeLine/\Paired VS.cY ds aY.toList
open Classical in
noncomputable def G4(K:W.Frag)(a:Addr):Y1:=if h:∃d,pG K a d then some h.choose else none
structure Gb where
 prog:Program
 w:World
 K:W.Frag
 mg:MG
 base:Heap
inductive En where
 |pin (o:Obj) (d:Y1)|ow (d:D) (i:Nat)|di (a:Addr)|km (o:Obj)|d7 (o:Obj)
def En.k:Option En->Nat|some (.pin _ _)=>0|some (.ow _ _)=>1|some (.di _)=>2|some (.km _)=>3|some (.d7 _)=>4|none=>5
theorem ek{a b o:Option En}{C:Prop}(h:o=a)(q:o=b)(n:(En.k a == En.k b)=false:=by rfl):C:=by rw[<-h,<-q] at n;simp at n
theorem en{α:Type}{b:α}{C:Prop}{o:Option α}(h:o=none)(q:o=some b):C:=by subst h;cases q
theorem sj{α:Type}{a b:α}{o:Option α}(h:o=some a)(q:o=some b):b=a:=JY (q.symm.trans h)
theorem Ci{o:Option En}{d e:D}{i j:Nat}(h:o=some (.ow d i))(q:o=some (.ow e j)):e=d/\j=i:=by cases sj h q;exact⟨rfl,rfl⟩
theorem iij{o:Option En}{i j:Obj}(h:o=some (.d7 i))(q:o=some (.d7 j)):j=i:=by cases sj h q;rfl
abbrev Tm:=Addr->Option En
def upd(H:Tm)(a:Addr)(e:En):Tm:=λb=>if b=a then some e else H b
theorem az:upd H a e a=some e:=Zh rfl
theorem aD(h:b≠a):upd H a e b=H b:=Y4 h
def En.fast:En->Prop|.ow _ _=>False|.di _=>False|_=>True
def En.soft(S:Addr->Prop):En->Prop|.pin _ _=>False|.km _=>False|.di b=>S b|_=>True
def Le(H H':Tm):Prop:=∀a e,H a=some e->e.fast->H' a=some e
theorem Le.refl:Le H H:=λ_ _ e _=>e
theorem Le.trans(a:Le H H1)(b:Le H1 H2):Le H H2:=λ_ _ e f=>b _ _ (a _ _ e f) f
def j1(H H':Tm):Prop:=∀a o d,H a=some (.pin o<|some d)->H' a=some (.pin o<|some d)
theorem Le.p(l:Le H H'):j1 H H':=λ_ _ _ h=>l _ _ h trivial
def Rel(H:Tm)(v:Value):D->Prop|.aQ=>v=.none|.bl b=>v=.bool b|.int i=>∃t,v=.int i t|.str x=>∃t,v=.str x t|d=>∃a o,v=.ref a/\H a=some (.pin o<|some d)
theorem Rel.p(l:j1 H H'){d:D}(r:Rel H v d):Rel H' v d:=by cases d<;>first|exact r|exact Exists.imp (λ_=>Exists.imp λ_=>And.imp id<|l _ _ _) r
theorem Rel.le(l:Le H H'){d:D}(r:Rel H v d):Rel H' v d:=r.p l.p
abbrev aF(H:Tm):Zg->Y5->Prop:=Paired (Rel H)
theorem aF.p(l:j1 H H')(r:aF H us ds):aF H' us ds:=Paired.mono (λ_ _=>Rel.p l) r
theorem aF.le(l:Le H H')(r:aF H us ds):aF H' us ds:=r.p l.p
inductive pB(H:Tm)(h:Heap)(dx:Addr)(ns:TY)(ds:Y5):Prop|mk (fs:List (Str×Value)) (k:fs.map (·.1)=ns) (r:aF H (fs.map (·.2)) ds) (z:ns.length<=1000) (mA:MG) (n:h.Ns1 dx mA) (w:(∀f,fs.lookup f=mA f)/\PySem.Within mA ns/\∀l,mA "cells" = some (.ref l)->dx<l)
theorem pB.p(l:j1 H H')(x:pB H h dx ns ds):pB H' h dx ns ds:=by obtain⟨fs,k,r,z,mA,n,w⟩:=x;exact⟨fs,k,r.p l,z,mA,n,w⟩
def LstAt(h:Heap)(a:Addr)(aY:Array Value):Prop:=∃n,h.get? a=some {cls:=.type "list",data:=.seq aY n}
theorem LstAt.plain(x:LstAt h a aY):PlainL h a aY:=let ⟨n,e⟩:=x;⟨_,n,e,rfl,rfl,rfl⟩
theorem LstAt.at(x:LstAt h a aY)(k:∀o,h.get? a=some o->h'.get? a=some o):LstAt h' a aY:=let ⟨n,e⟩:=x;⟨n,k _ e⟩
def QJ(H:Tm)(h:Heap)(f:Bool)(a:Addr)(ns:TY)(ds:Y5):Ra->Prop|none=>ns=[]/\ds=[]|some b=>(if f then ∃o,H b=some (.pin o<|some .aQ) else H b=some (.di a))/\b≠a/\pB H h b ns ds
inductive ZV(g:Gb)(H:Tm)(h:Heap)(f:Bool)(a:Addr)(c:Str)(ns:TY)(ds:Y5):Prop|mk (C dx:Addr) (m:g.mg c=some (.ref C)) (e:h.get? a=some (W.instObj C dx)) (q:if f then ∃o,H dx=some (.pin o<|some .aQ) else H dx=some (.di a)) (ne:a=dx+1) (w:pB H h dx ns ds)
inductive ZT(g:Gb)(H:Tm)(h:Heap)(f:Bool)(a:Addr)(c:Str)(ns:TY)(ds:Y5):Prop|mk (C:Addr) (dx:Ra) (vs:Array Value) (sl:Array (Option Value)) (m:g.mg c=some (.ref C)) (e:h.get? a=some ⟨.ref C,dx,.fields vs,sl⟩) (e2:vs[2]?=some .none) (e1:f=false->vs[1]?=some .none) (q:QJ H h f a ns ds dx)
def gH(g:Gb)(H:Tm)(h:Heap)(f:Bool)(a:Addr):D->Prop|.tup ds=>f=true/\ds.length<=sizeLine/\∃us:Zg,aF H us ds/\OU h a us.toArray|.lst ds=>ds.length<=sizeLine/\∃us:Zg,aF H us ds/\LstAt h a us.toArray|.gp ks ds=>ks.length<=sizeLine/\(a == sysModules)=false/\∃(vs:List (Key×Value))(ep:Nat),vs.map (·.1)=ks/\aF H (vs.map (·.2)) ds/\h.DictAt (ie g.prog g.w) a vs ep|.ins c ns ds=>ZV g H h f a c ns ds|.fm c ns ds=>ZT g H h f a c ns ds|.aQ=>True|_=>False
def oA(g:Gb)(H:Tm)(h:Heap)(a:Addr):En->Prop|.pin o d=>h.get? a=some o/\∀e,d=some e->gH g H h true a e|.ow d i=>gH g H h false a d/\d≠.aQ|.di b=>∃o,h.get? a=some o|.km o=>∃sl,h.get? a=some {o with slots:=sl}|.d7 o=>h.get? a=some o
def pF(g:Gb)(H:Tm)(h:Heap):Prop:=∀a e,H a=some e->oA g H h a e
section
variable{g:Gb}{H H':Tm}{h h':Heap}{a:Addr}
theorem gH.at{d:D}(x:gH g H h f a d)(n:d≠.aQ):∃o,h.get? a=some o:=by cases d with|tup ds=>obtain⟨_,_,_,_,o,e,_⟩:=x;exact⟨o,e⟩|lst ds=>obtain⟨_,_,_,p⟩:=x;obtain⟨o,_,e,_⟩:=p.plain;exact⟨o,e⟩|gp ks ds=>obtain⟨_,_,_,_,_,_,o,_,e,_⟩:=x;exact⟨o,e⟩|ins c ns ds=>obtain⟨_,_,_,e,_⟩:=x;exact⟨_,e⟩|fm c ns ds=>obtain⟨_,_,_,_,_,e,_⟩:=x;exact⟨_,e⟩|aQ=>exact absurd rfl n|_=>exact x.elim
theorem oA.at{e:En}(x:oA g H h a e):∃o,h.get? a=some o:=by cases e with|pin o d=>exact⟨o,x.1⟩|ow d i=>exact x.1.at x.2|di b=>exact x|km o=>obtain⟨_,e⟩:=x;exact⟨_,e⟩|d7 o=>exact⟨o,x⟩
theorem pF.lt(x:pF g H h)(e:H a=some q):a<h.objs.size:=let ⟨_,z⟩:=(x a q e).at;Hz z
theorem pF.fresh(x:pF g H h)(e:h.objs.size<=a):H a=none:=by cases q:H a with|none=>rfl|some u=>exact absurd (Sq (x.lt q) e) (Fw _)
theorem gH.mv{d:D}(x:gH g H h f a d)(l:j1 H H')(ha:∀o,h.get? a=some o->h'.get? a=some o)(hd:f=false->∀b,H b=some (.di a)->H' b=some (.di a))(hk:∀b o,(f=false/\H b=some (.di a))\/(f=true/\∃q,H b=some (.pin q<|some .aQ))->h.get? b=some o->h'.get? b=some o):gH g H' h' f a d:=by
 cases d with
 |tup ds=>obtain⟨y,z,us,r,o,e,c⟩:=x;exact⟨y,z,us,r.p l,o,ha _ e,c⟩|lst ds=>obtain⟨z,us,r,p⟩:=x;exact⟨z,us,r.p l,p.at ha⟩|gp ks ds=>obtain⟨z,y,vs,ep,k,r,o,es,e,c⟩:=x;exact⟨z,y,vs,ep,k,r.p l,o,es,ha _ e,c⟩|ins c ns ds=>
  obtain⟨C,dx,m,e,q,ne,fs,k,r,z,mA,n,w⟩:=x;have q':(f=false/\H dx=some (.di a))\/(f=true/\∃q,H dx=some (.pin q<|some .aQ)):=by
   cases f
   ·exact .inl ⟨rfl,q⟩
   ·exact .inr ⟨rfl,q⟩
  refine⟨C,dx,m,ha _ e,?_,ne,fs,k,r.p l,z,mA,n.at λo=>hk dx o q',w⟩;cases f
  ·exact hd rfl _ q
  ·obtain⟨o,q⟩:=q;exact⟨o,l _ _ _ q⟩
 |fm c ns ds=>
  obtain⟨C,dx,vs,sl,m,e,e2,e1,q⟩:=x;refine⟨C,dx,vs,sl,m,ha _ e,e2,e1,?_⟩;cases dx with
  |none=>exact q|some b=>
   obtain⟨q,ne,fs,k,r,z,mA,n,w⟩:=q;refine⟨?_,ne,fs,k,r.p l,z,mA,n.at λo=>hk b o ?_,w⟩;all_goals cases f
   ·exact hd rfl _ q
   ·obtain⟨o,q⟩:=q;exact⟨o,l _ _ _ q⟩
   ·exact .inl ⟨rfl,q⟩
   ·exact .inr ⟨rfl,q⟩
 |aQ=>trivial|_=>exact x.elim
theorem pF.gen(ok:pF g H h)(S:Addr->Prop)(soft:∀x e,S x->H x=some e->e.soft S)(same:∀b,¬S b->H' b=H b)(k:∀b o,¬S b->h.get? b=some o->h'.get? b=some o) (new:j1 H H'->∀a e,S a->H' a=some e->oA g H' h' a e):pF g H' h':=λa e q=>by
 have np:∀b o d,H b=some (.pin o d)->¬S b:=λb o d z s=>soft b _ s z;have lp:j1 H H':=λb o d z=>(same b<|np b o _ z).trans z;by_cases s:S a;exact new lp a e s q;rw[same a s] at q;have x:=ok a e q;have mv:∀{f:Bool}{d:D},gH g H h f a d->gH g H' h' f a d:=λy=>y.mv lp (λo=>k a o s) (λ_ b z=>(same b λsb=>s<|soft b _ sb z).trans z) λb o z=>k b o λsb=>by
  rcases z with ⟨_,z⟩|⟨_,_,z⟩
  exact s<|soft b _ sb z;exact np b _ _ z sb
 cases e with|pin o d=>exact⟨k _ _ s x.1,λe z=>mv<|x.2 e z⟩|ow d i=>exact⟨mv x.1,x.2⟩|di b=>obtain⟨o,z⟩:=x;exact⟨o,k _ _ s z⟩|km o=>obtain⟨sl,z⟩:=x;exact⟨sl,k _ _ s z⟩|d7 o=>exact k _ _ s x
end
structure Cx where
 g:Gb
 A:Around
 N:List Str
 env:Env
 outer:List Env
 stack:List Env
 fn:Bool
 calm:Bool
 io:Nat->Addr->Prop
 H₀:Tm
 n₀:Nat
 os:OsState
abbrev Cx.M(X:Cx):Model:=model X.g.prog X.g.w
structure Cx.Ok(X:Cx):Prop where
 mod:Mod X.g.K X.g.mg X.g.base
 kind:X.env.scope.kind=.function
 glob:X.env.globals=mainGlobals
 blt:X.env.builtins=builtinsNs
 inj:∀x y c,X.env.cells.lookup x=some c->X.env.cells.lookup y=some c->x=y
 has:∀x,(X.env.kindOf x=some .cell\/X.env.kindOf x=some .free)->∃c,X.env.cells.lookup x=some c
 hd:X.calm=true->X.A.handled=none
 frames:X.A.frames=some X.stack
 ZA:if X.fn then X.stack=X.env::X.outer/\X.env.frame=some X.env.locals else X.stack=X.outer
 fr0:∃fe ol L,X.stack=fe::ol/\fe.frame=some L/\X.env.frame=some L
 bs:∀b o,X.g.base.get? b=some o->X.H₀ b=some (.pin o<|G4 X.g.K b)
 Hs:X.g.base.objs.size<=X.n₀
 h0:∀b e,X.H₀ b=some e->b<X.n₀
 fr:∀e∈X.outer,e.scope.kind≠.module/\∃L o,e.frame=some L/\X.g.base.get? L=none/\X.H₀ L=some (.km o)/\∀vs,o.data≠.fields vs
 lo:X.n₀<=X.env.locals
abbrev Sg:=Str->Option Value
def A8(X:Cx)(H:Tm)(i:Nat)(v:IW):Sl->Prop|.no=>True|.sh d=>∃u,v=some u/\Rel H u d|.ow d=>∃l,v=some (.ref l)/\H l=some (.ow d i)|.io d=>∃l,v=some (.ref l)/\H l=some (.ow d i)/\X.io i l
def Tg(n:Nat)(H:Tm)(ρ:ay):Prop:=∀l d i,H l=some (.ow d i)->i<n->(ρ[i]?=some (.ow d)\/ρ[i]?=some (.io d))/\∀l' d',H l'=some (.ow d' i)->l'=l
structure Inv(X:Cx)(σ:Sg)(H:Tm)(ρ:ay)(s:Shared):Prop where
 ok:X.Ok
 os:s.os=X.os
 bare:AllBare s.gens
 le:Le X.H₀ H
 nw:∀a e,H a=some e->X.H₀ a=none->X.n₀<=a\/∃o,e=.d7 o
 aM:pF X.g H s.heap
 loc:∃m,s.heap.Ns X.env.locals m/\∀x u,pH X.env.scope x->σ x=some u->Look X.env s.heap m x u
 slot:∀i sl,ρ[i]?=some sl->∃x,X.N[i]?=some x/\A8 X H i (σ x) sl
 tg:Tg X.N.length H ρ
 fl:H X.env.locals=none
 cell:∀x c,X.env.cells.lookup x=some c->(∃v,s.heap.IsCell c v)/\(H c=none\/X.fn=false/\∃o d,H c=some (.pin o d))
 len:ρ.length=X.N.length
section
variable{X:Cx}{σ:Sg}{H H' H1:Tm}{ρ bI:ay}{s:Shared}{h':Heap}
theorem A8.mv{sl:Sl}(x:A8 X H i v sl)(l:j1 H H')(ho:∀l d,H l=some (.ow d i)->H' l=some (.ow d i)):A8 X H' i v sl:=by cases sl with|no=>trivial|sh d=>obtain⟨u,a,b⟩:=x;exact⟨u,a,b.p l⟩|ow d=>obtain⟨p,a,b⟩:=x;exact⟨p,a,ho _ _ b⟩|io d=>obtain⟨p,a,b,c⟩:=x;exact⟨p,a,ho _ _ b,c⟩
theorem Inv.bk(I:Inv X σ H ρ s)(b:Addr)(o:Obj)(e:X.g.base.get? b=some o):s.heap.get? b=some o:=by have q:=I.ok.bs b o e;exact(I.aM b _<|I.le _ _ q trivial).1
theorem Inv.mod(I:Inv X σ H ρ s):Mod X.g.K X.g.mg X.g.base:=I.ok.mod
theorem Inv.iS(I:Inv X σ H ρ s):X.g.K.In s.heap:=I.mod.gu.keeps I.bk
theorem Inv.lt(I:Inv X σ H ρ s):X.env.locals<s.heap.objs.size:=let ⟨_,hn,_⟩:=I.loc;hn.lt
theorem Inv.W3(I:Inv X σ H ρ s)(h:s.heap.objs.size<=b):X.H₀ b=none:=by cases q:X.H₀ b with|none=>rfl|some e=>exact absurd (Sq (I.ok.h0 b e q)<|HJ (HJ I.ok.lo<|Nat.le_of_lt I.lt) h) (Fw _)
theorem Inv.sz(I:Inv X σ H ρ s):X.n₀<=s.heap.objs.size:=HJ I.ok.lo (Nat.le_of_lt I.lt)
theorem Inv.TG(I:Inv X σ H ρ s)(e:X.env.cells.lookup x=some c):c≠X.env.locals:=λz=>by obtain⟨⟨v,o,ho,hd⟩,_⟩:=I.cell x c e;obtain⟨m,⟨o',es,ep,G1,vR,_⟩,_⟩:=I.loc;rw[z,G1] at ho;cases ho;rw[vR] at hd;cases hd
theorem FunFrames.of(aM:pF g H h):∀{l:List Env},(∀e∈l,e.scope.kind≠.module/\∃L o,e.frame=some L/\g.base.get? L=none/\H L=some (.km o)/\∀vs,o.data≠.fields vs)->h.FunFrames g.base l|[],_=>trivial|e::l,k=>by obtain⟨a,L,o,b,c,d,n⟩:=k e TL;obtain⟨sl,z⟩:=aM L _ d;exact⟨a,⟨L,_,b,c,z,n⟩,FunFrames.of aM λe he=>k e<|SY _ he⟩
theorem Inv.VB(I:Inv X σ H ρ s):s.heap.FunFrames X.g.base X.outer:=FunFrames.of I.aM λe he=>by obtain⟨a,L,o,b,c,d,n⟩:=I.ok.fr e he;exact⟨a,L,o,b,c,I.le _ _ d trivial,n⟩
theorem Inv.stack(I:Inv X σ H ρ s):s.heap.FunFrames X.g.base X.stack:=by have:=I.ok.ZA;split at this;obtain⟨e,hf⟩:=this;rw[e];obtain⟨m,hn,_⟩:=I.loc;exact .cons (by rw[I.ok.kind];decide) hf hn (Heap.get?_none_of_le<|HJ I.ok.Hs I.ok.lo) I.VB;rw[this];exact I.VB
theorem Inv.D3(I:Inv X σ H ρ s)(hb:b∈qa X.stack):H b=none\/∃o,H b=some (.km o):=by
 obtain⟨e,he,hf⟩:=List.mem_filterMap.mp hb;have out:e∈X.outer->∃o,H b=some (.km o):=λh=>by obtain⟨_,L,o,h1,_,h2,_⟩:=I.ok.fr e h;obtain rfl:=sj hf h1;exact⟨o,I.le _ _ h2 trivial⟩
 have:=I.ok.ZA;split at this;rw[this.1] at he;rcases List.mem_cons.mp he with rfl|he;obtain rfl:=sj this.2 hf;exact .inl I.fl;exact .inr<|out he;rw[this] at he;exact .inr (out he)
theorem Inv.Dk(I:Inv X σ H ρ s)(k:∀b o,(b=X.env.locals\/∃x,X.env.cells.lookup x=some b)->s.heap.get? b=some o->∃sl,h'.get? b=some {o with slots:=sl}) : (∃m,h'.Ns X.env.locals m/\∀x u,pH X.env.scope x->σ x=some u->Look X.env h' m x u)/\∀x c,X.env.cells.lookup x=some c->∃v,h'.IsCell c v:=by
 have ck:∀x c v,X.env.cells.lookup x=some c->s.heap.IsCell c v->h'.IsCell c v:=λx c v e ⟨o,ho,hd⟩=>by obtain⟨_,q⟩:=k c o (.inr ⟨x,e⟩) ho;exact⟨_,q,hd⟩
 obtain⟨m,⟨o,es,ep,ho,r⟩,hl⟩:=I.loc;obtain⟨_,q⟩:=k _ o (.inl rfl) ho;refine⟨⟨m,⟨_,es,ep,q,r⟩,λx u v e=>(hl x u v e).imp id λ⟨a,c,b,z⟩=>⟨a,c,b,ck x c _ b z⟩⟩,λx c e=>?_⟩;obtain⟨⟨v,z⟩,_⟩:=I.cell x c e;exact⟨v,ck x c v e z⟩
theorem Inv.gen{t':Nat}(I:Inv X σ H ρ s)(S:Addr->Prop)(hS:∀a,S a->s.heap.objs.size<=a\/∃e,H a=some e/\e.soft S/\∀o,X.H₀ a≠some (.d7 o))(same:∀b,¬S b->H' b=H b)
  (k:∀b o,¬S b->s.heap.get? b=some o->h'.get? b=some o) (new:j1 H H'->∀a e,S a->H' a=some e->oA X.g H' h' a e)
  (hl:bI.length=ρ.length) (tg:Tg X.N.length H' bI) (sl:j1 H H'->∀i t,bI[i]?=some t->∃t',ρ[i]?=some t'/\∀v,A8 X H i v t'->A8 X H' i v t) (ni:∀a e o,S a->H' a=some e->H a=some (.d7 o)->X.n₀<=a\/∃o,e=.d7 o):Inv X σ H' bI {s with heap:=h',toks:=t'}:=by
 have old:∀a,S a->∀e,H a=some e->e.soft S/\∀o,X.H₀ a≠some (.d7 o):=λa sa e q=>by rcases hS a sa with z|⟨e',z,r⟩;exact en (I.aM.fresh z) q;obtain rfl:=sj q z;exact r
 have lp:j1 H H':=λb o d z=>(same b λsb=>(old b sb _ z).1).trans z;have nL:¬S X.env.locals:=λz=>by rcases hS _ z with z|⟨e,z,_⟩;exact absurd (Sq I.lt z)<|Fw _;exact en I.fl z
 have nC:∀x c,X.env.cells.lookup x=some c->¬S c:=λx c e z=>by obtain⟨⟨v,q⟩,r⟩:=I.cell x c e;rcases hS _ z with z|⟨e,z,y,_⟩;exact absurd (Sq q.lt z)<|Fw _;rcases r with r|⟨_,_,_,r⟩;exact en r z;obtain rfl:=sj r z;exact y
 obtain⟨e1,e2⟩:=I.Dk (h':=h') (λb o hb q=>⟨o.slots,k b o (λsb=>hb.elim (λz=>nL<|z ▸ sb) λ⟨x,e⟩=>nC x b e sb) q⟩);refine⟨I.ok,I.os,I.bare,λa e q f=>?_,λa e q n=>?_,I.aM.gen S (λa e sa q=>(old a sa e q).1) same k new,e1,λi t ht=>?_,tg,(same _ nL).trans I.fl,λx c e=>⟨e2 x c e,?_⟩,hl.trans I.len⟩;have q':=I.le a e q f;refine(same a λsa=>?_).trans q';obtain⟨h1,h3⟩:=old a sa e q';cases e with|d7 o=>exact h3 _ q|ow d i=>exact f|di b=>exact f|_=>exact h1
 by_cases sa:S a;rcases hS a sa with z|⟨e',z,_⟩;exact .inl<|HJ I.sz z;rcases I.nw a e' z n with y|⟨o,rfl⟩;exact .inl y;exact ni a e o sa q z;exact I.nw a e (by rw[<-same a sa];exact q) n;obtain⟨t',h1,h2⟩:=sl lp i t ht;obtain⟨x,hx,hs⟩:=I.slot i t' h1;exact⟨x,hx,h2 _ hs⟩;rw[same c<|nC x c e];exact(I.cell x c e).2
theorem Inv.kept{t':Nat}(I:Inv X σ H ρ s)(k:∀b o,s.heap.get? b=some o->h'.get? b=some o):Inv X σ H ρ {s with heap:=h',toks:=t'}:=I.gen (λ_=>False) (λ_ z=>z.elim) (λ_ _=>rfl) (λb o _=>k b o) (λ_ _ _ z=>z.elim) rfl I.tg (λ_ i t h=>⟨t,h,λ_ z=>z⟩) λ_ _ _ z=>z.elim
theorem Le.lay(h:H a=none):Le H (upd H a e):=λb q z _=>(aD λy=>by subst y;exact en h z).trans z
theorem Tg.lay(x:Tg n H ρ)(h:H a=none)(he:∀d i,e=.ow d i->n<=i):Tg n (upd H a e) ρ:=λl d i hl hi=>by
 have ne:∀{l d},upd H a e l=some (.ow d i)->l≠a:=λhl z=>by subst z;obtain rfl:=sj az hl;exact absurd (he _ _ rfl) (Nat.not_le_of_lt hi)
 have:=x l d i ((aD<|ne hl).symm.trans hl) hi;exact⟨this.1,λl' d' h'=>this.2 l' d'<|(aD<|ne h').symm.trans h'⟩
theorem Inv.lay{t':Nat}(I:Inv X σ H ρ s)(k:∀b o,s.heap.get? b=some o->h'.get? b=some o)(ha:s.heap.objs.size<=a)(new:j1 H (upd H a e)->oA X.g (upd H a e) h' a e)(he:∀d i,e=.ow d i->X.N.length<=i:=by intro _ _ z;cases z) : Inv X σ (upd H a e) ρ {s with heap:=h',toks:=t'}/\Le H (upd H a e):=by have hn:=I.aM.fresh ha;refine⟨I.gen (·=a) (λb z=>.inl<|z ▸ ha) (λb z=>aD z) (λb o _=>k b o) (λl b q z y=>?_) rfl (I.tg.lay hn he) (λl i t h=>⟨t,h,λL z=>z.mv l λp d q=>(aD λy=>by subst y;exact ek hn q).trans q⟩) λb e o z _ q=>(by subst z;exact ek hn q),Le.lay hn⟩;subst z;obtain rfl:=sj az y;exact new l
theorem Inv.chg{t':Nat}{d:D}{x:Addr}(I:Inv X σ H ρ s)(hl:H l=some (.ow d i))(hx:x=l\/H x=some (.di l))(ho:∀b,b≠l->b≠x->H' b=H b)(k:∀b o,b≠x->s.heap.get? b=some o->h'.get? b=some o)
  (new:j1 H H'->∀e,H' l=some e->oA X.g H' h' l e) (abo:x≠l->∀e,H' x=some e->oA X.g H' h' x e) (hr:bI.length=ρ.length) (tg:Tg X.N.length H' bI) (sl:j1 H H'->∀j t,bI[j]?=some t->∃t',ρ[j]?=some t'/\∀v,A8 X H j v t'->A8 X H' j v t) :
  Inv X σ H' bI {s with heap:=h',toks:=t'}:=by
 have hs:∀{a e},H a=some e->(∀o,e≠.d7 o)->∀o,X.H₀ a≠some (.d7 o):=λq n o z=>by have:=I.le _ _ z trivial;obtain rfl:=sj q this;exact n _ rfl
 refine I.gen (λb=>b=l\/b=x) (λb z=>.inr ?_) (λb z=>ho b (λy=>z<|.inl y) λy=>z<|.inr y) (λb o z=>k b o λy=>z<|.inr y) (λlp b e z q=>?_) hr tg sl λb e o z _ q=>?_;have h1:∃e,H l=some e/\En.soft (λb=>b=l\/b=x) e/\∀o,X.H₀ l≠some (.d7 o):=⟨_,hl,trivial,hs hl (by intro _ z;cases z)⟩;rcases z with rfl|rfl;exact h1;rcases hx with rfl|z;exact h1;exact⟨_,z,.inl rfl,hs z (by intro _ z;cases z)⟩;by_cases y:b=l;subst y;exact new lp e q;rcases z with z|z;exact absurd z y;subst z;exact abo y e q;rcases z with rfl|rfl;exact ek hl q;rcases hx with rfl|z;exact ek hl q;exact ek z q
theorem Inv.tok(I:Inv X σ H ρ s)(t:Nat):Inv X σ H ρ {s with toks:=t}:=I.kept λ_ _ e=>e
end
end WL
end
section
set_option linter.all false
set_option maxRecDepth 100000
abbrev PZ(X:WL.Cx)(e:PySem.Expr)(l:List PySem.Expr):Prop:=PySem.starEach (e::l) X.env=(false,PySem.eval e X.env)::PySem.starEach l X.env
abbrev F6(X:WL.Cx)(p:PySem.Pos)(l:List PySem.Expr):Prop:=(PySem.backTo p<|PySem.starEach l X.env).any (·.1)=false
namespace WL
open PySem PySem.Spec PyProof.Rows L2 VP
section
variable{X:Cx}{σ:Sg}{H H' H1:Tm}{ρ bI:ay}{s:Shared}{h h':Heap}{g:Gb}{d d':D}
theorem Rel.mk(x:gH g H h f a d)(n:d≠.aQ)(e:H' a=some (.pin o<|some d)):Rel H' (.ref a) d:=by cases d with|aQ=>exact absurd rfl n|tup|lst|gp|ins|fm=>exact⟨_,_,rfl,e⟩|_=>exact x.elim
theorem Inv.fz(I:Inv X σ H ρ s)(hl:H l=some (.ow d i))(hr:ρ[i]?=some (.ow d)\/X.N.length<=i):∃H' o,Inv X σ H' (ρ.set i<|.sh d) s/\Le H H'/\H' l=some (.pin o<|some d)/\∀b d j,H b=some (.ow d j)->b≠l->H' b=some (.ow d j):=by
 obtain⟨ob,nn⟩:=I.aM l _ hl;obtain⟨o,ho⟩:=ob.at nn;obtain⟨x,ox,hx,hox,fx⟩:∃x ox,(x=l\/H x=some (.di l))/\s.heap.get? x=some ox/\∀H',j1 H H'->(∃o,H' x=some (.pin o<|some .aQ))\/x=l->gH X.g H' s.heap true l d:=by
  cases d with
  |ins c ns ds=>obtain⟨C,dx,m,e,q,ne,fs,k,r,z,mA,n,w⟩:=ob;obtain⟨od,_,_,ho,_⟩:=id n;exact⟨dx,od,.inr q,ho,λH' lp hq=>⟨C,dx,m,e,hq.elim id λz=>absurd (z.trans ne) (Nat.succ_ne_self dx).symm,ne,fs,k,r.p lp,z,mA,n,w⟩⟩|fm c ns ds=>obtain⟨C,dx,vs,sl,m,e,e2,e1,q⟩:=ob;cases dx with|none=>exact⟨l,o,.inl rfl,ho,λH' lp hq=>⟨C,none,vs,sl,m,e,e2,(nomatch ·),q⟩⟩|some b=>obtain⟨q,ne,fs,k,r,z,mA,n,w⟩:=q;obtain⟨od,_,_,ho,_⟩:=id n;exact⟨b,od,.inr q,ho,λH' lp hq=>⟨C,some b,vs,sl,m,e,e2,(nomatch ·),hq.elim id λz=>absurd z ne,ne,fs,k,r.p lp,z,mA,n,w⟩⟩
  |tup ds=>cases ob.1|lst ds=>obtain⟨z,us,r,c⟩:=ob;exact⟨l,o,.inl rfl,ho,λH' lp _=>⟨z,us,r.p lp,c⟩⟩|gp ks ds=>obtain⟨z,y,vs,ep,k,r,c⟩:=ob;exact⟨l,o,.inl rfl,ho,λH' lp _=>⟨z,y,vs,ep,k,r.p lp,c⟩⟩|aQ=>exact absurd rfl nn|_=>exact ob.elim
 have el:upd (upd H x<|.pin ox<|some .aQ) l (.pin o<|some d) l=_:=az;have ex:x≠l->upd (upd H x<|.pin ox<|some .aQ) l (.pin o<|some d) x=_:=λz=>(aD z).trans az;have eo:∀b,b≠l->b≠x->upd (upd H x<|.pin ox<|some .aQ) l (.pin o<|some d) b=H b:=λb z y=>(aD z).trans<|aD y;have back:∀b d' j,H b=some (.ow d' j)->b≠l->upd (upd H x<|.pin ox<|some .aQ) l (.pin o<|some d) b=some (.ow d' j):=λb d' j q h1=>(eo b h1 λz=>by subst z;rcases hx with z|z;exact h1 z;exact ek q z).trans q;refine⟨upd (upd H x<|.pin ox<|some .aQ) l (.pin o<|some d),o,?_,λa e q f=>?_,el,back⟩<;>generalize upd (upd H x<|.pin ox<|some .aQ) l (.pin o<|some d)=H2 at el ex eo back;have nx:∀{b:Addr}{d:D}{j:Nat},H2 b=some (.ow d j)->b≠l/\b≠x/\H b=some (.ow d j):=λ{b d j} q=>by
  have h1:b≠l:=λz=>by subst z;exact ek el q
  have h2:b≠x:=λz=>by subst z;exact ek (ex h1) q
  exact⟨h1,h2,(eo b h1 h2) ▸ q⟩
 have uq:∀l' d' j,j<X.N.length->H l'=some (.ow d' j)->l'≠l->j≠i:=λl' d' j hj q n z=>by subst z;exact n ((I.tg l d j hl hj).2 _ _ q)
 refine I.chg (t':=s.toks) hl hx eo (λ_ _ _ z=>z) (λlp e q=>?_) (λz e q=>?_) T2 (λl' d' j q hj=>?_) λlp j t ht=>?_;obtain rfl:=sj el q;have hq:(∃o,H2 x=some (.pin o<|some .aQ))\/x=l:=(Classical.em<|x=l).elim .inr λz=>.inl ⟨_,ex z⟩;exact⟨ho,λe z=>by cases z;exact fx H2 lp hq⟩;obtain rfl:=sj (ex z) q;exact⟨hox,λe z=>by cases z;trivial⟩;obtain⟨a,b,c⟩:=nx q;rw[Jj<|JL<|uq _ _ _ hj c a];exact⟨(I.tg _ _ _ c hj).1,λl2 d2 q2=>(I.tg _ _ _ c hj).2 _ _ (nx q2).2.2⟩;have hj:j<X.N.length:=by rw[<-I.len];simpa using (List.getElem?_eq_some_iff.mp ht).1
 by_cases e:j=i;subst e;rcases hr with hr|hr;rw[Xh (List.getElem?_eq_some_iff.mp hr).1] at ht;cases ht;refine⟨_,hr,λv ⟨l',a,b⟩=>⟨.ref l,?_,Rel.mk ob nn el⟩⟩;rw[<-(I.tg l d j hl hj).2 _ _ b];exact a;exact absurd hj<|Nat.not_lt.mpr hr;rw[Jj<|JL e] at ht;exact⟨t,ht,λv z=>z.mv lp λp d2 q=>back _ _ _ q λz=>by subst z;obtain⟨rfl,rfl⟩:=Ci hl q;exact e rfl⟩;have h1:a≠l:=λz=>by subst z;obtain rfl:=sj hl q;exact f
 refine(eo a h1 λz=>?_).trans q;subst z;rcases hx with z|z;exact h1 z;obtain rfl:=sj q z;exact f
def AH(d:D):Sl->Sl|.ow _=>.ow d|.io _=>.io d|s=>s
theorem jT(hr:ρ[i]?=some t):dh i d ρ=ρ.set i (AH d t):=by
 unfold dh;rw[hr];have:∀t,ρ[i]?=some t->ρ=ρ.set i t:=λt h=>by obtain⟨h1,h2⟩:=List.getElem?_eq_some_iff.mp h;rw[<-h2,List.set_getElem_self]
 cases t<;>first|rfl|exact this _ hr
theorem lR:(dh i d ρ).length=ρ.length:=by unfold dh;split<;>simp
theorem pe(h:j≠i):(dh i d ρ)[j]?=ρ[j]?:=by unfold dh;split<;>simp[List.getElem?_set_ne<|Ne.symm h]
theorem Inv.wr{t':Nat}{x:Addr}(I:Inv X σ H ρ s)(hl:H l=some (.ow d i))(hx:x=l\/H x=some (.di l))(k:∀b o,b≠x->s.heap.get? b=some o->h'.get? b=some o)(hxx:∃o,h'.get? x=some o)(new:j1 H (upd H l<|.ow d' i)->gH X.g (upd H l<|.ow d' i) h' false l d') (nn:d'≠.aQ):Inv X σ (upd H l<|.ow d' i) (dh i d' ρ) {s with heap:=h',toks:=t'}/\Le H (upd H l<|.ow d' i):=by
 have uq:∀{l' d' j},j<X.N.length->H l'=some (.ow d' j)->l'≠l->j≠i:=λ{l' d' j} hj q n z=>by subst z;exact n ((I.tg l d j hl hj).2 _ _ q)
 refine⟨I.chg hl hx (λb z _=>aD z) k (λlp e q=>?_) (λz e q=>?_) lR (λl' d2 j q hj=>?_) λlp j t ht=>?_,λa e q f=>(aD λz=>?_).trans q⟩;obtain rfl:=sj az q;exact⟨new lp,nn⟩;rw[aD z] at q;rcases hx with y|y;exact absurd y z;obtain rfl:=sj y q;exact hxx;by_cases e:l'=l;subst e;rw[az] at q;cases q;obtain⟨h1,h2⟩:=I.tg l' d i hl hj;refine⟨?_,λl2 d2 q2=>Classical.byContradiction λn=>n<|h2 l2 d2<|(aD n).symm.trans q2⟩;have hi:i<ρ.length:=by rw[I.len];exact hj
 rcases h1 with h1|h1<;>rw[jT h1,Xh hi];exact .inl rfl;exact .inr rfl;rw[aD e] at q;obtain⟨h1,h2⟩:=I.tg l' d2 j q hj;rw[pe<|uq hj q e];refine⟨h1,λl2 d3 q2=>?_⟩;by_cases e2:l2=l;subst e2;obtain⟨rfl,rfl⟩:=Ci az q2;exact absurd rfl<|uq hj q e;exact h2 l2 d3<|(aD e2).symm.trans q2;have hj:j<X.N.length:=by rw[<-I.len,<-lR];exact(List.getElem?_eq_some_iff.mp ht).1
 by_cases e:j=i;subst e;obtain⟨h1,h2⟩:=I.tg l d j hl hj;have hi:j<ρ.length:=by rw[I.len];exact hj
 rcases h1 with h1|h1<;>rw[jT h1,Xh hi] at ht<;>cases ht;exact⟨_,h1,λv ⟨l',a,b⟩=>⟨l,by rw[<-h2 _ _ b];exact a,az⟩⟩;exact⟨_,h1,λv ⟨l',a,b,c⟩=>by have z:=h2 _ _ b;subst z;exact⟨_,a,az,c⟩⟩;rw[pe e] at ht;exact⟨t,ht,λv z=>z.mv lp λp d2 q=>(aD λz=>by subst z;obtain⟨rfl,rfl⟩:=Ci hl q;exact e rfl).trans q⟩;subst z;obtain rfl:=sj hl q;exact f
theorem Inv.WG(I:Inv X σ H ρ s)(h:X.N[i]?=some x):i<ρ.length:=by rw[I.len];exact(List.getElem?_eq_some_iff.mp h).1
theorem Inv.give(I:Inv X σ H ρ s)(hf:free ρ[i]?=true):∃H' t,Inv X σ H' (ρ.set i t) s/\Le H H'/\(t=.no\/∃d,t=.sh d)/\∀b d j,H b=some (.ow d j)->j≠i->H' b=some (.ow d j):=by
 cases q:ρ[i]? with
 |none=>rw[q] at hf;cases hf|some t=>
  have e:ρ=ρ.set i t:=by obtain⟨h1,h2⟩:=List.getElem?_eq_some_iff.mp q;rw[<-h2,List.set_getElem_self]
  cases t with
  |no=>exact⟨H,.no,e ▸ I,Le.refl,.inl rfl,λ_ _ _ z _=>z⟩|sh d=>exact⟨H,.sh d,e ▸ I,Le.refl,.inr ⟨d,rfl⟩,λ_ _ _ z _=>z⟩|io d=>rw[q] at hf;cases hf|ow d=>
   obtain⟨x,hx,_⟩:=I.slot i _ q;by_cases h:∃l d',H l=some (.ow d' i);obtain⟨l,d',h⟩:=h;have hi:i<X.N.length:=(List.getElem?_eq_some_iff.mp hx).1;have h1:=(I.tg l d' i h hi).1;rw[q] at h1;have h2:d=d':=by rcases h1 with z|z<;>cases z;rfl
   subst h2;obtain⟨H',o,I',l',_,bk⟩:=I.fz h<|.inl q;exact⟨H',_,I',l',.inr ⟨d,rfl⟩,λb e j z n=>bk b e j z λy=>by subst y;obtain⟨rfl,rfl⟩:=Ci h z;exact n rfl⟩;refine⟨H,.no,?_,Le.refl,.inl rfl,λ_ _ _ z _=>z⟩;refine I.gen (t':=s.toks) (λ_=>False) (λ_ z=>z.elim) (λ_ _=>rfl) (λ_ _ _ z=>z) (λ_ _ _ z=>z.elim) T2 (λl d j hl hj=>?_) (λ_ j t ht=>?_) λ_ _ _ z=>z.elim;have:j≠i:=λz=>h ⟨l,d,z ▸ hl⟩;rw[Jj<|JL this];exact I.tg l d j hl hj;by_cases z:j=i;subst z;obtain rfl:=sj (Xh (List.getElem?_eq_some_iff.mp q).1) ht;exact⟨_,q,λ_ _=>trivial⟩;rw[Jj<|JL z] at ht;exact⟨t,ht,λ_ z=>z⟩
def Sg.put(σ:Sg)(x:Str)(u:Value):Sg:=λy=>if y=x then some u else σ y
theorem Q1V{Q:Unit->Shared->Prop}{E:YY}{M:Model}{A:Around}(I:Inv X σ H ρ s)(hx:Loc X.env.scope x)(hf:X.fn=true\/X.env.scope.names.lookup x=some .local)(h:∀a h' tk,Heap.SameBut a s.heap h'->H a=none->(∃m,h'.Ns X.env.locals m/\∀y v,pH X.env.scope y->σ.put x u y=some v->Look X.env h' m y v)->(∀y c,X.env.cells.lookup y=some c->∃v,h'.IsCell c v)->Q () {s with heap:=h',toks:=tk}):wpAny M A (storeName X.env x u) Q E s:=by
 obtain⟨m,hn,hl⟩:=I.loc;have aaI:(X.env.scope.kind == .class||(X.env.scope.kind == .module&&X.env.locals != X.env.globals))=false:=by rw[I.ok.kind];rfl
 have at_:∀{y v},σ.put x u y=some v->(y=x/\v=u)\/(y≠x/\σ y=some v):=λ{y v} q=>by unfold Sg.put at q;split at q;exact .inl ⟨‹_›,(JY q).symm⟩;exact .inr ⟨‹_›,q⟩
 rcases hx with hk|hk;refine wpAny_storeName_local hk hn (λh' rg hs=>h _ h' _ hs I.fl ⟨_,rg,λy v vs q=>?_⟩ λy c e=>?_) aaI;rcases at_ q with ⟨rfl,rfl⟩|⟨ne,q⟩
 exact .inl ⟨hk,T2⟩;rcases hl y v vs q with ⟨k,e⟩|⟨k,c,e,z⟩
 exact .inl ⟨k,by simp[ne,e]⟩;exact .inr ⟨k,c,e,z.sameBut hs<|I.TG e⟩;obtain⟨⟨v,z⟩,_⟩:=I.cell y c e;exact⟨v,z.sameBut hs<|I.TG e⟩;have w7:X.fn=true:=hf.elim id λz=>by rw[z] at hk;cases hk
 obtain⟨c,hc⟩:=I.ok.has x<|.inl hk;obtain⟨⟨w',z⟩,r⟩:=I.cell x c hc;have hcn:H c=none:=r.elim id λr=>by rw[w7] at r;cases r.1
 refine wpAny_storeName_cell I.ok.kind hk hc z λh' uV hs=>h c h' s.toks hs hcn ⟨m,hn.sameBut hs (JL<|I.TG hc),λy v vs q=>?_⟩ λy c' e=>?_;rcases at_ q with ⟨rfl,rfl⟩|⟨ne,q⟩
 exact .inr ⟨.inl hk,c,hc,uV⟩;rcases hl y v vs q with q|⟨k,c',e,z⟩;exact .inl q;exact .inr ⟨k,c',e,z.sameBut hs λe'=>ne<|I.ok.inj _ _ _ e<|e' ▸ hc⟩;by_cases e':c'=c;subst e';exact⟨_,uV⟩;obtain⟨⟨v,z⟩,_⟩:=I.cell y c' e;exact⟨v,z.sameBut hs e'⟩
theorem Inv.store{Q:Unit->Shared->Prop}{E:YY}{M:Model}{A:Around}{sl:Sl}(I:Inv X σ H ρ s)(hN:X.N.Nodup)(hi:X.N[i]?=some x)(hx:Loc X.env.scope x)(hf:X.fn=true\/X.env.scope.names.lookup x=some .local)(hr:free ρ[i]?=true)(hv:(∃d,sl=.sh d/\Rel H u d)\/∃d l j,sl=.ow d/\u=.ref l/\H l=some (.ow d j)/\X.N.length<=j) (h:∀s' H',Inv X (σ.put x u) H' (ρ.set i sl) s'->Le H H'->Q () s'):wpAny M A (storeName X.env x u) Q E s:=by
 have Cc:=I.WG hi;obtain⟨H1,t,I1,l1,ht,bk⟩:=I.give hr;have it:(ρ.set i t)[i]?=some t:=Xh Cc;have hiN:i<X.N.length:=(List.getElem?_eq_some_iff.mp hi).1;have noT:∀l d,H1 l≠some (.ow d i):=λl d q=>by have:=(I1.tg l d i q hiN).1;rw[it] at this;rcases ht with rfl|⟨_,rfl⟩<;>rcases this with z|z<;>cases z
 obtain⟨H2,l2,e2,hs,nT,d2⟩:∃H2,Le H1 H2/\(∀b,H2 b=H1 b\/∃d j,H1 b=some (.ow d j)/\X.N.length<=j/\H2 b=some (.ow d i))/\A8 X H2 i (some u) sl/\(∀l d,H2 l=some (.ow d i)->sl=.ow d/\u=.ref l)/\∀b c,H1 b=some (.di c)->H2 b=some (.di c):=by
  rcases hv with ⟨d,rfl,r⟩|⟨d,l,j,rfl,rfl,q,hj⟩
  exact⟨H1,Le.refl,λb=>.inl rfl,⟨u,rfl,r.le l1⟩,λl d q=>absurd q (noT l d),λ_ _ z=>z⟩;have q1:=bk l d j q<|yB<|Sq hiN hj;refine⟨upd H1 l (.ow d i),λa e z f=>(aD λy=>by subst y;obtain rfl:=sj q1 z;exact f).trans z,λb=>?_,⟨l,rfl,az⟩,λl' d' z=>?_,λb c z=>(aD λy=>by subst y;exact ek q1 z).trans z⟩;by_cases y:b=l;subst y;exact .inr ⟨d,j,q1,hj,az⟩;exact .inl<|aD y;by_cases y:l'=l;subst y;rw[az] at z;cases z;exact⟨rfl,rfl⟩;rw[aD y] at z;exact absurd z (noT l' d')
 have un2:∀b,H1 b=none->H2 b=none:=λb z=>by rcases e2 b with y|⟨_,_,y,_⟩;rw[y];exact z;exact ek z y
 refine Q1V I1 hx hf λa h' tk sb aN hm hc=>?_;have ok1:pF X.g H1 h':=I1.aM.gen (·=a) (λx e z q=>by subst z;exact en aN q) (λ_ _=>rfl) (λb o z q=>(sb.2 b z).trans q) λ_ b e z q=>by subst z;exact en aN q
 have ok2:pF X.g H2 h':=λb e q=>by
  have mv:∀{f:Bool}{d:D},gH X.g H1 h' f b d->gH X.g H2 h' f b d:=λy=>y.mv l2.p (λ_ z=>z) (λ_ c z=>d2 c b z) λ_ _ _ z=>z;rcases e2 b with y|⟨d,j,y,_,y2⟩;rw[y] at q;have x:=ok1 b e q;cases e with|pin o d=>exact⟨x.1,λe z=>mv<|x.2 e z⟩|ow d i=>exact⟨mv x.1,x.2⟩|_=>exact x
  obtain rfl:=sj y2 q;have x:=ok1 b _ y;exact⟨mv x.1,x.2⟩
 refine h _ H2 ⟨I1.ok,I1.os,I1.bare,I1.le.trans l2,λb e q n=>?_,ok2,hm,λj t2 ht2=>?_,λl d j q hj=>?_,un2 _ I1.fl,λy c e=>?_,by rw[List.length_set];exact I.len⟩<|l1.trans l2;rcases e2 b with y|⟨d,j,y,_⟩;exact I1.nw b e (y ▸ q) n;exact .inl<|(I1.nw b _ y n).elim id λ⟨_,z⟩=>nomatch z;by_cases z:j=i;subst z;obtain rfl:=sj (Xh Cc) ht2;exact⟨x,hi,by unfold Sg.put;rw[Zh rfl];exact hs⟩;rw[Jj<|JL z] at ht2;obtain⟨y,hy,hv⟩:=I1.slot j t2 (by rw[Jj<|JL z];exact ht2);refine⟨y,hy,?_⟩;unfold Sg.put;rw[Y4<|show ¬y=x from λe=>z<|qr hN hy<|e ▸ hi];refine hv.mv l2.p λp d q=>?_;have hj:j<X.N.length:=(List.getElem?_eq_some_iff.mp hy).1;rcases e2 p with y|⟨d',j',y,hj',_⟩;rw[y];exact q;obtain⟨rfl,rfl⟩:=Ci q y;exact absurd hj<|Nat.not_lt.mpr hj';by_cases z:j=i;subst z;obtain⟨y,y2⟩:=nT l d q;rw[Xh Cc,y];refine⟨.inl rfl,λl' d' q'=>?_⟩;have:=(nT l' d' q').2;rw[y2] at this;cases this;rfl;have old:∀l d,H2 l=some (.ow d j)->H1 l=some (.ow d j):=λl d q=>by rcases e2 l with y|⟨_,_,_,_,y⟩;rw[<-y];exact q;obtain⟨rfl,rfl⟩:=Ci y q;exact absurd rfl z
 obtain⟨a1,a2⟩:=I1.tg l d j (old l d q) hj;rw[Jj<|JL z] at a1 ⊢;exact⟨a1,λl' d' q'=>a2 l' d'<|old _ _ q'⟩;obtain⟨⟨v,r1⟩,r2⟩:=I1.cell y c e;refine⟨hc y c e,r2.imp (un2 c) λ⟨a,o,d,b⟩=>⟨a,o,d,l2 _ _ b trivial⟩⟩
end
end WL
end
section
set_option linter.all false
set_option maxRecDepth 100000
namespace WL
open PySem PySem.Spec PyProof.Rows L2 VP
def Out{α:Type}:Res α->(α->ay->Prop)->(Xn->ay->Prop)->Prop|.ok a r,P,_=>P a r|.exc x r,_,E=>E x r|.no,_,_=>False
theorem Out.Zi{α β:Type}{f:M α}{g:α->M β}{P:β->ay->Prop}(h:Out (Zi f g r) P E):Out (f r) (λa r'=>Out (g a r') P E) E:=by unfold VP.Zi at h;cases q:f r with|_=>rw[q] at h;exact h
theorem Out.mono{α:Type}{r:Res α}{P P':α->ay->Prop}(h:Out r P E)(hP:∀a r,P a r->P' a r)(hE:∀x r,E x r->E' x r):Out r P' E':=by cases r with|ok a r=>exact hP _ _ h|exc x r=>exact hE _ _ h|no=>exact h
theorem Out.opt{α:Type}{o:Option α}{P:α->ay->Prop}(h:Out (opt o r) P E):∃a,o=some a/\P a r:=by cases o with|none=>exact h.elim|some a=>exact⟨a,rfl,h⟩
abbrev Rl(α β:Type):=Tm->Shared->β->α->Prop
inductive Z0(n:Nat)(H:Tm)(h:Heap)(e:Addr)(vs:Array Value)(v:Value):Prop|mk (T:Addr) (ot:Obj) (ts:Array Value) (h1:vs[1]?=some (.ref T)) (h2:T≠e) (h3:n<=T) (h4:H T=none) (h5:h.get? T=some ot) (h6:ot.data=.fields ts) (h7:ts[3]?=some v)
def YW(n:Nat)(H:Tm)(h:Heap)(e:Addr)(vs:Array Value):IW->Prop|none=>vs[1]?=some .none|some v=>Z0 n H h e vs v
inductive Hk(n:Nat)(H:Tm)(h:Heap)(e:Addr)(c:Value)(dx:Ra)(v:IW):Prop|mk (vs:Array Value) (sl:Array (Option Value)) (h1:h.get? e=some ⟨c,dx,.fields vs,sl⟩) (h2:vs[2]?=some .none) (h3:H e=none) (h4:n<=e) (w:YW n H h e vs v)
inductive UA(g:Gb)(n:Nat)(H:Tm)(s:Shared)(v:Value)(x:Xn):Prop|mk (e C:Addr) (dx:Ra) (hv:v=.ref e) (hm:g.mg x.cls=some (.ref C)) (hx:(dx=none/\x.ns=[]/\x.vs=[])\/∃b o,dx=some b/\H b=some (.pin o<|some .aQ)/\pB H s.heap b x.ns x.vs) (w:IW) (xa:Hk n H s.heap e (.ref C) dx w)
theorem YW.up{n n':Nat}{w:IW}(h':n<=n')(x:YW n' H h e vs w):YW n H h e vs w:=by cases w with|none=>exact x|some v=>obtain⟨T,ot,ts,t1,t2,t3,t4,t5,t6,t7⟩:=x;exact⟨T,ot,ts,t1,t2,HJ h' t3,t4,t5,t6,t7⟩
theorem UA.up{n n':Nat}{g:Gb}{x:Xn}(h:n<=n')(r:UA g n' H s v x):UA g n H s v x:=by obtain⟨e,C,dx,y1,y2,y3,w,vs,sl,z1,z2,z3,z4,z5⟩:=r;exact⟨e,C,dx,y1,y2,y3,w,vs,sl,z1,z2,z3,HJ h z4,z5.up h⟩
abbrev XR(X:Cx):Rl Xn Value:=UA X.g X.n₀
section
variable{α β γ:Type}
def OK(X:Cx)(σ:Sg)(H:Tm)(R:Rl α β)(Q:β->Shared->Prop):α->ay->Prop:=λa bI=>∀s' H' b,Inv X σ H' bI s'->Le H H'->R H' s' b a->Q b s'
def jy(X:Cx)(H:Tm)(R:Rl α β)(Q:β->Shared->Prop):α->ay->Prop:=λa bI=>∀s' dR H' b,Inv X dR H' bI s'->Le H H'->R H' s' b a->Q b s'
theorem OK.le{R:Rl α β}{a:α}(l:Le H H1)(q:OK X σ H R Q a r):OK X σ H1 R Q a r:=λs' H' b I l' z=>q s' H' b I (l.trans l') z
theorem jy.le{R:Rl α β}{a:α}(l:Le H H1)(q:jy X H R Q a r):jy X H1 R Q a r:=λs' dR H' b I l' z=>q s' dR H' b I (l.trans l') z
theorem jy.x{R:Rl α β}{a:α}(q:jy X H R Q a r):OK X σ H R Q a r:=λs' H' b I l' z=>q s' σ H' b I l' z
def WP(X:Cx)(R:Rl α β)(t:Sem β)(f:M α):Prop:=∀s σ H ρ Q E,Inv X σ H ρ s->Out (f ρ) (OK X σ H R Q) (OK X σ H (XR X) E)->wpAny X.M X.A t Q E s
def YX(X:Cx)(R:Rl α β)(t:Sem β)(f:M α):Prop:=∀s σ H ρ Q E,Inv X σ H ρ s->Out (f ρ) (jy X H R Q) (jy X H (XR X) E)->wpAny X.M X.A t Q E s
theorem WP.Zi{R:Rl α β}{f:M α}{t:Sem β}{k:α->M γ}{P:γ->ay->Prop}(h:WP X R t f)(I:Inv X σ H ρ s)(o:Out (Zi f k ρ) P E')(hE:∀x r,E' x r->OK X σ H (XR X) E x r)(c:∀s' H' bI b a,Inv X σ H' bI s'->Le H H'->R H' s' b a->Out (k a bI) P E'->Q b s'):wpAny X.M X.A t Q E s:=
 h s σ H ρ Q E I (o.Zi.mono (λa r q s' H' b I' l r'=>c s' H' r b a I' l r' q) hE)
theorem WP.mono{R R':Rl α β}{f:M α}{t:Sem β}(h:WP X R t f)(k:∀s σ H ρ b a (Q:Prop),Inv X σ H ρ s->R H s b a->(∀H',Inv X σ H' ρ s->Le H H'->R' H' s b a->Q)->Q):WP X R' t f:=λs σ H ρ Q E I o=>h s σ H ρ Q E I (o.mono (λa r q s' H' b I' l r'=>k s' σ H' r b a _ I' r' λH2 I2 l2 r2=>q s' H2 b I2 (l.trans l2) r2) λ_ _ q=>q)
end
def RV:Rl D Value:=λH _ v d=>Rel H v d
def RW:Rl D Value:=λH _ v d=>Rel H v d\/∃l i,v=.ref l/\H l=some (.ow d i)
def RF(X:Cx):Rl D Value:=λH _ v d=>∃l,v=.ref l/\H l=some (.ow d X.N.length)
def RB:Rl Bool Bool:=λ_ _ b a=>b=a
def Q1T:Rl (List D) (List Value):=λH _ us ds=>aF H us ds
def RS:Rl Fl Flow:=λH _ f k=>match k with|.nx=>f=.next|.bk=>f=.brk|.ct=>f=.cont|.rt d=>∃v,f=.ret v/\Rel H v d
def PV(X:Cx)(e:Expr)(f:M D):Prop:=WP X RV (eval e X.env) f
def PR(X:Cx)(e:Expr)(f:M D):Prop:=WP X RW (eval e X.env) f
def PF(X:Cx)(e:Expr)(f:M D):Prop:=WP X (RF X) (eval e X.env) f
def PB(X:Cx)(e:Expr)(f:M Bool):Prop:=WP X RB (isTrue e X.env<|eval e X.env) f
def A6(X:Cx)(e:Expr)(f:M Bool):Prop:=∀w,WP X RB (isTrue e X.env w) f
def uY(X:Cx)(es:WK)(f:M (List D)):Prop:=∀pos,WP X Q1T (spliced<|backTo pos<|starEach es X.env) f
def gY(X:Cx)(st:Stmt)(f:M Fl):Prop:=YX X RS (exec st X.env) f
def iV(X:Cx)(st:List Stmt)(f:M Fl):Prop:=YX X RS (execs st X.env) f
section
variable{X:Cx}{e a b c:Expr}{f fa fb fc:M D}{f1 f2:M Bool}{pos:Pos}{σ:Sg}{H:Tm}{ρ:ay}{s:Shared}{Q:YY}{E:YY}
theorem A6.pb(h:A6 X e f1):PB X e f1:=h _
theorem PV.rd(h:PV X e f):PR X e f:=h.mono λ_ _ _ _ _ _ _ I r k=>k _ I Le.refl (.inl r)
theorem PF.pv(h:PF X e f):PV X e f:=h.mono λs σ H ρ _ d _ I ⟨l,a,b⟩ k=>by obtain⟨H',o,I',l',q,_⟩:=I.fz b<|.inr<|TC _;rw[List.set_eq_of_length_le (by rw[I.len];exact TC _)] at I';have z:=I.aM _ _ b;exact k H' I' l' (by rw[a];exact Rel.mk z.1 z.2 q)
theorem dF(I:Inv X σ H ρ s)(hv:pH X.env.scope x)(hu:σ x=some u)(h:Q u s)(hd:(x == ("__debug__" : Str))=false)(jI:(x == ("__classdict__" : Str))=false):wpAny X.M X.A (eval (.Name x pos) X.env) Q E s:=by
 obtain⟨m,hn,hl⟩:=I.loc;rcases hl x u hv hu with ⟨hk,hm⟩|⟨hk|hk,c,hc,M5⟩
 exact wpAny_Name (wpAny_loadName_local I.ok.kind hk hn hm h) hd;exact wpAny_Name (wpAny_loadName_cell I.ok.kind hk hc M5 h) hd;exact wpAny_Name (wpAny_loadName_free I.ok.kind hk hc M5 h jI) hd
theorem Inv.at(I:Inv X σ H ρ s)(hN:X.N[i]?=some x)(hv:pH X.env.scope x)(hr:ρ[i]?=some sl):A8 X H i (σ x) sl:=by obtain⟨y,hy,r⟩:=I.slot i sl hr;obtain rfl:=sj hN hy;exact r
theorem gE(i:Nat){x:Str}(hN:X.N[i]?=some x:=by rfl)(hv:pH X.env.scope x:=by exact BQ)(hd:RY x:=by decide)(jI:BG x:=by decide):PV X (.Name x pos) (aa i):=λs σ H ρ Q E I o=>by unfold aa at o;split at o;rename_i d q;obtain⟨u,lk,r⟩:=I.at hN hv q;exact dF I hv lk (o s H u I Le.refl r) hd jI;exact o.elim
theorem nu(i:Nat){x:Str}(hN:X.N[i]?=some x:=by rfl)(hv:pH X.env.scope x:=by exact BQ)(hd:RY x:=by decide)(jI:BG x:=by decide):PR X (.Name x pos) (xg i):=λs σ H ρ Q E I o=>by unfold xg at o;split at o;rename_i d q;obtain⟨u,lk,r⟩:=I.at hN hv q;exact dF I hv lk (o s H u I Le.refl<|.inl r) hd jI;rename_i d q;obtain⟨l,lk,r⟩:=I.at hN hv q;exact dF I hv lk (o s H _ I Le.refl<|.inr ⟨l,_,rfl,r⟩) hd jI;rename_i d q;obtain⟨l,lk,r,_⟩:=I.at hN hv q;exact dF I hv lk (o s H _ I Le.refl<|.inr ⟨l,_,rfl,r⟩) hd jI;exact o.elim
theorem kP{j}:PV X (.Constant (.int i) j pos) (mC<|.int i):=λs σ H ρ Q E I o=>wpAny_Constant_int (o _ H _ (I.tok _) Le.refl ⟨_,rfl⟩)
theorem Xu{j}:PV X (.Constant (.bool i) j pos) (mC<|.bl i):=λs σ H ρ Q E I o=>Constant_bool (o _ H _ I Le.refl rfl)
theorem FD{j}:PV X (.Constant .none j pos) (mC .aQ):=λs σ H ρ Q E I o=>Constant_none (o _ H _ I Le.refl rfl)
theorem kQ{j}:PV X (.Constant (.str i) j pos) (mC<|.str i):=λs σ H ρ Q E I o=>Calls.Constant_str (o _ H _ (I.tok _) Le.refl ⟨_,rfl⟩)
def Gl(X:Cx)(x:Str):Prop:=X.env.kindOf x=some .globalImplicit
theorem cj(I:Inv X σ H ρ s)(hg:Gl X x)(hm:X.g.mg x=some u)(h:Q u s)(hd:RY x:=by decide):wpAny X.M X.A (eval (.Name x pos) X.env) Q E s:=Calls.Name_function_global I.ok.kind hg (Calls.loadGlobal_global (by rw[I.ok.glob];exact I.mod.glob.keeps I.bk) hm h) hd
theorem qm(I:Inv X σ H ρ s)(hg:Gl X x)(hm:X.g.mg x=none)(hv:bootBuiltins x=some u)(h:Q u s)(hn:x≠"__name__" := by decide)(hd:RY x:=by decide):wpAny X.M X.A (eval (.Name x pos) X.env) Q E s:=by obtain⟨mb,h1,h2⟩:=I.mod.blt;exact Calls.Name_function_global I.ok.kind hg (Calls.loadGlobal_builtin (by rw[I.ok.glob];exact I.mod.glob.keeps I.bk) hm (by rw[I.ok.blt];exact h1.keeps I.bk) ((h2 x hn).trans hv) h) hd
theorem Q0m(hg:Gl X x)(hm:X.g.mg x=some u)(r:∀H,Rel H u d)(hd:RY x:=by decide):PV X (.Name x pos) (mC d):=λs σ H ρ Q E I o=>cj I hg hm (o s H u I Le.refl<|r H) hd
abbrev sX(X:Cx)(σ:Sg)(H:Tm)(ρ:ay)(d:D)(Q:YY):Prop:=∀s' H' w,Inv X σ H' ρ s'->Le H H'->Rel H' w d->Q w s'
def nM(X:Cx)(t:Value->Value->Sem Value)(g:D->D->Y1):Prop:=∀s σ H ρ v u a b d Q E,Inv X σ H ρ s->Rel H v a->Rel H u b->g a b=some d->sX X σ H ρ d Q->wpAny X.M X.A (t v u) Q E s
def Es(X:Cx)(t:Value->Sem Value)(g:D->Y1):Prop:=∀s σ H ρ v a d Q E,Inv X σ H ρ s->RW H s v a->g a=some d->sX X σ H ρ d Q->wpAny X.M X.A (t v) Q E s
def YM(X:Cx)(t:Zg->Sem Value)(g:Y5->Y1):Prop:=∀s σ H ρ us ds d Q E,Inv X σ H ρ s->aF H us ds->g ds=some d->sX X σ H ρ d Q->wpAny X.M X.A (t us) Q E s
theorem two{t:Value->Value->Sem Value}{g:D->D->Y1}(ho:nM X t g)(ha:PV X a fa)(hb:PV X b fb)(I:Inv X σ H ρ s)(o:Out (m2 g fa fb ρ) (OK X σ H RV Q) (OK X σ H (XR X) E)) : wpAny X.M X.A (eval a X.env) (λv s1=>wpAny X.M X.A (eval b X.env) (λu s2=>wpAny X.M X.A (t v u) Q E s2) E s1) E s:=
 ha.Zi I o (λ_ _ q=>q) λs1 H1 aS v d1 I1 l1 r1 o1=>hb.Zi I1 o1 (λ_ _ q=>q.le l1) λs2 H2 sN u d2 I2 l2 r2 o2=>by obtain⟨d,e,q⟩:=o2.opt;exact ho s2 σ H2 sN v u d1 d2 d Q E I2 (r1.le l2) r2 e (q.le<|l1.trans l2)
theorem sy{g:D->D->Y1}(ho:nM X (binaryOp op) g)(ha:PV X a fa)(hb:PV X b fb):PV X (.BinOp a op b pos) (m2 g fa fb):=λs σ H ρ Q E I o=>wpAny_BinOp (two ho ha hb I o)
theorem FA{g:D->D->Y1}(ho:nM X (compareOp op) g)(ha:PV X a fa)(hb:PV X b fb)(hm:behindInMarks op b=false):PV X (.Compare a [op] [b] pos) (m2 g fa fb):=λs σ H ρ Q E I o=>wpAny_Compare1 (two ho ha hb I o) hm
theorem Q16{g:D->Y1}(ho:Es X (unaryOp op) g)(ha:PV X a fa):PV X (.UnaryOp op a pos) (m1 g fa):=λs σ H ρ Q E I o=>UnaryOp_ (ha.Zi I o (λ_ _ q=>q) λs1 H1 aS v d1 I1 l1 r1 o1=>by obtain⟨d,e,q⟩:=o1.opt;exact ho s1 σ H1 aS v d1 d Q E I1 (.inl r1) e<|q.le l1)
theorem Out.le{α β:Type}{R:Rl α β}{Q:β->Shared->Prop}{r:Res α}(o:Out r (OK X σ H R Q) (OK X σ H (XR X) E))(l:Le H H1):Out r (OK X σ H1 R Q) (OK X σ H1 (XR X) E):=o.mono (λ_ _ q=>q.le l) λ_ _ q=>q.le l
theorem ZG{Q:Bool->Shared->Prop}{H0:Tm}{d:D}(I:Inv X σ H ρ s)(l:Le H0 H)(r:Rel H v d)(o:Out (tB (ret d) ρ) (OK X σ H0 RB Q) E'):wpAny X.M X.A (truthy v) Q E s:=by cases d with|bl k=>cases r;exact U7 (o s H k I l rfl)|_=>exact o.elim
theorem kN(h:PV X a fa)(he:∀whole,isTrue a X.env whole=(do let v <-whole;standAt a.pos;holding [v]<|truthy v):=by exact Rc):PB X a (tB fa):=λs σ H ρ Q E I o=>isTrue_plain (h.Zi I o (λ_ _ q=>q) λs1 H1 aS v d1 I1 l1 r1 o1=>ZG I1 l1 r1 o1) (he _)
theorem yx{g:D->D->Y1}(ho:nM X (compareOp op) g)(ha:PV X a fa)(hb:PV X b fb)(hm:behindInMarks op b=false):PB X (.Compare a [op] [b] pos) (tB<|m2 g fa fb):=λs σ H ρ Q E I o=>wpAny_isTrue_Compare1 (two ho ha hb I<|Out.mono o.Zi (λd r q s' H' v I' l r'=>ZG I' l r' q) λ_ _ q=>q) hm
theorem nq(h:PB X a f1):PB X (.UnaryOp .Not a pos) (lZ f1):=λs σ H ρ Q E I o=>isTrue_not (h.Zi I o (λ_ _ q=>q) λs1 H1 aS v d1 I1 l1 r1 o1=>by cases r1;exact o1 s1 H1 _ I1 l1 rfl)
variable{rest:WK}
theorem Jc(h:PB X a f1):A6 X (.BoolOp .And [a] pos) f1:=λw s σ H ρ Q E I o=>isTrue_and (xh (h s σ H ρ Q E I o) λc s1 e=>by cases c with|true=>exact isTrue_and_nil e|false=>exact e)
theorem yy(h:PB X a f1):A6 X (.BoolOp .Or [a] pos) f1:=λw s σ H ρ Q E I o=>isTrue_or (xh (h s σ H ρ Q E I o) λc s1 e=>by cases c with|false=>exact isTrue_or_nil e|true=>exact e)
theorem R7(h1:PB X a f1)(h2:A6 X (.BoolOp .And (b::rest) pos) f2):A6 X (.BoolOp .And (a::b::rest) pos) (uL f1 f2):=λw s σ H ρ Q E I o=>isTrue_and (h1.Zi I o (λ_ _ q=>q) λs1 H1 aS v d1 I1 l1 r1 o1=>by cases r1;cases v with|true=>exact h2 w s1 σ H1 aS Q E I1 (Out.le o1 l1)|false=>exact o1 s1 H1 false I1 l1 rfl)
theorem wk(h1:PB X a f1)(h2:A6 X (.BoolOp .Or (b::rest) pos) f2):A6 X (.BoolOp .Or (a::b::rest) pos) (Gg f1 f2):=λw s σ H ρ Q E I o=>isTrue_or (h1.Zi I o (λ_ _ q=>q) λs1 H1 aS v d1 I1 l1 r1 o1=>by cases r1;cases v with|false=>exact h2 w s1 σ H1 aS Q E I1 (Out.le o1 l1)|true=>exact o1 s1 H1 true I1 l1 rfl)
theorem Q1z(hc:PB X c f1)(ha:PV X a fa)(hb:PV X b fb):PV X (.IfExp c a b pos) (Nr f1 fa fb):=λs σ H ρ Q E I o=>wpAny_IfExp (hc.Zi I o (λ_ _ q=>q) λs1 H1 aS v d1 I1 l1 r1 o1=>by cases r1;cases v with|true=>exact ha s1 σ H1 aS Q E I1 (Out.le o1 l1)|false=>exact hb s1 σ H1 aS Q E I1<|Out.le o1 l1)
theorem Se(ha:PV X a fa):PV X (.UnaryOp .Not a pos) (WV<|lZ<|tB fa):=λs σ H ρ Q E I o=>UnaryOp_ (ha.Zi I o.Zi.Zi (λ_ _ q=>q) λs1 H1 aS v d1 I1 l1 r1 o1=>by cases d1 with|bl k=>cases r1;exact not_of (U7<|o1 s1 H1 _ I1 l1 rfl)|_=>exact o1.elim)
theorem FE{op}(h:PV X a fa):PV X (.BoolOp op [a] pos) fa:=λs σ H ρ Q E I o=>BoolOp_one (h s σ H ρ Q E I o)
theorem Fy(ha:PV X a fa)(hb:PV X (.BoolOp .And (b::rest) pos) fb):PV X (.BoolOp .And (a::b::rest) pos) (sk fa fb):=λs σ H ρ Q E I o=>BoolOp_and (ha.Zi I o (λ_ _ q=>q) λs1 H1 aS v d1 I1 l1 r1 o1=>by
 cases d1 with
 |bl k=>cases r1;refine U7 ?_;cases k with|true=>exact hb s1 σ H1 aS Q E I1 (Out.le o1 l1)|false=>exact o1 s1 H1 _ I1 l1 rfl
 |_=>exact o1.elim)
theorem Xw(ha:PV X a fa)(hb:PV X (.BoolOp .Or (b::rest) pos) fb):PV X (.BoolOp .Or (a::b::rest) pos) (EU fa fb):=λs σ H ρ Q E I o=>BoolOp_or (ha.Zi I o (λ_ _ q=>q) λs1 H1 aS v d1 I1 l1 r1 o1=>by
 cases d1 with
 |bl k=>cases r1;refine U7 ?_;cases k with|false=>exact hb s1 σ H1 aS Q E I1 (Out.le o1 l1)|true=>exact o1 s1 H1 _ I1 l1 rfl
 |_=>exact o1.elim)
end
end WL
end
section
set_option linter.all false
set_option maxRecDepth 100000
namespace WL
open PySem PySem.Spec PyProof.Rows L2 VP
section
variable{X:Cx}{e a b c:Expr}{f fa fb fc:M D}{pos:Pos}{σ:Sg}{H:Tm}{ρ:ay}{s:Shared}{us ws:Zg}{ds es:Y5}
theorem sT:iz=sizeLine:=sizeLine_eq.symm
theorem aF.get{us:Zg}{ds:Y5}{i:Nat}{d:D}(r:aF H us ds)(e:ds[i]?=some d):∃u,us[i]?=some u/\Rel H u d:=by induction r generalizing i with|nil=>cases e|cons r _ ih=>cases i with|zero=>cases e;exact⟨_,rfl,r⟩|succ i=>exact ih e
theorem aF.take{us:Zg}{ds:Y5}(n:Nat)(r:aF H us ds):aF H (us.take n) (ds.take n):=by induction r generalizing n with|nil=>cases n<;>exact .nil|cons r _ ih=>cases n with|zero=>exact .nil|succ n=>exact .cons r (ih n)
theorem aF.drop{us:Zg}{ds:Y5}(n:Nat)(r:aF H us ds):aF H (us.drop n) (ds.drop n):=by induction r generalizing n with|nil=>cases n<;>exact .nil|cons r t ih=>cases n with|zero=>exact .cons r t|succ n=>exact ih n
theorem aF.app{us ws:Zg}{ds es:Y5}(r:aF H us ds)(s:aF H ws es):aF H (us++ws) (ds++es):=by induction r with|nil=>exact s|cons r _ ih=>exact .cons r ih
theorem aF.set(r:Rel H u d):∀{us:Zg}{ds:Y5}(i:Nat),aF H us ds->aF H (us.set i u) (ds.set i d)|_,_,_,.nil=>.nil|_,_,0,.cons _ t=>.cons r t|_,_,i+1,.cons q t=>.cons q (aF.set r i t)
theorem Inv.obj{d:D}(I:Inv X σ H ρ s)(r:RW H s v d)(h:iI d=false):∃a f,v=.ref a/\gH X.g H s.heap f a d:=by
 rcases r with r|⟨l,i,e,q⟩;cases d<;>first|(obtain⟨a,o,e,q⟩:=r;exact⟨a,_,e,(I.aM a _ q).2 _ rfl⟩)|cases h
 exact⟨l,_,e,(I.aM l _ q).1⟩
theorem Inv.lst(I:Inv X σ H ρ s)(r:RW H s v (.lst ds)):∃a us,v=.ref a/\aF H us ds/\PlainL s.heap a us.toArray/\ds.length<=sizeLine:=let ⟨a,_,e,z,us,r,p⟩:=I.obj r rfl;⟨a,us,e,r,p.plain,z⟩
theorem Inv.tup(I:Inv X σ H ρ s)(r:RW H s v (.tup ds)):∃a us,v=.ref a/\aF H us ds/\IsTup s.heap a us.toArray/\ds.length<=sizeLine:=let ⟨a,_,e,_,z,us,r,p⟩:=I.obj r rfl;⟨a,us,e,r,p.tup,z⟩
theorem Inv.BH(t':Nat)(I:Inv X σ H ρ s)(r:aF H us ds)(hz:ds.length<=sizeLine):∃H',Inv X σ H' ρ {s with heap:=s.heap.push {cls:=.type "tuple",data:=.seq us.toArray},toks:=t'}/\Le H H'/\Rel H' (.ref s.heap.objs.size) (.tup ds):=
 have ⟨h1,h2⟩:=I.lay (t':=t') (e:=.pin _<|some<|.tup ds) (λb o e=>Wm _ e) (TC _) λlp=>⟨Zv _ rfl,λe z=>by cases z;exact⟨rfl,hz,us,r.p lp,_,Zv _ rfl,rfl,⟨_,rfl⟩,rfl⟩⟩
 ⟨_,h1,h2,_,_,rfl,az⟩
theorem Inv.abn(t':Nat)(I:Inv X σ H ρ s)(r:aF H us ds)(hz:ds.length<=sizeLine):∃H',Inv X σ H' ρ {s with heap:=s.heap.push {cls:=.type "list",data:=.seq us.toArray},toks:=t'}/\Le H H'/\RF X H' s (.ref s.heap.objs.size) (.lst ds):=
 have ⟨h1,h2⟩:=I.lay (t':=t') (e:=.ow (.lst ds) X.N.length) (λb o e=>Wm _ e) (TC _) (λlp=>⟨⟨hz,us,r.p lp,_,Zv _ rfl⟩,λz=>nomatch z⟩) λd i z=>by cases z;exact TC _
 ⟨_,h1,h2,_,rfl,az⟩
theorem Inv.Nt(t':Nat)(I:Inv X σ H ρ s)(r:aF H us ds)(hz:ds.length<=sizeLine):∃H',Inv X σ H' ρ {s with heap:=s.heap.push {cls:=.type "list",data:=.seq us.toArray},toks:=t'}/\Le H H'/\Rel H' (.ref s.heap.objs.size) (.lst ds):=
 have ⟨h1,h2⟩:=I.lay (t':=t') (e:=.pin _<|some<|.lst ds) (λb o e=>Wm _ e) (TC _) λlp=>⟨Zv _ rfl,λe z=>by cases z;exact⟨hz,us,r.p lp,_,Zv _ rfl⟩⟩
 ⟨_,h1,h2,_,_,rfl,az⟩
def onI(f:Int->Int->Y1):D->D->Option D|.int i,.int j=>f i j|_,_=>none
theorem Nx{t:Value->Value->Sem Value}{g:Int->Int->Y1}(rule:∀i j a b d s σ H ρ Q E,Inv X σ H ρ s->g i j=some d->sX X σ H ρ d Q->wpAny X.M X.A (t (.int i a)<|.int j b) Q E s):nM X t (onI g):=λs σ H ρ v u a b d Q E I r1 r2 e k=>by
 cases a with
 |int i=>cases b with|int j=>obtain⟨t1,rfl⟩:=r1;obtain⟨t2,rfl⟩:=r2;exact rule i j t1 t2 d s σ H ρ Q E I e k|_=>cases e
 |_=>cases e
theorem w_sub:nM X (binaryOp .Sub) jv:=Nx (g:=λi j=>some<|.int<|i-j) λi j a b d s σ H ρ Q E I e k=>by cases e;exact sub_int (k _ H _ (I.tok _) Le.refl ⟨_,rfl⟩)
theorem w_mul:nM X (binaryOp .Mult) um:=Nx (g:=λi j=>if (-(2 ^ 64)<i/\i<2 ^ 64)\/(-(2 ^ 64)<j/\j<2 ^ 64) then some (.int<|i*j) else none) λi j a b d s σ H ρ Q E I e k=>by split at e;rename_i h;cases e;exact mul_int (k _ H _ (I.tok _) Le.refl ⟨_,rfl⟩)<|h.elim (λh=>.of_left<|intBits_le_64 h.1 h.2) λh=>.of_right<|intBits_le_64 h.1 h.2;cases e
theorem Td:nM X (binaryOp .FloorDiv) rW:=Nx (g:=λi j=>if 0<j/\j<1073741824 then some (.int<|i / j) else none) λi j a b d s σ H ρ Q E I e k=>by split at e;rename_i h;cases e;exact floordiv_int WR (by rw[Int.fdiv_eq_ediv_of_nonneg i WR];exact k _ H _ (I.tok _) Le.refl ⟨_,rfl⟩)<|.inl<|PyProof.noPylong_small WR;cases e
theorem w_mod:nM X (binaryOp .Mod) fM:=Nx (g:=λi j=>if 0<j then some (.int<|i % j) else none) λi j a b d s σ H ρ Q E I e k=>by split at e;cases e;exact mod_int' WR (by rw[Int.fmod_eq_emod_of_nonneg i WR];exact k _ H _ (I.tok _) Le.refl ⟨_,rfl⟩);cases e
theorem w_lt:nM X (compareOp .Lt) ltI:=Nx (g:=λi j=>some<|.bl<|decide<|i<j) λi j a b d s σ H ρ Q E I e k=>by cases e;exact lt_int (k _ H _ I Le.refl rfl)
theorem ab3:nM X (compareOp .LtE) EG:=Nx (g:=λi j=>some<|.bl<|decide<|i<=j) λi j a b d s σ H ρ Q E I e k=>by cases e;exact le_int (k _ H _ I Le.refl rfl)
theorem Yu:nM X (compareOp .Gt) HK:=Nx (g:=λi j=>some<|.bl<|decide<|j<i) λi j a b d s σ H ρ Q E I e k=>by cases e;exact gt_int (k _ H _ I Le.refl rfl)
theorem ab2:nM X (compareOp .GtE) TM:=Nx (g:=λi j=>some<|.bl<|decide<|j<=i) λi j a b d s σ H ρ Q E I e k=>by cases e;exact ge_int (k _ H _ I Le.refl rfl)
theorem Yy:Es X (unaryOp .USub) yi:=λs σ H ρ v a d Q E I r e k=>by
 cases a with
 |int i=>
  cases e;rcases r with ⟨t,rfl⟩|⟨l,j,_,q⟩
  exact neg_int<|k _ H _ (I.tok _) Le.refl ⟨_,rfl⟩;exact(I.aM l _ q).1.elim
 |_=>cases e
theorem Rel.isNon{d:D}(r:Rel H v d):(v == Value.none)=isNon d:=by cases d<;>first|(cases r;rfl)|(obtain⟨t,rfl⟩:=r;rfl)|(obtain⟨_,_,rfl,_⟩:=r;rfl)
theorem Yx:nM X (compareOp .Is) isND:=λs σ H ρ v u a b d Q E I r1 r2 e k=>by
 unfold isND at e;split at e;rename_i h;cases b with|aQ=>cases r2;cases e;exact is_none_gen (k s H _ I Le.refl<|congrArg Value.bool r1.isNon)|_=>cases h
 cases e
theorem Hv{prog:Program}{w:World}{A:Around}{E:YY}{t b:Addr}{Q:YY}(ht:IsTup s.heap t (#[]:Array Value))(hb:IsTup s.heap b ws.toArray)(h1:Q (.ref b) s):wpAny (model prog w) A (binaryOp .Add (.ref t)<|.ref b) Q E s:=by obtain⟨⟨cls,dd,data,sl⟩,ho,hc,n,hd⟩:=id ht;obtain⟨⟨aam,ML,data2,T9⟩,G2,Eb,n2,hd2⟩:=id hb;simp only at hc hd Eb hd2;subst hc hd Eb hd2;exact concat_meets ⟨_,ho,rfl⟩ ⟨_,G2,rfl⟩ noFill_tuple_add seq_tuple_add Tn GF (Hn _ _) (tuple_addW0 t b #[] ws.toArray n n2 dd ML sl T9 rfl) ⟨ho,G2,h1⟩
theorem w_add:nM X (binaryOp .Add) aV:=λs σ H ρ v u a b d Q E I r1 r2 e k=>by
 cases a with
 |int i=>cases b with|int j=>obtain⟨t1,rfl⟩:=r1;obtain⟨t2,rfl⟩:=r2;cases e;exact add_int (k _ H _ (I.tok _) Le.refl ⟨_,rfl⟩)|_=>cases e
 |tup xs=>
  cases b with
  |tup ys=>
   simp only[aV] at e;split at e;rename_i hl;rw[sT] at hl;cases e;have ⟨p,us,e1,q1,t1,_⟩:=I.tup<|.inl r1;have ⟨q,ws,e2,q2,t2,_⟩:=I.tup<|.inl r2;subst e1 e2;have hz:us.length+ws.length<=sizeLine:=by rw[q1.length,q2.length];exact hl
   by_cases h:us=[];subst h;cases q1;exact Hv t1 t2<|k s H _ I Le.refl r2;refine HT.Hw t1 t2 h (λz=>?_) (λ_=>?_) hz;subst z;cases q2;rw[JS] at k;exact k s H _ I Le.refl r1;obtain⟨H',I',l',r'⟩:=I.BH s.toks (q1.app q2) (by rw[RH];exact hl);exact k _ H' _ I' l' r';cases e
  |_=>cases e
 |lst xs=>cases b with|lst ys=>simp only[aV] at e;split at e;rename_i hl;rw[sT] at hl;cases e;have ⟨p,us,e1,q1,⟨⟨c1,d1,dt1,sl1⟩,n,ho,hc,_,TP⟩,_⟩:=I.lst<|.inl r1;have ⟨q,ws,e2,q2,⟨⟨c2,d2,dt2,T9⟩,n2,G2,Eb,_,VY⟩,_⟩:=I.lst<|.inl r2;simp only at hc TP Eb VY;subst e1 e2 hc TP Eb VY;refine concat_meets ⟨_,ho,rfl⟩ ⟨_,G2,rfl⟩ noFill_list_add seq_list_add PySem.F.slot_list_add PySem.F.entry_list_add (PySem.F.args_list_add_2 _ _) (list_addW p q us.toArray ws.toArray n n2 d1 d2 sl1 T9 (by rw[Fj,Fj,q1.length,q2.length];exact hl)) ⟨ho,G2,?_⟩;obtain⟨H',I',l',r'⟩:=I.Nt s.toks (q1.app q2) (by rw[RH];exact hl);rw[List.append_toArray];exact k _ H' _ I' l' r';cases e|_=>cases e
 |_=>cases e
theorem aF.ix{i:Int}(h:aF H us ds)(e:Ac ds i=some d):∃j u,TZ us.length i=some j/\us[j]?=some u/\Rel H u d:=by unfold Ac at e;rw[<-h.length] at e;have q:xf us.length i=TZ us.length i:=rfl;rw[q] at e;cases z:TZ us.length i with|none=>rw[z] at e;cases e|some j=>rw[z] at e;obtain⟨u,a,b⟩:=h.get e;exact⟨j,u,rfl,a,b⟩
theorem GK{value slice:Expr}{d1 d2:D}{Q E}(I:Inv X σ H ρ s)(r1:RW H s v d1)(r2:Rel H u d2)(e:aj d1 d2=some d)(k:sX X σ H ρ d Q)(hs:subscripted slice false v u=operate [v,u] (getItem v u)):wpAny X.M X.A (subscriptTail value slice v u) Q E s:=by
 have hn:=xY;cases d1 with
 |lst ds=>cases d2 with|int i=>obtain⟨t,rfl⟩:=r2;obtain⟨a,us,rfl,r,pl,hz⟩:=I.lst r1;obtain⟨j,w,hj,hw,rw'⟩:=r.ix e;obtain⟨h1,h2,h3,h4⟩:=uf hj;have hl:=r.length;have fin:=k s H w I Le.refl rw';by_cases h0:0<=i;rw[seqIndex_of h0 h4] at h1;exact item_listR pl.isList h0 WR (by rw[JY h1];simpa using hw) fin hs;rw[seqIndex_neg WR h3] at h1;exact subscriptTail_builtinR (x:=w) pl.isList.typeIs slot_list_getitem.lookup (wpAny_getItem_list_neg (Q:=λr s'=>r=w/\Q r s') pl.isList WR (by rw[Fj];lia) WR (by rw[Fj,JY h1];simpa using hw) ⟨rfl,fin⟩) hs|_=>cases e
 |tup ds=>cases d2 with|int i=>obtain⟨t,rfl⟩:=r2;obtain⟨a,us,rfl,r,pl,hz⟩:=I.tup r1;obtain⟨j,w,hj,hw,rw'⟩:=r.ix e;obtain⟨h1,h2,h3,h4⟩:=uf hj;have hl:=r.length;exact subscriptTail_builtinR (x:=w) pl.typeIs slot_tuple_getitem.lookup (getItem_tuple (j:=j) (Q:=λr s'=>r=w/\Q r s') pl WR WR (by rw[Fj];exact h1) (by simpa using hw) ⟨rfl,k s H w I Le.refl rw'⟩) hs|_=>cases e
 |_=>cases e
theorem As(ha:PV X a fa)(hb:PV X b fb)(hs:oQ b:=by exact SX):PV X (.Subscript a b pos) (m2 aj fa fb):=λs σ H ρ Q E I o=>Subscript_ (ha.Zi I o (λ_ _ q=>q) λs1 H1 aS v d1 I1 l1 r1 o1=>hb.Zi I1 o1 (λ_ _ q=>q.le l1) λs2 H2 sN u d2 I2 l2 r2 o2=>by obtain⟨d,e,q⟩:=o2.opt;exact GK I2 (.inl<|r1.le l2) r2 e (q.le<|l1.trans l2)<|hs _ _)
theorem Inv.ownAt{d:D}(I:Inv X σ H ρ s)(hN:X.N[j]?=some x)(hv:pH X.env.scope x)(h:own ρ[j]?=some d):∃l,σ x=some (.ref l)/\H l=some (.ow d j):=by unfold own at h;split at h;rename_i d' q;cases h;obtain⟨l,a,b⟩:=I.at hN hv q;exact⟨l,a,b⟩;rename_i d' q;cases h;obtain⟨l,a,b,_⟩:=I.at hN hv q;exact⟨l,a,b⟩;cases h
theorem Sb(j:Nat){x:Str}{p:Pos}(hb:PV X b fb)(hs:oQ b:=by exact SX)(hN:X.N[j]?=some x:=by rfl)(hv:pH X.env.scope x:=by exact BQ)(hd:RY x:=by decide)(jI:BG x:=by decide):PV X (.Subscript (.Name x p) b pos) (jm j fb):=λs σ H ρ Q E I o=>by unfold jm at o;cases q:own ρ[j]? with|none=>rw[q] at o;exact o.elim|some d0=>rw[q] at o;obtain⟨l,hu,_⟩:=I.ownAt hN hv q;refine Subscript_<|dF I hv hu (hb.Zi I o (λ_ _ q=>q) λs1 H1 aS u d1 I1 l1 r1 o1=>?_) hd jI;unfold Et at o1;cases q1:own aS[j]? with|none=>rw[q1] at o1;exact o1.elim|some d=>rw[q1] at o1;obtain⟨d2,e,k⟩:=Out.opt o1;obtain⟨l',z8,h'⟩:=I1.ownAt hN hv q1;rw[hu] at z8;cases z8;exact GK I1 (.inr ⟨_,_,rfl,h'⟩) r1 e (k.le l1) (hs _ _)
end
end WL
end
section
set_option linter.all false
set_option maxRecDepth 100000
namespace WL
open PySem PySem.Spec PyProof.Rows L2 VP
section
variable{X:Cx}{e a b c:Expr}{fe fa fb fc:M D}{pos:Pos}{σ:Sg}{H:Tm}{ρ:ay}{s:Shared}{us ws:Zg}{ds es:Y5}
def RP:Rl (Option Int) Value:=λ_ _ v o=>IsPart v o
def uZ(X:Cx)(e:Option Expr)(f:Option (M D)):Prop:=WP X RP (evalPart e X.env) (lK f)
theorem Jl:uZ X none none:=λs σ H ρ Q E I o=>by rw[evalPart_none];exact Zx (o s H _ I Le.refl .none)
theorem Q0Q(h:PV X e fe):uZ X (some e) (some fe):=λs σ H ρ Q E I o=>by rw[evalPart_some];refine h.Zi I o (λ_ _ q=>q) λs1 H1 aS v d1 I1 l1 r1 o1=>?_;cases d1 with|int i=>obtain⟨t,rfl⟩:=r1;exact o1 s1 H1 _ I1 l1 (.int i t)|_=>exact o1.elim
theorem uG(n d:Nat)(o:VA):HT.eD n d o=j9 n d o:=by cases o<;>rfl
theorem aF.cut(h:aF H us ds)(lo hi:VA):aF H ((us.drop<|HT.eD us.length 0 lo).take<|HT.eD us.length us.length hi-HT.eD us.length 0 lo) (VP.cutD ds lo hi):=by unfold VP.cutD;rw[uG,uG,h.length];exact(h.drop _).take _
theorem vo(ds:Y5)(lo hi:VA):(VP.cutD ds lo hi).length<=ds.length:=by unfold VP.cutD;rw[Q1,List.length_drop];lia
theorem j6{prog:Program}{w:World}{A:Around}{E:YY}{t sl:Addr}{items:Array Value}{vl vu:Value}{lo hi:VA}{Q:YY}(ht:IsTup s.heap t items)(hs:s.heap.IsSliceOf sl vl vu .none)(pl:IsPart vl lo)(pu:IsPart vu hi)(hw:HT.eD items.size 0 lo=0/\HT.eD items.size items.size hi=items.size) (h:Q (.ref t) s):wpAny (model prog w) A (getItem (.ref t)<|.ref sl) Q E s:=by
 obtain⟨os,PO,Ec,mM⟩:=id hs;have hTs:s.TypeIs (.ref sl) "slice" := ⟨os,PO,Ec⟩;unfold getItem;try with_reducible refine RL ?_
 first|refine bx (Zx ?_)|skip
 refine bx<|wpAny_sequenceKey ht.typeIs (by decide) ?_;refine bx<|Bs (name:=Str.ofString "__getitem__") ht.typeIs B3<|XA B3 ht.typeIs entry_tuple_getitem ?_<|args_tuple_getitem _ _;show wpAny _ _ (Builtin.Tuple.tupleItemsOf (.ref t) >>= _) _ _ s;refine bx<|PyProof.Rows.tupleItemsOf_ ht ?_;refine bx<|GP hTs ?_;rw[Zh (by decide)];refine bx<|HT.gV hs pl pu ?_;have aaZ:(((HT.eD items.size 0 lo:Nat):Int) == 0&&(1:Int) == 1&&(HT.eD items.size items.size hi-HT.eD items.size 0 lo) == items.size)=true:=by rw[hw.1,hw.2];simp
 show wpAny _ _ (if (((HT.eD items.size 0 lo:Nat):Int) == 0&&(1:Int) == 1&&(HT.eD items.size items.size hi-HT.eD items.size 0 lo) == items.size)=true then _ else _) _ _ s;rw[Zh aaZ];refine bx ?_;unfold Builtin.Tuple.tupleIsExact;refine bx<|GP ht.typeIs<|Zx ?_;rw[Zh (by decide)];refine bx (WU<|Zx ⟨_,rfl,Zx h⟩)
theorem Q1k{lo hi:Option Expr}{fl fh:Option (M D)}{p2:Pos}(he:PV X e fe)(hl:uZ X lo fl)(hh:uZ X hi fh):PV X (.Subscript e (.Slice lo hi none p2) pos) (EY g6 fe fl fh):=λs σ H ρ Q E I o=>
 Subscript_ (he.Zi I o (λ_ _ q=>q) λs1 H1 aS v d1 I1 l1 r1 o1=>wpAny_Slice (hl.Zi I1 o1 (λ_ _ q=>q.le l1) λs2 H2 sN vl l I2 l2 p1 o2=>hh.Zi I2 o2 (λ_ _ q=>q.le<|l1.trans l2) λs3 H3 ZM vu h I3 l3 p2' o3=>by
  obtain⟨d,e1,q⟩:=o3.opt;rw[evalPart_none];refine Zx ?_;have I4:Inv X σ H3 ZM {s3 with heap:=s3.heap.push {cls:=.type "slice",data:=.fields #[vl,vu,.none]}}:=I3.kept (t':=s3.toks) λb ob q=>Wm _ q;have hs:=Heap.IsSliceOf.new s3.heap vl vu .none;have l13:=l1.trans<|l2.trans l3;have r4:=r1.le<|l2.trans l3;show wpAny X.M X.A (subscriptTail e (.Slice lo hi none p2) v<|.ref s3.heap.objs.size) Q E {s3 with heap:=s3.heap.push {cls:=.type "slice",data:=.fields #[vl,vu,.none]}};generalize s3.heap.push {cls:=.type "slice",data:=.fields #[vl,vu,.none]}=hp at I4 hs;cases d1 with
   |tup ds=>
    cases e1;have ⟨p,us,e1,r,ht,hz⟩:=I4.tup<|.inl r4;subst e1;have BX:=r.length;refine tail_any (ops:=[.ref s3.heap.objs.size,.ref p]) ht.typeIs PyProof.Rows.slot_tuple_getitem.lookup ?_ (by with_unfolding_all rfl);have rc:=r.cut l h;by_cases hw:HT.eD us.toArray.size 0 l=0/\HT.eD us.toArray.size us.toArray.size h=us.toArray.size;refine j6 ht hs p1 p2' hw<|q _ H3 _ I4 l13 ?_;have:VP.cutD ds l h=ds:=by rw[Fj,BX,uG,uG] at hw;unfold VP.cutD;rw[hw.1,hw.2];simp
    rw[this];exact r4;refine HT.lA ht hs p1 p2' hw ?_ (by rw[Fj,BX];exact hz);obtain⟨H',I',l',r'⟩:=I4.BH s3.toks rc<|HJ (vo ds l h) hz;rw[Fj];exact q _ H' _ I' (l13.trans l') r'
   |lst ds=>cases e1;have ⟨p,us,e1,r,ht,hz⟩:=I4.lst<|.inl r4;subst e1;have BX:=r.length;refine tail_any (ops:=[.ref s3.heap.objs.size,.ref p]) ht.isList.typeIs slot_list_getitem.lookup ?_ (by with_unfolding_all rfl);refine wpAny_getItem_list_slice ht.isList hs p1 p2' .none (by decide) ?_ (by rw[Fj,BX];exact hz);obtain⟨H',I',l',r'⟩:=I4.Nt s3.toks (r.cut l h)<|HJ (vo ds l h) hz;rw[rl];exact q _ H' _ I' (l13.trans l') r'|_=>cases e1))
theorem link{g g':D->D->Y1}{P:D->ay->Prop}{E':Xn->ay->Prop}{op Nw:CmpOp}{Q:YY}{E:YY}{N:YY}(ho:nM X (compareOp op) g)(G1:nM X (compareOp Nw) g')(ha:PV X a fa)(hb:PV X b fb)(hc:PV X c fc)(I:Inv X σ H ρ s)
  (o:Out (IC g g' fa fb fc ρ) P E') (hE:∀x r,E' x r->OK X σ H (XR X) E x r) (hQ:∀s' H' bI w d,Inv X σ H' bI s'->Le H H'->Rel H' w d->P d bI->Q w s') (hN:∀s' H' bI,Inv X σ H' bI s'->Le H H'->P (.bl false) bI->N (.bool false) s') :
  wpAny X.M X.A (eval a X.env) (λv s1=>wpAny X.M X.A (eval b X.env) (λu s2=>wpAny X.M X.A (compareOp op v u) (λz s3=>wpAny X.M X.A (truthy z) (λt s4=>if t=true then wpAny X.M X.A (eval c X.env) (λw s5=>wpAny X.M X.A (compareOp Nw u w) Q E s5) E s4 else N z s4) E s3) E s2) E s1) E s:=
 ha.Zi I o hE λs1 H1 aS v d1 I1 l1 r1 o1=>hb.Zi I1 o1 (λx r q=>(hE x r q).le l1) λs2 H2 sN u d2 I2 l2 r2 o2=>by
  obtain⟨d,e,q⟩:=o2.Zi.opt;refine ho s2 σ H2 sN v u d1 d2 d _ E I2 (r1.le l2) r2 e λs3 H3 w I3 l3 r3=>?_;have l:=l1.trans<|l2.trans l3;cases d with
   |bl k=>cases r3;refine U7 ?_;cases k with|true=>refine hc.Zi I3 q (λx r q=>(hE x r q).le l) λs4 H4 G5 z d4 I4 l4 r4 o4=>?_;obtain⟨d5,e5,q5⟩:=o4.opt;exact G1 s4 σ H4 G5 u z d2 d4 d5 Q E I4 (r2.le<|l3.trans l4) r4 e5 λs5 H5 w I5 l5 r5=>hQ s5 H5 G5 w d5 I5 (l.trans<|l4.trans l5) r5 q5|false=>exact hN s3 H3 sN I3 l q
   |_=>exact q.elim
theorem Fz{g g':D->D->Y1}(ho:nM X (compareOp op) g)(G1:nM X (compareOp Nw) g')(ha:PV X a fa)(hb:PV X b fb)(hc:PV X c fc)(hm:lastMarks [op,Nw] [b,c]=false:=by exact SJ):PV X (.Compare a [op,Nw] [b,c] pos) (IC g g' fa fb fc):=λs σ H ρ Q E I o=>Compare_chain (xh (link (N:=Q) ho G1 ha hb hc I o (λ_ _ q=>q) (λs' H' bI w d I' l r q=>q s' H' w I' l r) λs' H' bI I' l q=>q s' H' _ I' l rfl) λv s1 h1=>chain_link (xh h1 λu s2 h2=>xh h2 λz s3 h3=>xh h3 λt s4 h4=>by cases t with|true=>exact chain_last h4|false=>exact h4)) hm
theorem Q0P{g g':D->D->Y1}(ho:nM X (compareOp op) g)(G1:nM X (compareOp Nw) g')(ha:PV X a fa)(hb:PV X b fb)(hc:PV X c fc)(hm:lastMarks [op,Nw] [b,c]=false:=by exact SJ):PB X (.Compare a [op,Nw] [b,c] pos) (tB<|IC g g' fa fb fc):=λs σ H ρ Q E I o=>isTrue_chain (xh (link (Q:=λw s'=>wpAny X.M X.A (truthy w) Q E s') (N:=λ_ s=>Q false s) ho G1 ha hb hc I (Out.Zi o) (λ_ _ q=>q) (λs' H' bI w d I' l r q=>ZG I' l r q) λs' H' bI I' l q=>q s' H' _ I' l rfl) λv s1 h1=>test_link (xh h1 λu s2 h2=>xh h2 λz s3 h3=>xh h3 λt s4 h4=>by cases t with|true=>exact test_last h4|false=>exact h4)) hm
mutual
def toPy:D->PyData|.bl b=>.bool b|.int i=>.int i|.str x=>.str x|.tup xs=>.tuple (toPys xs)|.lst xs=>.list (toPys xs)|_=>.none
def toPys:Y5->List PyData|[]=>[]|x::xs=>toPy x::toPys xs
end
theorem HB(n:Nat):∀(x y:D),plain n x=true->plain n y=true->PyData.eqv (toPy x) (toPy y)=eqB x y:=by
 induction n with
 |zero=>
  intro x y h1 h2;cases x with
  |aQ|bl|int|str=>cases y<;>first|rfl|cases h2
  |_=>cases h1
 |succ n ih=>
  have Wk:∀xs ys:Y5,eS n xs=true->eS n ys=true->PyData.eqvAll (toPys xs) (toPys ys)=oG xs ys:=by intro xs;induction xs with|nil=>intro ys _ _;cases ys<;>rfl|cons x xs Ia=>intro ys h1 h2;cases ys with|nil=>rfl|cons y ys=>simp only[eS,Bool.and_eq_true] at h1 h2;show (PyData.eqv (toPy x) (toPy y)&&PyData.eqvAll (toPys xs) (toPys ys))=(eqB x y&&oG xs ys);rw[ih x y h1.1 h2.1,Ia ys h1.2 h2.2]
  intro x y h1 h2;cases x with
  |tup xs=>cases y<;>first|exact Wk _ _ h1 h2|rfl|cases h2
  |lst xs=>cases y<;>first|exact Wk _ _ h1 h2|rfl|cases h2
  |gp|ins|fm=>cases h1|_=>cases y<;>first|rfl|cases h2
theorem Inv.reads(I:Inv X σ H ρ s)(n:Nat):∀(d:D)(v:Value),plain n d=true->RW H s v d->(∃as,Reads s.heap v (toPy d) as)/\(toPy d).canLay0=true/\(toPy d).depth<=n:=by
 have flat:∀{d v m},iI d=true->plain m d=true->RW H s v d->(∃as,Reads s.heap v (toPy d) as)/\(toPy d).canLay0=true/\(toPy d).depth<=m:=λ{d v m} hf hp r=>by
  rcases r with r|⟨l,i,_,q⟩;cases d with|aQ=>cases r;exact⟨⟨_,.none⟩,rfl,Hr _⟩|bl b=>cases r;exact⟨⟨_,.bool b⟩,rfl,Hr _⟩|int i=>obtain⟨t,rfl⟩:=r;exact⟨⟨_,.int i t⟩,rfl,Hr _⟩|str x=>obtain⟨t,rfl⟩:=r;exact⟨⟨_,.str x t⟩,by cases m<;>exact(Array.all_toList.symm).trans hp,Hr _⟩|_=>cases hf
  have:=I.aM l _ q;cases d with|aQ=>exact absurd rfl this.2|bl|int|str=>exact this.1.elim|_=>cases hf
 induction n with
 |zero=>intro d v hp r;cases d<;>first|exact flat rfl hp r|cases hp
 |succ n ih=>
  have Wk:∀(ds:Y5)(us:Zg),eS n ds=true->aF H us ds->(∃as,ReadsAll s.heap us (toPys ds) as)/\PyData.canLayAll0 (toPys ds)=true/\PyData.depthAll (toPys ds)<=n:=by intro ds;induction ds with|nil=>intro us _ r;cases r;exact⟨⟨_,.nil⟩,rfl,Hr _⟩|cons d ds Ia=>intro us hp r;simp only[eS,Bool.and_eq_true] at hp;cases r with|cons r1 r2=>obtain⟨⟨as,ha⟩,h1,h2⟩:=ih d _ hp.1<|.inl r1;obtain⟨⟨bs,hb⟩,h3,h4⟩:=Ia _ hp.2 r2;exact⟨⟨_,.cons ha hb⟩,by show (_&&_)=true;rw[h1,h3];rfl,by show max _ _<=n;lia⟩
  intro d v hp r;cases d with|tup ds=>obtain⟨a,us,rfl,r,⟨o,ho,hc,m,hd⟩,_⟩:=I.tup r;obtain⟨⟨as,ha⟩,h1,h2⟩:=Wk ds us hp r;exact⟨⟨_,.tuple ho hc hd (by simpa using ha)⟩,h1,Nat.succ_le_succ h2⟩|lst ds=>obtain⟨a,us,rfl,r,pl,_⟩:=I.lst r;obtain⟨o,ho,hc,m,hd⟩:=pl.isList;obtain⟨⟨as,ha⟩,h1,h2⟩:=Wk ds us hp r;exact⟨⟨_,.list ho hc hd (by simpa using ha)⟩,h1,Nat.succ_le_succ h2⟩|gp|ins|fm=>cases hp|_=>exact flat rfl hp r
theorem jV{d:D}(h1:(toPy d).canLay0=true)(h2:(toPy d).depth<=60):SeqAt.shaped (toPy d)=true:=by unfold SeqAt.shaped;rw[h1,Pj WR];rfl
theorem Yt(neg:Bool){Q:YY}{E:YY}{d1 d2 d:D}(hu:X.A.units+64<cLine)(I:Inv X σ H ρ s)(r1:RW H s v d1)(r2:RW H s u d2)(e:QO neg d1 d2=some d)(k:sX X σ H ρ d Q):wpAny X.M X.A (compareOp (if neg then .NotEq else .Eq) v u) Q E s:=by
 have h:plain 60 d1=true/\plain 60 d2=true/\d=.bl (if neg then !eqB d1 d2 else eqB d1 d2):=by
  have e':(if VP.plain 60 d1&&VP.plain 60 d2 then some (D.bl<|if neg then !eqB d1 d2 else eqB d1 d2) else none)=some d:=by cases neg<;>exact e
  split at e';rename_i h;rw[Ss] at h;exact⟨h.1,h.2,(JY e').symm⟩;cases e'
 obtain⟨p1,p2,rfl⟩:=h;obtain⟨⟨as,ra⟩,a1,a2⟩:=I.reads 60 d1 v p1 r1;obtain⟨⟨bs,rb⟩,b1,b2⟩:=I.reads 60 d2 u p2 r2;have q:=HB 60 d1 d2 p1 p2;cases neg;exact SeqAt.compareEq_shaped ra rb (jV a1 a2) (jV b1 b2) hu (by rw[q];exact k s H _ I Le.refl rfl);exact SeqAt.compareNe_shaped ra rb (jV a1 a2) (jV b1 b2) hu (by rw[q];exact k s H _ I Le.refl rfl)
end
end WL
end
section
set_option linter.all false
set_option maxRecDepth 100000
namespace WL
open PySem PySem.Spec PyProof.Rows L2 VP
section
variable{X:Cx}{σ:Sg}{H:Tm}{ρ:ay}{s:Shared}{h':Heap}{Q:Unit->Shared->Prop}{E:YY}{x:Xn}{e:Addr}
def Kp(X:Cx)(H:Tm)(h h':Heap):Prop:=∀b o,h.get? b=some o->(∀vs,o.data≠.fields vs)\/H b≠none->∃sl,h'.get? b=some {o with slots:=sl}/\(b∉qa X.stack->sl=o.slots)
theorem Kp.trans{h1 h2 h3:Heap}(a:Kp X H h1 h2)(b:Kp X H h2 h3):Kp X H h1 h3:=λc o e n=>by obtain⟨sl,e1,n1⟩:=a c o e n;obtain⟨T8,e2,n2⟩:=b c _ e1 n;exact⟨T8,e2,λz=>(n2 z).trans<|n1 z⟩
theorem Inv.oL{t':Nat}(I:Inv X σ H ρ s)(k:Kp X H s.heap h'):Inv X σ H ρ {s with heap:=h',toks:=t'}:=by
 have kk:∀b q o,H b=some q->(∀o,q≠.km o)->s.heap.get? b=some o->h'.get? b=some o:=λb q o hb hq e=>by
  obtain⟨sl,e1,n⟩:=k b o e<|.inr (by rw[hb];exactλz=>nomatch z);have:=n λz=>by rcases I.D3 z with y|⟨_,y⟩;exact en y hb;obtain rfl:=sj y hb;exact hq _ rfl
  rw[this] at e1;exact e1
 have aM:pF X.g H h':=λa q hq=>by
  have y:=I.aM a q hq;have mv:∀{f:Bool}{d:D},(∀o,q≠.km o)->gH X.g H s.heap f a d->gH X.g H h' f a d:=λhn y=>y.mv (λ_ _ _ z=>z) (kk a q · hq hn) (λ_ _ z=>z) λb o z=>by
   rcases z with ⟨_,z⟩|⟨_,_,z⟩
   exact kk b _ o z λ_ z=>nomatch z;exact kk b _ o z λ_ z=>nomatch z
  cases q with|pin o d=>exact⟨kk a _ o hq (λ_ z=>nomatch z) y.1,λe z=>mv (λ_ z=>nomatch z)<|y.2 e z⟩|ow d i=>exact⟨mv (λ_ z=>nomatch z) y.1,y.2⟩|di b=>obtain⟨o,z⟩:=y;exact⟨o,kk a _ o hq (λ_ z=>nomatch z) z⟩|km o=>obtain⟨sl,z⟩:=y;obtain⟨T8,z',_⟩:=k a _ z<|.inr (by rw[hq];exactλz=>nomatch z);exact⟨T8,z'⟩|d7 o=>exact kk a _ o hq (λ_ z=>nomatch z) y
 obtain⟨e1,e2⟩:=I.Dk (h':=h') λb o hb q=>by
  have:∀vs,o.data≠.fields vs:=by rcases hb with rfl|⟨x,e⟩;obtain⟨m,⟨o',es,ep,ho,hd,_⟩,_⟩:=I.loc;obtain rfl:=sj q ho;rw[hd];exactλ_ z=>nomatch z;obtain⟨⟨v,o',ho,hd⟩,_⟩:=I.cell x b e;obtain rfl:=sj q ho;rw[hd];exactλ_ z=>nomatch z
  obtain⟨sl,e1,_⟩:=k b o q<|.inl this;exact⟨sl,e1⟩
 exact⟨I.ok,I.os,I.bare,I.le,I.nw,aM,e1,I.slot,I.tg,I.fl,λx c e=>⟨e2 x c e,(I.cell x c e).2⟩,I.len⟩
theorem Kp.upd{a:Addr}{o:Obj}{vs:Array Value}{f:Obj->Obj}{h:Heap}(ha:H a=none)(ho:h.get? a=some o)(hd:o.data=.fields vs):Kp X H h (h.update a f):=λb q e n=>by
 have:b≠a:=λz=>by subst z;obtain rfl:=sj ho e;exact n.elim (λz=>z vs hd) λz=>z ha
 exact⟨q.slots,(UM _ _<|JL this).trans e,λ_=>rfl⟩
theorem Gn{i v:Value}{c:Value}{dx:Ra}{T:Addr}{ot:Obj}{ts vs:Array Value}{sl:Array (Option Value)}(I:Inv X σ H ρ s)
  (he:s.heap.get? e=some ⟨c,dx,.fields vs,sl⟩) (GV:T≠e) (GZ:H T=none) (HS:s.heap.get? T=some ot) (hd:ot.data=.fields ts) (h3:ts[3]?=some v)
  (hQ:∀h',Inv X σ H ρ {s with heap:=h'}->Kp X H s.heap h'->h'.get? e=some ⟨c,dx,.fields vs,sl⟩->(∃Zo B5,h'.get? T=some Zo/\Zo.data=.fields B5/\B5[3]?=some i)->Q () {s with heap:=h'}):wpAny X.M X.A (setField (.ref T) 3 i) Q E s:=by
 have hsz:3<ts.size:=(Array.getElem?_eq_some_iff.mp h3).1;have kp:=Kp.upd (X:=X) (f:=Obj.mapFields (·.setIfInBounds 3 i)) GZ HS hd;refine IP HS hd hsz (hQ _ (I.oL (t':=s.toks) kp) kp ((UM _ _ GV).trans he) ⟨_,_,Xs _ HS<|yJ<|Tq hd _,Tq hd _,by simp[hsz]⟩)
theorem ur{c:Value}{dx:Ra}{v:IW}(I:Inv X σ H ρ s)(x:Hk X.n₀ H s.heap e c dx v)(hQ:∀h' w,Inv X σ H ρ {s with heap:=h'}->Kp X H s.heap h'->Hk X.n₀ H h' e c dx (some w)->Q () {s with heap:=h'}):wpAny X.M X.A (noteFrame (.ref e) X.env) Q E s:=by
 obtain⟨fv,ol,L,hs,V1,V0⟩:=I.ok.fr0;have fo:PySem.frameOf X.env=PySem.frameOf fv:=by unfold PySem.frameOf;rw[V0,V1]
 have new:∀{s:Shared}{vs:Array Value}{sl:Array (Option Value)}{zY:Bool}{head:Value}{Q:Unit->Shared->Prop},Inv X σ H ρ s->s.heap.get? e=some ⟨c,dx,.fields vs,sl⟩->vs[2]?=some .none->1<vs.size->H e=none->X.n₀<=e ->
   (∀h',Inv X σ H ρ {s with heap:=h'}->Kp X H s.heap h'->Hk X.n₀ H h' e c dx (some<|rawInt L)->Q () {s with heap:=h'}) ->
   wpAny X.M X.A (do let a <-frameOf X.env;let pl <-entryPlaceOf L zY;let b <-EntryCells.newEntry head a .none (rawInt L) .none pl;setField (.ref e) 1 b) Q E s:=by
  intro s vs sl zY head Q I he PW hsz GZ Cd hQ;have hl:s.heap.FunFrames X.g.base (fv::ol):=by rw[<-hs];exact I.stack
  have fe:qa X.stack=(fv::ol).filterMap (·.frame):=by rw[hs];rfl
  rw[fo];refine bx<|wpAny_frameOf_fun (by rw[<-hs];exact I.ok.frames) hl V1 λbB dW=>?_;rw[<-fe] at dW;refine bx<|wpAny_entryPlaceOf λpl gO=>?_;unfold EntryCells.newEntry newFields;refine bx<|D7 ?_<|gO.sizeOk5 _ _ _ _ _;have aaL:e∉qa X.stack:=λhm=>by rw[fe] at hm;obtain⟨_,o,ho,hnf⟩:=hl.mem hm;obtain rfl:=sj he ho;exact hnf vs rfl
  have M6:bB.get? e=some ⟨c,dx,.fields vs,sl⟩:=(dW.2.1 e aaL).trans he;have h3:([head,.ref L,.none,rawInt L,.none]++(if pl.isEmpty then List.replicate 6 Value.none else pl)).toArray[3]?=some (rawInt L):=T2;generalize ([head,.ref L,.none,rawInt L,.none]++(if pl.isEmpty then List.replicate 6 Value.none else pl)).toArray=ts at h3;have Ed:=Wm (h:=bB) {cls:=.type "traceback",dict:=none,data:=.fields ts} M6;have k1:Kp X H s.heap (bB.push {cls:=.type "traceback",dict:=none,data:=.fields ts}):=λb o q n=>by by_cases hb:b∈qa X.stack;obtain⟨sl,z⟩:=dW.2.2 b o q;exact⟨sl,Wm _ z,λy=>absurd hb y⟩;exact⟨o.slots,Wm _ ((dW.2.1 b hb).trans q),λ_=>rfl⟩
  have kp:=k1.trans<|Kp.upd (f:=Obj.mapFields (·.setIfInBounds 1<|Value.ref bB.objs.size)) GZ Ed rfl;have GV:bB.objs.size≠e:=yB<|Hz M6;refine IP Ed rfl hsz<|hQ _ (I.oL (t':=s.toks) kp) kp ⟨vs.setIfInBounds 1<|.ref bB.objs.size,sl,?_,by rw[Array.getElem?_setIfInBounds_ne (by decide)];exact PW,GZ,Cd,bB.objs.size,{cls:=.type "traceback",dict:=none,data:=.fields ts},ts,by simp[hsz],GV,?_,?_,?_,rfl,h3⟩;rw[Xs _ Ed<|yJ<|Tq rfl _];rfl;rw[dW.1];exact I.sz;rw[dW.1];exact I.aM.fresh<|TC _;exact(UM _ _<|JL GV).trans (Zv bB rfl)
 unfold noteFrame;simp only[V0];obtain⟨vs,sl,he,PW,GZ,Cd,x⟩:=x;cases v with|none=>refine bx<|Gk he rfl x ?_;rw[Y4 (by decide)];exact new I he PW (Array.getElem?_eq_some_iff.mp x).1 GZ Cd λh'=>hQ h' _|some v=>obtain⟨T,ot,ts,h1,GV,hTl,VO,HS,hd,h3⟩:=x;refine bx<|Gk he rfl h1 ?_;rw[Zh (show (Value.ref T != Value.none)=true from by simp)];refine bx<|Gk HS hd h3 ?_;by_cases q:(v == rawInt L)=true;rw[Zh q];exact Zx<|hQ s.heap _ I (λb o e _=>⟨o.slots,e,λ_=>rfl⟩) ⟨vs,sl,he,PW,GZ,Cd,T,ot,ts,h1,GV,hTl,VO,HS,hd,h3⟩;rw[Y4 q];refine bx<|Gn (i:=.none) I he GV VO HS hd h3 λh' I' kp VZ _=>?_;exact new I' VZ PW (Array.getElem?_eq_some_iff.mp h1).1 GZ Cd λh2 I2 k2 x2=>hQ h2 _ I2 (kp.trans k2) x2
theorem je{c:Value}{dx:Ra}{v:Value}(fr:Ra)(I:Inv X σ H ρ s)(x:Hk X.n₀ H s.heap e c dx (some v))(hQ:∀h',Inv X σ H ρ {s with heap:=h'}->Kp X H s.heap h'->Hk X.n₀ H h' e c dx (some<|fr.elim .none λf=>rawInt f)->Q () {s with heap:=h'}):wpAny X.M X.A (setFlight (.ref e) fr) Q E s:=by obtain⟨vs,sl,he,PW,GZ,Cd,T,ot,ts,h1,GV,hTl,VO,HS,hd,h3⟩:=x;unfold setFlight;refine bx<|Gk he rfl h1 ?_;rw[Zh (show (Value.ref T != Value.none)=true from by simp)];exact Gn I he GV VO HS hd h3 λh' I' kp VZ ⟨Zo,B5,q1,q2,q3⟩=>hQ h' I' kp ⟨vs,sl,VZ,PW,GZ,Cd,T,Zo,B5,h1,GV,hTl,VO,q1,q2,q3⟩
theorem pB.kp(kp:Kp X H s.heap h')(f:pB H s.heap b ns ds):pB H h' b ns ds:=by obtain⟨fs,k1,k2,k3,mA,⟨od,es,ep,n1,n2,n3⟩,k4⟩:=f;obtain⟨sl,q,_⟩:=kp b od n1<|.inl (by rw[n2];exactλ_ z=>nomatch z);exact⟨fs,k1,k2,k3,mA,⟨_,es,ep,q,n2,n3⟩,k4⟩
theorem passes(I:Inv X σ H ρ s)(x:XR X H s v xn)(k:∀s',Inv X σ H ρ s'->XR X H s' v xn->E v s'):notedBy X.M X.A X.env (cameBackBy X.M X.A X.env E) v s:=by
 obtain⟨e,C,dx,rfl,hm,hx,w,x⟩:=x;have back:∀{h':Heap} {w},Kp X H s.heap h'->Hk X.n₀ H h' e (.ref C) dx w->XR X H {s with heap:=h'} (.ref e) xn:=λ{h' w} kp x=>by exact⟨e,C,dx,rfl,hm,hx.imp id λ⟨b,o,h1,h2,f⟩=>⟨b,o,h1,h2,f.kp kp⟩,w,x⟩
 refine ur I x λh' w' I' kp x'=>?_;obtain⟨vs,sl,he,_,_,_,T,ot,ts,h1,_⟩:=id x';refine bx<|Gk he rfl h1 ?_;rw[Y4 T2];exact je _ I' x' λh2 I2 k2 x2=>k _ I2 (back (kp.trans k2) x2)
end
end WL
end
section
set_option linter.all false
set_option maxRecDepth 100000
namespace WL
open PySem PySem.Spec PyProof.Rows L2 VP
section
variable{α β γ:Type}
theorem YX.Zi{R:Rl α β}{f:M α}{t:Sem β}{k:α->M γ}{P:γ->ay->Prop}(h:YX X R t f)(I:Inv X σ H ρ s)(o:Out (Zi f k ρ) P E')(hE:∀x r,E' x r->jy X H (XR X) E x r)(c:∀s' dR H' bI b a,Inv X dR H' bI s'->Le H H'->R H' s' b a->Out (k a bI) P E'->Q b s'):wpAny X.M X.A t Q E s:=
 h s σ H ρ Q E I (o.Zi.mono (λa r q s' dR H' b I' l r'=>c s' dR H' r b a I' l r' q) hE)
theorem Out.Zl{R:Rl α β}{Q:β->Shared->Prop}{r:Res α}(o:Out r (jy X H R Q) (jy X H (XR X) E))(l:Le H H1):Out r (jy X H1 R Q) (jy X H1 (XR X) E):=o.mono (λ_ _ q=>q.le l) λ_ _ q=>q.le l
end
section
variable{X:Cx}{st:Stmt}{rest:List Stmt}{e a b c tg VE:Expr}{fe fa fb:M D}{f g:M Fl}{f1:M Bool}{pos:Pos}{σ:Sg}{H:Tm}{ρ:ay}{s:Shared}{Q:Flow->Shared->Prop}{E:YY}
theorem ax:iV X [] aJ:=λs σ H ρ Q E I o=>wpAny_execs_nil (o s σ H _ I Le.refl rfl)
theorem ae(h1:gY X st f)(h2:iV X rest g):iV X (st::rest) (ai f g):=λs σ H ρ Q E I o=>wpAny_execs_cons (h1.Zi I o (λ_ _ q=>q) λs1 Ug H1 aS b k I1 l1 r1 o1=>by cases k with|nx=>cases r1;exact h2 s1 Ug H1 aS Q E I1 (Out.Zl o1 l1)|bk=>cases r1;exact o1 s1 Ug H1 _ I1 l1 rfl|ct=>cases r1;exact o1 s1 Ug H1 _ I1 l1 rfl|rt d=>obtain⟨v,rfl,r⟩:=r1;exact o1 s1 Ug H1 _ I1 l1 ⟨v,rfl,r⟩)
theorem GD{i:Nat}(h:gY X st f):gY X st (BW i f):=λs σ H ρ Q E I o=>by unfold BW VP.Zi Qm at o;cases q:ρ[i]? with|none=>simp only[q] at o;exact o.elim|some t=>simp only[q] at o;cases t with|no=>exact o.elim|io d=>exact o.elim|sh d=>exact h s σ H ρ Q E I o|ow d=>obtain⟨x,_,l,_,hl⟩:=I.slot i _ q;obtain⟨H',_,I',l',_⟩:=I.fz hl<|.inl q;exact h s σ H' _ Q E I' (Out.Zl o l')
theorem Inv.quiet(I:Inv X σ H ρ s):interactive X.env=false:=by simp[interactive,I.ok.kind]
theorem gi(he:PV X e fe)(hs:swapsWith e none pos.line X.env=pure false:=by rfl):gY X (.Expr e pos) (iL fe):=λs σ H ρ Q E I o=>wpAny_Expr_any (he.Zi I o (λ_ _ q=>q.x) λs1 H1 aS v d1 I1 l1 r1 o1=>o1 s1 σ H1 _ I1 l1 rfl) I.quiet hs
theorem fP(he:PV X e fe):gY X (.Return (some e) pos) (a8 fe):=λs σ H ρ Q E I o=>wpAny_Return_some (he.Zi I o (λ_ _ q=>q.x) λs1 H1 aS v d1 I1 l1 r1 o1=>o1 s1 σ H1 _ I1 l1 ⟨v,rfl,r1⟩)
theorem cB{sa sb:List Stmt}(hc:PB X c f1)(ha:iV X sa f)(hb:iV X sb g):gY X (.If c sa sb pos) (eC f1 f g):=λs σ H ρ Q E I o=>wpAny_If (hc.Zi I o (λ_ _ q=>q.x) λs1 H1 aS v d1 I1 l1 r1 o1=>by cases r1;cases v with|true=>exact ha s1 σ H1 aS Q E I1 (Out.Zl o1 l1)|false=>exact hb s1 σ H1 aS Q E I1<|Out.Zl o1 l1)
def Uw(X:Cx)(σ:Sg)(H:Tm)(js:WC)(Q:Unit->Shared->Prop):Unit->ay->Prop:=λ_ bI=>∀s' dR H',Inv X dR H' bI s'->Le H H'->(∀x,(∀j∈js,X.N[j]?≠some x)->dR x=σ x)->Q () s'
theorem nA{Q:Unit->Shared->Prop}{d:D}{i:Nat}{x:Str}(own:Bool)(I:Inv X σ H ρ s)(hN:X.N.Nodup)(hi:X.N[i]?=some x)(hx:Loc X.env.scope x)(hf:X.fn=true\/X.env.scope.names.lookup x=some .local)(hr:if own then RF X H s v d else Rel H v d)(o:Out ((if own then BD i d else mY i d) ρ) (Uw X σ H [i] Q) E'):wpAny X.M X.A (storeName X.env x v) Q E s:=by
 have V0:free ρ[i]?=true/\Uw X σ H [i] Q () (ρ.set i<|if own then .ow d else .sh d):=by
  have o':Out (if free ρ[i]? then .ok () (ρ.set i<|if own then .ow d else .sh d) else .no) (Uw X σ H [i] Q) E':=by cases own<;>exact o
  split at o';exact⟨‹_›,o'⟩;exact o'.elim
 refine I.store hN hi hx hf V0.1 ?_ λs' H' I' l'=>V0.2 s' _ H' I' l' λy z=>Y4 λ(e:y=x)=>z i TL (by rw[e];exact hi);cases own;exact .inl ⟨d,rfl,hr⟩;obtain⟨l,a,b⟩:=hr;exact .inr ⟨d,l,_,rfl,a,b,TC _⟩
theorem GH(i:Nat){x:Str}{To:Pos}(hN:X.N.Nodup)(hi:X.N[i]?=some x)(hx:Loc X.env.scope x)(he:PV X e fe)(hs:swapsWith e (some<|.Name x To) pos.line X.env=pure false:=by rfl)(hf:X.fn=true\/X.env.scope.names.lookup x=some .local:=by exact Fm):gY X (.Assign [.Name x To] e pos) (aO i fe):=λs σ H ρ Q E I o=>wpAny_Assign_Name (he.Zi I o (λ_ _ q=>q.x) λs1 H1 aS v d1 I1 l1 r1 o1=>nA false I1 hN hi hx hf r1<|o1.Zi.mono (λ_ _ q s' dR H' I' l' _=>q s' dR H' _ I' (l1.trans l') rfl) λ_ _ q=>q) hs
theorem S9(i:Nat){x:Str}{To:Pos}(hN:X.N.Nodup)(hi:X.N[i]?=some x)(hx:Loc X.env.scope x)(he:PF X e fe)(hs:swapsWith e (some<|.Name x To) pos.line X.env=pure false:=by rfl)(hf:X.fn=true\/X.env.scope.names.lookup x=some .local:=by exact Fm):gY X (.Assign [.Name x To] e pos) (gU i fe):=λs σ H ρ Q E I o=>wpAny_Assign_Name (he.Zi I o (λ_ _ q=>q.x) λs1 H1 aS v d1 I1 l1 r1 o1=>nA true I1 hN hi hx hf r1<|o1.Zi.mono (λ_ _ q s' dR H' I' l' _=>q s' dR H' _ I' (l1.trans l') rfl) λ_ _ q=>q) hs
def u0(X:Cx)(tg:Expr)(js:WC)(g:D->M Unit):Prop:=∀s σ H ρ v d Q E,Inv X σ H ρ s->Rel H v d->Out (g d ρ) (Uw X σ H js Q) (jy X H (XR X) E)->wpAny X.M X.A (assign tg X.env v) Q E s
def u3(X:Cx)(ts:WK)(is:WC):Prop:=∀s σ H ρ vs ds Q E,Inv X σ H ρ s->aF H vs ds->Out (q9 is ds ρ) (Uw X σ H is Q) (jy X H (XR X) E)->wpAny X.M X.A (assignInOrder ((assignEach ts X.env).map (·.2)) vs) Q E s
theorem AZ(i:Nat){x:Str}(hN:X.N.Nodup)(hi:X.N[i]?=some x)(hx:Loc X.env.scope x)(hf:X.fn=true\/X.env.scope.names.lookup x=some .local:=by exact Fm):u0 X (.Name x pos) [i] (ao i):=λs σ H ρ v d Q E I r o=>EE (nA false I hN hi hx hf r o)
theorem mn:u3 X [] []:=λs σ H ρ vs ds Q E I r o=>by cases r with|nil=>exact assignInOrder_nil (o s σ H I Le.refl λ_ _=>rfl)|cons h t=>exact o.elim
theorem wR(i:Nat){is:WC}{x:Str}{es:WK}(hN:X.N.Nodup)(hi:X.N[i]?=some x)(hx:Loc X.env.scope x)(h2:u3 X es is)(hf:X.fn=true\/X.env.scope.names.lookup x=some .local:=by exact Fm) (hs:(assignEach (.Name x pos::es) X.env).map (·.2)=assign (.Name x pos) X.env::(assignEach es X.env).map (·.2):=by rfl):u3 X (.Name x pos::es) (i::is):=λs σ H ρ vs ds Q E I r o=>by cases r with|nil=>exact o.elim|cons h t=>rw[hs];exact assignInOrder_cons (EE<|nA false I hN hi hx hf h<|o.Zi.mono (λ_ _ q s' dR H' I' l' g=>h2 s' dR H' _ _ _ Q E I' (aF.le l' t)<|q.mono (λ_ _ q s2 Kl H2 I2 l2 g2=>q s2 Kl H2 I2 (l'.trans l2) λx hx=>(g2 x λj hj=>hx j<|SY _ hj).trans<|g x λj hj=>hx j (by simp at hj;subst hj;exact TL)) λ_ _ q=>q.le l') λ_ _ q=>q)
theorem vP:∀{is:WC}{ds:Y5}{ρ:ay}{P:Unit->ay->Prop}{E:Xn->ay->Prop},Out (q9 is ds ρ) P E->ds.length=is.length|[],[],_,_,_,_=>rfl|i::is,d::ds,ρ,P,E,o=>by have o':=o.Zi;unfold mY at o';split at o';exact congrArg Nat.succ<|vP (is:=is) o';exact o'.elim
theorem qS{es:WK}{k:Nat}{is:WC}(hc:X.calm=true)(h:u3 X es is)(hn:(assignEach es X.env).length=is.length:=by rfl)(iO:(assignEach es X.env).findIdx? (·.1)=none:=by rfl):u0 X (.Tuple es k pos) is (b8 is):=λs σ H ρ v d Q E I r o=>by cases d with|tup ds=>obtain⟨a,us,rfl,rv,ht,hz⟩:=I.tup<|.inl r;refine assign_Tuple_tuple (I.ok.hd hc) ht (by simp[hn,rv.length,vP o]) iO λh' hx=>?_;have I1:Inv X σ H ρ {s with heap:=h'}:=I.kept (t':=s.toks) λb o e=>hx b o (Rb<|Hz e) e;exact h _ σ H ρ _ ds Q E I1 rv o|_=>exact o.elim
def XE(X:Cx)(H:Tm)(E:YY)(v:Value)(s':Shared):Prop:=∃dR H' bI x,Inv X dR H' bI s'/\Le H H'/\XR X H' s' v x/\jy X H (XR X) E x bI
theorem XE.passes(h:XE X H E v s):notedBy X.M X.A X.env (cameBackBy X.M X.A X.env E) v s:=by obtain⟨dR,H',bI,x,I,l,r,k⟩:=h;exact WL.passes I r λs' I' r'=>k s' dR H' v I' l r'
theorem jy.xe{x:Xn}{r:ay}(k:jy X H (XR X) E x r)(l:Le H H1):jy X H1 (XR X) (XE X H E) x r:=λs' dR H' v I' l' r'=>⟨dR,H',_,x,I',l.trans l',r',k⟩
theorem jy.xx{x:Xn}{r:ay}(k:jy X H (XR X) E x r)(l:Le H H1):OK X σ H1 (XR X) (XE X H E) x r:=(k.xe l).x
def YQ(fp:xW)(H H':Tm):Prop:=∀a e,H a=some e->e.fast->(∃o d,e=.pin o d)\/a∈fp->H' a=some e
theorem Le.lf(l:Le H H'):YQ fp H H':=λa e q f _=>l a e q f
theorem YQ.p(l:YQ fp H H'):j1 H H':=λ_ _ _ q=>l _ _ q trivial (.inl ⟨_,_,rfl⟩)
def Tw(fp:xW)(H H':Tm):Prop:=∀a e,a∉fp->H a=some e->e.fast->H' a=some e
structure sR(g:Gb)(tg:Expr)(it:Addr)(fp:xW)(ds:Y5)(St:Nat->Tm->Prop):Prop where
 le:∀i H H',St i H->YQ fp H H'->St i H'
 item:∀(X:Cx)(σ:Sg)(i:Nat)(H:Tm)(ρ:ay)(s:Shared)(d:D)(Q:YY)(E:YY),X.g=g->X.calm=true->Inv X σ H ρ s->(∀b∈fp,X.H₀ b=none)->St i H->ds[i]?=some d->(∀s' H' u,Inv X σ H' ρ s'->Tw fp H H'->Rel H' u d->St (i+1) H'->Q u s')->wpAny X.M X.A (pyNext<|.ref it) (λr s1=>∃u,r=some u/\wpAny X.M X.A (letOwnedTupleGo tg (.ref it) u) (λ_ s2=>Q u s2) E s1) E s
 done:∀(X:Cx)(σ:Sg)(H:Tm)(ρ:ay)(s:Shared)(Q:Shared->Prop)(E:YY),X.g=g->X.calm=true->Inv X σ H ρ s->(∀b∈fp,X.H₀ b=none)->St ds.length H->(∀s' H',Inv X σ H' ρ s'->Tw fp H H'->Q s')->wpAny X.M X.A (pyNext<|.ref it) (λr s1=>r=none/\Q s1) E s
 self:∀(A:Around)(s:Shared)(i:Nat)(H:Tm)(Q:YY)(E:YY),pF g H s.heap->St i H->Q (.ref it) s->wpAny (model g.prog g.w) A (pyIter<|.ref it) Q E s
def qW(X:Cx)(tg VE:Expr)(f:M (List D)):Prop:=∀s σ H ρ Q E,Inv X σ H ρ s->Out (f ρ) (λds bI=>∀(s':Shared)(H':Tm)(it:Addr)(fp:xW)(St:Nat->Tm->Prop),Inv X σ H' bI s'->Le H H'->sR X.g tg it fp ds St->St 0 H'->(∀b∈fp,(∃o,H' b=some (.d7 o))/\(∀e,H b=some e->¬e.fast)/\X.H₀ b=none)->Q (.ref it) s') (OK X σ H (XR X) E)->wpAny X.M X.A (eval VE X.env) (λv s1=>wpAny X.M X.A (pyIter v) Q E s1) E s
theorem Tw.of(l:Le H H1)(x:Tw fp H1 H2)(hn:∀b∈fp,∀e,H b=some e->¬e.fast):Le H H2:=λa e q f=>x a e (λz=>hn a z e q f) (l a e q f) f
theorem GC{it:M (List D)}{gf:D->M Unit}{body:List Stmt}(w7:X.fn=true)(hc:X.calm=true)(hi:qW X tg VE it)(hg:u0 X tg js gf)(hb:iV X body f)(hs:∀x,foldedSetIterable VE X.env x=pure x:=by exact Rc):gY X (.For tg VE body [] pos) (iQ it gf f):=λs σ H ρ Q E I o=>by
 refine wpAny_For (hi s σ H ρ _ E I<|o.Zi.mono (λds aS o1 s1 H1 ita fp St I1 l1 T Zy w8=>?_) λ_ _ q=>q.x) hs;have h0:∀b∈fp,X.H₀ b=none:=λb hb=>(w8 b hb).2.2;refine codeAny_forLoop_any (λn s'=>∃i dR H' bI,n=ds.length-i/\i<=ds.length/\Inv X dR H' bI s'/\Le H H'/\St i H'/\Out (loop gf f (ds.drop i) bI) (jy X H RS Q) (jy X H (XR X) E)) ?_ ds.length ⟨0,σ,H1,aS,rfl,Hr _,I1,l1,Zy,o1⟩;rintro n s2 ⟨i,Kl,H2,sN,rfl,TQ,I2,l2,qL,o2⟩;have px:∀{α:Type}{t:Sem α}{Q':α->Shared->Prop}{s':Shared},wpAny X.M X.A t Q' (XE X H E) s'->wpAny X.M X.A t Q' (notedBy X.M X.A X.env<|cameBackBy X.M X.A X.env E) s':=λh=>P9 h (λ_ _ q=>q) λ_ _ z=>z.passes;by_cases dQ:i<ds.length;rw[Yd dQ] at o2;refine px<|xh (T.item X Kl i H2 sN s2 ds[i] (λu s'=>∃H',Inv X Kl H' sN s'/\Le H H'/\Rel H' u ds[i]/\St (i+1) H') _ rfl hc I2 h0 qL (by simp[dQ]) λs' H' u I' x r st=>⟨H',I',x.of l2 λb hb=>(w8 b hb).2.1,r,st⟩) λr s3 hr=>?_;obtain⟨u,hr,h3⟩:=hr;subst hr;refine px<|xh h3 λ_ s4 ⟨H4,I4,l4,r4,Zz⟩=>px<|hg s4 Kl H4 sN u _ _ _ I4 r4<|(Out.Zi o2).mono (λ_ GQ o5 s5 σ5 H5 I5 l5 _=>?_) λ_ _ q=>q.xe l4;have l45:=l4.trans l5;refine px<|hb.Zi I5 o5 (λ_ _ q=>q.xe l45) λs6 OQ H6 Ue fl k I6 l6 r6 o6=>?_;have Zk:=l45.trans l6;have X6:=T.le _ _ _ Zz (l5.trans l6).lf;cases k with|nx=>cases r6;exact⟨_,WR,i+1,OQ,H6,Ue,rfl,dQ,I6,Zk,X6,o6⟩|ct=>cases r6;exact⟨_,WR,i+1,OQ,H6,Ue,rfl,dQ,I6,Zk,X6,o6⟩|bk=>cases r6;exact o6 s6 OQ H6 _ I6 Zk rfl|rt d=>obtain⟨v,rfl,r⟩:=r6;exact o6 s6 OQ H6 _ I6 Zk ⟨v,rfl,r⟩
 have e:i=ds.length:=WR;subst e;rw[List.drop_length] at o2;refine px<|xh (T.done X Kl H2 sN s2 _ _ rfl hc I2 h0 qL λs' H' I' x=>o2 s' Kl H' .next I' (x.of l2 λb hb=>(w8 b hb).2.1) rfl) λr s3 hr=>?_;obtain⟨hr,h3⟩:=hr;subst hr;exact wpAny_execs_nil h3
end
end WL
end
section
set_option linter.all false
set_option maxRecDepth 100000
namespace WL
open PySem PySem.Spec PyProof.Rows L2 VP
section
variable{X:Cx}{e a b c tg VE:Expr}{es:WK}{fe fa fb:M D}{f g:M Fl}{ft:M Bool}{pos p:Pos}{x:Str}{σ:Sg}{H:Tm}{ρ:ay}{s:Shared}{ds:Y5}{us:Zg}{E:YY}
theorem Q1q{body:List Stmt}(w7:X.fn=true)(hc:PB X c ft)(hb:iV X body f):gY X (.While c body [] pos) (yH ft f):=λs σ H ρ Q E I o=>by have px:∀{α:Type}{t:Sem α}{Q':α->Shared->Prop}{s':Shared},wpAny X.M X.A t Q' (XE X H E) s'->wpAny X.M X.A t Q' (notedBy X.M X.A X.env<|cameBackBy X.M X.A X.env E) s':=λh=>P9 h (λ_ _ q=>q) λ_ _ z=>z.passes;refine wpAny_While<|codeAny_whileLoop (λn s'=>∃dR H' bI,Inv X dR H' bI s'/\Le H H'/\Out (gG ft f n bI) (jy X H RS Q) (jy X H (XR X) E)) ?_ 10000 ⟨σ,H,ρ,I,Le.refl,o⟩;rintro n s1 ⟨Ug,H1,aS,I1,l1,o1⟩;cases n with|zero=>exact o1.elim|succ n=>refine px<|hc.Zi I1 o1 (λ_ _ q=>q.xx l1) λs2 H2 sN b d I2 l2 r2 o2=>?_;cases r2;have l12:=l1.trans l2;cases b with|false=>exact wpAny_execs_nil (o2 s2 Ug H2 .next I2 l12 rfl)|true=>refine px<|hb.Zi I2 o2 (λ_ _ q=>q.xe l12) λs3 ZN H3 ZM fl k I3 l3 r3 o3=>?_;have l:=l12.trans l3;cases k with|nx=>cases r3;exact⟨n,Ql n,ZN,H3,ZM,I3,l,o3⟩|ct=>cases r3;exact⟨n,Ql n,ZN,H3,ZM,I3,l,o3⟩|bk=>cases r3;exact o3 s3 ZN H3 _ I3 l rfl|rt d=>obtain⟨v,rfl,r⟩:=r3;exact o3 s3 ZN H3 _ I3 l ⟨v,rfl,r⟩
theorem Inv.lw{aY its':Zg}{n:Nat}{f:Array Value->Array Value}{MM:Y5}(I:Inv X σ H ρ s)(hl:H l=some (.ow (.lst ds) i))(e:s.heap.get? l=some {cls:=.type "list",data:=.seq aY.toArray n})(hf:f aY.toArray=its'.toArray)(hv:aF H its' MM)(hz:MM.length<=sizeLine) : Inv X σ (upd H l<|.ow (.lst MM) i) (dh i (.lst MM) ρ) {s with heap:=s.heap.update l (Obj.mapSeq f)}:=by have q:=PySem.IsL.update e f;rw[hf] at q;exact(I.wr (t':=s.toks) (d':=.lst MM) hl (.inl rfl) (λb o hb z=>(UM s.heap (Obj.mapSeq f)<|JL hb).trans z) ⟨_,q⟩ (λlp=>⟨hz,its',hv.p lp,_,q⟩) λz=>nomatch z).1
theorem Le.ow(h:H l=some (.ow d i)):Le H (upd H l<|.ow d' j):=λa e q f=>(aD λz=>by subst z;rw[h] at q;cases q;exact f).trans q
theorem Inv.lo(I:Inv X σ H ρ s)(hl:H l=some (.ow (.lst ds) i)):∃us n,aF H us ds/\s.heap.get? l=some {cls:=.type "list",data:=.seq us.toArray n}/\ds.length<=sizeLine:=let ⟨⟨z,us,r,n,e⟩,_⟩:=I.aM l _ hl;⟨us,n,r,e,z⟩
theorem iy{g:D->Y1}{P:Unit->ay->Prop}{E':Xn->ay->Prop}(o:Out (gC i g ρ) P E'):∃d d',own ρ[i]?=some d/\g d=some d'/\P () (dh i d' ρ):=by unfold gC at o;split at o;rename_i d q;split at o;exact⟨d,_,q,‹_›,o⟩;exact o.elim;exact o.elim
theorem isLst_own{i:Nat}(h:isLst (own ρ[i]?)=true):∃ds,own ρ[i]?=some (.lst ds):=by unfold isLst at h;split at h;exact⟨_,‹_›⟩;cases h
theorem wj{α:Type}{i:Nat}{R:Rl D Value}{fe:M D}{k:D->M α}{P:α->ay->Prop}{E':Xn->ay->Prop}{Q:YY}{name:Str}{id:String}{TX bM:Pos}(slot:Slot "list" name id)(hty:typeOf (.builtin id)=pure (.type "method_descriptor"))(he:WP X R (eval e X.env) fe)(hN:X.N[i]?=some x)(hv:pH X.env.scope x)
  (hd:(x == ("__debug__" : Str))=false) (jI:(x == ("__classdict__" : Str))=false) (I:Inv X σ H ρ s) (ho:isLst (own ρ[i]?)=true) (o:Out (Zi fe k ρ) P E') (hE:∀x r,E' x r->OK X σ H (XR X) E x r)
  (c:∀s1 H1 aS l v d,Inv X σ H1 aS s1->Le H H1->σ x=some (.ref l)->R H1 s1 v d->Out (k d aS) P E'->wpAny X.M X.A (call (.builtin id) [.ref l,v]) Q E s1)
  (lB:attributeBase (.Name x p) name X.env (eval (.Name x p) X.env)=eval (.Name x p) X.env)
  (xN:((backTo bM<|starEach [e] X.env).all (λx=>!x.1)&&(backToKw bM<|keywordEach [] X.env).all (λx=>x.1.isSome)&&decide ([e].length+([]:List Keyword).length+(if ([]:List Keyword).isEmpty then 0 else 1)<30))=true)
  (lC:(TX.endLine == bM.line)=true) (iO:starEach [e] X.env=[(false,eval e X.env)]):wpAny X.M X.A (eval (.Call (.Attribute (.Name x p) name TX) [e] [] bM) X.env) Q E s:=by
 obtain⟨ds,hq⟩:=isLst_own ho;obtain⟨l,hu,hl⟩:=I.ownAt hN hv hq;obtain⟨us,n,_,hg,_⟩:=I.lo hl;refine wpAny_Call_method_late lB xN lC rfl<|dF I hv hu ⟨"list",id,PySem.F.plainAttrs_list,slot,hty,⟨_,hg,rfl⟩,λa e=>by cases e;exact⟨_,hg,rfl⟩,?_⟩ hd jI;rw[iO];refine PE rfl<|Calls.evalArgs_plain ?_;refine S8 (he.Zi I o hE λs1 H1 aS v d I1 l1 r1 o1=>Sr<|c s1 H1 aS l v d I1 l1 hu r1 o1)
theorem Q1C(i:Nat){TX bM:Pos}(he:PV X e fe)(hN:X.N[i]?=some x:=by rfl)(hv:pH X.env.scope x:=by exact BQ)(hd:RY x:=by decide)(jI:BG x:=by decide)
  (lB:attributeBase (.Name x p) "append" X.env (eval (.Name x p) X.env)=eval (.Name x p) X.env:=by rfl)
  (xN:((backTo bM<|starEach [e] X.env).all (λx=>!x.1)&&(backToKw bM<|keywordEach [] X.env).all (λx=>x.1.isSome)&&decide ([e].length+([]:List Keyword).length+(if ([]:List Keyword).isEmpty then 0 else 1)<30))=true:=by rfl)
  (lC:(TX.endLine == bM.line)=true:=by rfl) (iO:starEach [e] X.env=[(false,eval e X.env)]:=by rfl) (hs:swapsWith (.Call (.Attribute (.Name x p) "append" TX) [e] [] bM) none pos.line X.env=pure false:=by rfl) :
  gY X (.Expr (.Call (.Attribute (.Name x p) "append" TX) [e] [] bM) pos) (nv i fe):=λs σ H ρ Q E I o=>by
 unfold nv at o;split at o;refine wpAny_Expr_any (wj PySem.F.slot_list_append PySem.F.type_list_append he hN hv hd jI I ‹_› o (λ_ _ q=>q.x) (λs1 H1 aS l v d I1 l1 hu r1 o1=>?_) lB xN lC iO) I.quiet hs;obtain⟨d0,d1,q0,q1,k⟩:=iy o1.Zi;obtain⟨l',z8,hl⟩:=I1.ownAt hN hv q0;rw[hu] at z8;cases z8;cases d0 with
 |lst xs=>
  simp only[fQ] at q1;split at q1;cases q1;obtain⟨us,n,r,hg,_⟩:=I1.lo hl;rename_i hz0 _;have hz:us.length<sizeLine:=by rw[r.length,tC];exact hz0
  refine VG F.slot_list_append ⟨_,hg,rfl⟩ F.entry_list_append (F.args_list_append_2 _ _) (PySem.list_append l us.toArray n v (by rw[Fj];lia)) ⟨hg,?_⟩;exact k _ _ _ _ (I1.lw (its':=us++[v]) hl hg T2 (r.app<|.cons r1 .nil) (by rw[RH,<-r.length];exact hz)) (l1.trans<|Le.ow hl) rfl;cases q1
 |_=>cases q1
 exact o.elim
theorem S7(i:Nat){TX bM:Pos}(he:PF X e fe)(hN:X.N[i]?=some x:=by rfl)(hv:pH X.env.scope x:=by exact BQ)(hd:RY x:=by decide)(jI:BG x:=by decide)
  (lB:attributeBase (.Name x p) "extend" X.env (eval (.Name x p) X.env)=eval (.Name x p) X.env:=by rfl)
  (xN:((backTo bM<|starEach [e] X.env).all (λx=>!x.1)&&(backToKw bM<|keywordEach [] X.env).all (λx=>x.1.isSome)&&decide ([e].length+([]:List Keyword).length+(if ([]:List Keyword).isEmpty then 0 else 1)<30))=true:=by rfl)
  (lC:(TX.endLine == bM.line)=true:=by rfl) (iO:starEach [e] X.env=[(false,eval e X.env)]:=by rfl) (hs:swapsWith (.Call (.Attribute (.Name x p) "extend" TX) [e] [] bM) none pos.line X.env=pure false:=by rfl) :
  gY X (.Expr (.Call (.Attribute (.Name x p) "extend" TX) [e] [] bM) pos) (FX i fe):=λs σ H ρ Q E I o=>by
 unfold FX at o;split at o;refine wpAny_Expr_any (wj PySem.F.slot_list_extend PySem.F.type_list_extend he hN hv hd jI I ‹_› o (λ_ _ q=>q.x) (λs1 H1 aS l v d I1 l1 hu r1 o1=>?_) lB xN lC iO) I.quiet hs;obtain⟨d0,d1,q0,q1,k⟩:=iy o1.Zi;obtain⟨l',z8,hl⟩:=I1.ownAt hN hv q0;rw[hu] at z8;cases z8;obtain⟨b,rfl,hb⟩:=r1;cases d0 with
 |lst xs=>
  cases d with
  |lst ys=>
   simp only[Du] at q1;split at q1;cases q1;obtain⟨us,n,r,hg,z⟩:=I1.lo hl;obtain⟨ws,n2,r2,hg2,z2⟩:=I1.lo hb;rename_i hz;rw[<-r.length,<-r2.length,sT] at hz;have hsz:us.toArray.size+ws.toArray.size<=sizeLine:=by rw[Fj,Fj];exact hz
   refine VG F.slot_list_extend ⟨_,hg,rfl⟩ F.entry_list_extend (F.args_list_extend_2 _ _) (AutoSeq1.list_extend_list_list_0 l us.toArray n b ws.toArray n2 (by rw[E5 hsz,Bool.and_false];exact Xc) (by rw[Fj];lia) WR) ⟨hg,hg2,?_⟩;exact k _ _ _ _ (I1.lw (its':=us++ws) hl hg T2 (r.app r2) (by rw[RH,<-r.length,<-r2.length];exact hz)) (l1.trans<|Le.ow hl) rfl;cases q1
  |_=>cases q1
 |_=>cases q1
 exact o.elim
theorem GI(i:Nat){p1 p2 p3:Pos}{fk fv:M D}{value:Expr}(hk:PV X b fk)(HX:PV X value fv)(hN:X.N[i]?=some x:=by rfl)(hv:pH X.env.scope x:=by exact BQ)(hd:RY x:=by decide)(jI:BG x:=by decide)
  (ha:∀v,assign (.Subscript (.Name x p1) b p2) X.env v=(do
   let ov <-holding [v] (eval (.Name x p1) X.env);let iv <-holding [v,ov] (eval b X.env)
   standAt p2
   holding [v,ov,iv] (setItem ov iv v)
   release [v,ov,iv] []):=by exact Rc) (hs:swapsWithSole [.Subscript (.Name x p1) b p2] value p3.line X.env=pure false:=by rfl) (hw:swappedStores [.Subscript (.Name x p1) b p2] value X.env=pure none:=by rfl)
  (h1:(assignEach [.Subscript (.Name x p1) b p2] X.env).map (·.2)=[assign (.Subscript (.Name x p1) b p2) X.env]:=by rfl):gY X (.Assign [.Subscript (.Name x p1) b p2] value p3) (jr i fk fv):=λs σ H ρ Q E I o=>
 wpAny_Assign_stores (HX.Zi I o (λ_ _ q=>q.x) λs1 H1 aS v d1 I1 l1 r1 o1=>by
  rw[h1];show wpAny X.M X.A (assign (.Subscript (.Name x p1) b p2) X.env v) _ E s1;rw[ha];split at o1;rename_i hL;obtain⟨xs,hq⟩:=isLst_own hL;obtain⟨l,hu,hl⟩:=I1.ownAt hN hv hq;refine bx<|RL<|dF I1 hv hu (bx<|RL<|hk.Zi I1 o1 (λ_ _ q=>(q.le l1).x) λs2 H2 sN iv k I2 l2 r2 o2=>?_) hd jI;refine bx<|QN<|bx<|RL ?_;obtain⟨d0,d2,q0,q1,kk⟩:=iy o2.Zi;obtain⟨l',z8,xc⟩:=I2.ownAt hN hv q0;rw[hu] at z8;cases z8;cases d0 with
  |lst xs=>
   cases k with
   |int k=>
    simp only[setAt] at q1;cases q2:xf xs.length k with
    |none=>rw[q2] at q1;cases q1|some j=>
     rw[q2] at q1;cases q1;obtain⟨t,rfl⟩:=r2;obtain⟨us,n,r,hg,z⟩:=I2.lo xc;have hj:TZ us.length k=some j:=by rw[r.length];exact q2
     obtain⟨h1,h2,h3,h4⟩:=uf hj;have hn:=xY;have BX:=r.length;have fin:wpAny X.M X.A (release [v,.ref l,.int k t] []) (λ_=>Q .next) E {s2 with heap:=s2.heap.update l (Obj.mapSeq (·.setIfInBounds j v))}:=wpAny_release<|kk _ _ _ _ (I2.lw (its':=us.set j v) (f:=(·.setIfInBounds j v)) xc hg T2 (aF.set (r1.le l2) j r) (by rw[List.length_set];exact z)) (l1.trans<|l2.trans<|Le.ow xc) rfl;by_cases h0:0<=k;rw[seqIndex_of h0 h4] at h1;exact W.ki_setAt hg h0 WR (by rw[Fj];exact h4) (by rw[JY h1];exact fin);rw[seqIndex_neg WR h3] at h1;exact W.ki_setBack hg WR (by rw[Fj];exact h3) WR (by rw[Fj,JY h1];exact fin)
   |_=>cases q1
  |_=>cases q1
  exact o1.elim) hs hw
theorem aT:uY X [] (mL []):=λpos s σ H ρ Q E I o=>Sr (o s H [] I Le.refl .nil)
theorem aB{fl:List (M D)}(ha:PV X e fe)(hr:uY X es (mL fl))(hs:PZ X e es:=by rfl):uY X (e::es) (mL (fe::fl)):=λpos s σ H ρ Q E I o=>by rw[hs];refine S8 (rest:=backTo pos<|starEach es X.env) (ha.Zi I o (λ_ _ q=>q) λs1 H1 aS v d I1 l1 r1 o1=>(hr pos).Zi I1 o1 (λ_ _ q=>q.le l1) λs2 H2 sN us ds I2 l2 r2 o2=>o2 s2 H2 _ I2 (l1.trans l2)<|.cons (r1.le l2) r2)
theorem yE{x1}{fl:List (M D)}(h:uY X es (mL fl)):PV X (.Tuple es x1 pos) (bR fl):=λs σ H ρ Q E I o=>wpAny_Tuple_spliced ((h pos).Zi I o (λ_ _ q=>q) λs1 H1 aS us ds I1 l1 r1 o1=>by obtain⟨d,e,q⟩:=o1.opt;unfold Gs at e;split at e;cases e;rename_i hz;rw[<-tC] at hz;obtain⟨H',I',l',r'⟩:=I1.BH s1.toks r1 hz;exact⟨by rw[r1.length];exact hz,q _ H' _ I' (l1.trans l') r'⟩;cases e)
theorem ux{fl:List (M D)}(h:uY X es (mL fl)):PF X (.List es pos) (gB fl):=λs σ H ρ Q E I o=>wpAny_List_spliced ((h pos).Zi I o (λ_ _ q=>q) λs1 H1 aS us ds I1 l1 r1 o1=>by obtain⟨d,e,q⟩:=o1.opt;unfold EN at e;split at e;cases e;rename_i hz;rw[<-tC] at hz;obtain⟨H',I',l',r'⟩:=I1.abn s1.toks r1 hz;exact⟨by rw[r1.length];exact hz,q _ H' _ I' (l1.trans l') r'⟩;cases e)
end
end WL
end
section
set_option linter.all false
set_option maxRecDepth 100000
namespace WL
open PySem PySem.Spec PyProof.Rows L2 VP
section
variable{X:Cx}{e a b c tg VE:Expr}{fe fa fb:M D}{pos p:Pos}{x:Str}{σ:Sg}{H:Tm}{ρ:ay}{s:Shared}{ds:Y5}{us:Zg}{E:YY}
theorem Inv.turn{t':Nat}{h':Heap}{H':Tm}{fp:xW}(I:Inv X σ H ρ s)(hf:∀b∈fp,(∃o,H b=some (.d7 o))/\X.H₀ b=none)(k:∀b o,b∉fp->s.heap.get? b=some o->h'.get? b=some o)(same:∀b,b∉fp->b<s.heap.objs.size->H' b=H b) (new:j1 H H'->∀b e,b∈fp\/s.heap.objs.size<=b->H' b=some e->oA X.g H' h' b e/\(∀d i,e≠.ow d i)/\(b∈fp->∃o,e=.d7 o)):Inv X σ H' ρ {s with heap:=h',toks:=t'}/\Tw fp H H':=by
 have dQ:∀{b e},H b=some e->b<s.heap.objs.size:=λq=>I.aM.lt q;have no:∀{b d i},H b=some (.ow d i)->b∉fp:=λ{b d i} q hb=>by obtain⟨⟨o,z⟩,_⟩:=hf b hb;exact ek q z
 have sm:∀b,¬(b∈fp\/s.heap.objs.size<=b)->H' b=H b:=λb z=>same b (λy=>z<|.inl y)<|Nat.lt_of_not_le λy=>z<|.inr y;have ow':j1 H H'->∀{b d i},H' b=some (.ow d i)->H b=some (.ow d i):=λlp {b d i} q=>by by_cases z:b∈fp\/s.heap.objs.size<=b;exact absurd rfl<|(new lp b _ z q).2.1 d i;rw[<-sm b z];exact q
 have lp:j1 H H':=λb o d q=>(sm b λz=>z.elim (λz=>by obtain⟨⟨o,y⟩,_⟩:=hf b z;exact ek q y) λz=>absurd (dQ q)<|Nat.not_lt.mpr z).trans q;refine⟨I.gen (λb=>b∈fp\/s.heap.objs.size<=b) (λb z=>z.elim (λz=>.inr ?_) .inl) sm (λb o z=>k b o λy=>z<|.inl y) (λlp b e z q=>(new lp b e z q).1) rfl (λl d i q hi=>?_) (λlp i t ht=>⟨t,ht,λv z=>z.mv lp λl d q=>(sm l λz=>z.elim (no q) λz=>absurd (dQ q)<|Nat.not_lt.mpr z).trans q⟩) (λb e o z q y=>?_),λb e nb q f=>(same b nb<|dQ q).trans q⟩;obtain⟨⟨o,y⟩,h0⟩:=hf b z;exact⟨_,y,trivial,λo' w=>by exact ek h0 w⟩;obtain⟨h1,h2⟩:=I.tg l d i (ow' lp q) hi;exact⟨h1,λl' d' q'=>h2 l' d'<|ow' lp q'⟩;rcases z with z|z;exact .inr<|(new lp b e (.inl z) q).2.2 z;exact absurd (dQ y) (Nat.not_lt.mpr z)
def pt(H:Tm)(a:Addr)(e:Option En):Tm:=λb=>if b=a then e else H b
theorem Inv.aE{t':Nat}{h':Heap}(I:Inv X σ H ρ s)(hi:H it=some (.d7 o))(h0:X.H₀ it=none)(k:∀b o,b≠it->s.heap.get? b=some o->h'.get? b=some o)(n:Option Obj)(hn:∀o',n=some o'->h'.get? it=some o') : Inv X σ (pt H it<|n.map .d7) ρ {s with heap:=h',toks:=t'}/\Tw [it] H (pt H it<|n.map .d7):=
 I.turn (λb hb=>by cases List.mem_singleton.mp hb;exact⟨⟨o,hi⟩,h0⟩) (λb o hb=>k b o λz=>hb (by simp[z])) (λb hb _=>Y4 λz=>hb (by simp[z])) λlp b e hb q=>by
  by_cases z:b=it;subst z;unfold pt at q;rw[Zh rfl] at q;cases n with|none=>cases q|some o'=>cases q;exact⟨hn o' rfl,λ_ _ z=>(nomatch z),λ_=>⟨_,rfl⟩⟩
  unfold pt at q;rw[Y4 z] at q;rcases hb with hb|hb;exact absurd (List.mem_singleton.mp hb) z;exact en (I.aM.fresh hb) q
def jt(t:Bool)(ds:Y5):D:=if t then .tup ds else .lst ds
def cZ(t:Bool)(h:Heap)(it a:Addr)(i:Nat):Prop:=if t then h.IsTupleIter it a i else h.IsListIter it a i
def ub(t:Bool):String:=if t then "tuple_iterator" else "list_iterator"
theorem cZ.of{o:Obj}{h:Heap}{t:Bool}{a:Addr}(e:h.get? it=some o)(hc:o.cls=.type (ub t))(hd:o.data=.fields #[.ref a,.int (i:Nat) 0]):cZ t h it a i:=by cases t<;>exact⟨o,e,hc,hd⟩
theorem cZ.to{h:Heap}{t:Bool}{a:Addr}(x:cZ t h it a i):∃o,h.get? it=some o/\o.cls=.type (ub t)/\o.data=.fields #[.ref a,.int (i:Nat) 0]:=by cases t<;>exact x
def iU(t:Bool)(h:Heap)(a:Addr)(aY:Array Value):Prop:=if t then IsTup h a aY else h.IsList a aY
theorem Inv.seq(t:Bool)(I:Inv X σ H ρ s)(r:RW H s v (jt t ds)):∃a us,v=.ref a/\aF H us ds/\iU t s.heap a us.toArray/\ds.length<=sizeLine:=by cases t;obtain⟨a,us,e,r,p,z⟩:=I.lst r;exact⟨a,us,e,r,p.isList,z⟩;exact I.tup r
theorem df{d:D}(e:b9 d=some ds):∃t,d=jt t ds:=by cases d<;>first|(cases e;first|exact⟨true,rfl⟩|exact⟨false,rfl⟩)|cases e
def StS(t:Bool)(it q:Addr)(ds:Y5):Nat->Tm->Prop:=λi H=>(∃o,H it=some (.d7 o)/\o.cls=.type (ub t)/\o.data=.fields #[.ref q,.int i 0])/\Rel H (.ref q) (jt t ds)
theorem Q11(g:Gb)(t:Bool)(q it:Addr):sR g tg it [it] ds (StS t it q ds) where
 le:=λi H H' ⟨⟨o,h1,h2⟩,r⟩ l=>⟨⟨o,l _ _ h1 trivial<|.inr TL,h2⟩,r.p l.p⟩
 item:=λX σ i H ρ s d Q E hg hc I h0 ⟨⟨o,h1,h2,h3⟩,r⟩ hd k=>by
  subst hg;obtain⟨q',us,e,rs,sq,hz⟩:=I.seq t<|.inl r;cases e;obtain⟨u,hu,ru⟩:=rs.get hd;have st:=cZ.of (I.aM it _ h1) h2 h3;have fin:∀h',cZ t h' it q (i+1)->Heap.SameBut it s.heap h'->wpAny X.M X.A (letOwnedTupleGo tg (.ref it) u) (λ_ s2=>Q u s2) E {s with heap:=h'}:=λh' qV sb=>by
   obtain⟨o',e',c',d'⟩:=qV.to;obtain⟨I',l'⟩:=I.aE (t':=s.toks) h1 (h0 it T2) (λb o hb z=>(sb.2 b hb).trans z) (some o') λ_ z=>by cases z;exact e'
   refine zW e' c' d' (by cases t<;>decide) (k _ _ u I' l' ?_ ⟨⟨o',Zh rfl,c',d'⟩,?_⟩)
   ·exact ru.p λa o d z=>(Y4 λy=>by subst y;exact ek h1 z).trans z
   ·exact r.p λa o d z=>(Y4 λy=>by subst y;exact ek h1 z).trans z
  cases t
  ·exact wpAny_pyNext_list_item st sq (x:=u) (by simpa using hu) λh' qV sb=>⟨u,rfl,fin h' qV sb⟩
  ·exact wpAny_pyNext_tuple_item st sq (x:=u) (by simpa using hu) λh' qV sb=>⟨u,rfl,fin h' qV sb⟩
 done:=λX σ H ρ s Q E hg hc I h0 ⟨⟨o,h1,h2,h3⟩,r⟩ k=>by
  subst hg;obtain⟨q',us,e,rs,sq,hz⟩:=I.seq t<|.inl r;cases e;have st:=cZ.of (I.aM it _ h1) h2 h3;have fin:∀h',Heap.ExtBut it s.heap h'->Q {s with heap:=h'}:=λh' eb=>let ⟨I',l'⟩:=I.aE (t':=s.toks) h1 (h0 it T2) (λb o hb z=>eb b o hb z) none λ_ z=>nomatch z;k _ _ I' l';cases t
  ·exact wpAny_pyNext_list_end (I.ok.hd hc) st sq (by simp[rs.length]) λh' eb=>⟨rfl,fin h' eb⟩
  ·exact wpAny_pyNext_tuple_end (I.ok.hd hc) st sq (by simp[rs.length]) λh' eb=>⟨rfl,fin h' eb⟩
 self:=λA s i H Q E aM ⟨⟨o,h1,h2,h3⟩,r⟩ h=>by
  have st:=cZ.of (aM it _ h1) h2 h3;cases t
  ·exact wpAny_pyIter_listiter st h
  ·exact wpAny_pyIter_tupleiter st h
theorem Inv.W4(t':Nat)(I:Inv X σ H ρ s)(o:Obj)(hf:o.isFreed=false:=by rfl):Inv X σ (upd H s.heap.objs.size<|.d7 o) ρ {s with heap:=s.heap.push o,toks:=t'}/\Le H (upd H s.heap.objs.size<|.d7 o):=I.lay (λb ob e=>Wm _ e) (TC _) λ_=>Zv _ hf
theorem Inv.Ca{H0:Tm}{b:Addr}(I:Inv X σ H ρ s)(l:Le H0 H)(h:s.heap.objs.size<=b):(∀e,H0 b=some e->¬e.fast)/\X.H₀ b=none:=⟨λe q f=>absurd (I.aM.lt<|l _ _ q f)<|Nat.not_lt.mpr h,I.W3 h⟩
theorem uQ(h:PV X e fe):qW X tg e (cG fe):=λs σ H ρ Q E I o=>h.Zi I o (λ_ _ q=>q) λs1 H1 aS v d I1 l1 r1 o1=>by
 obtain⟨ds,e,k⟩:=o1.opt;obtain⟨t,rfl⟩:=df e;obtain⟨q,us,rfl,rs,sq,hz⟩:=I1.seq t<|.inl r1;have fin:∀o:Obj,o.cls=.type (ub t)->o.data=.fields #[.ref q,.int (0:Nat) 0]->o.isFreed=false->Q (.ref s1.heap.objs.size) {s1 with heap:=s1.heap.push o}:=λo hc hd hf=>by obtain⟨I2,l2⟩:=I1.W4 s1.toks o hf;refine k _ _ _ [s1.heap.objs.size] _ I2 (l1.trans l2) (Q11 X.g t q _) ⟨⟨o,az,hc,hd⟩,r1.le l2⟩ λb hb=>?_;cases List.mem_singleton.mp hb;exact⟨⟨o,az⟩,I1.Ca l1<|TC _⟩
 cases t;exact IX sq<|fin _ rfl rfl rfl;exact xB sq (fin _ rfl rfl rfl)
theorem UnW(g:Gb)(it:Addr)(lo step:Int)(n:Nat):sR g tg it [it] ((List.range n).map λ(k:Nat)=>.int<|lo+k*step) (λi H=>i<=n/\∃o,H it=some (.d7 o)/\∀h:Heap,h.get? it=some o->IsRangeIter h it (lo+(i:Nat)*step) ((n:Int)-(i:Nat)) step) where
 le:=λi H H' ⟨hi,o,h1,h2⟩ l=>⟨hi,o,l _ _ h1 trivial<|.inr TL,h2⟩
 item:=λX σ i H ρ s d Q E hg hc I h0 ⟨hi,o,h1,h2⟩ hd k=>by
  subst hg;have hin:i<n:=by have:=(List.getElem?_eq_some_iff.mp hd).1;simpa using this
  have vR:d=.int (lo+i*step):=by simpa[hin] using hd.symm
  subst vR;refine(Walks.range (prog:=X.g.prog) (w:=X.g.w) (I.ok.hd hc) it lo step n).item i s _ _ hin (h2 _<|I.aM it _ h1) λv h' tk hv qV kk=>?_;obtain⟨t,rfl⟩:=hv;obtain⟨I',l'⟩:=I.aE (t':=tk) h1 (h0 it T2) (λb o hb z=>kk b o (by simpa using hb) z) (some _) λ_ z=>by cases z;exact qV
  refine⟨_,rfl,zW (s:={s with heap:=h',toks:=tk}) (n:="range_iterator") qV rfl rfl (by decide)<|k _ _ _ I' l' ⟨t,rfl⟩ ⟨hin,_,Zh rfl,λh e=>?_⟩⟩;exact e
 done:=λX σ H ρ s Q E hg hc I h0 ⟨hi,o,h1,h2⟩ k=>by subst hg;have:=h2 _<|I.aM it _ h1;rw[SS,Xm] at this;exact wpAny_pyNext_range_end (I.ok.hd hc) this WR λh' eb=>⟨rfl,let ⟨I',l'⟩:=I.aE (t':=s.toks) h1 (h0 it T2) (λb o hb z=>eb b o hb z) none λ_ z=>nomatch z;k _ _ I' l'⟩
 self:=λA s i H Q E aM ⟨hi,o,h1,h2⟩ h=>wpAny_pyIter_rangeiter (h2 _<|aM it _ h1) h
theorem wB{Q:YY}{lo hi step:Int}{t u v:Tok}{tk n:Nat}{H0:Tm}(I:Inv X σ H ρ s)(l0:Le H0 H)(sm:Builtin.Range.small lo hi step=true)(hn:Builtin.Range.rangeSize lo hi step=(n:Int))
  (k:∀(s':Shared)(H':Tm)(it:Addr)(fp:xW)(St:Nat->Tm->Prop),Inv X σ H' ρ s'->Le H0 H'->sR X.g tg it fp ((List.range n).map λ(k:Nat)=>.int<|lo+k*step) St->St 0 H'->(∀b∈fp,(∃o,H' b=some (.d7 o))/\(∀e,H0 b=some e->¬e.fast)/\X.H₀ b=none)->Q (.ref it) s') :
  wpAny X.M X.A (pyIter<|.ref s.heap.objs.size) Q E {s with heap:=s.heap.push {cls:=.type "range",data:=.fields #[.int lo t,.int hi u,.int step v]},toks:=tk}:=by
 refine wpAny_pyIter_range (IsRange.new ..) sm ?_;have I1:Inv X σ H ρ {s with heap:=s.heap.push {cls:=.type "range",data:=.fields #[.int lo t,.int hi u,.int step v]},toks:=tk}:=I.kept λb o e=>Wm _ e;obtain⟨I2,l2⟩:=I1.W4 tk {cls:=.type "range_iterator",data:=.fields #[rawInt lo,rawInt<|Builtin.Range.rangeSize lo hi step,rawInt step]};refine k _ _ _ [_] _ I2 (l0.trans l2) (UnW X.g _ lo step n) ⟨Hr _,_,az,λh e=>?_⟩ λb hb=>by cases List.mem_singleton.mp hb;exact⟨⟨_,az⟩,I1.Ca l0<|TC _⟩
 rw[hn] at e;show h.get? _=some _;rw[e];simp
theorem aF.one(r:aF H us [d]):∃u,us=[u]/\Rel H u d:=by cases r with|cons r t=>cases t;exact⟨_,rfl,r⟩
theorem jY{fl:List (M D)}{p pos:Pos}(hg:Gl X "range")(hm:X.g.mg "range" = none)(ha:uY X [a] (mL fl))(hs:starEach [a] X.env=[(false,eval a X.env)]:=by rfl):qW X tg (.Call (.Name "range" p) [a] [] pos) (bO fl):=λs σ H ρ Q E I o=>Call_ (qm I hg hm boot_range<|Jr ((ha pos).Zi I o (λ_ _ q=>q) λs1 H1 aS us d I1 l1 r1 o1=>by obtain⟨ds,e,k⟩:=o1.opt;unfold rk at e;split at e;rename_i j;obtain⟨u,rfl,t,rfl⟩:=r1.one;split at e;rename_i hb;cases e;refine call_range_1<|wB (tg:=tg) I1 l1 (small_one WR WR hb.1 hb.2) (n:=j.toNat) (by rw[rangeSize_one];split<;>lia) ?_;simp only[Int.mul_one,Int.zero_add];exact k;cases e;cases e) hs rfl)
theorem Q1y{fl:List (M D)}{p pos:Pos}(hg:Gl X "range")(hm:X.g.mg "range" = none)(ha:uY X [a,b,c] (mL fl))(hs:starEach [a,b,c] X.env=[(false,eval a X.env),(false,eval b X.env),(false,eval c X.env)]:=by rfl)(kT:starEach [b,c] X.env=[(false,eval b X.env),(false,eval c X.env)]:=by rfl):qW X tg (.Call (.Name "range" p) [a,b,c] [] pos) (Ai fl):=λs σ H ρ Q E I o=>
 Call_ (qm I hg hm boot_range<|Jr ((ha pos).Zi I o (λ_ _ q=>q) λs1 H1 aS us d I1 l1 r1 o1=>by
  obtain⟨ds,e,k⟩:=o1.opt;unfold FW at e;split at e
  ·rename_i i j w;cases r1 with|cons r1 r2=>
   cases r2 with|cons r2 r3=>
   obtain⟨u,rfl,t,rfl⟩:=aF.one r3;obtain⟨t1,rfl⟩:=r1;obtain⟨t2,rfl⟩:=r2;split at e
   ·rename_i hb;obtain⟨rfl,⟨h1,h2⟩,h3,h4⟩:=hb;cases e;refine call_range_3 (by decide) (wB (tg:=tg) I1 l1 (W.small_down h1 h2 h3 h4) (n:=(i-j).toNat) (by rw[W.rangeSize_downNat]) ?_)<|.inl<|PyProof.noPylong_small (by decide);simp only[Int.mul_neg,Int.mul_one,<-Int.sub_eq_add_neg];exact k
   ·cases e
  ·cases e) (by rw[hs,kT]) (by rw[kT];rfl))
end
end WL
end
section
set_option linter.all false
set_option maxRecDepth 100000
namespace WL
open PySem PySem.Spec PyProof.Rows L2 VP
def j2(fl:Qg)(us:Zg):Nat->Addr->Prop:=λi a=>fl[i]?=some true/\us[i]?=some (.ref a)
structure Args(H:Tm)(fl:Qg)(us:Zg)(ds:Y5):Prop where
 l1:us.length=fl.length
 l2:ds.length=fl.length
 val:∀(i:Nat) u d,fl[i]?=some false->us[i]?=some u->ds[i]?=some d->Rel H u d
 xZ:∀(i:Nat) u d,fl[i]?=some true->us[i]?=some u->ds[i]?=some d->∃l j,u=.ref l/\H l=some (.ow d j)
 uq:∀i j a,j2 fl us i a->j2 fl us j a->i=j
def raw(fs:xW)(h:Heap)(a:Addr):Option En:=(h.get? a).map λo=>if a∈fs then .km o else .pin o none
open Classical in
noncomputable def lend(Ln:Nat->Addr->Prop)(fs ex:xW)(h:Heap)(H:Tm):Tm:=λa=>if a∈ex then none else match H a with|some (.pin o d)=>some (.pin o d)|some (.ow d _)=>if k:∃i,Ln i a then some (.ow d k.choose) else raw fs h a|some (.di b)=>if ∃i,Ln i b then some (.di b) else raw fs h a|_=>raw fs h a
structure Kf(kf:Addr->Option En->Option En):Prop where
 pin:∀a o d,kf a (some<|.pin o d)=some (.pin o d)
 di:∀a b,kf a (some<|.di b)=some (.di b)
 out:∀a e e',kf a e=some e'->(e=some e'/\((∃o d,e'=.pin o d)\/∃b,e'=.di b))\/∃d i j,e=some (.ow d i)/\e'=.ow d j
open Classical in
noncomputable def back(n:Nat)(Ln:Nat->Addr->Prop)(kf:Addr->Option En->Option En)(H Hc:Tm):Tm:=λa=>if a<n then(match H a with
  |some (.ow d j)=>if ∃i,Ln i a then kf a (Hc a) else some (.ow d j)|some (.di b)=>if ∃i,Ln i b then kf a (Hc a) else some (.di b)|e=>e)
 else kf a (Hc a)
section
variable{Ln:Nat->Addr->Prop}{fs ex:xW}{h h':Heap}{H Hc:Tm}{g:Gb}{n:Nat}{kf:Addr->Option En->Option En}
theorem cQ{e:En}(q:lend Ln fs ex h H a=some e):a∉ex/\((∃o d,e=.pin o d/\H a=some (.pin o d))\/(∃d j i,e=.ow d i/\H a=some (.ow d j)/\Ln i a)\/(∃b i,e=.di b/\H a=some (.di b)/\Ln i b)\/(raw fs h a=some e/\e.fast)):=by
 have rf:raw fs h a=some e->e.fast:=λz=>by unfold raw at z;cases y:h.get? a with|none=>rw[y] at z;cases z|some o=>rw[y] at z;cases z;split<;>trivial
 unfold lend at q;split at q;cases q;refine⟨‹_›,?_⟩;split at q;cases q;exact .inl ⟨_,_,rfl,‹_›⟩;split at q;rename_i d j z k;cases q;exact .inr<|.inl ⟨_,_,_,rfl,‹_›,k.choose_spec⟩;exact .inr<|.inr<|.inr ⟨q,rf q⟩;split at q;rename_i b z k;cases q;obtain⟨i,k⟩:=k;exact .inr<|.inr<|.inl ⟨_,i,rfl,‹_›,k⟩;exact .inr<|.inr<|.inr ⟨q,rf q⟩;exact .inr (.inr<|.inr ⟨q,rf q⟩)
theorem fJ(hx:a∉ex)(q:H a=some (.pin o d)):lend Ln fs ex h H a=some (.pin o d):=by unfold lend;rw[Y4 hx,q]
theorem Af(hx:a∉ex)(q:H a=some (.ow d j))(k:Ln i a)(u:∀i' ,Ln i' a->i'=i):lend Ln fs ex h H a=some (.ow d i):=by have k':∃i,Ln i a:=⟨i,k⟩;unfold lend;rw[Y4 hx];simp only[q,dif_pos k',u _ k'.choose_spec]
theorem lG(hx:a∉ex)(n1:∀o d,H a≠some (.pin o d))(n2:∀d j i,H a=some (.ow d j)->¬Ln i a)(n3:∀b i,H a=some (.di b)->¬Ln i b):lend Ln fs ex h H a=raw fs h a:=by unfold lend;rw[Y4 hx];split;exact absurd ‹_›<|n1 _ _;exact dif_neg λ⟨i,k⟩=>n2 _ _ i ‹_› k;exact Y4 λ⟨i,k⟩=>n3 _ i ‹_› k;rfl
theorem yF(e:h.get? a=some o):raw fs h a=some (if a∈fs then .km o else .pin o none):=by unfold raw;rw[e];rfl
theorem Ae(ok:pF g H h)(hex:∀a∈ex,H a=none):pF g (lend Ln fs ex h H) h:=λa e q=>by
 have nx:∀{b e},H b=some e->b∉ex:=λz y=>by exact en (hex _ y) z
 have lp:j1 H (lend Ln fs ex h H):=λb o d z=>fJ (nx z) z;rcases (cQ q).2 with ⟨o,d,rfl,z⟩|⟨d,j,i,rfl,z,k⟩|⟨b,i,rfl,z,k⟩|⟨z,_⟩
 have x:=ok a _ z;exact⟨x.1,λe y=>(x.2 e y).mv lp (λ_ z=>z) (λz=>nomatch z) λ_ _ _ z=>z⟩;have x:=ok a _ z;refine⟨x.1.mv lp (λ_ z=>z) (λ_ b y=>?_) λ_ _ _ z=>z,x.2⟩;unfold lend;rw[Y4<|nx y,y];exact Zh ⟨i,k⟩;exact ok a _ z;unfold raw at z;cases y:h.get? a with|none=>rw[y] at z;cases z|some o=>rw[y] at z;cases z;show oA g _ h a<|if a∈fs then .km o else .pin o none;split;exact⟨o.slots,y⟩;exact⟨y,λ_ z=>nomatch z⟩
theorem zg(kk:Kf kf)(ok:pF g H h)(hex:∀a∈ex,H a=none)(hn:n=h.objs.size)(T5:pF g Hc h')(le:Le (lend Ln fs ex h H) Hc)(hfs:∀b∈fs,H b=none\/∃o,H b=some (.km o))(nw:∀a e,Hc a=some e->lend Ln fs ex h H a=none->n<=a\/∃o,e=.d7 o) : pF g (back n Ln kf H Hc) h'/\Le H (back n Ln kf H Hc)/\(∀b o,h.get? b=some o->H b=none->b∉ex->∃sl,h'.get? b=some {o with slots:=sl}/\(b∉fs->sl=o.slots))/\j1 Hc (back n Ln kf H Hc)/\∀a d i,Hc a=some (.ow d i)->back n Ln kf H Hc a=kf a (Hc a):=by
 have nx:∀{b e},H b=some e->b∉ex:=λz y=>by exact en (hex _ y) z
 have kp:∀{a o},a∉ex->h.get? a=some o->(∀o d,H a≠some (.pin o d))->(∀d j i,H a=some (.ow d j)->¬Ln i a)->(∀b i,H a=some (.di b)->¬Ln i b)->∃sl,h'.get? a=some {o with slots:=sl}/\(a∉fs->sl=o.slots):=λ{a o} ha e n1 n2 n3=>by have q:lend Ln fs ex h H a=_:=(lG ha n1 n2 n3).trans<|yF e;by_cases hb:a∈fs;rw[Zh hb] at q;obtain⟨sl,z⟩:=T5 a _<|le a _ q trivial;exact⟨sl,z,λy=>absurd hb y⟩;rw[Y4 hb] at q;exact⟨o.slots,(T5 a _<|le a _ q trivial).1,λ_=>rfl⟩
 have lt:∀{a e},H a=some e->a<n:=λq=>hn ▸ ok.lt q;have R9:∀{a o d},H a=some (.pin o d)->back n Ln kf H Hc a=some (.pin o d):=λq=>by unfold back;rw[Zh<|lt q,q]
 have Cg:∀{a e},H a=some e->(∀d j i,e=.ow d j->¬Ln i a)->(∀b i,e=.di b->¬Ln i b)->back n Ln kf H Hc a=some e:=λ{a e} q n2 n3=>by unfold back;rw[Zh<|lt q,q];cases e with|ow d j=>exact Y4 λ⟨i,k⟩=>n2 _ _ i rfl k|di b=>exact Y4 λ⟨i,k⟩=>n3 _ i rfl k|_=>rfl
 have xX:∀{a d j i},H a=some (.ow d j)->Ln i a->back n Ln kf H Hc a=kf a (Hc a):=λq k=>by unfold back;rw[Zh<|lt q,q];exact Zh ⟨_,k⟩
 have Nm:∀{a b i},H a=some (.di b)->Ln i b->back n Ln kf H Hc a=kf a (Hc a):=λq k=>by unfold back;rw[Zh<|lt q,q];exact Zh ⟨_,k⟩
 have new:∀{a},¬a<n->back n Ln kf H Hc a=kf a (Hc a):=λdQ=>by unfold back;exact Y4 dQ
 have keep:∀{a e},Hc a=some e->(∀o,e≠.km o)->(∀o,e≠.d7 o)->(∀o,e≠.pin o none)->back n Ln kf H Hc a=kf a (Hc a)\/∃o d,e=.pin o d/\back n Ln kf H Hc a=some (.pin o d):=λ{a e} q f1 f2 f3=>by
  by_cases dQ:a<n;cases z:lend Ln fs ex h H a with
  |none=>rcases nw a _ q z with y|⟨o,rfl⟩;exact absurd dQ<|Nat.not_lt.mpr y;exact absurd rfl (f2 o)
  |some e'=>
   rcases (cQ z).2 with ⟨o',d',rfl,y⟩|⟨d',j,i,rfl,y,k⟩|⟨b,i,rfl,y,k⟩|⟨y,f⟩
   have:=le a _ z trivial;obtain rfl:=sj q this;exact .inr ⟨_,_,rfl,R9 y⟩;exact .inl<|xX y k;exact .inl<|Nm y k;have:=le a _ z f;obtain rfl:=sj q this;unfold raw at y;cases w:h.get? a with|none=>rw[w] at y;cases y|some o=>rw[w] at y;have y':=JY y;split at y';exact absurd y'.symm<|f1 o;exact absurd y'.symm (f3 o)
  exact .inl (new dQ)
 have lp:j1 Hc (back n Ln kf H Hc):=λa o d q=>(keep q (λ_ z=>nomatch z) (λ_ z=>nomatch z) λ_ z=>by cases z).elim (λz=>by rw[z,q];exact kk.pin a o _) λ⟨_,_,y,z⟩=>by cases y;exact z
 have aap:∀{a b},Hc b=some (.di a)->back n Ln kf H Hc b=some (.di a):=λ{a b} q=>(keep q (λ_ z=>nomatch z) (λ_ z=>nomatch z) λ_ z=>nomatch z).elim (λz=>by rw[z,q];exact kk.di b a) λ⟨_,_,y,_⟩=>nomatch y;have lpH:j1 H (back n Ln kf H Hc):=λa o d q=>R9 q;have Zj:∀{a o e},H a=some e->h.get? a=some o->(∀o d,e≠.pin o d)->(∀d j i,e=.ow d j->¬Ln i a)->(∀b i,e=.di b->¬Ln i b)->(∀o,e≠.km o)->h'.get? a=some o:=λ{a o e} q w n1 n2 n3 n4=>by obtain⟨sl,z,y⟩:=kp (nx q) w (λo d z=>n1 o d (by obtain rfl:=sj q z;rfl)) (λd j i z=>n2 d j i (by obtain rfl:=sj q z;rfl)) λb i z=>n3 b i (by obtain rfl:=sj q z;rfl);rw[y λhb=>(hfs a hb).elim (λz=>by rw[q] at z;cases z) λ⟨o,z⟩=>by obtain rfl:=sj q z;exact n4 o rfl] at z;exact z
 have pk:∀{a o d},H a=some (.pin o d)->h'.get? a=some o:=λq=>(T5 _ _<|le _ _ (fJ (nx q) q) trivial).1;have kE:∀{a e},kf a (Hc a)=some e->oA g (back n Ln kf H Hc) h' a e:=λ{a e} q=>by
  rcases kk.out a _ e q with ⟨w,⟨o,d,rfl⟩|⟨b,rfl⟩⟩|⟨d,i,j,w,rfl⟩
  have y:=T5 a _ w;exact⟨y.1,λe z=>(y.2 e z).mv lp (λ_ z=>z) (λz=>nomatch z) λ_ _ _ z=>z⟩;exact T5 a _ w;have y:=T5 a _ w;exact⟨y.1.mv lp (λ_ z=>z) (λ_ b z=>aap z) λ_ _ _ z=>z,y.2⟩
 refine⟨λa e q=>?_,λa e q f=>Cg q (by rintro d j i rfl;exact f.elim) (by rintro b i rfl;exact f.elim),λb o e z hx=>kp hx e (by rw[z];exactλ_ _ z=>nomatch z) (by rw[z];exactλ_ _ _ z=>nomatch z) (by rw[z];exactλ_ _ z=>nomatch z),lp,λa d i q=>(keep q (λ_ z=>nomatch z) (λ_ z=>nomatch z) λ_ z=>nomatch z).elim id λ⟨_,_,y,_⟩=>nomatch y⟩;by_cases dQ:a<n;cases z:H a with
 |none=>unfold back at q;rw[Zh dQ,z] at q;cases q|some e0=>
  have x:=ok a e0 z;cases e0 with
  |pin o d=>
   obtain rfl:=sj (R9 z) q;refine⟨pk z,λe y=>(x.2 e y).mv lpH (λo' w=>?_) (λz=>nomatch z) λb o' w y=>?_⟩;obtain rfl:=sj x.1 w;exact pk z;rcases w with ⟨w,_⟩|⟨_,_,w⟩
   cases w;obtain rfl:=sj ((ok b _ w).1) y;exact pk w
  |ow d j=>
   by_cases k:∃i,Ln i a;obtain⟨i,k⟩:=k;rw[xX z k] at q;exact kE q;have k':∀i,¬Ln i a:=λi y=>k ⟨i,y⟩;obtain rfl:=sj (Cg z (λ_ _ i _=>k' i) (by rintro _ _ z;cases z)) q;refine⟨x.1.mv lpH (λo w=>Zj z w (λ_ _ z=>nomatch z) (λ_ _ i _=>k' i) (λ_ _ z=>nomatch z) λ_ z=>nomatch z) (λ_ b w=>Cg w (by rintro _ _ _ w;cases w) (by intro c i w;cases w;exact k' i)) λb o w y=>?_,x.2⟩;rcases w with ⟨_,w⟩|⟨w,_⟩
   exact Zj w y (λ_ _ z=>nomatch z) (λ_ _ _ z=>nomatch z) (λc i z=>by cases z;exact k' i) λ_ z=>nomatch z;cases w
  |di b=>by_cases k:∃i,Ln i b;obtain⟨i,k⟩:=k;rw[Nm z k] at q;exact kE q;have k':∀i,¬Ln i b:=λi y=>k ⟨i,y⟩;obtain rfl:=sj (Cg z (by rintro _ _ _ z;cases z) (by intro c i w;cases w;exact k' i)) q;obtain⟨o,w⟩:=x;exact⟨o,Zj z w (λ_ _ z=>nomatch z) (λ_ _ _ z=>nomatch z) (λc i z=>by cases z;exact k' i) λ_ z=>nomatch z⟩|km o=>obtain rfl:=sj (Cg z (by rintro _ _ _ z;cases z) (by rintro _ _ z;cases z)) q;obtain⟨sl,w⟩:=x;obtain⟨T8,w',_⟩:=kp (nx z) w (by rw[z];exactλ_ _ z=>nomatch z) (by rw[z];exactλ_ _ _ z=>nomatch z) (by rw[z];exactλ_ _ z=>nomatch z);exact⟨T8,w'⟩|d7 o=>obtain rfl:=sj (Cg z (by rintro _ _ _ z;cases z) (by rintro _ _ z;cases z)) q;exact Zj z x (λ_ _ z=>nomatch z) (λ_ _ _ z=>nomatch z) (λ_ _ z=>nomatch z) λ_ z=>nomatch z
 rw[new dQ] at q;exact kE q
end
end WL
end
section
set_option linter.all false
set_option maxRecDepth 100000
namespace WL
open PySem PySem.Spec PyProof.Rows L2 VP
structure Co(g:Gb)(A:Around)(outer:List Env)(s:Shared)(H:Tm):Prop where
 frames:A.frames=some outer
 mod:Mod g.K g.mg g.base
 bs:∀b o,g.base.get? b=some o->H b=some (.pin o<|G4 g.K b)
 Hs:g.base.objs.size<=s.heap.objs.size
 fr:∀e∈outer,e.scope.kind≠.module/\∃L o,e.frame=some L/\g.base.get? L=none/\s.heap.get? L=some o/\∀vs,o.data≠.fields vs
 D3:∀b∈qa outer,H b=none\/∃o,H b=some (.km o)
 aM:pF g H s.heap
 bare:AllBare s.gens
def r7:Qg->Y5->Nat->Option D|true::_,d::_,0=>some d|true::bs,_::ds,i+1=>r7 bs ds i|false::bs,ds,i+1=>r7 bs ds i|_,_,_=>none
structure After(g:Gb)(outer:List Env)(H:Tm)(s:Shared)(fl:Qg)(us:Zg)(ios:Y5)(H':Tm)(s':Shared):Prop where
 os:s'.os=s.os
 bare:AllBare s'.gens
 aM:pF g H' s'.heap
 le:Le H H'
 unt:∀b o,s.heap.get? b=some o->H b=none->∃sl,s'.heap.get? b=some {o with slots:=sl}/\(b∉qa outer->sl=o.slots)
 nn:∀a e,H' a=some e->H a≠none\/s.heap.objs.size<=a
 ow:∀a d j,H a=some (.ow d j)->(∀i,¬j2 fl us i a)->H' a=some (.ow d j)
 owb:∀a d j,H' a=some (.ow d j)->∃d0,H a=some (.ow d0 j)
 xX:∀i a d j,j2 fl us i a->H a=some (.ow d j)->∃d',r7 fl ios i=some d'/\H' a=some (.ow d' j)
def tB0:FR->(D->Y5->Prop)->(Xn->Y5->Prop)->Prop|.ok d ios,P,_=>P d ios|.exc x ios,_,E=>E x ios|.no,_,_=>False
def uX(c:Bool)(g:Gb)(k:Nat)(f:Addr)(fd:FuncData)(ps:TY)(fl:Qg)(fn:Fn):Prop:=∀(A:Around)(outer:List Env)(s:Shared)(H:Tm)(us:Zg)(ds:Y5)(args:PySem.Args)(R:Result->Shared->Prop),cond c (bE k A) (VS.eV k A)->Co g A outer s H->BindsTo s fd args (ps.zip us)->Args H fl us ds->tB0 (fn ds) (λd ios=>∀s' H' v,After g outer H s fl us ios H' s'->Rel H' v d->R (.ok<|.ret v) s') (λx ios=>∀s' H' v,After g outer H s fl us ios H' s'->UA g s.heap.objs.size H' s' v x->R (.error v) s')->codeAny (model g.prog g.w) A (.call (.ref f) args) R s
abbrev pC(g:Gb)(k:Nat)(f:Addr)(fd:FuncData)(ps:TY)(fl:Qg)(fn:Fn):Prop:=uX true g k f fd ps fl fn
def Y2(c:Bool)(g:Gb)(N:TY)(fl:Qg)(us:Zg)(Z7:Str)(scope:Scope)(f:Addr)(cd:Value)(A:Around)(outer:List Env)(s:Shared)(H:Tm):Cx where
 g:=g
 A:=A.deeper (envOfC Z7 scope s.heap.objs.size f cd)
 N:=N
 env:=envOfC Z7 scope s.heap.objs.size f cd
 outer:=outer
 stack:=envOfC Z7 scope s.heap.objs.size f cd::outer
 fn:=true
 calm:=c
 io:=j2 fl us
 H₀:=lend (j2 fl us) (qa outer) [] s.heap H
 n₀:=s.heap.objs.size
 os:=s.os
noncomputable abbrev Vk(g:Gb)(N:TY)(fl:Qg)(us:Zg)(Z7:Str)(scope:Scope)(f:Addr)(cd:Value)(A:Around)(outer:List Env)(s:Shared)(H:Tm):Cx:=Y2 true g N fl us Z7 scope f cd A outer s H
section
variable{g:Gb}{N ps:TY}{fl:Qg}{us:Zg}{ds:Y5}{Z7:Str}{scope:Scope}{f:Addr}{cd:Value}{A:Around}{outer:List Env}{s:Shared}{H:Tm}
theorem qM:∀{n:Nat}{fl:Qg}{ds:Y5},fl.length=ds.length->∀(i:Nat)(s:Sl),(aR n fl ds)[i]?=some s->(∃b d,fl[i]?=some b/\ds[i]?=some d/\s=(if b then .io d else .sh d))\/s=.no|n,[],[],_,i,s,h=>by simp only[aR] at h;exact .inr (List.eq_of_mem_replicate<|Ct h)|n,b::bs,d::ds,hl,0,s,h=>by simp[aR] at h;exact .inl ⟨b,d,rfl,rfl,h.symm⟩|n,b::bs,d::ds,hl,i+1,s,h=>qM (fl:=bs) (ds:=ds) (Nat.succ.inj hl) i s (by simpa[aR] using h)
theorem kS:∀{n:Nat}{fl:Qg}{ds:Y5},fl.length=ds.length->fl.length<=n->(aR n fl ds).length=n|n,[],[],_,_=>by simp[aR]|n,b::bs,d::ds,hl,hn=>by simp only[List.length_cons] at hn;simp only[aR,List.length_cons];rw[kS (Nat.succ.inj hl) WR];lia
theorem sH:∀{n:Nat}{fl:Qg}{ds:Y5}{i:Nat}{d:D},fl[i]?=some true->ds[i]?=some d->(aR n fl ds)[i]?=some (.io d)|n,b::bs,d::ds,0,e,h1,h2=>by simp at h1 h2;subst h1 h2;rfl|n,b::bs,d::ds,i+1,e,h1,h2=>by simpa[aR] using sH (n:=n-1) (fl:=bs) (ds:=ds) (i:=i) (by simpa using h1) (by simpa using h2)
theorem yX{ps:TY}{us:Zg}{i:Nat}{x:Str}{u:Value}(nd:ps.Nodup)(h1:ps[i]?=some x)(h2:us[i]?=some u):(ps.zip us).lookup x=some u:=by induction ps generalizing us i with|nil=>cases h1|cons p ps ih=>cases us with|nil=>cases h2|cons v us=>rw[List.zip_cons_cons,Xp];cases i with|zero=>cases h1;cases h2;rw[beq_self_eq_true]|succ i=>rw[beq_eq_false_iff_ne.mpr λ(z:x=p)=>(List.nodup_cons.mp nd).1<|z ▸ Ct h1];exact ih (List.nodup_cons.mp nd).2 h1 h2
theorem Q17{ps:TY}{us:Zg}{x:Str}{u:Value}(h:(ps.zip us).lookup x=some u):∃i:Nat,ps[i]?=some x/\us[i]?=some u:=by induction ps generalizing us with|nil=>cases h|cons p ps ih=>cases us with|nil=>cases h|cons v us=>rw[List.zip_cons_cons,Xp] at h;cases z:x == p with|true=>rw[z] at h;obtain rfl:=JY h;obtain rfl:=eq_of_beq z;exact⟨0,rfl,rfl⟩|false=>rw[z] at h;obtain⟨i,a,b⟩:=ih h;exact⟨i+1,a,b⟩
theorem tnE{c:Bool}{s1:Shared}(S:bD N ps scope)(hd:c=true->A.handled=none)(e0:Co g A outer s H)(hp:fl.length=ps.length)(a:Args H fl us ds)
  (x:InCallC s s.heap.objs.size (bindL (envOfC Z7 scope s.heap.objs.size f cd).kindOf (ps.zip us) λ_=>none) (cellsFrom (s.heap.objs.size+1) scope.names []) (bindC (envOfC Z7 scope s.heap.objs.size f cd).kindOf (ps.zip us) λ_=>none) s1) :
  Inv (Y2 c g N fl us Z7 scope f cd A outer s H) (λx=>(ps.zip us).lookup x) (lend (j2 fl us) (qa outer) [] s.heap H) (aR N.length fl ds) s1:=by
 have gO:ps.length<=N.length:=by have:=congrArg List.length S.pre;rw[Q1] at this;lia
 have ndP:ps.Nodup:=by rw[<-S.pre];exact S.nd.sublist (List.take_sublist _ _)
 obtain⟨h1,tk,rfl,hk⟩:=x.done;have nl:∀a:Addr,a∉([]:xW):=λa z=>nomatch z;have ok:=Ae (Ln:=j2 fl us) (fs:=qa outer) (ex:=[]) e0.aM λa z=>absurd z<|nl a;have fresh:∀{b},s.heap.objs.size<=b->lend (j2 fl us) (qa outer) [] s.heap H b=none:=λh=>ok.fresh h;have pN:∀{i:Nat} {y},N[i]?=some y->i<ps.length->ps[i]?=some y:=λh1 h2=>by rw[<-S.pre,JQ h2];exact h1
 refine⟨⟨e0.mod,S.kind,rfl,rfl,λy z c h1 h2=>name_of_addr x.apart (Fh h1) (Fh h2),λy hy=>?_,hd,Around.frames_deeper e0.frames,⟨rfl,rfl⟩,⟨_,_,_,rfl,rfl,rfl⟩,λb o e=>?_,e0.Hs,λb e q=>ok.lt q,λe he=>?_,TC _⟩,rfl,e0.bare,Le.refl,λb e q n=>(nomatch q.symm.trans n),λb e q=>?_,⟨_,x.toInCall.ns,λy u v q=>?_⟩,λi sl q=>?_,λl d i q hi=>?_,fresh (TC _),λy c h=>⟨⟨_,x.cell y c h⟩,.inl<|fresh<|Nat.le_of_lt<|x.above y c<|Fh h⟩,kS (by rw[a.l2]) (by rw[hp];exact gO)⟩;have hy:scope.names.lookup y=some .cell\/scope.names.lookup y=some .free:=hy;rcases hy with hy|hy;exact vi hy;exact absurd rfl<|S.QE _<|Fh hy;exact fJ (nl _)<|e0.bs b o e;obtain⟨a1,L,o,a2,a3,a4,a5⟩:=e0.fr e he;have hm:L∈qa outer:=List.mem_filterMap.mpr ⟨e,he,a2⟩;refine⟨a1,L,o,a2,a3,?_,a5⟩;have n:=e0.D3 L hm;show lend (j2 fl us) (qa outer) [] s.heap H L=_;rw[lG (nl _) (λo d z=>by rcases n with n|⟨_,n⟩<;>(exact ek n z)) (λd j i z=>by rcases n with n|⟨_,n⟩<;>(exact ek n z)) (λd j z=>by rcases n with n|⟨_,n⟩<;>(exact ek n z))];unfold raw;rw[a4];exact congrArg some<|Zh hm;exact ok.gen (h':=h1) (λ_=>False) (λ_ _ z=>z.elim) (λ_ _=>rfl) (λb o _=>hk b o) (λ_ _ _ z=>z.elim) b e q;obtain⟨i,h1,h2⟩:=Q17 q;rcases S.par y (Ct h1) with k|k;exact .inl ⟨k,rK ndP h1 h2 k⟩;obtain⟨c,e⟩:=vi (n:=s.heap.objs.size+1) k;refine .inr ⟨.inl k,c,e,?_⟩;have q:=x.cell y c e;rw[rI ndP h1 h2 (by show scope.names.lookup y≠_;rw[k];decide)] at q;exact q;have hi:i<N.length:=by rw[<-kS (n:=N.length) (fl:=fl) (ds:=ds) a.l2.symm (by rw[hp];exact gO)];exact(List.getElem?_eq_some_iff.mp q).1
 have hNi:N[i]?=some N[i]:=UK hi;refine⟨N[i],hNi,?_⟩;rcases qM a.l2.symm i sl q with ⟨b,d,h1,h2,rfl⟩|rfl
 have Cc:i<us.length:=by rw[a.l1];exact(List.getElem?_eq_some_iff.mp h1).1
 have hu:us[i]?=some us[i]:=by simp[Cc]
 have lk:=yX ndP (pN hNi (by rw[<-hp,<-a.l1];exact Cc)) hu;cases b with|false=>exact⟨us[i],lk,(a.val i _ d h1 hu h2).p λb o d z=>fJ (nl _) z⟩|true=>obtain⟨l,j,e,hl⟩:=a.xZ i _ d h1 hu h2;rw[e] at lk hu;exact⟨l,lk,Af (nl _) hl ⟨h1,hu⟩ λi' k=>a.uq i' i l k ⟨h1,hu⟩,h1,hu⟩
 trivial;rcases (cQ q).2 with ⟨o,d',z,_⟩|⟨d',j,i',z,y,k⟩|⟨b,i',z,_⟩|⟨_,z⟩
 cases z;cases z;have Cc:i<ds.length:=by rw[a.l2];exact(List.getElem?_eq_some_iff.mp k.1).1
 obtain⟨l',j',e',xc⟩:=a.xZ i _ ds[i] k.1 k.2 (by simp[Cc]);cases e';rw[y] at xc;injection xc with xc;injection xc with h3 h4;refine⟨.inr (sH k.1 (by rw[h3];simp[Cc])),λl2 d2 q2=>?_⟩;rcases (cQ q2).2 with ⟨_,_,z,_⟩|⟨_,_,_,z,_,k2⟩|⟨_,_,z,_⟩|⟨_,z⟩
 cases z;cases z;have:=k.2;rw[k2.2] at this;cases this;rfl;cases z;exact z.elim;cases z;exact z.elim
theorem qh:∀{fl:Qg}{ρ:ay}{ios:Y5}{i:Nat},bz fl ρ=some ios->fl[i]?=some true->∃d,r7 fl ios i=some d/\ρ[i]?=some (.io d)
|true::bs,.io d::r,ios,i,h,hi=>by simp only[bz] at h;cases q:bz bs r with|none=>rw[q] at h;cases h|some ae5=>rw[q] at h;cases h;cases i with|zero=>exact⟨d,rfl,rfl⟩|succ i=>exact qh (i:=i) q hi
|false::bs,_::r,ios,i+1,h,hi=>qh (fl:=bs) (i:=i) h hi|[],_,_,i,_,hi=>by simp at hi
open Classical in
noncomputable def Wu(Ln:Nat->Addr->Prop)(H:Tm)(a:Addr):Option En->Option En
|some (.pin o d)=>some (.pin o d)|some (.di b)=>some (.di b)|some (.ow d _)=>match H a with
  |some (.ow _ j)=>if ∃i,Ln i a then some (.ow d j) else none|_=>none
 |_=>none
theorem xV{Ln:Nat->Addr->Prop}{e:Option En}(h:Wu Ln H a e=some (.ow d j)):∃d0,H a=some (.ow d0 j):=by unfold Wu at h;split at h;cases h;cases h;split at h;split at h;cases h;exact⟨_,‹_›⟩;cases h;cases h;cases h
theorem Qf{Ln:Nat->Addr->Prop}:Kf (Wu Ln H):=⟨λ_ _ _=>rfl,λ_ _=>rfl,λa e e' h=>by unfold Wu at h;split at h;cases h;exact .inl ⟨rfl,.inl ⟨_,_,rfl⟩⟩;cases h;exact .inl ⟨rfl,.inr ⟨_,rfl⟩⟩;split at h;split at h;cases h;exact .inr ⟨_,_,_,rfl,rfl⟩;cases h;cases h;cases h⟩
theorem pK{c:Bool}{s':Shared}{dR:Sg}{Hc:Tm}{bI:ay}{ios:Y5}(S:bD N ps scope)(hp:fl.length=ps.length)(e0:Co g A outer s H)(J:Inv (Y2 c g N fl us Z7 scope f cd A outer s H) dR Hc bI s')(hi:bz fl bI=some ios) : ∃H',After g outer H s fl us ios H' s'/\j1 Hc H'/\∀b,s.heap.objs.size<=b->Hc b=none->H' b=none:=by
 have hln:∀i l d j,j2 fl us i l->H l=some (.ow d j)->∃d',r7 fl ios i=some d'/\Hc l=some (.ow d' i):=λi l d j k q=>by obtain⟨d',h1,h2⟩:=qh hi k.1;obtain⟨x,hx,r⟩:=J.slot i _ h2;obtain⟨l',_,h3,h4⟩:=r;have:=k.2;rw[h4.2] at this;cases this;exact⟨d',h1,h3⟩
 obtain⟨h1,h2,h3,h4,_⟩:=zg (n:=s.heap.objs.size) (Ln:=j2 fl us) (ex:=[]) (fs:=qa outer) (Qf (Ln:=j2 fl us) (H:=H)) e0.aM (λa z=>(nomatch z)) rfl J.aM J.le e0.D3 J.nw;refine⟨_,⟨J.os,J.bare,h1,h2,λb o e z=>h3 b o e z (λy=>nomatch y),λa e q=>?_,λa d j q k=>?_,λa d j q=>?_,λi a d j k q=>?_⟩,h4,λb hb q=>?_⟩;by_cases dQ:a<s.heap.objs.size;refine .inl λz=>?_;unfold back at q;rw[Zh dQ,z] at q;cases q;exact .inr<|Nat.le_of_not_lt dQ;unfold back;rw[Zh<|e0.aM.lt q,q];exact Y4 λ⟨i,z⟩=>k i z;unfold back at q;split at q;split at q;rename_i d0 j0 z;split at q;exact xV q;cases q;exact⟨_,z⟩;split at q;exact xV q;cases q;rename_i n _;exact absurd q<|n d j;exact xV q;obtain⟨d',z,y⟩:=hln i a d j k q;refine⟨d',z,?_⟩;unfold back;rw[Zh<|e0.aM.lt q];simp only[q];rw[Zh ⟨i,k⟩,y];unfold Wu;simp only[q];exact Zh ⟨i,k⟩;unfold back;rw[Y4<|Nat.not_lt.mpr hb,q];rfl
theorem rmC{c:Bool}(hr:cond c (bE (k+1) A) (VS.eV (k+1) A)):A.depth<recursionLimit/\(c=true->A.handled=none)/\∀env,cond c (bE k<|A.deeper env) (VS.eV k<|A.deeper env):=by cases c;exact⟨VS.eV.depth hr,(λz=>nomatch z),λenv=>VS.eV.deeper hr env⟩;exact⟨bE.depth hr,λ_=>bE.hd hr,λenv=>bE.deeper hr env⟩
theorem DZ{c:Bool}{x:Str}{st:Stmt}{fd:FuncData}{k:Nat}{body:M Fl}(Fu:GR g.K x Z7 st f fd)(S:bD N ps (aw st))(hl:fl.length=ps.length)(Ea:∀us j3 A outer s H,cond c (bE k<|A.deeper<|envOfC Z7 (aw st) s.heap.objs.size f j3) (VS.eV k<|A.deeper<|envOfC Z7 (aw st) s.heap.objs.size f j3)->iV (Y2 c g N fl us Z7 (aw st) f j3 A outer s H) (bh st) body):uX c g (k+1) f fd ps fl (defn N.length fl body):=λA outer s H us ds args R hr e0 hb a h=>by
 obtain⟨rd,rh,rdd⟩:=rmC hr;obtain⟨oc,od,kV,doc,pm,an,j3,ct,RT,rfl,lk,jI⟩:=Fu.ex;have keep:∀b o,g.base.get? b=some o->s.heap.get? b=some o:=λb o e=>(e0.aM b _<|e0.bs b o e).1;have KX:g.K.In s.heap:=e0.mod.gu.keeps keep;have lim:s.heap.NoLimit:=e0.mod.nolimit.keeps keep;have V6:∀y∈ps.zip us,(aw st).names.lookup y.1=some .local\/((aw st).names.lookup y.1=some .cell/\((cellsFrom (s.heap.objs.size+1) (aw st).names []).lookup y.1).isSome=true):=λ⟨n,v⟩ hy=>by rcases S.par n (ug hy).1 with q|q;exact .inl q;exact .inr ⟨q,W.cellsFrom_some _ _ _<|.inl q⟩
 refine codeAny_call_function rd (KX _ _ lk) rfl S.co S.gen rfl (W.codeRec_of KX jI)<|hb _ _ _ _ ?_;refine wpAny_newFunctionEnv_cells S.kind V6 λenv he s1 x=>?_;subst he;refine⟨lim.keeps x.toInCall.keep,codeAny_func ?_⟩;have I:=tnE (cd:=j3) S rh e0 hl a x;refine Ea us j3 A outer s H (rdd _) s1 _ _ _ _ _ I ?_;unfold defn at h;rw[Zh a.l2] at h;generalize body (aR N.length fl ds)=B at h;cases B with
  |no=>exact h.elim|exc z bI=>cases q:bz fl bI with|none=>simp only[q] at h;exact h.elim|some ios=>simp only[q] at h;intro s' dR H' v J _ r;obtain⟨e,C,dx,rfl,hm,hx,w,x⟩:=r;show wpAny _ _ (leaving _ _) _ _ _;refine bx<|ur J x λh1 w1 J1 k1 x1=>je none J1 x1 λh2 J2 k2 x2=>?_;obtain⟨H2,af,lp,fr⟩:=pK S hl e0 J2 q;obtain⟨vs,sl,e1,e2,e3,e4,T,ot,ts,t1,t2,t3,t4,t5,t6,t7⟩:=x2;refine h _ H2 _ af ⟨e,C,dx,rfl,hm,hx.imp id ?_,some _,vs,sl,e1,e2,fr e e4 e3,e4,T,ot,ts,t1,t2,t3,fr T t3 t4,t5,t6,t7⟩;rintro⟨b,o,y1,y2,f⟩;exact⟨b,o,y1,lp _ _ _ y2,((f.kp k1).kp (s:={s' with heap:=h1}) k2).p lp⟩
  |ok fl' bI=>
   cases fl' with
   |bk=>exact h.elim|ct=>exact h.elim|nx=>cases q:bz fl bI with|none=>simp only[q] at h;exact h.elim|some ios=>simp only[q] at h;intro s' dR H' v J _ r;cases r;obtain⟨H2,af,_⟩:=pK S hl e0 J q;exact h s' H2 .none af rfl
   |rt d=>cases q:bz fl bI with|none=>simp only[q] at h;exact h.elim|some ios=>simp only[q] at h;intro s' dR H' v J _ r;obtain⟨u,rfl,r⟩:=r;obtain⟨H2,af,lp,_⟩:=pK S hl e0 J q;exact h s' H2 u af (r.p lp)
theorem MW{x:Str}{st:Stmt}{fd:FuncData}{k:Nat}{body:M Fl}(Fu:GR g.K x Z7 st f fd)(S:bD N ps (aw st))(hl:fl.length=ps.length)(Ea:∀us j3 A outer s H,bE k (A.deeper<|envOfC Z7 (aw st) s.heap.objs.size f j3)->iV (Vk g N fl us Z7 (aw st) f j3 A outer s H) (bh st) body):pC g (k+1) f fd ps fl (defn N.length fl body):=DZ Fu S hl Ea
end
end WL
end
section
set_option linter.all false
set_option maxRecDepth 100000
namespace WL
open PySem PySem.Spec PyProof.Rows L2 VP
def ku:AV->Bool|.val _=>false|.io _=>true
def Ks(X:Cx)(σ:Sg)(H:Tm)(u:Value):AV->Prop|.val d=>Rel H u d|.io j=>∃x l,X.N[j]?=some x/\pH X.env.scope x/\u=.ref l/\σ x=some (.ref l)
def RA(X:Cx)(σ:Sg):Rl (List AV) (List Value):=λH _=>Paired (Ks X σ H)
def xm(X:Cx)(es:WK)(as:List VP.Arg):Prop:=∀pos s σ H ρ Q E,Inv X σ H ρ s->Out (aW as ρ) (OK X σ H (RA X σ) Q) (OK X σ H (XR X) E)->wpAny X.M X.A (spliced<|backTo pos<|starEach es X.env) Q E s
section
variable{X:Cx}{σ:Sg}{H H':Tm}{ρ:ay}{s s':Shared}{vs:List AV}{us:Zg}{ds ios:Y5}
theorem Ks.le(l:Le H H'){v:AV}(r:Ks X σ H u v):Ks X σ H' u v:=by cases v with|val d=>exact Rel.le l r|io j=>exact r
theorem Paired.at{α β:Type}{R:α->β->Prop}{xs:List α}{ys:List β}{i:Nat}{x:α}{y:β}(r:Paired R xs ys)(e1:xs[i]?=some x)(e2:ys[i]?=some y):R x y:=by induction r generalizing i with|nil=>cases e1|cons r _ ih=>cases i with|zero=>cases e1;cases e2;exact r|succ i=>exact ih e1 e2
theorem kv:∀{vs:List AV}{ds:Y5}{i:Nat}{v:AV},gj vs ρ=some ds->vs[i]?=some v->∃d,ds[i]?=some d/\match v with
 |.val d'=>d=d'|.io j=>own ρ[j]?=some d
|.val d::vs,ds,i,v,h,hi=>by simp only[gj] at h;cases q:gj vs ρ with|none=>rw[q] at h;cases h|some es=>rw[q] at h;cases h;cases i with|zero=>cases hi;exact⟨d,rfl,rfl⟩|succ i=>exact kv (i:=i) q hi
|.io j::vs,ds,i,v,h,hi=>by simp only[gj] at h;cases q0:own ρ[j]? with|none=>rw[q0] at h;cases h|some d0=>rw[q0] at h;cases q:gj vs ρ with|none=>rw[q] at h;cases h|some es=>rw[q] at h;cases h;cases i with|zero=>cases hi;exact⟨d0,rfl,q0⟩|succ i=>exact kv (i:=i) q hi
|[],_,i,_,_,hi=>by simp at hi
theorem th:∀{vs:List AV}{ds:Y5},gj vs ρ=some ds->ds.length=vs.length
|[],_,h=>by cases h;rfl|.val d::vs,ds,h=>by simp only[gj] at h;cases q:gj vs ρ with|none=>rw[q] at h;cases h|some es=>rw[q] at h;cases h;exact congrArg Nat.succ (th q)
|.io j::vs,ds,h=>by
 simp only[gj] at h;split at h;cases q:gj vs ρ with|none=>rw[q] at h;cases h|some es=>rw[q] at h;cases h;exact congrArg Nat.succ (th q)
 cases h
theorem eH:∀{vs:List AV}{i j:Nat},vs[i]?=some (.io j)->j∈bJ vs|.val d::vs,i+1,j,h=>eH (vs:=vs) (i:=i) h|.io k::vs,0,j,h=>by cases h;exact TL|.io k::vs,i+1,j,h=>SY _ (eH (vs:=vs) (i:=i) h)|.val d::vs,0,j,h=>by cases h
theorem oZ:∀{vs:List AV}{j:Nat},j∈bJ vs->∃i:Nat,vs[i]?=some (.io j)|.val d::vs,j,h=>let ⟨i,q⟩:=oZ (vs:=vs) h;⟨i+1,q⟩|.io k::vs,j,h=>by rcases List.mem_cons.mp h with rfl|h;exact⟨0,rfl⟩;obtain⟨i,q⟩:=oZ (vs:=vs) h;exact⟨i+1,q⟩
theorem ua:∀{vs:List AV}{i i' j:Nat},(bJ vs).Nodup->vs[i]?=some (.io j)->vs[i']?=some (.io j)->i=i'|.val d::vs,i+1,i'+1,j,n,h,h'=>congrArg Nat.succ (ua (vs:=vs) n h h')|.val d::vs,0,_,j,n,h,_=>by cases h|.val d::vs,_,0,j,n,_,h=>by cases h|.io k::vs,0,0,j,n,h,h'=>rfl|.io k::vs,0,i'+1,j,n,h,h'=>by cases h;exact absurd (eH (vs:=vs) (i:=i') h') (List.nodup_cons.mp n).1|.io k::vs,i+1,0,j,n,h,h'=>by cases h';exact absurd (eH (vs:=vs) (i:=i) h) (List.nodup_cons.mp n).1|.io k::vs,i+1,i'+1,j,n,h,h'=>congrArg Nat.succ (ua (vs:=vs) (List.nodup_cons.mp n).2 h h')
theorem lQ:(dh j d ρ)[j]?=(ρ[j]?).map (AH d):=by cases q:ρ[j]? with|none=>unfold dh;simp only[q];rfl|some t=>rw[jT q,Xh (List.getElem?_eq_some_iff.mp q).1];rfl
theorem d8:∀(js:WC)(ds:Y5)(r:ay),(putAll js ds r).length=r.length|[],_,_=>rfl|_::_,[],_=>rfl|j::js,d::ds,r=>(d8 js ds _).trans lR
theorem ip:∀{js:WC}{ds:Y5}{r:ay}{i:Nat},i∉js->(putAll js ds r)[i]?=r[i]?|[],_,_,_,_=>rfl|_::_,[],_,_,_=>rfl|j::js,d::ds,r,i,h=>(ip λz=>h<|SY _ z).trans (pe λe=>h<|e ▸ TL)
theorem jS:∀{vs:List AV}{ios:Y5}{r:ay}{i j:Nat}{d:D},(bJ vs).Nodup->vs[i]?=some (.io j)->r7 (vs.map ku) ios i=some d->(putAll (bJ vs) ios r)[j]?=(r[j]?).map (AH d)|.val d::vs,ios,r,i+1,j,e,n,h,q=>jS (vs:=vs) (i:=i) n h q|.val d::vs,ios,r,0,j,e,n,h,q=>by cases h|.io k::vs,d::ios,r,0,j,e,n,h,q=>by cases h;cases q;exact(ip (List.nodup_cons.mp n).1).trans lQ|.io k::vs,d::ios,r,i+1,j,e,n,h,q=>by have ne:j≠k:=λz=>(List.nodup_cons.mp n).1<|z ▸ eH (vs:=vs) (i:=i) h;exact(jS (vs:=vs) (i:=i) (List.nodup_cons.mp n).2 h q).trans (by rw[pe ne])|.io k::vs,[],r,i,j,e,n,h,q=>by cases i<;>cases q
theorem Inv.after{fl:Qg}{bI:ay}(I:Inv X σ H ρ s)(af:After X.g X.stack H s fl us ios H' s')(hl:bI.length=ρ.length)(hρ:∀(j:Nat) t,ρ[j]?=some t->(bI[j]?=some t/\∀a d,H a=some (.ow d j)->H' a=some (.ow d j))\/∃d',bI[j]?=some (AH d' t)/\∀a d,H a=some (.ow d j)->H' a=some (.ow d' j)):Inv X σ H' bI s':=by
 have nn:∀{a},H a=none->a<s.heap.objs.size->H' a=none:=λ{a} h dQ=>by cases q:H' a with|none=>rfl|some e=>exact(af.nn a e q).elim (λz=>absurd h z) λz=>absurd dQ (Nat.not_lt.mpr z)
 obtain⟨e1,e2⟩:=I.Dk (h':=s'.heap) λb o hb q=>by have:H b=none\/∃o' d,H b=some (.pin o' d):=hb.elim (λz=>.inl<|z ▸ I.fl) λ⟨x,e⟩=>(I.cell x b e).2.imp id And.right;rcases this with z|⟨o',d,z⟩;obtain⟨sl,y,_⟩:=af.unt b o q z;exact⟨sl,y⟩;have y:=(af.aM b _<|af.le _ _ z trivial).1;obtain rfl:=sj ((I.aM b _ z).1) q;exact⟨_,y⟩
 refine⟨I.ok,af.os.trans I.os,af.bare,I.le.trans af.le,λa e q n=>?_,af.aM,e1,λj t ht=>?_,λl d j q hj=>?_,nn I.fl I.lt,λx c e=>⟨e2 x c e,?_⟩,hl.trans I.len⟩;rcases af.nn a e q with z|z;cases y:H a with|none=>exact absurd y z|some e'=>rcases I.nw a e' y n with w|⟨o,rfl⟩;exact .inl w;have w:=af.le a _ y trivial;obtain rfl:=sj q w;exact .inr ⟨o,rfl⟩
 exact .inl<|HJ I.sz z;have hj:j<ρ.length:=by rw[<-hl];exact(List.getElem?_eq_some_iff.mp ht).1
 have h0:ρ[j]?=some ρ[j]:=UK hj;obtain⟨x,hx,r⟩:=I.slot j _ h0;refine⟨x,hx,?_⟩;rcases hρ j _ h0 with ⟨h1,h2⟩|⟨d',h1,h2⟩
 obtain rfl:=sj h1 ht;exact r.mv af.le.p h2;obtain rfl:=sj h1 ht;generalize ρ[j]=t0 at r;cases t0 with|no=>trivial|sh d=>obtain⟨u,a,b⟩:=r;exact⟨u,a,b.le af.le⟩|ow d=>obtain⟨l,a,b⟩:=r;exact⟨l,a,h2 _ _ b⟩|io d=>obtain⟨l,a,b,c⟩:=r;exact⟨l,a,h2 _ _ b,c⟩
 obtain⟨d0,y⟩:=af.owb l d j q;obtain⟨h1,h2⟩:=I.tg l d0 j y hj;refine⟨?_,λl' d' q'=>let ⟨d1,y'⟩:=af.owb l' d' j q';h2 l' d1 y'⟩;have h0:ρ[j]?=some (.ow d0)\/ρ[j]?=some (.io d0):=h1;rcases h0 with h0|h0;rcases hρ j _ h0 with ⟨a,b⟩|⟨d',a,b⟩
 have:=b l d0 y;rw[q] at this;cases this;exact .inl a;have:=b l d0 y;rw[q] at this;cases this;exact .inl a;rcases hρ j _ h0 with ⟨a,b⟩|⟨d',a,b⟩
 have:=b l d0 y;rw[q] at this;cases this;exact .inr a;have:=b l d0 y;rw[q] at this;cases this;exact .inr a;rcases (I.cell x c e).2 with z|⟨f,o,d,z⟩;obtain⟨⟨v,y⟩,_⟩:=I.cell x c e;exact .inl<|nn z y.lt;exact .inr ⟨f,o,d,af.le _ _ z trivial⟩
theorem Inv.Dl(I:Inv X σ H ρ s):Co X.g X.A X.stack s H:=by refine⟨I.ok.frames,I.ok.mod,λb o e=>?_,HJ I.ok.Hs I.sz,λe he=>?_,λb hb=>I.D3 hb,I.aM,I.bare⟩;exact I.le _ _ (I.ok.bs b o e) trivial;have:=I.stack;generalize X.stack=l at this he;clear I;induction l with|nil=>cases he|cons c r ih=>obtain⟨h1,⟨L,o,h2,h3,h4,h5⟩,h6⟩:=this;rcases List.mem_cons.mp he with rfl|he;exact⟨h1,L,o,h2,h3,h4,h5⟩;exact ih h6 he
theorem jA(I:Inv X σ H ρ s)(ra:RA X σ H s us vs)(h:gj vs ρ=some ds)(nd:(bJ vs).Nodup):Args H (vs.map ku) us ds/\(∀i a,j2 (vs.map ku) us i a->∃j d,vs[i]?=some (.io j)/\own ρ[j]?=some d/\H a=some (.ow d j)):=by
 have at_:∀{i:Nat} {b},(vs.map ku)[i]?=some b->∃v,vs[i]?=some v/\ku v=b:=λ{i b} q=>by rw[FC] at q;cases z:vs[i]? with|none=>rw[z] at q;cases q|some v=>rw[z] at q;exact⟨v,rfl,JY q⟩
 have io:∀{i:Nat} {j u d},vs[i]?=some (.io j)->us[i]?=some u->ds[i]?=some d->∃l,u=.ref l/\own ρ[j]?=some d/\H l=some (.ow d j):=λ{i j u d} q hu hd=>by obtain⟨x,l,hx,hv,e,hs⟩:=Paired.at ra hu q;obtain⟨d',h1,h2⟩:=kv h q;obtain rfl:=sj hd h1;obtain⟨l',h3,h4⟩:=I.ownAt hx hv h2;rw[hs] at h3;cases h3;exact⟨l,e,h2,h4⟩
 have xZ:∀i a,j2 (vs.map ku) us i a->∃j d,vs[i]?=some (.io j)/\own ρ[j]?=some d/\H a=some (.ow d j):=λi a k=>by obtain⟨v,hv,e⟩:=at_ k.1;cases v with|val d=>cases e|io j=>obtain⟨d,hd,_⟩:=kv h hv;obtain⟨l,e,h2,h4⟩:=io hv k.2 hd;cases e;exact⟨j,d,hv,h2,h4⟩
 refine⟨⟨by rw[SS,ra.length],by rw[SS,th h],λi u d q hu hd=>?_,λi u d q hu hd=>?_,λi i' a k k'=>?_⟩,xZ⟩;obtain⟨v,hv,e⟩:=at_ q;cases v with|val d'=>obtain⟨d2,h1,h2⟩:=kv h hv;obtain rfl:=sj hd h1;cases h2;exact Paired.at (R:=Ks X σ H) ra hu hv|io j=>cases e
 obtain⟨v,hv,e⟩:=at_ q;cases v with|val d'=>cases e|io j=>obtain⟨l,e,_,h4⟩:=io hv hu hd;exact⟨l,j,e,h4⟩
 obtain⟨j,d,h1,_,h2⟩:=xZ i a k;obtain⟨j',d',VI,_,h2'⟩:=xZ i' a k';obtain⟨rfl,rfl⟩:=Ci h2 h2';exact ua nd h1 VI
theorem pJ(I:Inv X σ H ρ s)(ra:RA X σ H s us vs)(h:gj vs ρ=some ds)(nd:(bJ vs).Nodup)(af:After X.g X.stack H s (vs.map ku) us ios H' s'):Inv X σ H' (putAll (bJ vs) ios ρ) s':=by
 obtain⟨_,xZ⟩:=jA I ra h nd;refine I.after af (d8 _ _ _) λj t ht=>?_;by_cases hj:j∈bJ vs;obtain⟨i,hi⟩:=oZ hj;obtain⟨d,hd,ho⟩:=kv h hi;have V5:i<us.length:=by rw[ra.length];exact(List.getElem?_eq_some_iff.mp hi).1
 obtain⟨x,l,hx,hv,e,hs⟩:=Paired.at ra (UK V5) hi;obtain⟨l',h3,h4⟩:=I.ownAt hx hv ho;rw[hs] at h3;cases h3;obtain⟨d',h5,h6⟩:=af.xX i l d j ⟨by rw[FC,hi];rfl,by rw[<-e];exact UK V5⟩ h4;refine .inr ⟨d',by rw[jS nd hi h5,ht];rfl,λa d2 q=>?_⟩;rw[(I.tg l d j h4 (List.getElem?_eq_some_iff.mp hx).1).2 _ _ q];exact h6;refine .inl ⟨by rw[ip hj];exact ht,λa d q=>af.ow a d j q λi k=>?_⟩;obtain⟨j',d',h1,_,h2⟩:=xZ i a k;obtain⟨rfl,rfl⟩:=Ci q h2;exact hj (eH h1)
end
end WL
end
section
set_option linter.all false
set_option maxRecDepth 100000
namespace WL
open PySem PySem.Spec PyProof.Rows L2 VP
section
variable{X:Cx}{e a b o value:Expr}{es:WK}{fa fe fo:M D}{as:List VP.Arg}{pos p TX:Pos}{x c m:Str}{σ:Sg}{H:Tm}{ρ:ay}{s:Shared}{ds:Y5}{us:Zg}{Q:YY}{E:YY}
variable{k:Nat}{fA C:Addr}{fd:FuncData}{ps:TY}{fl:Qg}{fs:Fn}{cs:TY}{f:Str}
theorem eB:xm X [] []:=λpos s σ H ρ Q E I o=>Sr (o s H [] I Le.refl .nil)
theorem RA.le(l:Le H H')(r:Paired (Ks X σ H) us vs):Paired (Ks X σ H') us vs:=Paired.mono (λ_ _=>Ks.le l) r
theorem bU(ha:PV X a fa)(hr:xm X es as)(hs:PZ X a es:=by rfl):xm X (a::es) (.val fa::as):=λpos s σ H ρ Q E I o=>by rw[hs];exact S8 (rest:=backTo pos<|starEach es X.env) (ha.Zi I o (λ_ _ q=>q) λs1 H1 aS v d I1 l1 r1 o1=>hr pos s1 σ H1 aS _ E I1<|o1.Zi.mono (λvs r q s2 H2 us I2 l2 r2=>q s2 H2 _ I2 (l1.trans l2)<|.cons (Rel.le l2 r1) r2) λ_ _ q=>q.le l1)
theorem nh(j:Nat){x:Str}(hr:xm X es as)(hN:X.N[j]?=some x:=by rfl)(hv:pH X.env.scope x:=by exact BQ)(hd:RY x:=by decide)(jI:BG x:=by decide)(hs:starEach (.Name x pos::es) X.env=(false,eval (.Name x pos) X.env)::starEach es X.env:=by rfl):xm X (.Name x pos::es) (.io j::as):=λTo s σ H ρ Q E I o=>by
 rw[hs];simp only[aW] at o;split at o;rename_i h;cases q:own ρ[j]? with|none=>rw[q] at h;cases h|some d=>obtain⟨l,hu,_⟩:=I.ownAt hN hv q;exact S8 (rest:=backTo To<|starEach es X.env) (dF I hv hu (hr To s σ H ρ _ E I<|o.Zi.mono (λvs r q s2 H2 us I2 l2 r2=>q s2 H2 _ I2 l2<|.cons ⟨x,l,hN,hv,rfl,hu⟩ r2) λ_ _ q=>q) hd jI)
 exact o.elim
theorem de:∀{as:List VP.Arg}{ρ bI:ay}{vs:List AV},aW as ρ=.ok vs bI->vs.map ku=as.map VP.Arg.isIo|[],_,_,_,h=>by cases h;rfl|.val f::as,ρ,bI,vs,h=>by simp only[aW,VP.Zi] at h;split at h;split at h;cases h;rename_i q;rw[BE,BE,de q];rfl;cases h;cases h;cases h;cases h|.io j::as,ρ,bI,vs,h=>by simp only[aW,VP.Zi] at h;split at h;split at h;cases h;rename_i q;rw[BE,BE,de q];rfl;cases h;cases h;cases h
theorem yG{cc:Bool}{A:Around}{R:Result->Shared->Prop}{vs:List AV}{P:D->ay->Prop}{E':Xn->ay->Prop}(F:uX cc X.g k fA fd ps (vs.map ku) fs)(hr:cond cc (bE k A) (VS.eV k A))(hA:A.frames=X.A.frames)(hb:Binds X.g.K fd ps [])(Bt:(vs.map ku).length=ps.length)(I:Inv X σ H ρ s)(ra:RA X σ H s us vs)(o:Out (qo fs vs ρ) P E')(hQ:∀s' H' bI v d,Inv X σ H' bI s'->Le H H'->Rel H' v d->(∀a e,H' a=some e->H a≠none\/s.heap.objs.size<=a)->P d bI->R (.ok<|.ret v) s') (hE:∀s' H' bI v x,Inv X σ H' bI s'->Le H H'->XR X H' s' v x->E' x bI->R (.error v) s'):codeAny X.M A (.call (.ref fA) ⟨us,[]⟩) R s:=by unfold qo at o;split at o;rename_i ds hd;split at o;rename_i nd;have zZ:=hb s us I.iS (by rw[JS,<-Bt,SS];exact ra.length);rw[JS] at zZ;obtain⟨ar,_⟩:=jA I ra hd nd;have e0:=I.Dl;refine F A X.stack s H us ds _ R hr ⟨hA.trans e0.frames,e0.mod,e0.bs,e0.Hs,e0.fr,e0.D3,e0.aM,e0.bare⟩ zZ ar ?_;split at o;rename_i d ios q;rw[q];exactλs' H' v af r=>hQ s' H' _ v d (pJ I ra hd nd af) af.le r af.nn o;rename_i x ios q;rw[q];exactλs' H' v af r=>hE s' H' _ v x (pJ I ra hd nd af) af.le (r.up I.sz) o;exact o.elim;exact o.elim;exact o.elim
theorem Aq{cc:Bool}(F:uX cc X.g k fA fd ps fl fs)(hr:cond cc (bE k X.A) (VS.eV k X.A))(hg:Gl X x)(hm:X.g.mg x=some (.ref fA))(hk:W.keepIn X.g.K (.ref fA)=true)(hb:Binds X.g.K fd ps [])(Bt:fl.length=ps.length)
  (ha:xm X (e::es) as) (uW:as.map VP.Arg.isIo=fl:=by rfl) (kF:RY x:=by decide) (he:PZ X e es:=by rfl) (gO:F6 X pos es:=by rfl) :
  PV X (.Call (.Name x p) (e::es) [] pos) (au fs as):=λs σ H ρ Q E I o=>by
 refine Bz<|cj I hg hm ?_ kF;refine R4 (h₀:=X.g.base) I.ok.mod.gu hk (ha pos s σ H ρ _ E I ?_) he gO;unfold au VP.Zi at o;cases q:aW as ρ with|no=>rw[q] at o;exact o.elim|exc xx aS=>rw[q] at o;exact o|ok vs aS=>rw[q] at o;intro s1 H1 us I1 l1 r1;have hv:=(de q).trans uW;subst hv;exact⟨I1.iS,wpAny_call<|yG F hr rfl hb Bt I1 r1 o (λs' H' bI v d I' l' r' _ k=>k s' H' v I' (l1.trans l') r') λs' H' bI v x I' l' r' k=>k s' H' v I' (l1.trans l') r'⟩
theorem Rel.handed{d:D}(r:Rel H u d):W.handedIn u=true:=by cases d<;>first|(cases r;rfl)|(obtain⟨t,rfl⟩:=r;rfl)|(obtain⟨_,_,rfl,_⟩:=r;rfl)
theorem kK{f:Str}{d:D}:∀{fs:List (Str×Value)}{ds:Y5},aF H (fs.map (·.2)) ds->((fs.map (·.1)).zip ds).lookup f=some d->∃v,fs.lookup f=some v/\Rel H v d|[],_,.nil,h=>by cases h| (n,v)::fs,_,.cons h t,q=>by simp only[List.map_cons,List.zip_cons_cons,List.lookup_cons] at q ⊢;split at q;cases q;exact⟨v,rfl,h⟩;exact kK t q
theorem qy(T:VS.Ha X.g.K X.g.mg cs f)(ha:PR X e fe)(hb:attributeBase e f X.env (eval e X.env)=eval e X.env:=by rfl):PV X (.Attribute e f pos) (m1 (bq cs f) fe):=λs σ H ρ Q E I o=>y7 hb (ha.Zi I o (λ_ _ q=>q) λs1 H1 aS v d I1 l1 r1 o1=>by obtain⟨d,e1,q⟩:=o1.opt;rename_i d1;cases d1 with|ins c ns vs=>simp only[bq] at e1;split at e1;rename_i hc;obtain⟨C,hm,hC,hn⟩:=T c (by simpa using hc);obtain⟨a,ff,rfl,C',dx,h1,h2,h3,h4,fs,rfl,r,_,mA,h5,h6,_⟩:=I1.obj r1 rfl;rw[hm] at h1;cases h1;obtain⟨u,lu,ru⟩:=kK r e1;exact get_map I1.iS ⟨h2,h5,λz=>absurd (z.trans h4) (Nat.succ_ne_self dx).symm⟩ (hC.get f) hC.hd hn ((h6 f).symm.trans lu) ru.handed<|q _ H1 u (I1.tok _) l1 ru;cases e1|_=>cases e1)
def oK(f:Str)(v:Value):List (Str×Value)->List (Str×Value)|[]=>[(f,v)]| (g,x)::r=>if g=f then(g,v)::r else(g,x)::oK f v r
theorem qx{f:Str}{v:Value}{d:D}(h:Rel H v d):∀{fs:List (Str×Value)}{ds:Y5},aF H (fs.map (·.2)) ds->(oK f v fs).map (·.1)=(dN f d (fs.map (·.1)) ds).1/\aF H ((oK f v fs).map (·.2)) (dN f d (fs.map (·.1)) ds).2/\(oK f v fs).length<=fs.length+1/\(∀g,(oK f v fs).lookup g=if g=f then some v else fs.lookup g)/\f∈(oK f v fs).map (·.1)/\∀g,g∈fs.map (·.1)->g∈(oK f v fs).map (·.1)
|[],_,.nil=>⟨rfl,.cons h .nil,TC _,λg=>by rw[oK,Xp];by_cases e:g=f;(subst e;simp);(rw[beq_eq_false_iff_ne.mpr e,Y4 e]),by simp[oK],λg h=>by simp at h⟩| (n,w)::fs,_,.cons q t=>by obtain⟨i1,i2,i3,i4,i5,i6⟩:=qx (f:=f) h t;simp only[oK,List.map_cons,dN];split;rename_i e;subst e;exact⟨rfl,.cons h t,Jd _,λg=>by rw[Xp,Xp];by_cases e:g=n;(subst e;simp);(rw[beq_eq_false_iff_ne.mpr e,Y4 e]),T2,λg z=>z⟩;rename_i e;refine⟨by simp[i1],.cons q i2,Nat.succ_le_succ i3,λg=>?_,SY _ i5,λg z=>(List.mem_cons.mp z).elim (λz=>z ▸ TL) λz=>SY _<|i6 g z⟩;rw[Xp,Xp,i4 g];by_cases e2:g=n;subst e2;simp[e];simp[beq_eq_false_iff_ne.mpr e2]
def Z1(X:Cx)(f:Str)(i:Nat)(R:Rl D Value):Prop:=∀s σ H ρ v d (Q:Prop),Inv X σ H ρ s->i<X.N.length->R H s v d->(∀H',Inv X σ H' ρ s->Le H H'->Rel H' v d->(f="cells" -> ∀l l' d,H' l=some (.ow d i)->v=.ref l'->l<=l')->Q)->Q
theorem uR{R:Rl D Value}(i:Nat){To p':Pos}(hR:Z1 X f i R)(T:VS.Ha X.g.K X.g.mg cs f)(HX:WP X R (eval value X.env) fe)(hN:X.N[i]?=some x:=by rfl)(hv:pH X.env.scope x:=by exact BQ)(hd:RY x:=by decide)(jI:BG x:=by decide)(hs:swapsWith value (some<|.Attribute (.Name x p') f To) pos.line X.env=pure false:=by rfl) : gY X (.Assign [.Attribute (.Name x p') f To] value pos) (bY i cs f fe):=λs σ H ρ Q E I o=>
 plainObj_wpAny_Assign_Attribute (HX.Zi I o (λ_ _ q=>q.x) λs1 H0 aS u d1 I0 l0 r0 o1=>by
  refine hR _ _ _ _ _ _ _ I0 (List.getElem?_eq_some_iff.mp hN).1 r0 λH1 I1 l01 r1 hc=>?_;have l1:=l0.trans l01;obtain⟨d,d',q0,q1,k⟩:=iy o1.Zi;obtain⟨l,hu,hl⟩:=I1.ownAt hN hv q0;refine dF I1 hv hu ?_ hd jI;cases d with
   |ins c ns vs=>
    simp only[sD] at q1;split at q1;rename_i Ec;rw[Ss] at Ec;cases q1;obtain⟨C,hm,hC,hn⟩:=T c (by simpa using Ec.1);obtain⟨⟨C',dx,h1,h2,h3,h4,fs,rfl,r,h8,mA,h5,h6,h7,Y7⟩,_⟩:=I1.aM l _ hl;rw[hm] at h1;cases h1;have h9:fs.length<1000:=by simpa using P7 Ec.2
    refine Q0t I1.iS ⟨h2,h5,λz=>absurd (z.trans h4) (Nat.succ_ne_self dx).symm⟩ hC.sa hC.po hn.AX hC.hd h7 (by rw[SS,tC];lia) λh' O' sb=>?_;have lo:Le H1 _:=Le.ow (d':=.ins c (dN f d1 (fs.map (·.1)) vs).1 (dN f d1 (fs.map (·.1)) vs).2) (j:=i) hl;obtain⟨p1,p2,p3,p4,p5,p6⟩:=qx (f:=f) (r1.le lo)<|aF.le lo r;have vR:∃o,h'.get? dx=some o:=let ⟨o,_,_,e',_⟩:=O'.ns;⟨o,e'⟩;have hq:∀g,(if g=f then some u else mA g)≠none->g∈(dN f d1 (fs.map (·.1)) vs).1:=λg hg=>by rw[<-p1];by_cases q:g=f;rw[q];exact p5;rw[Y4 q] at hg;exact p6 g (h7 g hg)
    have xc:∀l',(if "cells" = f then some u else mA "cells")=some (.ref l')->dx<l':=λl' z=>by by_cases hf : "cells" = f;obtain rfl:=sj (Zh hf) z;have:=hc hf.symm l l' _ hl rfl;rw[h4] at this;exact this;rw[Y4 hf] at z;exact Y7 l' z
    obtain⟨I2,l2⟩:=I1.wr (t':=s1.toks+2) (h':=h') (d':=.ins c (dN f d1 (fs.map (·.1)) vs).1 (dN f d1 (fs.map (·.1)) vs).2) hl (.inr h3) (λb q hb z=>(sb.2 b hb).trans z) vR (λlp=>⟨C,dx,hm,O'.obj,(aD (λz=>absurd (z.trans h4) (Nat.succ_ne_self dx).symm)).trans h3,h4,oK f u fs,p1,p2,by rw[<-p1,SS];lia,_,O'.ns,λg=>by rw[p4 g,h6 g],hq,xc⟩) λz=>nomatch z;exact k _ _ _ _ I2 (l1.trans l2) rfl;cases q1
   |_=>cases q1) hs
theorem lookup_none:∀{fs:List (Str×Value)},(fs.map (·.1)).contains m=false->fs.lookup m=none|[],_=>rfl| (n,v)::fs,h=>by simp only[List.map_cons,List.contains_cons,Bool.or_eq_false_iff] at h;rw[Xp,h.1];exact lookup_none h.2
theorem Jy{pl:Sem Bool}(Px:X.g.mg c=some (.ref C))(cl:OR X.g.K C)(hm:Meth X.g.K C m fA)(F:pC X.g k fA fd ps (false::fl) fs)(hr:bE k X.A)(hb:Binds X.g.K fd ps [])(Bt:(false::fl).length=ps.length)
  (ho:PV X o fo) (ha:xm X (e::es) as) (uW:as.map VP.Arg.isIo=fl:=by rfl)
  (iO:PZ X e es:=by rfl) (gO:F6 X pos es:=by rfl)
  (ht:eval (.Call (.Attribute o m TX) (e::es) [] pos) X.env=(do
   let ov <-eval o X.env
   standAt TX.atName
   let (f,first) <-holding [ov] (getMethod ov m pl)
   callWith pos f first (backTo pos<|starEach (e::es) X.env)<|backToKw pos<|keywordEach [] X.env):=by rfl) :
  PV X (.Call (.Attribute o m TX) (e::es) [] pos) (gR c m fs fo as):=λs σ H ρ Q E I oo=>by
 refine W.methodCall_KW (pl:=pl) (ho.Zi I oo (λ_ _ q=>q) λs1 H1 aS u d1 I1 l1 r1 o1=>?_) ht;cases hi:gP c m d1 with
 |false=>rw[hi] at o1;exact o1.elim|true=>
  rw[hi] at o1;cases d1 with
  |ins c' ns vs=>
   simp only[gP,Bool.and_eq_true,Bool.not_eq_true'] at hi;have uV:c'=c:=by simpa using hi.1
   subst uV;obtain⟨a,ff,rfl,C',dx,h1,h2,h3,h4,fs',rfl,r,_,mA,h5,h6,_⟩:=I1.obj (.inl r1) rfl;rw[Px] at h1;cases h1;refine Q0p I1.iS ⟨h2,h5,λz=>absurd (z.trans h4) (Nat.succ_ne_self dx).symm⟩ (cl.get m) hm.at_ hm.fn ((h6 m).symm.trans<|lookup_none hi.2) ?_;refine R4 (first:=[.ref a]) (h₀:=X.g.base) I1.ok.mod.gu hm.kp (ha pos s1 σ H1 aS _ E I1 ?_) iO gO;have o2:Out (Zi (aW as) (λvs'=>qo fs (.val _::vs')) aS) _ _:=o1;unfold VP.Zi at o2;cases q:aW as aS with|no=>rw[q] at o2;exact o2.elim|exc xx sN=>rw[q] at o2;exact OK.le l1 o2|ok av sN=>rw[q] at o2;intro s2 H2 us I2 l2 r2;have hv:=(de q).trans uW;subst hv;exact⟨I2.iS,wpAny_call<|yG (vs:=.val _::av) F hr rfl hb Bt I2 (.cons (Rel.le l2 r1) r2) o2 (λs' H' bI v d I' l' r' _ k=>k s' H' v I' (l1.trans<|l2.trans l') r') λs' H' bI v x I' l' r' k=>k s' H' v I' (l1.trans<|l2.trans l') r'⟩
  |_=>cases hi
end
end WL
end
section
set_option linter.all false
set_option maxRecDepth 100000
namespace WL
open PySem PySem.Spec PyProof.Rows L2 VP
section
variable{X:Cx}{e a b o value:Expr}{es:WK}{fa fe fo:M D}{as:List VP.Arg}{pos p TX:Pos}{x c m:Str}{σ:Sg}{H H':Tm}{ρ:ay}{s s':Shared}{ds ios:Y5}{us:Zg}{Q:YY}{E:YY}{vs:List AV}
variable{k:Nat}{fA C:Addr}{fd:FuncData}{ps:TY}{fl:Qg}{fs:Fn}{cs:TY}{f:Str}{t:Sl}
theorem pL:∀{vs:List AV}{ds:Y5},ρ.length∉bJ vs->gj vs (ρ++[t])=some ds->gj vs ρ=some ds
|[],_,_,h=>h|.val d::vs,ds,n,h=>by simp only[gj] at h ⊢;cases q:gj vs (ρ++[t]) with|none=>rw[q] at h;cases h|some es=>rw[q] at h;rw[pL (vs:=vs) n q];exact h
|.io j::vs,ds,n,h=>by
 simp only[gj] at h ⊢;have nj:j≠ρ.length:=λz=>n<|z ▸ TL;have e:(ρ++[t])[j]?=ρ[j]?\/(ρ++[t])[j]?=none:=by rcases Nat.lt_or_gt_of_ne nj with z|z;exact .inl<|IV z;exact .inr (By (by simp;lia))
 rcases e with e|e;rw[e] at h;cases q:gj vs (ρ++[t]) with|none=>rw[q] at h;cases o:own ρ[j]?<;>rw[o] at h<;>cases h|some es=>rw[q] at h;rw[pL (vs:=vs) (λz=>n<|SY _ z) q];exact h
 rw[e] at h;cases h
theorem Q27{j:Nat}{d:D}(h:j≠ρ.length):dh j d (ρ++[t])=dh j d ρ++[t]:=by rcases Nat.lt_or_gt_of_ne h with z|z;have q:ρ[j]?=some ρ[j]:=UK z;rw[jT q,jT<|(IV z).trans q,List.set_append_left _ _ z];have q:ρ[j]?=none:=By<|Nat.le_of_lt z;have q':(ρ++[t])[j]?=none:=By (by simp;lia);unfold dh;simp only[q,q']
theorem putAll_snoc:∀{js:WC}{ds:Y5}{ρ:ay},ρ.length∉js->putAll js ds (ρ++[t])=putAll js ds ρ++[t]|[],_,_,_=>rfl|_::_,[],_,_=>rfl|j::js,d::ds,ρ,h=>by show putAll js ds (dh j d<|ρ++[t])=putAll js ds (dh j d ρ)++[t];rw[Q27 λz=>h<|z ▸ TL];exact putAll_snoc (by rw[lR];exactλz=>h<|SY _ z)
theorem jz{x:Addr}{d0 d':D}(I:Inv X σ H ρ s)(ra:RA X σ H s us vs)(h:gj vs ρ=some ds)(nd:(bJ vs).Nodup)(hx:H x=some (.ow d0 X.N.length))(af:After X.g X.stack H s (true::vs.map ku) (.ref x::us) (d'::ios) H' s'):Inv X σ H' (putAll (bJ vs) ios ρ) s':=by
 obtain⟨_,xZ⟩:=jA I ra h nd;refine I.after af (d8 _ _ _) λj t ht=>?_;have hjn:j<X.N.length:=by rw[<-I.len];exact(List.getElem?_eq_some_iff.mp ht).1
 by_cases hj:j∈bJ vs;obtain⟨i,hi⟩:=oZ hj;obtain⟨d,hd,ho⟩:=kv h hi;have V5:i<us.length:=by rw[ra.length];exact(List.getElem?_eq_some_iff.mp hi).1
 obtain⟨y,l,hy,hv,e,hs⟩:=Paired.at ra (UK V5) hi;obtain⟨l',h3,h4⟩:=I.ownAt hy hv ho;rw[hs] at h3;cases h3;obtain⟨d',h5,h6⟩:=af.xX (i+1) l d j ⟨by rw[List.getElem?_cons_succ,FC,hi];rfl,by rw[<-e];exact UK V5⟩ h4;refine .inr ⟨d',by rw[jS nd hi h5,ht];rfl,λa d2 q=>?_⟩;rw[(I.tg l d j h4 hjn).2 _ _ q];exact h6;refine .inl ⟨by rw[ip hj];exact ht,λa d q=>af.ow a d j q λi k=>?_⟩;cases i with|zero=>have:=k.2;cases this;obtain⟨rfl,rfl⟩:=Ci hx q;exact absurd hjn (Fw _)|succ i=>obtain⟨j',d',h1,_,h2⟩:=xZ i a k;obtain⟨rfl,rfl⟩:=Ci q h2;exact hj (eH h1)
theorem Inv.abm(I:Inv X σ H ρ s)(hm:X.g.mg c=some (.ref C)):∃H',Inv X σ H' ρ {s with heap:=(s.heap.push W.emptyDict).push (W.instObj C s.heap.objs.size)}/\Le H H'/\H' (s.heap.objs.size+1)=some (.ow (.ins c [] []) X.N.length):=by
 obtain⟨I1,l1⟩:=I.lay (t':=s.toks) (h':=s.heap.push W.emptyDict) (a:=s.heap.objs.size) (e:=.di<|s.heap.objs.size+1) (λb o e=>Wm _ e) (TC _) λlp=>⟨_,Zv _ rfl⟩;have hs:(s.heap.push W.emptyDict).objs.size=s.heap.objs.size+1:=by simp[Heap.push]
 have n1:=Heap.Ns1.of_empty<|show (s.heap.push W.emptyDict).Ns s.heap.objs.size (λ_=>none) from⟨W.emptyDict,#[],_,Zv s.heap rfl,rfl,(λe he=>absurd he T2),λ_=>rfl⟩;have ne:s.heap.objs.size≠s.heap.objs.size+1:=Rb<|Ql _;obtain⟨I2,l2⟩:=I1.lay (t':=s.toks) (h':=(s.heap.push W.emptyDict).push<|W.instObj C s.heap.objs.size) (a:=s.heap.objs.size+1) (e:=.ow (.ins c [] []) X.N.length) (λb o e=>Wm _ e) (Nat.le_of_eq hs) (λlp=>⟨⟨C,s.heap.objs.size,hm,by rw[<-hs];exact Zv _ rfl,(aD ne).trans az,rfl,[],rfl,.nil,Hr _,_,n1.at λo e=>Wm _ e,λf=>rfl,λf z=>absurd rfl z,λ_ z=>nomatch z⟩,λz=>nomatch z⟩) λd i z=>by cases z;exact TC _
 exact⟨_,I2,l1.trans l2,az⟩
theorem Args.cons{x:Addr}{d0:D}{j:Nat}(a:Args H fl us ds)(hx:H x=some (.ow d0 j))(ne:∀i,¬j2 fl us i x):Args H (true::fl) (.ref x::us) (d0::ds):=by
 refine⟨congrArg Nat.succ a.l1,congrArg Nat.succ a.l2,λi u d h1 h2 h3=>?_,λi u d h1 h2 h3=>?_,λi i' b k k'=>?_⟩;cases i with|zero=>cases h1|succ i=>exact a.val i u d h1 h2 h3
 cases i with|zero=>cases h2;cases h3;exact⟨x,j,rfl,hx⟩|succ i=>exact a.xZ i u d h1 h2 h3
 cases i with
 |zero=>cases i' with|zero=>rfl|succ i'=>have:=k.2;cases this;exact absurd k' (ne i')
 |succ i=>cases i' with|zero=>have:=k'.2;cases this;exact absurd k (ne i)|succ i'=>exact congrArg Nat.succ (a.uq i i' b k k')
theorem Jf(M:Mk X.g.K C fA)(F:pC X.g k fA fd ps (true::fl) fs)(hr:bE (k+1) X.A)(hg:Gl X c)(hm:X.g.mg c=some (.ref C))(hb:Binds X.g.K fd ps [])(Bt:(true::fl).length=ps.length)
  (ha:xm X (e::es) as) (uW:as.map VP.Arg.isIo=fl:=by rfl) (kF:RY c:=by decide) (he:PZ X e es:=by rfl) (gO:F6 X pos es:=by rfl) :
  PF X (.Call (.Name c p) (e::es) [] pos) (n6 c fs as):=λs σ H ρ Q E I o=>by
 refine Bz<|cj I hg hm ?_ kF;refine R4 (h₀:=X.g.base) I.ok.mod.gu M.kp (ha pos s σ H ρ _ E I ?_) he gO;unfold n6 VP.Zi at o;cases q:aW as ρ with
 |no=>rw[q] at o;exact o.elim|exc xx aS=>rw[q] at o;exact o|ok vs aS=>
  rw[q] at o;intro s1 H1 us I1 l1 r1;refine⟨I1.iS,?_⟩;have hv:=(de q).trans uW;subst hv;obtain⟨H2,I2,l2,hx⟩:=I1.abm (c:=c) hm;have len:aS.length=X.N.length:=I1.len;have o':Out (BC c fs vs aS) (OK X σ H (RF X) Q) (OK X σ H (XR X) E):=o;have av0:gj (.io aS.length::vs) (aS++[.ow<|.ins c [] []])=(gj vs<|aS++[.ow<|.ins c [] []]).map (.ins c [] []::·):=by simp only[gj];rw[Jn<|TC _,Nat.sub_self];rfl
  unfold BC qo at o';simp only[av0] at o';cases q1:gj vs (aS++[.ow<|.ins c [] []]) with
  |none=>simp only[q1,Option.map_none] at o';exact o'.elim|some ds=>
   simp only[q1,Option.map_some] at o';by_cases nd:(bJ (.io aS.length::vs)).Nodup;rw[Zh nd] at o';obtain⟨n1,n2⟩:=List.nodup_cons.mp<|show (aS.length::bJ vs).Nodup from nd;have q2:=pL n1 q1;have pa:∀d' ios,putAll (bJ (.io aS.length::vs)) (d'::ios) (aS++[.ow<|.ins c [] []])=putAll (bJ vs) ios aS++[.ow d']:=λd' ios=>by show putAll (bJ vs) ios (dh aS.length d'<|aS++[.ow<|.ins c [] []])=_;rw[jT (t:=.ow<|.ins c [] []) (by rw[Jn<|TC _,Nat.sub_self];rfl),List.set_append_right _ _<|TC _,Nat.sub_self];exact putAll_snoc n1
   have r2:=RA.le l2 r1;obtain⟨ar,xZ⟩:=jA I2 r2 q2 n2;have TB:=ar.cons hx λi k=>by obtain⟨j,d,h1,h2,h3⟩:=xZ i _ k;obtain⟨rfl,rfl⟩:=Ci hx h3;rw[By<|Nat.le_of_eq len] at h2;cases h2
   have ln:∀{ios H3 s3},After X.g X.stack H2 {s1 with heap:=(s1.heap.push W.emptyDict).push (W.instObj C s1.heap.objs.size)} (true::vs.map ku) (.ref (s1.heap.objs.size+1)::us) ios H3 s3->∃d' r,ios=d'::r/\H3 (s1.heap.objs.size+1)=some (.ow d' X.N.length):=λ{ios H3 s3} af=>by obtain⟨d',h1,h2⟩:=af.xX 0 _ _ _ ⟨rfl,rfl⟩ hx;cases ios with|nil=>cases h1|cons d r=>cases h1;exact⟨_,_,rfl,h2⟩
   have e0:=I2.Dl;have zZ:=hb _ (Value.ref (s1.heap.objs.size+1)::us) I2.iS (by rw[JS,<-Bt];simpa using r1.length);rw[JS] at zZ;have tl:∀{r:ay}{t:Sl},r.length=aS.length->(r++[t])[aS.length]?=some t/\(r++[t]).take aS.length=r:=λ{r t} h=>by rw[<-h];exact⟨T2,T2⟩
   refine wpAny_call<|EZ (f:=fA) I1.iS M.makes M.init (beq_iff_eq.mp M.fn)<|F _ X.stack _ H2 _ _ _ _ (hr.make C us []) ⟨e0.frames,e0.mod,e0.bs,e0.Hs,e0.fr,e0.D3,e0.aM,e0.bare⟩ zZ TB ?_;cases q3:fs (.ins c [] []::ds) with|no=>rw[q3] at o';exact o'.elim|exc x ios=>rw[q3] at o';intro s3 H3 v af xr;obtain⟨d',r,rfl,h3⟩:=ln af;simp only[pa,(tl<|d8 _ _ _).2] at o';exact o' s3 H3 v (jz I2 r2 q2 n2 hx af) (l1.trans<|l2.trans af.le) (xr.up I2.sz)|ok d ios=>rw[q3] at o';intro s3 H3 v af rv;obtain⟨d',r,rfl,h3⟩:=ln af;cases d with|aQ=>cases rv;simp only[pa,(tl<|d8 _ _ _).2,(tl<|d8 _ _ _).1] at o';exact⟨rfl,o' s3 H3 _ (jz I2 r2 q2 n2 hx af) (l1.trans<|l2.trans af.le) ⟨_,rfl,h3⟩⟩|_=>exact o'.elim
   rw[Y4 nd] at o';exact o'.elim
theorem Jp{pl:Sem Bool}(B:VS.Uh X.g.K X.g.mg c m C fA)(F:pC X.g k fA fd ps fl fs)(hr:bE k X.A)(hb:Binds X.g.K fd ps [])(Bt:fl.length=ps.length)(ha:xm X (e::es) as)(hg:Gl X c:=by rfl)(uW:as.map VP.Arg.isIo=fl:=by rfl)
  (kF:RY c:=by decide) (iO:PZ X e es:=by rfl) (gO:F6 X pos es:=by rfl)
  (ht:eval (.Call (.Attribute (.Name c p) m TX) (e::es) [] pos) X.env=(do
   let ov <-eval (.Name c p) X.env
   standAt TX.atName
   let (f,first) <-holding [ov] (getMethod ov m pl)
   callWith pos f first (backTo pos<|starEach (e::es) X.env)<|backToKw pos<|keywordEach [] X.env):=by rfl) :
  PV X (.Call (.Attribute (.Name c p) m TX) (e::es) [] pos) (au fs as):=λs σ H ρ Q E I o=>by
 refine W.methodCall_KW (pl:=pl) (cj I hg B.mg ?_ kF) ht;refine W.method_cls I.iS B.sp<|W.cls_value I.iS B.rd B.fi rfl ?_;have I2:=I.tok<|s.toks+1;refine R4 (first:=[]) (h₀:=X.g.base) I.ok.mod.gu B.kp (ha pos _ σ H ρ _ E I2 ?_) iO gO;unfold au VP.Zi at o;cases q:aW as ρ with|no=>rw[q] at o;exact o.elim|exc xx aS=>rw[q] at o;exact o|ok vs aS=>rw[q] at o;intro s1 H1 us I1 l1 r1;have hv:=(de q).trans uW;subst hv;exact⟨I1.iS,wpAny_call<|yG F hr rfl hb Bt I1 r1 o (λs' H' bI v d I' l' r' _ k=>k s' H' v I' (l1.trans l') r') λs' H' bI v x I' l' r' k=>k s' H' v I' (l1.trans l') r'⟩
theorem Ep{subs:Ju}{d1 d:D}(I:Inv X σ H ρ s)(r:RW H s v d1)(e:dg subs d1=some d):∃c b a C' dx od,v=.ref a/\(c,b)∈subs/\d=.bl b/\X.g.mg c=some (.ref C')/\s.heap.get? a=some (W.instObj C' dx)/\s.heap.get? dx=some od:=by
 cases d1 with
 |ins c' ns vs=>simp only[dg] at e;cases e1:subs.lookup c' with|none=>rw[e1] at e;cases e|some b=>rw[e1] at e;cases e;obtain⟨a,ff,rfl,C',dx,h1,h2,_,_,_,_,_,_,mA,h5,_⟩:=I.obj r rfl;obtain⟨od,_,_,Ek,_⟩:=h5;exact⟨c',b,a,C',dx,od,rfl,Fh e1,rfl,h1,h2,Ek⟩
 |_=>cases e
end
end WL
end
section
set_option linter.all false
set_option maxRecDepth 100000
namespace WL
open PySem PySem.Spec PyProof.Rows L2 VP
def bf(t:Bool)(id:String):Value:=if t then .type id else .builtin id
section
variable{X:Cx}{e a b o:Expr}{es:WK}{fa fb fe fo:M D}{pos p TX bM:Pos}{x c m:Str}{σ:Sg}{H H':Tm}{ρ:ay}{s s':Shared}{ds:Y5}{us:Zg}{Q:YY}{E:YY}{id:String}{fl:List (M D)}
theorem bc(t:Bool)(I:Inv X σ H ρ s)(hg:Gl X x)(hm:X.g.mg x=none)(hv:bootBuiltins x=some (bf t id))(ha:wpAny X.M X.A (spliced<|backTo pos<|starEach (e::es) X.env) (λus s1=>wpAny X.M X.A (call (bf t id) us) Q E s1) E s)(hn:x≠"__name__") (kF:(x == ("__debug__" : Str))=false) (he:PZ X e es) (gO:F6 X pos es):wpAny X.M X.A (eval (.Call (.Name x p) (e::es) [] pos) X.env) Q E s:=by refine Bz<|qm I hg hm hv ?_ hn kF;cases t;exact PyProof.Rows.callWith_builtin1 ha he gO;exact Jr ha he gO
def Hb(X:Cx)(f:Value)(R:Rl D Value)(g:D->Y1):Prop:=∀s σ H ρ v a d Q E,Inv X σ H ρ s->RW H s v a->g a=some d->OK X σ H R Q d ρ->wpAny X.M X.A (call f [v]) Q E s
theorem bZ{R:Rl D Value}{g:D->Y1}(t:Bool)(h:Hb X (bf t id) R g)(hg:Gl X x)(hm:X.g.mg x=none)(hv:bootBuiltins x=some (bf t id))(ha:PR X a fa)(hn:x≠"__name__" := by decide)(kF:RY x:=by decide)(hs:PZ X a []:=by rfl):WP X R (eval (.Call (.Name x p) [a] [] pos) X.env) (m1 g fa):=λs σ H ρ Q E I o=>by refine bc t I hg hm hv ?_ hn kF hs rfl;rw[hs];refine S8<|ha.Zi I o (λ_ _ q=>q) λs1 H1 aS v d I1 l1 r1 o1=>Sr ?_;obtain⟨d',e1,q⟩:=o1.opt;exact h s1 σ H1 aS v d d' Q E I1 r1 e1 (q.le l1)
theorem qT{g:Y5->Y1}(t:Bool)(h:YM X (λus=>call (bf t id) us) g)(hg:Gl X x)(hm:X.g.mg x=none)(hv:bootBuiltins x=some (bf t id))(ha:uY X (e::es) (mL fl))(hn:x≠"__name__" := by decide)(kF:RY x:=by decide)(he:PZ X e es:=by rfl) (gO:F6 X pos es:=by rfl):PV X (.Call (.Name x p) (e::es) [] pos) (mF g fl):=λs σ H ρ Q E I o=>by refine bc t I hg hm hv ?_ hn kF he gO;refine(ha pos).Zi I o (λ_ _ q=>q) λs1 H1 aS us d I1 l1 r1 o1=>?_;obtain⟨d',e1,q⟩:=o1.opt;exact h s1 σ H1 aS us d d' Q E I1 r1 e1 (q.le l1)
theorem qH{g:Y5->D}{d d':D}(e:(b9 d).map g=some d'):∃t ds,d=jt t ds/\d'=g ds:=by cases q:b9 d with|none=>rw[q] at e;cases e|some ds=>rw[q] at e;cases e;obtain⟨t,h⟩:=df q;exact⟨t,ds,h,rfl⟩
theorem f_len:Hb X (bf false "len") RV cw:=λs σ H ρ v a d Q E I r e k=>by obtain⟨t,ds,rfl,rfl⟩:=qH (g:=λds=>.int ds.length) (d:=a) (d':=d) (by cases a<;>first|exact e|cases e);obtain⟨q,us,rfl,rr,sq,hz⟩:=I.seq t r;have hn:=xY;have hl:=rr.length;have k':∀tk t,Q (.int us.length tk) {s with toks:=t}:=λtk t=>k _ H (.int us.length tk) (I.tok t) Le.refl ⟨_,by rw[hl]⟩;cases t;exact Calls.call_len_list sq (by simp only[List.size_toArray]<;>lia) (by simpa using k' _ _);exact len_tuple sq (by simp only[List.size_toArray]<;>lia) (by simpa using k' _ _)
theorem f_tup:Hb X (bf true "tuple") RV iM:=λs σ H ρ v a d Q E I r e k=>by obtain⟨t,ds,rfl,rfl⟩:=qH (g:=λds=>.tup ds) (d:=a) (d':=d) (by cases a<;>first|exact e|cases e);obtain⟨q,us,rfl,rr,sq,hz⟩:=I.seq t r;have hl:=rr.length;cases t;refine call_tuple_list sq (λh' kp=>?_) (by simp only[List.size_toArray]<;>lia);obtain⟨H',I',l',r'⟩:=(I.kept (t':=s.toks) kp).BH s.toks rr hz;exact k _ H' _ I' l' r';refine call_tuple_same sq<|k s H _ I Le.refl ?_;rcases r with r|⟨l,i,e1,hl⟩;exact r;cases (I.aM l _ hl).1.1
def RN(X:Cx):Rl D Value:=λH _ v d=>∃l,v=.ref l/\H l=some (.ow d X.N.length)/\∀b e,H b=some e->b<=l
theorem PN.pf(h:WP X (RN X) (eval e X.env) fe):PF X e fe:=h.mono λ_ _ _ _ _ _ _ I ⟨l,a,b,_⟩ k=>k _ I Le.refl ⟨l,a,b⟩
theorem toF_ne{f:Str}(hf:f≠"cells"):Z1 X f i RV:=λs σ H ρ v d Q I hi r k=>k H I Le.refl r λz=>absurd z hf
theorem Q1d(i:Nat){f:Str}{cs:TY}{value:Expr}{To p':Pos}(T:VS.Ha X.g.K X.g.mg cs f)(HX:PV X value fe)(hN:X.N[i]?=some x:=by rfl)(hv:pH X.env.scope x:=by exact BQ)(hd:RY x:=by decide)(jI:BG x:=by decide)(hs:swapsWith value (some<|.Attribute (.Name x p') f To) pos.line X.env=pure false:=by rfl)(hf:f≠"cells" := by decide) : gY X (.Assign [.Attribute (.Name x p') f To] value pos) (bY i cs f fe):=uR i (toF_ne hf) T HX hN hv hd jI hs
theorem toF_new{f:Str}:Z1 X f i (RN X):=λs σ H ρ v d Q I hi ⟨l,hv,hl,hm⟩ k=>by
 obtain⟨H',o,I',l',q,bk⟩:=I.fz hl<|.inr<|TC _;rw[List.set_eq_of_length_le (by rw[I.len];exact TC _)] at I';have z:=I.aM _ _ hl;refine k H' I' l' (by rw[hv];exact Rel.mk z.1 z.2 q) λ_ b b' e hb zZ=>?_;rw[hv] at zZ;cases zZ;obtain⟨t1,t2⟩:=I'.tg b e i hb hi;have:∃lx,H lx=some (.ow e i):=by rcases t1 with q1|q1<;>obtain⟨x,_,w⟩:=I.slot i _ q1;obtain⟨lx,_,w⟩:=w;exact⟨lx,w⟩;obtain⟨lx,_,w,_⟩:=w;exact⟨lx,w⟩
 obtain⟨lx,w⟩:=this;cases t2 lx _ (bk lx _ _ w λz=>by rw[z,hl] at w;cases w;exact absurd hi<|Fw _);exact hm _ _ w
theorem MO:Hb X (bf true "list") (RN X) eX:=λs σ H ρ v a d Q E I r e k=>by
 obtain⟨t,ds,rfl,rfl⟩:=qH (g:=λds=>.lst ds) (d:=a) (d':=d) (by cases a<;>first|exact e|cases e);obtain⟨q,us,rfl,rr,sq,hz⟩:=I.seq t r;have hl:=rr.length;obtain⟨ob,ho,hc,n,hd⟩:∃ob,s.heap.get? q=some ob/\ob.cls=.type (if t then "tuple" else "list")/\∃n,ob.data=.seq us.toArray n:=by cases t;exact sq;exact sq
 refine call_list_seq q (T:=if t then "tuple" else "list") (by cases t;exact .inl rfl;exact .inr rfl) ho hc hd (λh' c' kp e'=>?_) (by simp only[List.size_toArray]<;>lia);obtain⟨I',l'⟩:=I.lay (t':=s.toks) (h':=h') (a:=s.heap.objs.size) (e:=.ow (.lst ds) X.N.length) kp (TC _) (λlp=>⟨⟨hz,us,rr.p lp,c',e'⟩,λz=>nomatch z⟩) λd i z=>by cases z;exact TC _
 refine k _ _ _ I' l' ⟨_,rfl,az,λb e q=>?_⟩;by_cases y:b=s.heap.objs.size;exact Nat.le_of_eq y;rw[aD y] at q;exact Nat.le_of_lt (I.aM.lt q)
theorem gQ{us:Zg}{ds:Y5}{ns:Zw}(r:aF H us ds)(e:bT ds=some ns):IntsAre us ns:=by
 induction r generalizing ns with
 |nil=>cases e;exact .nil|@cons u d us ds h t ih=>
  cases d with
  |int i=>obtain⟨tk,rfl⟩:=h;simp only[bT] at e;cases q:bT ds with|none=>rw[q] at e;cases e|some ns=>rw[q] at e;cases e;exact .cons i tk (ih q)
  |_=>cases e
theorem BR{us:Zg}{ns:Zw}(h:IntsAre us ns):aF H us (ns.map .int):=by induction h with|nil=>exact .nil|cons n t _ ih=>exact .cons ⟨t,rfl⟩ ih
theorem Vo(hc:X.calm=true):Hb X (bf false "sum") RV F8:=λs σ H ρ v a d Q E I r e k=>by
 unfold F8 at e;cases e1:b9 a with
 |none=>rw[e1] at e;cases e|some ds=>
  simp only[e1] at e;cases e2:bT ds with
  |none=>rw[e2] at e;cases e|some ns=>
   rw[e2] at e;cases e;obtain⟨t,rfl⟩:=df e1;obtain⟨q,us,rfl,rr,sq,hz⟩:=I.seq t r;have hi:=gQ rr e2;have hh:X.A.handled=none:=I.ok.hd hc;obtain⟨ys,ey⟩:=hi.allInts.items;have es:preSum (numAt ys) ys.size=ns.sum:=by rw[preSum_eq,Ic T2];have:=nums_intItems ys;rw[<-ey] at this;rw[<-this,show us.toArray.toList=us from rfl,hi.numsOf]
   cases t;have X4:s.heap.IsList q us.toArray:=sq;rw[ey] at X4;exact sum_intListG hh X4 λh' tk t' hk=>by rw[es];exact k _ H _ (I.kept hk) Le.refl ⟨_,rfl⟩
   have X4:s.heap.IsTuple q us.toArray:=sq;rw[ey] at X4;exact W.ktm_sumG hh X4 λh' tk t' hk=>by rw[es];exact k _ H _ (I.kept hk) Le.refl ⟨_,rfl⟩
theorem Pn:Hb X (bf false "sorted") RV sG:=λs σ H ρ v a d Q E I r e k=>by
 unfold sG at e;cases e1:b9 a with
 |none=>rw[e1] at e;cases e|some ds=>
  simp only[e1] at e;cases e2:bT ds with
  |none=>rw[e2] at e;cases e|some ns=>
   simp only[e2] at e;split at e;rename_i Y8;cases e;obtain⟨t,rfl⟩:=df e1;obtain⟨q,us,rfl,rr,sq,hz⟩:=I.seq t r;have hi:=gQ rr e2;have fin:∀(out:Array Value)(G3:Zw),IntsAre out.toList G3->G3.Perm ns->G3.Pairwise (·<=·)->Q (.ref<|s.heap.objs.size+1) {s with heap:=sortedAll s.heap us out}:=λout G3 a1 a2 a3=>by
    have e:=wI a2 a3;subst e;obtain⟨c,hc⟩:=sortedAll_at s.heap us out;have z:((sortI ns).map D.int).length<=sizeLine:=by rw[SS,a2.length_eq,tC];lia
    obtain⟨I',l'⟩:=I.lay (t':=s.toks) (h':=sortedAll s.heap us out) (a:=s.heap.objs.size+1) (e:=.pin _<|some<|.lst<|(sortI ns).map .int) (λb o e=>sortedAll_old e) (Jd _) λlp=>⟨hc,λe z'=>by cases z';exact⟨z,out.toList,(BR a1).p lp,c,hc⟩⟩;exact k _ _ _ I' l' ⟨_,_,rfl,az⟩
   have hl:us.length<64:=by rw[<-hi.length] at Y8;exact Y8
   cases t;exact sorted_ints sq hi hl fin;exact VS.uK sq hi hl fin;cases e
theorem f_int:YM X (λus=>call (bf true "int") us) intD:=λs σ H ρ us ds d Q E I r e k=>by unfold VP.intD at e;split at e;cases e;obtain⟨u,rfl,t,rfl⟩:=r.one;exact call_int_int<|k _ H _ I Le.refl ⟨_,rfl⟩;cases e;obtain⟨u,rfl,r1⟩:=r.one;cases r1;exact call_int_bool<|k _ H _ (I.tok _) Le.refl ⟨_,rfl⟩;cases e
theorem aF.two(r:aF H us [d,d']):∃u v,us=[u,v]/\Rel H u d/\Rel H v d':=by cases r with|cons r t=>cases t with|cons r' t=>cases t;exact⟨_,_,rfl,r,r'⟩
theorem Vm(hc:X.calm=true):YM X (λus=>call (bf false "max") us) maxD:=λs σ H ρ us ds d Q E I r e k=>by unfold maxD at e;split at e;rename_i i j;cases e;obtain⟨u,v,rfl,⟨t,rfl⟩,⟨t',rfl⟩⟩:=r.two;refine max_two_ints (I.ok.hd hc) λh' tk kp=>k _ H _ (I.kept kp) Le.refl ?_;by_cases hj:j > i;rw[Zh hj,Zh hj];exact⟨_,rfl⟩;rw[Y4 hj,Y4 hj];exact⟨_,rfl⟩;cases e
theorem zy(hc:X.calm=true)(al:Bool):Hb X (bf false<|if al then "all" else "any") RV (oC al):=λs σ H ρ v a d Q E I r e k=>by
 cases a with
 |lst ds=>
  simp only[oC] at e;cases e2:i7 ds with
  |none=>rw[e2] at e;cases e|some bs=>
   rw[e2] at e;cases e;obtain⟨q,us,rfl,rr,pl,hz⟩:=I.lst r;have eu:us=bs.map Value.bool:=by
    clear hz pl r k;induction rr generalizing bs with
    |nil=>cases e2;rfl|cons h t ih=>
     rename_i d _ _;cases d with
     |bl b=>simp only[i7] at e2;cases q:i7 _ with|none=>rw[q] at e2;cases e2|some bs=>rw[q] at e2;cases e2;rw[ih bs q];cases h;rfl
     |_=>cases e2
   subst eu;have lt:q<s.heap.objs.size:=by obtain⟨o,e,_⟩:=pl.isList;exact Hz e
   have hh:X.A.in1.handled=none:=I.ok.hd hc;have W:=Walks.list (prog:=X.g.prog) (w:=X.g.w) (A:=X.A.in1) hh s.heap.objs.size q (Rb lt) (bs.map Value.bool).toArray;have st:(λi (h:Heap)=>h.IsListIter s.heap.objs.size q i/\h.IsList q (bs.map Value.bool).toArray) 0 (s.heap.push {cls:=.type "list_iterator",data:=.fields #[.ref q,.int 0 0]}):=⟨⟨_,Zv _ rfl,rfl,rfl⟩,pl.isList.push _⟩;have tr:TruthOf X.g.prog X.g.w X.A.in1 (λi v=>(bs.map Value.bool).toArray[i]?=some v) (λi=>bs.getD i false):=λi v s Q E hP hQ=>by
    have TN:bs[i]?.map Value.bool=some v:=by simpa using hP
    cases e:bs[i]? with
    |none=>rw[e] at TN;cases TN|some b=>
     rw[e] at TN;cases TN;have:bs.getD i false=b:=by simp[e]
     dsimp only at hQ;rw[this] at hQ;exact U7 hQ
   have kp:∀(h':Heap),(∀b o,b∉[s.heap.objs.size]->(s.heap.push {cls:=.type "list_iterator",data:=.fields #[.ref q,.int 0 0]}).get? b=some o->h'.get? b=some o)->∀b o,s.heap.get? b=some o->h'.get? b=some o:=λh' hk b o e=>hk b o (by simp[Nat.ne_of_lt<|Heap.lt_size e])<|Wm _ e;have hsz:(bs.map Value.bool).toArray.size=bs.length:=T2;cases al with|true=>refine call_all_walk<|IX pl.isList ⟨_,_,_,_,_,_,_,rfl,W,st,tr,λh' tk hk=>?_⟩;rw[hsz,(VS.range_all bs).1];exact k _ H _ (I.kept<|kp h' hk) Le.refl rfl|false=>refine call_any_walk<|IX pl.isList ⟨_,_,_,_,_,_,_,rfl,W,st,tr,λh' tk hk=>?_⟩;rw[hsz,(VS.range_all bs).2];exact k _ H _ (I.kept<|kp h' hk) Le.refl rfl
 |_=>cases e
end
end WL
end
section
set_option linter.all false
set_option maxRecDepth 100000
namespace WL
open PySem PySem.Spec PyProof.Rows L2 VP
section
variable{X:Cx}{e a b o:Expr}{es:WK}{fa fb fe fo:M D}{pos p TX bM:Pos}{x c m:Str}{σ:Sg}{H H':Tm}{ρ:ay}{s s':Shared}{ds:Y5}{us:Zg}{Q:YY}{E:YY}{id:String}{fl:List (M D)}
def cmE(neg:Bool):CmpOp:=if neg then .NotEq else .Eq
theorem w_eq(neg:Bool)(hu:X.A.units+64<cLine):nM X (compareOp<|cmE neg) (QO neg):=λs σ H ρ v u a b d Q E I r1 r2 e k=>Yt neg hu I (.inl r1) (.inl r2) e k
def toV:D->V|.bl b=>.bl b|.int i=>.int i|.str x=>.str x|_=>.aQ
theorem toV_rel{d:D}(f:iI d=true)(r:Rel H u d):RelV (toV d) u:=by cases d<;>first|exact r|cases f
theorem toV_flat(d:D):nX (toV d)=true:=by cases d<;>rfl
theorem toV_eq{d e:D}(f:iI d=true)(g:iI e=true):HA (toV d) (toV e)=eqB d e:=by cases d<;>first|(cases f;done)|(cases e<;>first|(cases g;done)|rfl)
theorem toV_all{us:Zg}{ds:Y5}(r:aF H us ds)(f:ds.all iI=true):Vals (ds.map toV) us/\(ds.map toV).all nX=true:=by induction r with|nil=>exact⟨.nil,rfl⟩|cons h t ih=>rw[JI,Ss] at f;obtain⟨i1,i2⟩:=ih f.2;exact⟨.cons (toV_rel f.1 h) i1,by rw[BE,JI,toV_flat,i2];rfl⟩
theorem any_eq{d:D}(f:iI d=true):∀{ds:Y5},ds.all iI=true->((ds.map toV).any λy=>HA y<|toV d)=ds.any λy=>eqB y d|[],_=>rfl|y::ds,g=>by rw[JI,Ss] at g;rw[BE,yU,yU,any_eq f g.2,toV_eq g.1 f]
theorem tFc(neg:Bool){d1 d2 d:D}(I:Inv X σ H ρ s)(r1:Rel H v d1)(r2:RW H s u d2)(e:inD neg d1 d2=some d)(k:sX X σ H ρ d Q):wpAny X.M X.A (compareOp (if neg then .NotIn else .In) v u) Q E s:=by
 unfold inD at e;cases e1:b9 d2 with
 |none=>rw[e1] at e;cases e|some ds=>
  simp only[e1] at e;split at e;rename_i hf;rw[Ss] at hf;cases e;obtain⟨t,rfl⟩:=df e1;obtain⟨q,us,rfl,rr,sq,hz⟩:=I.seq t r2;obtain⟨i1,i2⟩:=toV_all rr hf.2;have rx:=toV_rel hf.1 r1;have mem:=λw (hw:w∈us.toArray)=>wa (A:=X.A.in1) (s:=s) rx (toV_flat d1) i1 i2 w (by simpa using hw);have ea:us.toArray.any (GU<|toV d1)=ds.any λy=>eqB y d1:=by rw[show us.toArray.any (GU<|toV d1)=us.any (GU<|toV d1) by simp,y6 i1 i2,any_eq hf.1 hf.2]
  cases neg<;>cases t;exact SeqAt.in_listAt (GU<|toV d1) sq mem<|k s H _ I Le.refl (by rw[ea];rfl);exact SeqAt.in_tupleAt (GU<|toV d1) sq mem<|k s H _ I Le.refl (by rw[ea];rfl);exact SeqAt.notIn_listAt (GU<|toV d1) sq mem<|k s H _ I Le.refl (by rw[ea];rfl);exact SeqAt.notIn_tupleAt (GU<|toV d1) sq mem<|k s H _ I Le.refl (by rw[ea];rfl);cases e
theorem Yv:nM X (compareOp .In) (inD false):=λs σ H ρ v u a b d Q E I r1 r2 e k=>tFc false I r1 (.inl r2) e k
theorem cY.rel{d:D}(h:VS.cY d v):Rel H v d:=by cases d<;>first|exact h|exact h.elim
theorem cY.uq{d e:D}(h:VS.cY d v)(g:VS.cY e v):d=e:=by
 cases d with
 |aQ=>cases e<;>first|exact g.elim|rfl|(cases h;cases g;done)|(cases h;obtain⟨_,z⟩:=g;cases z)
 |bl k=>cases e<;>first|exact g.elim|(cases h;cases g;rfl)|(cases h;cases g;done)|(cases h;obtain⟨_,z⟩:=g;cases z)
 |int i=>obtain⟨t,h⟩:=h;subst h;cases e<;>first|exact g.elim|(cases g;done)|(obtain⟨_,z⟩:=g;injection z with z;rw[z])|(obtain⟨_,z⟩:=g;cases z)
 |str i=>obtain⟨t,h⟩:=h;subst h;cases e<;>first|exact g.elim|(cases g;done)|(obtain⟨_,z⟩:=g;injection z with z;rw[z])|(obtain⟨_,z⟩:=g;cases z)
 |_=>exact h.elim
theorem HG{ds es:Y5}{us:Zg}(h:Paired VS.cY ds us)(h':Paired VS.cY es us):ds=es:=by induction h generalizing es with|nil=>cases h';rfl|cons h t ih=>cases h' with|cons h' t'=>rw[cY.uq h h',ih t']
theorem pG.uq{K:W.Frag}{a:Addr}{d e:D}(h:pG K a d)(h':pG K a e):d=e:=by
 obtain⟨t,ds,aY,n,rfl,h1,_,h3⟩:=h;obtain⟨t',es,its',n',rfl,VI,_,Pt⟩:=h';rw[h1] at VI;have et:t=t':=by injection VI with z;injection z with z;injection z with z;cases t<;>cases t'<;>first|rfl|exact absurd z (by decide)
 subst et;cases VI;rw[HG h3 Pt]
theorem Gj{K:W.Frag}{a:Addr}{d:D}(h:pG K a d):G4 K a=some d:=by have hx:∃d,pG K a d:=⟨_,h⟩;unfold G4;rw[dif_pos hx,hx.choose_spec.uq h]
theorem Q0r{K:W.Frag}{a:Addr}{d:D}(h:G4 K a=some d):pG K a d:=by unfold G4 at h;split at h;rename_i hx;cases h;exact hx.choose_spec;cases h
theorem qY.rel{d:D}(h:VS.qY X.g.K d v)(I:Inv X σ H ρ s):Rel H v d:=by rcases h with h|⟨ds,q,aY,n,rfl,rfl,h1,h2,h3⟩;exact cY.rel h;have tk:=Gj (K:=X.g.K) (a:=q) (d:=.tup ds) ⟨true,ds,aY,n,rfl,h1,h2,h3⟩;have:=I.le _ _ (I.ok.bs q _<|I.ok.mod.gu _ _ h1) trivial;rw[tk] at this;exact⟨_,_,rfl,this⟩
theorem Q0w{d:D}(hm:VS.Ri X.g.mg x d)(hg:Gl X x)(hd:RY x:=by decide):PV X (.Name x pos) (mC d):=let ⟨_,h1,h2⟩:=hm;Q0m hg h1 (λ_=>cY.rel h2) hd
theorem pj{t:List (Str×D)}{ab:TY}{p:Pos}(T:VS.Hg X.g.w X.g.K X.g.mg x t ab)(hg:Gl X x)(hb:PV X b fb)(kF:RY x:=by decide)
  (hs:∀(q:Addr)(k:Str)(tk:Tok),subscripted b false (.ref q) (.str k tk)=operate [.ref q,.str k tk] (getItem (.ref q)<|.str k tk):=by intro _ _ _;with_unfolding_all rfl) :
  PV X (.Subscript (.Name x p) b pos) (m1 (B4 t) fb):=λs σ H ρ Q E I o=>by
 obtain⟨q,es,n,hm,_,hl,hk,hv,_⟩:=T.ex;refine Subscript_<|cj I hg hm (hb.Zi I o (λ_ _ q=>q) λs1 H1 aS v d1 I1 l1 r1 o1=>?_) kF;obtain⟨d,e1,q1⟩:=o1.opt;cases d1 with|str k=>obtain⟨tk,rfl⟩:=r1;obtain⟨v,hn,fl⟩:=hv k d e1;have PI:=W.mapOf_K (prog:=X.g.prog) (w:=X.g.w) I1.iS hl hk;exact PyProof.Rows.tail_any PI.typeIs slot_dict_getitem.lookup (wpAny_getItem_of (strKind_is X.g.prog X.g.w k tk) PI (W.find_K hl hn)<|q1 _ H1 _ (I1.tok _) l1<|qY.rel fl I1) (hs q k tk)|_=>cases e1
theorem Kh(neg:Bool){t:List (Str×D)}{ab:TY}{q:Addr}{es:Array DictEntry}{n:Nat}(lo:(q == sysModules)=false)(hl:X.g.K.lookup q=some ⟨.type "dict",none,.dict es n,#[]⟩)(hk:W.KeysLit X.g.w.params es.toList)(hv:∀k d,t.lookup k=some d->∃v,W.nsIn X.g.K q k=some (some v)/\VS.qY X.g.K d v) (hab:∀k∈ab,W.nsIn X.g.K q k=some none) {d1 d:D} (I:Inv X σ H ρ s) (r1:Rel H v d1) (e1:uN neg t ab d1=some d) (k:sX X σ H ρ d Q):wpAny X.M X.A (compareOp (if neg then .NotIn else .In) v<|.ref q) Q E s:=by
 cases d1 with
 |str z=>
  obtain⟨tk,rfl⟩:=r1;simp only[uN] at e1;obtain⟨r,hn,rfl⟩:∃r:IW,W.nsIn X.g.K q z=some r/\d=.bl (if neg then !r.isSome else r.isSome):=by cases e2:t.lookup z with|some d2=>rw[e2] at e1;cases e1;obtain⟨v,hn,_⟩:=hv z d2 e2;exact⟨some v,hn,by cases neg<;>rfl⟩|none=>rw[e2] at e1;dsimp only at e1;split at e1;rename_i hm;cases e1;exact⟨none,hab z (by simpa using hm),by cases neg<;>rfl⟩;cases e1
  have PI:=W.mapOf_K (prog:=X.g.prog) (w:=X.g.w) I.iS hl hk;cases neg;exact wpAny_in_of (strKind_is X.g.prog X.g.w z tk) lo PI (by rw[W.find_K hl hn];exact k _ H _ (I.tok _) Le.refl rfl);exact wpAny_notIn_of (strKind_is X.g.prog X.g.w z tk) lo PI (by rw[W.find_K hl hn];exact k _ H _ (I.tok _) Le.refl rfl)
 |_=>cases e1
theorem Fo{t:List (Str×D)}{ab:TY}(T:VS.Hg X.g.w X.g.K X.g.mg x t ab)(hg:Gl X x)(ha:PV X a fa)(hm:behindInMarks .In (.Name x p)=false)(kF:RY x:=by decide):PB X (.Compare a [.In] [.Name x p] pos) (tB<|m1 (uN false t ab) fa):=λs σ H ρ Q E I o=>by obtain⟨q,es,n,h1,lo,hl,hk,hv,hab⟩:=T.ex;refine wpAny_isTrue_Compare1 (ha.Zi I o.Zi (λ_ _ q=>q) λs1 H1 aS v d1 I1 l1 r1 o1=>?_) hm;obtain⟨d,e1,q1⟩:=o1.opt;exact cj I1 hg h1 (Kh false lo hl hk hv hab I1 r1 e1 λs' H' w I' l' r'=>ZG I' (l1.trans l') r' q1) kF
end
end WL
end
section
set_option linter.all false
set_option maxRecDepth 100000
namespace WL
open PySem PySem.Spec PyProof.Rows L2 VP
section
variable{X:Cx}{e a b o:Expr}{es:WK}{fa fb fe fo:M D}{pos p TX bM:Pos}{x c m:Str}{σ:Sg}{H H':Tm}{ρ:ay}{s s':Shared}{ds:Y5}{us:Zg}{Q:YY}{E:YY}{id:String}{fl:List (M D)}
theorem aF.rep(r:aF H us ds):∀n:Nat,aF H (List.replicate n us).flatten (List.replicate n ds).flatten|0=>.nil|n+1=>by rw[Q9,Q9,ro,ro];exact r.app (r.rep n)
theorem AG(aY:Zg)(m:Nat):List.foldl (λx1 x2=>x1++x2) #[] (List.replicate m aY.toArray)=(List.replicate m aY).flatten.toArray:=by have:=foldl_rep aY m [];rw[List.nil_append] at this;exact this
theorem Te{k:Int}{d:D}(I:Inv X σ H ρ s)(r1:Rel H v (.tup ds))(r2:Rel H u (.int k))(e:yf (.tup ds) (.int k)=some d)(q:sX X σ H ρ d Q):wpAny X.M X.A (binaryOp .Mult v u) Q E s:=by
 simp only[yf] at e;split at e;rename_i hc;cases e;obtain⟨t,rfl⟩:=r2;obtain⟨l,aY,rfl,r,pt,_⟩:=I.tup<|.inl r1;obtain⟨⟨cls,dd,data,sl⟩,e,Px,n,hd⟩:=id pt;simp only at Px hd;subst Px hd;have hl:=r.length;have hb:(iz:Int)=16777216:=rfl;have hz:=hc.2.2;rw[sT] at hz;have h12:=hc.1;have h22:=hc.2.1;have hr:¬(decide (k < -(2 ^ 63))||decide (k>=2 ^ 63))=true:=by simp only[Bool.or_eq_true,decide_eq_true_eq,not_or];lia
 refine wpAny_binaryOp_repeat_ref (T:="tuple") (U:="int") (by decide) ⟨_,e,rfl⟩ (λs'=>typeIs_int s' k t) VS.noFill_tuple_mul PySem.F.fills_int_mul PySem.F.slot_int_rmul VS.uF PySem.F.slot_int_index.lookup<|VG PySem.F.slot_int_rmul (typeIs_int s k t) PySem.F.entry_int_rmul (PySem.F.args_int_rmul_2 _ _) (VS.qf k t l aY.toArray n dd sl) ⟨e,rfl,⟨_,e,rfl⟩,?_⟩;have new:∀us',aF H us' (List.replicate k.toNat ds).flatten->Q (.ref s.heap.objs.size) {s with heap:=s.heap.push {cls:=.type "tuple",data:=.seq us'.toArray},toks:=s.toks}:=λus' r'=>by obtain⟨H',I',l',rr⟩:=I.BH s.toks r' (by rw[len_rep,Nat.mul_comm];exact hz);exact q _ H' _ I' l' rr
 by_cases c1:(aY.toArray.isEmpty||k == 1)=true;refine VG X5 ⟨_,e,rfl⟩ JM (Ik _ _) (VS.yQ l aY.toArray n dd sl k t hr c1) ⟨e,q _ H _ I Le.refl ?_⟩;have:(List.replicate k.toNat ds).flatten=ds:=by
  rw[Iq] at c1;rcases c1 with c1|c1;have z:aY=[]:=by simpa using c1
  subst z;cases r;exact List.eq_nil_of_length_eq_zero (by rw[len_rep];simp);have:k=1:=by simpa using c1
  subst this;simp
 rw[this];exact r1;by_cases c2:(decide (k<=0)||aY.toArray.isEmpty)=true;refine VG X5 ⟨_,e,rfl⟩ JM (Ik _ _) (VS.yR l aY.toArray n dd sl k t hr c1 c2) ⟨e,?_⟩;have hk:k.toNat=0:=by rw[Iq] at c1 c2;rcases c2 with c2|c2;have:=P7 c2;lia;exact absurd (.inl c2) c1
 exact new [] (by rw[hk];exact .nil);have hk:0<k:=by
  rw[Iq,not_or] at c2;have:=of_decide_eq_false (Bool.eq_false_iff.mpr c2.1)
  lia
 have hm:((aY.toArray.size:Nat):Int)*k=((ds.length*k.toNat:Nat):Int):=by rw[Fj,hl,Int.natCast_mul,Int.toNat_of_nonneg WR]
 have hb:(sizeLine:Nat)<=16777216:=by decide
 refine VG X5 ⟨_,e,rfl⟩ JM (Ik _ _) (VS.yS l aY.toArray n dd sl k t hr c1 c2 (by rw[hm];lia) (by rw[hm];unfold Builtin.Tuple.tupleTooMany;simp only[decide_eq_true_eq];lia) (by rw[AG,Fj,len_rep,hl,Nat.mul_comm];exact hz)) ⟨e,?_⟩;rw[AG];exact new _<|r.rep _;cases e
theorem GL:nM X (binaryOp .Mult) yf:=λs σ H ρ v u a b d Q E I r1 r2 e k=>by
 cases a with
 |int i=>cases b with|int j=>exact w_mul s σ H ρ v u _ _ d Q E I r1 r2 e k|_=>cases e
 |tup ds=>cases b with|int j=>exact Te I r1 r2 e k|_=>cases e
 |_=>cases e
theorem Jt{subs:Ju}{pT:Pos}(T:VS.Um X.g.K X.g.mg c subs)(hg:Gl X "isinstance")(hm:X.g.mg "isinstance" = none)(Ee:Gl X c)(ha:PR X a fa)(VV:RY c:=by decide)
  (hs:starEach [a,.Name c pT] X.env=(false,eval a X.env)::starEach [.Name c pT] X.env:=by rfl) (kT:starEach [.Name c pT] X.env=(false,eval (.Name c pT) X.env)::starEach [] X.env:=by rfl) (gO:(backTo pos<|starEach [.Name c pT] X.env).any (·.1)=false:=by rfl) :
  PV X (.Call (.Name "isinstance" p) [a,.Name c pT] [] pos) (m1 (dg subs) fa):=λs σ H ρ Q E I o=>by
 obtain⟨C,hC,Bu⟩:=T.ex;refine bc (id:="isinstance") false I hg hm boot_isinstance ?_ (by decide) (by decide) hs gO;rw[hs,kT];refine S8<|ha.Zi I o (λ_ _ q=>q) λs1 H1 aS v d1 I1 l1 r1 o1=>S8<|cj I1 Ee hC (Sr ?_) VV;obtain⟨d,e,q⟩:=o1.opt;obtain⟨c',b,a',C',dx,od,rfl,hb,rfl,h1,h2,h3⟩:=Ep I1 r1 e;obtain⟨D,hD,f,hb⟩:=Bu _ hb;rw[h1] at hD;cases hD;exact W.kia_one (W.kitx_own f.pg f.hd f.fi T.sp T.tk f.mr) I1.iS ⟨h2,rfl,rfl,h3⟩ hb (λz=>nomatch z) λtk=>q _ H1 _ (I1.tok tk) l1 rfl
theorem Q2d{subs:Ju}{c1 c2:Str}{p1 p2 p3:Pos}{x1}(T:VS.Un X.g.K X.g.mg c1 c2 subs)(hg:Gl X "isinstance")(hm:X.g.mg "isinstance" = none)(ha:PR X a fa)(hg1:Gl X c1:=by rfl)(hg2:Gl X c2:=by rfl)(Py:RY c1:=by decide)(hd2:RY c2:=by decide)
  (hs:starEach [a,.Tuple [.Name c1 p1,.Name c2 p2] x1 p3] X.env=(false,eval a X.env)::starEach [.Tuple [.Name c1 p1,.Name c2 p2] x1 p3] X.env:=by rfl)
  (kT:starEach [.Tuple [.Name c1 p1,.Name c2 p2] x1 p3] X.env=(false,eval (.Tuple [.Name c1 p1,.Name c2 p2] x1 p3) X.env)::starEach [] X.env:=by rfl)
  (hs3:starEach [.Name c1 p1,.Name c2 p2] X.env=(false,eval (.Name c1 p1) X.env)::starEach [.Name c2 p2] X.env:=by rfl) (hs4:starEach [.Name c2 p2] X.env=(false,eval (.Name c2 p2) X.env)::starEach [] X.env:=by rfl)
  (gO:(backTo pos<|starEach [.Tuple [.Name c1 p1,.Name c2 p2] x1 p3] X.env).any (·.1)=false:=by rfl) :
  PV X (.Call (.Name "isinstance" p) [a,.Tuple [.Name c1 p1,.Name c2 p2] x1 p3] [] pos) (m1 (dg subs) fa):=λs σ H ρ Q E I o=>by
 obtain⟨C1,C2,hC1,hC2,Bu⟩:=T.ex;refine bc (id:="isinstance") false I hg hm boot_isinstance ?_ (by decide) (by decide) hs gO;rw[hs,kT];refine S8<|ha.Zi I o (λ_ _ q=>q) λs1 H1 aS v d1 I1 l1 r1 o1=>S8<|wpAny_Tuple_spliced (x1:=x1) ?_;rw[hs3,hs4];refine S8<|cj I1 hg1 hC1 (S8<|cj I1 hg2 hC2 (Sr ?_) hd2) Py;obtain⟨d,e,q⟩:=o1.opt;obtain⟨c',b,a',C',dx,od,rfl,hb,rfl,h1,h2,h3⟩:=Ep I1 r1 e;obtain⟨D,hD,f,hb⟩:=Bu _ hb;rw[h1] at hD;cases hD;refine⟨show (2:Nat)<=sizeLine by decide,Sr ?_⟩;have I2:=I1.kept (t':=s1.toks) (h':=s1.heap.push {cls:=.type "tuple",data:=.seq [Value.ref C1,.ref C2].toArray}) λb o e=>Wm _ e;exact W.kia_tup (W.kitx_own f.pg f.hd f.fi T.sp T.tk f.mr) I2.iS ⟨Wm _ h2,rfl,rfl,Wm _ h3⟩ (Zv _ rfl) hb (λz=>nomatch z) λtk=>q _ H1 _ (I2.tok tk) l1 rfl
end
end WL
end
section
set_option linter.all false
set_option maxRecDepth 100000
namespace WL
open PySem PySem.Spec PyProof.Rows L2 VP
section
variable{X:Cx}{e a b o:Expr}{es:WK}{fa fb fe fo:M D}{pos p p' To TX bM kp:Pos}{x c m:Str}{σ:Sg}{H H':Tm}{ρ:ay}{s s':Shared}{ds:Y5}{us:Zg}{Q:YY}{E:YY}{id:String}{fl:List (M D)}
abbrev ZX(aY:Zg):Nat->Value->Prop:=λi v=>aY.toArray[aY.toArray.size-1-i]?=some v
structure ZY(X:Cx)(it q:Addr)(aY:Zg)(T:String)(St:Nat->Heap->Prop):Prop where
 two:VS.GA.Hj T
 walk:∀A:Around,A.handled=none->WalksS X.g.prog X.g.w A it [it,q] [it] (λa b=>b=a) aY.toArray.size (ZX aY) (λi s=>St i s.heap)
 ty:∀(i:Nat)(s:Shared),St i s.heap->s.TypeIs (.ref it) T
 hint:∀A:Around,VS.GA.Hint X.g.prog X.g.w A it St
theorem wD(t:Bool)(I:Inv X σ H ρ s)(r:RW H s v (jt t ds))(k:∀o tk T St q aY,aF H aY ds->ds.length<=sizeLine->ZY X s.heap.objs.size q aY T St->St 0 (s.heap.push o)->q<s.heap.objs.size->Q (.ref s.heap.objs.size) {s with heap:=s.heap.push o,toks:=tk}):wpAny X.M X.A (call (.type "reversed") [v]) Q E s:=by
 obtain⟨q,aY,rfl,rr,sq,hz⟩:=I.seq t r;have hsz:aY.toArray.size<=sizeLine:=by rw[Fj,rr.length];exact hz
 cases t with
 |false=>
  have pl:s.heap.IsList q aY.toArray:=sq;have lt:q<s.heap.objs.size:=by obtain⟨o,e,_⟩:=pl;exact Hz e
  exact call_reversed_list pl (k _ s.toks "list_reverseiterator" (VS.GA.Hx s.heap.objs.size q aY.toArray) q aY rr hz ⟨.inl rfl,λA hh=>(Walks.listRev hh s.heap.objs.size q (Rb lt) aY.toArray).toS,λi s st=>st.2.1.typeIs,λA=>VS.GA.V3⟩ ⟨Hr _,⟨_,Zv _ rfl,rfl,by simp[revObj]⟩,pl.at λo e=>Wm _ e⟩ lt)
 |true=>
  have pt:IsTup s.heap q aY.toArray:=sq;have lt:q<s.heap.objs.size:=by obtain⟨o,e,_⟩:=pt;exact Hz e
  exact VS.RV.make pt hsz λtk=>k _ tk "reversed" (VS.GA.ZZ s.heap.objs.size q aY.toArray) q aY rr hz ⟨.inr rfl,λA hh=>(VS.GA.Yz hh s.heap.objs.size q (Rb lt) aY.toArray hsz).toS,λi s st=>st.2.1.typeIs,λA=>VS.GA.V4 hsz⟩ ⟨Hr _,⟨_,Zv _ rfl,rfl,by simp[VS.RV.obj]⟩,let ⟨o,e,r⟩:=pt;⟨o,Wm _ e,r⟩⟩ lt
theorem aF.reverse{us:Zg}{ds:Y5}(r:aF H us ds):aF H us.reverse ds.reverse:=by induction r with|nil=>exact .nil|cons h _ ih=>rw[JC,JC];exact ih.app (.cons h .nil)
theorem Au(hg:Gl X "reversed")(hm:X.g.mg "reversed" = none)(Ee:Gl X "tuple")(PJ:X.g.mg "tuple" = none)(ha:PR X a fa)(hc:X.calm=true:=by rfl)(hs:starEach [a] X.env=[(false,eval a X.env)]:=by rfl)(kT:starEach [.Call (.Name "reversed" p) [a] [] pos] X.env=[(false,eval (.Call (.Name "reversed" p) [a] [] pos) X.env)]:=by rfl):PV X (.Call (.Name "tuple" p') [.Call (.Name "reversed" p) [a] [] pos] [] To) (m1 wC fa):=λs σ H ρ Q E I o=>by
 refine bc (id:="tuple") true I Ee PJ boot_tuple ?_ (by decide) (by decide) kT rfl;rw[kT];refine S8<|bc (id:="reversed") true I hg hm boot_reversed ?_ (by decide) (by decide) hs rfl;rw[hs];refine S8<|ha.Zi I o (λ_ _ q=>q) λs1 H1 aS v d1 I1 l1 r1 o1=>Sr ?_;obtain⟨d,e,q⟩:=o1.opt;obtain⟨t,ds,rfl,rfl⟩:=qH e;refine wD t I1 r1 λo tk T St q' aY rr hz W st lt=>Sr ?_;have hsz:aY.toArray.size<=sizeLine:=by rw[Fj,rr.length];exact hz
 refine VS.GA.xw (T:=T) (St:=St) (s:={s1 with heap:=s1.heap.push o,toks:=tk}) W.two (W.walk _<|I1.ok.hd hc) W.ty (W.hint _) st (λb hb=>?_) T2 hsz λs' acc m hi=>?_;simp only[List.mem_cons,List.not_mem_nil,or_false] at hb;have hp:(s1.heap.push o).objs.size=s1.heap.objs.size+1:=by simp[Heap.push]
 show b<(s1.heap.push o).objs.size;rcases hb with rfl|rfl<;>rw[hp]<;>lia;obtain⟨hp,g,d,ZE,os⟩:=s';obtain⟨m1,m2,m3,m4,m5⟩:=m;simp only at m1 m2 m3 m4 m5;subst m2 m3 m4;rw[VS.se hi];have I2:=I1.kept (t':=ZE) (h':=hp) λb ob e=>m1 b ob (by simp[Nat.ne_of_lt<|Heap.lt_size e])<|Wm _ e;obtain⟨H',I',l',r'⟩:=I2.BH ZE (aF.reverse rr) (by rw[List.length_reverse];exact hz);exact q _ H' _ I' (l1.trans l') r'
theorem Jg(hg:Gl X "reversed")(hm:X.g.mg "reversed" = none)(Ee:Gl X "list")(PJ:X.g.mg "list" = none)(ha:PR X a fa)(hc:X.calm=true:=by rfl)(hs:starEach [a] X.env=[(false,eval a X.env)]:=by rfl)(kT:starEach [.Call (.Name "reversed" p) [a] [] pos] X.env=[(false,eval (.Call (.Name "reversed" p) [a] [] pos) X.env)]:=by rfl):PF X (.Call (.Name "list" p') [.Call (.Name "reversed" p) [a] [] pos] [] To) (m1 JA fa):=λs σ H ρ Q E I o=>by
 refine bc (id:="list") true I Ee PJ boot_list ?_ (by decide) (by decide) kT rfl;rw[kT];refine S8<|bc (id:="reversed") true I hg hm boot_reversed ?_ (by decide) (by decide) hs rfl;rw[hs];refine S8<|ha.Zi I o (λ_ _ q=>q) λs1 H1 aS v d1 I1 l1 r1 o1=>Sr ?_;obtain⟨d,e,q⟩:=o1.opt;obtain⟨t,ds,rfl,rfl⟩:=qH e;refine wD t I1 r1 λo tk T St q' aY rr hz W st lt=>Sr ?_;have hsz:aY.toArray.size<=sizeLine:=by rw[Fj,rr.length];exact hz
 have hp:(s1.heap.push o).objs.size=s1.heap.objs.size+1:=by simp[Heap.push]
 refine VS.GA.Bh (T:=T) (St:=St) (s:={s1 with heap:=s1.heap.push o,toks:=tk}) W.two (W.walk _<|I1.ok.hd hc) W.ty (W.hint _) st (λb hb=>?_) T2 hsz λs' acc c m hl hi=>?_;simp only[List.mem_cons,List.not_mem_nil,or_false] at hb;show b<(s1.heap.push o).objs.size;rcases hb with rfl|rfl<;>rw[hp]<;>lia;obtain⟨h',g,d,ZE,os⟩:=s';obtain⟨m1,m2,m3,m4,m5⟩:=m;simp only at m1 m2 m3 m4 m5 hl;subst m2 m3 m4;rw[VS.se hi] at hl;obtain⟨I',l'⟩:=I1.lay (t':=ZE) (h':=h') (a:=(s1.heap.push o).objs.size) (e:=.ow (.lst ds.reverse) X.N.length) (λb ob e=>m1 b ob (by have:=Hz e;rw[hp];simp;lia)<|Wm _<|Wm _ e) (by rw[hp];exact Jd _) (λlp=>⟨⟨by rw[List.length_reverse];exact hz,_,(aF.reverse rr).p lp,c,hl⟩,λz=>nomatch z⟩) λd i z=>by cases z;exact TC _
 exact q _ _ _ I' (l1.trans l') ⟨_,rfl,az⟩
theorem Q0O(n:Nat)(lo:Nat)(us:Zg)(hl:us.length=n)(h:∀(j:Nat)(v:Value),us[j]?=some v->∃t,v=.int ((lo+j:Nat):Int) t):aF H us ((List.range' lo n).map λ(k:Nat)=>D.int k):=by induction n generalizing lo us with|zero=>obtain rfl:=List.length_eq_zero_iff.mp hl;exact .nil|succ n ih=>cases us with|nil=>cases hl|cons u us=>rw[List.range'_succ,BE];refine .cons (h 0 u rfl)<|ih (lo+1) us (Nat.succ.inj hl) λj v e=>?_;obtain⟨t,e⟩:=h (j+1) v e;exact⟨t,by rw[e,show lo+1+j=lo+(j+1) by lia]⟩
theorem Je(hg:Gl X "range")(hm:X.g.mg "range" = none)(Ee:Gl X "list")(PJ:X.g.mg "list" = none)(ha:uY X [a] (mL fl))(hc:X.calm=true:=by rfl)(hs:starEach [a] X.env=[(false,eval a X.env)]:=by rfl)(kT:starEach [.Call (.Name "range" p) [a] [] pos] X.env=[(false,eval (.Call (.Name "range" p) [a] [] pos) X.env)]:=by rfl):PF X (.Call (.Name "list" p') [.Call (.Name "range" p) [a] [] pos] [] To) (mF EM fl):=λs σ H ρ Q E I o=>by
 refine bc (id:="list") true I Ee PJ boot_list ?_ (by decide) (by decide) kT rfl;rw[kT];refine S8<|bc (id:="range") true I hg hm boot_range ?_ (by decide) (by decide) hs rfl;refine(ha pos).Zi I o (λ_ _ q=>q) λs1 H1 aS us ds I1 l1 r1 o1=>?_;obtain⟨d,e,q⟩:=o1.opt;unfold EM at e;split at e;rename_i j;split at e;rename_i hb;cases e;obtain⟨u,rfl,t,rfl⟩:=r1.one;refine call_range_1<|Sr ?_;refine call_list_range (n:=j.toNat) (I1.ok.hd hc) (IsRange.new ..) (small_one WR WR WR WR) (by rw[rangeSize_one];split<;>lia) WR λh' tk acc c hk ho hi=>?_;have hv:aF H1 acc.toList ((List.range j.toNat).map λ(k:Nat)=>D.int k):=by rw[List.range_eq_range'];refine Q0O _ _ _ (by simpa using hi.1) λi v e=>?_;obtain⟨t,e⟩:=hi.2 i v (by simpa using e);exact⟨t,by rw[e];simp⟩
 obtain⟨I',l'⟩:=I1.lay (t':=tk) (h':=h') (e:=.ow (.lst<|(List.range j.toNat).map λ(k:Nat)=>D.int k) X.N.length) (λb ob e=>hk b ob<|Wm _ e) (by rw[size_push'];exact Jd _) (λlp=>⟨⟨by rw[SS,Xm,tC];lia,_,hv.p lp,c,ho⟩,λz=>nomatch z⟩) λd i z=>by cases z;exact TC _
 exact q _ _ _ I' (l1.trans l') ⟨_,rfl,az⟩;cases e;cases e
theorem d6:∀ns:Zw,bT (ns.map D.int)=some ns|[]=>rfl|n::ns=>by simp only[List.map_cons,bT,d6 ns];rfl
theorem Jx(hc:X.calm=true)(GW:Gl X "max")(hm:X.g.mg "max" = none)(hv:bootBuiltins "max" = some (.builtin "max"))(ha:PV X a fa)(hb:PV X b fb)
  (hs:PZ X a []:=by rfl)
  (he:backTo pos (starEach [a] X.env)=(false,eval a X.env)::backTo pos (starEach [] X.env):=by rfl) (hp:(backTo pos<|starEach [a] X.env).any (·.1)=false:=by rfl)
  (hk1:(backToKw pos<|keywordEach [⟨some "default",b,kp⟩] X.env).all (·.1.isSome)=true:=by rfl) (TR:(backToKw pos<|keywordEach [⟨some "default",b,kp⟩] X.env).any (·.1.isNone)=false:=by rfl)
  (hk3:(backToKw pos<|keywordEach [⟨some "default",b,kp⟩] X.env).filterMap (·.1)=[("default" : Str)]:=by rfl) :
  PV X (.Call (.Name "max" p) [a] [⟨some "default",b,kp⟩] pos) (m2 mZ fa fb):=λs σ H ρ Q E I o=>by
 refine Bz<|qm I GW hm hv ?_ (by decide) (by decide);refine callWith_kw ?_ he hp hk1 TR;rw[hs];refine S8<|ha.Zi I o (λ_ _ q=>q) λs1 H1 aS v d1 I1 l1 r1 o1=>Sr ?_;refine kws_cons<|hb.Zi I1 o1 (λ_ _ q=>q.le l1) λs2 H2 sN dv d2 I2 l2 r2 o2=>kws_nil ?_;rw[hk3];obtain⟨d,e,q⟩:=o2.opt;cases d1 with
 |tup ds=>
  simp only[mZ] at e;cases e2:bT ds with
  |none=>rw[e2] at e;cases e|some ns=>
   rw[e2] at e;obtain⟨l,aY,rfl,rr,pt,hz⟩:=I2.tup<|.inl<|r1.le l2;refine VS.Bi (I2.ok.hd hc) pt (gQ rr e2) λv h' tk z9 kp'=>?_;rcases z9 with ⟨rfl,rfl⟩|⟨i,is,t,rfl,rfl⟩
   cases e;exact q _ H2 _ (I2.kept kp') (l1.trans l2) r2;cases e;exact q _ H2 _ (I2.kept kp') (l1.trans l2) ⟨t,rfl⟩
 |_=>simp only[mZ,reduceCtorEq] at e
end
end WL
end
section
set_option linter.all false
set_option maxRecDepth 100000
namespace WL
open PySem PySem.Spec PyProof.Rows L2 VP
def Hf(n:Nat)(H:Tm):Nat->Addr->Prop:=λi a=>i<n/\∃d,H a=some (.ow d i)
def aI(X:Cx)(scope:Scope)(C:Addr)(N':TY)(s:Shared)(H:Tm)(ex:xW):Cx:={X with env:=compEnvC scope (VS.j4 X.env.cells scope.names []) C X.env,N:=N',outer:=X.stack,fn:=false,H₀:=lend (Hf X.N.length H) (qa X.stack) ex s.heap H,n₀:=s.heap.objs.size}
structure bA(X:Cx)(scope:Scope)(N':TY):Prop where
 kind:scope.kind=.function
 YZ:VS.gZ X.env.scope.names scope.names X.N N'=true
 nd:N'.Nodup
noncomputable def wH(N N':TY)(σ:Sg)(D:Addr):Sg:=λx=>if N'.idxOf x<N.length then(N[N'.idxOf x]?).bind σ else if N'.idxOf x=N'.length-1 then some (.ref D) else none
section
variable{X:Cx}{scope:Scope}{N':TY}{σ:Sg}{H H1:Tm}{ρ:ay}{s s2:Shared}{fp:xW}{bB:Heap}{D C:Addr}{tk n:Nat}
theorem qe{l:TY}(nd:l.Nodup)(h:l[i]?=some x):l.idxOf x=i:=by obtain⟨h1,h2⟩:=List.getElem?_eq_some_iff.mp h;rw[<-h2];exact List.Nodup.idxOf_getElem nd i h1
theorem bA.v(c:bA X scope N'):∀{p},p∈scope.names->(p.2=.free->X.env.kindOf p.1=some .cell\/X.env.kindOf p.1=some .free)/\p.2≠.cell/\(p.2=.local->scope.names.lookup p.1=some .local):=λ{p} hp=>by have h:=c.YZ;unfold VS.gZ at h;simp only[Bool.and_eq_true,List.all_eq_true] at h;have q:=h.1.1.1.1 p hp;refine⟨λhf=>?_,by simpa using q.1.1,λhl=>?_⟩;have q:=q.1.2;rw[hf] at q;simp at q;exact q;have q:=q.2;rw[hl] at q;simpa using q
theorem bA.len(c:bA X scope N'):X.N.length+1<=N'.length:=by have h:=c.YZ;unfold VS.gZ at h;simp only[Bool.and_eq_true] at h;exact P7 h.2
theorem bA.acc(c:bA X scope N')(hx:N'[N'.length-1]?=some x):scope.names.lookup x=none:=by have h:=c.YZ;unfold VS.gZ at h;simp only[Bool.and_eq_true] at h;have q:=h.1.2;rw[hx] at q;simpa using q
theorem bA.at(c:bA X scope N')(hi:i<X.N.length)(hx:N'[i]?=some x):scope.names.lookup x≠some .local/\(scope.names.lookup x=none\/X.N[i]?=some x):=by have h:=c.YZ;unfold VS.gZ at h;simp only[Bool.and_eq_true,List.all_eq_true] at h;have q:=h.1.1.2 i<|List.mem_range.mpr hi;rw[hx] at q;simp only[Bool.and_eq_true,Bool.or_eq_true] at q;refine⟨by simpa using q.1,?_⟩;rcases q.2 with z|z;exact .inl (by simpa using z);exact .inr (by simpa using z)
theorem bA.look(c:bA X scope N')(ok:X.Ok)(hx:scope.names.lookup x=some .free) : ((relabel scope X.env).names.lookup x=some .cell\/(relabel scope X.env).names.lookup x=some .free)/\(X.env.kindOf x=some .cell\/X.env.kindOf x=some .free)/\∃a,X.env.cells.lookup x=some a/\(VS.j4 X.env.cells scope.names []).lookup x=some a:=by have hm:=Fh hx;have hk:=(c.v hm).1 rfl;obtain⟨a,ha⟩:=ok.has x hk;refine⟨?_,hk,a,ha,VS.Bj ha hm⟩;rw[VS.dO,hx];simp only[Option.map_some];split;exact .inl rfl;exact .inr rfl
theorem bA.Nj(c:bA X scope N')(hv:pH (relabel scope X.env) x)(nl:scope.names.lookup x≠some .local):scope.names.lookup x=some .free:=by
 have z9:(relabel scope X.env).names.lookup x=some .local\/(relabel scope X.env).names.lookup x=some .cell\/(relabel scope X.env).names.lookup x=some .free:=hv;rw[VS.dO] at z9;cases q:scope.names.lookup x with
 |none=>rw[q] at z9;rcases z9 with z|z|z<;>cases z
 |some k=>rw[q] at z9 nl;have nc:=(c.v<|Fh q).2.1;simp only[Option.map_some] at z9;split at z9;rename_i hh;simp at hh;rw[hh.1.1];rcases z9 with z|z|z;exact absurd z nl;exact absurd (JY z) nc;exact z
theorem Inv.O6(I:Inv X σ H ρ s)(e:X.env.cells.lookup x=some c):c∉qa X.stack:=λhb=>by
 obtain⟨en,he,hf⟩:=List.mem_filterMap.mp hb;have out:en∉X.outer:=λh=>by obtain⟨_,L,o,h1,_,h2,_⟩:=I.ok.fr en h;rw[hf] at h1;cases h1;have q:=I.le _ _ h2 trivial;rcases (I.cell x c e).2 with z|⟨_,_,_,z⟩<;>(rw[q] at z;cases z)
 have:=I.ok.ZA;split at this;rw[this.1] at he;rcases List.mem_cons.mp he with rfl|he;rw[this.2] at hf;cases hf;exact I.TG e rfl;exact out he;rw[this] at he;exact out he
def cC(H:Tm)(fp:xW):Tm:=λa=>if a∈fp then none else H a
def eT(X:Cx)(N':TY)(s:Shared)(H:Tm)(fp:xW)(D:Addr):Tm:=λa=>if a=D then some (.ow (.lst [])<|N'.length-1) else if a∈fp then H a else lend (Hf X.N.length<|cC H fp) (qa X.stack) fp s.heap (cC H fp) a
theorem Dd(I:Inv X σ H ρ s)(hf:∀b∈fp,∃o,H b=some (.d7 o)):pF X.g (cC H fp) s.heap:=I.aM.gen (·∈fp) (λx e z q=>by obtain⟨o,y⟩:=hf x z;rw[y] at q;cases q;trivial) (λb z=>Y4 z) (λ_ _ _ z=>z) λ_ a e z q=>by unfold cC at q;rw[Zh z] at q;cases q
theorem Q2V(c:bA X scope N')(I:Inv X σ H ρ s)(hf:∀b∈fp,(∃o,H b=some (.d7 o))/\X.H₀ b=none)
  (hD:D=s.heap.objs.size) (hC:C=s.heap.objs.size+1) (old:∀b o,s.heap.get? b=some o->bB.get? b=some o) (Wa:bB.Ns C λ_=>none) (hl:bB.get? D=some {cls:=.type "list",data:=.seq #[] 0}) (hn:X.N.length+n+1=N'.length) :
  Inv (aI X scope C N' s (cC H fp) fp) (wH X.N N' σ D) (eT X N' s H fp D) (ρ++List.replicate n .no++[.ow<|.lst []]) {s with heap:=bB,toks:=tk}:=by
 have ok0:=Dd I λb hb=>(hf b hb).1;have hex:∀a∈fp,cC H fp a=none:=λa z=>Zh z;have W7:=Ae (Ln:=Hf X.N.length<|cC H fp) (fs:=qa X.stack) ok0 hex;have MV:∀b∈fp,b<s.heap.objs.size:=λb hb=>by obtain⟨⟨o,z⟩,_⟩:=hf b hb;exact I.aM.lt z
 have nD:∀{a},a<s.heap.objs.size->a≠D:=λh z=>by rw[z,hD] at h;exact Fw _ h
 have QD:∀{a e},H a=some e->(∀o,e≠.d7 o)->a∉fp:=λq z y=>by obtain⟨⟨o,w⟩,_⟩:=hf _ y;rw[q] at w;cases w;exact z o rfl
 have oF:∀{a},a∉fp->cC H fp a=H a:=λz=>Y4 z;have st:∀{a},a≠D->a∉fp->eT X N' s H fp D a=lend (Hf X.N.length<|cC H fp) (qa X.stack) fp s.heap (cC H fp) a:=λh1 h2=>by unfold eT;rw[Y4 h1,Y4 h2]
 have stD:eT X N' s H fp D D=some (.ow (.lst [])<|N'.length-1):=Zh rfl;have stF:∀{a},a∈fp->eT X N' s H fp D a=H a:=λh=>by unfold eT;rw[Y4<|nD<|MV _ h,Zh h]
 have Xq:∀{a o d},H a=some (.pin o d)->eT X N' s H fp D a=some (.pin o d):=λq=>by have y:=QD q λ_ z=>nomatch z;rw[st (nD<|I.aM.lt q) y];exact fJ y ((oF y).trans q)
 have lp:j1 H (eT X N' s H fp D):=λa o d q=>Xq q;have owB:∀{a d i},H a=some (.ow d i)->i<X.N.length->eT X N' s H fp D a=some (.ow d i):=λq hi=>by have y:=QD q λ_ z=>nomatch z;have q':=(oF y).trans q;rw[st (nD<|I.aM.lt q) y];exact Af y q' ⟨hi,_,q'⟩ λi' ⟨_,d',z⟩=>by rw[q'] at z;cases z;rfl
 have clt:∀{x a},X.env.cells.lookup x=some a->a<s.heap.objs.size:=λe=>by obtain⟨⟨v,q⟩,_⟩:=I.cell _ _ e;exact q.lt
 have Nn:ρ.length=X.N.length:=I.len;have atB:∀{i:Nat} {x},N'[i]?=some x->i<X.N.length->wH X.N N' σ D x=(X.N[i]?).bind σ:=λh1 h2=>by unfold wH;rw[qe c.nd h1,Zh h2]
 have hLf:∀b o,s.heap.get? b=some o->b∈qa X.stack->lend (Hf X.N.length<|cC H fp) (qa X.stack) fp s.heap (cC H fp) b=some (.km o)/\b∉fp:=λb o e hb=>by
  have y:b∉fp:=λz=>by obtain⟨⟨o,w⟩,_⟩:=hf _ z;rcases I.D3 hb with q|⟨_,q⟩<;>(rw[w] at q;cases q)
  have q:=I.D3 hb;rw[<-oF y] at q;refine⟨?_,y⟩;rw[lG y (λo d z=>by rcases q with q|⟨_,q⟩<;>(rw[q] at z;cases z)) (λd j i z=>by rcases q with q|⟨_,q⟩<;>(rw[q] at z;cases z)) (λd j z=>by rcases q with q|⟨_,q⟩<;>(rw[q] at z;cases z)),yF e,Zh hb]
 refine⟨⟨I.ok.mod,c.kind,I.ok.glob,I.ok.blt,λx y a h1 h2=>I.ok.inj x y a (VS.fU h1) (VS.fU h2),λx hx=>?_,I.ok.hd,I.ok.frames,rfl,I.ok.fr0,λb o e=>?_,HJ I.ok.Hs I.sz,λb e q=>W7.lt q,λe he=>?_,hC ▸ Jd _⟩,I.os,I.bare,λa e q f=>?_,λa e q z=>?_,?_,⟨_,Wa,λx u hv q=>?_⟩,λi sl q=>?_,λl d i q hi=>?_,?_,λx a e=>?_,?_⟩;have hv:pH (relabel scope X.env) x:=.inr hx;obtain⟨_,_,a,_,z⟩:=c.look I.ok (c.Nj hv λz=>by have PX:(relabel scope X.env).names.lookup x=some .cell\/(relabel scope X.env).names.lookup x=some .free:=hx;rw[VS.dO,z] at PX;rcases PX with y|y<;>cases y);exact⟨a,z⟩;have q:=I.le _ _ (I.ok.bs b o e) trivial;have y:=QD q λ_ z=>nomatch z;exact fJ y<|(oF y).trans q;obtain⟨h1,L,o,h2,h3,h4,h5⟩:=I.Dl.fr e he;exact⟨h1,L,o,h2,h3,(hLf L o h4<|List.mem_filterMap.mpr ⟨e,he,h2⟩).1,h5⟩;have hx:=(cQ q).1;exact(st (nD<|W7.lt q) hx).trans q;by_cases h1:a=D;exact .inl (by rw[h1,hD];exact TC _);by_cases h2:a∈fp;obtain⟨⟨o,w⟩,_⟩:=hf a h2;rw[stF h2,w] at q;cases q;exact .inr ⟨o,rfl⟩;rw[st h1 h2] at q;have z':lend (Hf X.N.length<|cC H fp) (qa X.stack) fp s.heap (cC H fp) a=none:=z;rw[q] at z';cases z';refine W7.gen (λa=>a=D\/a∈fp) (λx e z q=>?_) (λb z=>st (λy=>z<|.inl y) λy=>z<|.inr y) (λb o _=>old b o) λ_ a e z q=>?_;rcases z with rfl|z;rw[W7.fresh (by rw[hD];exact TC _)] at q;cases q;exact absurd z (cQ q).1;rcases z with rfl|z;rw[stD] at q;cases q;exact⟨⟨Hr _,[],.nil,0,hl⟩,λz=>nomatch z⟩;obtain⟨⟨o,w⟩,_⟩:=hf a z;rw[stF z,w] at q;cases q;exact old _ _<|I.aM a _ w;have hq:N'.idxOf x<N'.length:=by unfold wH at q;split at q;have:=c.len;lia;split at q;have:=c.len;lia;cases q
 have hx:N'[N'.idxOf x]?=some x:=by rw[UK hq];exact congrArg some (List.getElem_idxOf hq)
 unfold wH at q;split at q;rename_i hi;obtain⟨n1,n2⟩:=c.at hi hx;have M7:=c.Nj hv n1;have hN:X.N[N'.idxOf x]?=some x:=n2.elim (λz=>by rw[M7] at z;cases z) id;rw[hN] at q;obtain⟨k1,k2,a,k3,k4⟩:=c.look I.ok M7;obtain⟨m,hm,xc⟩:=I.loc;refine .inr ⟨k1,a,k4,?_⟩;rcases xc x u (k2.elim (λz=>.inr<|.inl z) λz=>.inr<|.inr z) q with ⟨z,_⟩|⟨_,a',z1,z2⟩
 rcases k2 with k2|k2<;>(rw[k2] at z;cases z);rw[k3] at z1;cases z1;obtain⟨ob,y1,y2⟩:=z2;exact⟨ob,old _ _ y1,y2⟩;split at q;rename_i hi;rw[hi] at hx;have z:=c.acc hx;have z9:(relabel scope X.env).names.lookup x=some .local\/(relabel scope X.env).names.lookup x=some .cell\/(relabel scope X.env).names.lookup x=some .free:=hv;rw[VS.dO,z] at z9;rcases z9 with y|y|y<;>cases y;cases q;have Cc:i<N'.length:=by have:=(List.getElem?_eq_some_iff.mp q).1;simp at this;lia
 have hx:N'[i]?=some N'[i]:=UK Cc;refine⟨N'[i],hx,?_⟩;by_cases hi:i<X.N.length;rw[IV (by simp;lia),IV WR] at q;obtain⟨y,hy,r⟩:=I.slot i sl q;rw[atB hx hi,hy];exact A8.mv (X:=X) r lp λl d z=>owB z hi;by_cases TQ:i<X.N.length+n;rw[IV (by simp;lia),Jn WR,IS] at q;split at q;cases q;trivial;cases q;have e:i=N'.length-1:=WR;rw[Jn (by simp;lia)] at q;have e2:i-(ρ++List.replicate n Sl.no).length=0:=by simp;lia
 rw[e2] at q;cases q;refine⟨D,?_,by rw[e];exact stD⟩;unfold wH;rw[qe c.nd hx,Y4 hi,Zh e];have sp:∀{l d i},eT X N' s H fp D l=some (.ow d i)->(l=D/\d=.lst []/\i=N'.length-1)\/(i<X.N.length/\H l=some (.ow d i)):=λ{l d i} q=>by
  by_cases h1:l=D;subst h1;rw[stD] at q;cases q;exact .inl ⟨rfl,rfl,rfl⟩;by_cases h2:l∈fp;obtain⟨⟨o,w⟩,_⟩:=hf l h2;rw[stF h2,w] at q;cases q;rw[st h1 h2] at q;rcases (cQ q).2 with ⟨_,_,z,_⟩|⟨d',j,i',z,y,hi',d2,w⟩|⟨_,_,z,_⟩|⟨_,z⟩
  cases z;cases z;rw[y] at w;cases w;exact .inr ⟨hi',(oF h2).symm.trans y⟩;cases z;exact z.elim
 have hN:=c.len;rcases sp q with ⟨rfl,rfl,rfl⟩|⟨hi',q'⟩
 refine⟨.inl ?_,λl' d' q2=>?_⟩;rw[Jn (by simp;lia)];have e2:N'.length-1-(ρ++List.replicate n Sl.no).length=0:=by simp;lia
 rw[e2];rfl;rcases sp q2 with ⟨z,_⟩|⟨z,_⟩
 exact z
 lia
 obtain⟨h1,h2⟩:=I.tg l d i q' hi';refine⟨?_,λl' d' q2=>?_⟩;rw[IV (by simp;lia),IV WR];exact h1;rcases sp q2 with ⟨_,_,z⟩|⟨_,z⟩
 lia
 exact h2 l' d' z;show eT X N' s H fp D C=none;have h1:C≠D:=by rw[hC,hD];exact yB (Ql _)
 have h2:C∉fp:=λz=>by have:=MV _ z;rw[hC] at this;lia
 rw[st h1 h2];exact W7.fresh (by rw[hC];exact Jd _);have e':=VS.fU e;obtain⟨⟨v,ob,y1,y2⟩,z⟩:=I.cell x a e';refine⟨⟨v,ob,old _ _ y1,y2⟩,.inr ⟨rfl,?_⟩⟩;rcases z with z|⟨_,o,d,z⟩;have h2:a∉fp:=λy=>by obtain⟨⟨o,w⟩,_⟩:=hf a y;rw[z] at w;cases w
 refine⟨ob,none,(st (nD<|clt e') h2).trans ?_⟩;have z':=(oF h2).trans z;rw[lG h2 (by rw[z'];exactλ_ _ z=>nomatch z) (by rw[z'];exactλ_ _ _ z=>nomatch z) (by rw[z'];exactλ_ _ z=>nomatch z),yF y1,Y4<|I.O6 e'];exact⟨o,d,Xq z⟩;show (ρ++_++_).length=N'.length;simp;lia
end
end WL
end
section
set_option linter.all false
set_option maxRecDepth 100000
namespace WL
open PySem PySem.Spec PyProof.Rows L2 VP
def T4(n m:Nat)(_:Addr):Option En->Option En|some (.pin o d)=>some (.pin o d)|some (.di b)=>some (.di b)|some (.ow d i)=>if i<n then some (.ow d i) else if i=m then some (.ow d n) else none|_=>none
theorem QC:Kf (T4 n m):=⟨λ_ _ _=>rfl,λ_ _=>rfl,λa e e' h=>by unfold T4 at h;split at h;cases h;exact .inl ⟨rfl,.inl ⟨_,_,rfl⟩⟩;cases h;exact .inl ⟨rfl,.inr ⟨_,rfl⟩⟩;split at h;cases h;exact .inr ⟨_,_,_,rfl,rfl⟩;split at h;cases h;exact .inr ⟨_,_,_,rfl,rfl⟩;cases h;cases h⟩
theorem yj(h:T4 n m a e=some (.ow d i))(hi:i<n):e=some (.ow d i):=by unfold T4 at h;split at h;cases h;cases h;split at h;cases h;rfl;split at h;cases h;exact absurd hi<|Fw _;cases h;cases h
section
variable{X:Cx}{scope:Scope}{N':TY}{σ dR:Sg}{H Hc:Tm}{ρ bI:ay}{s s':Shared}{fp:xW}{bB h':Heap}{D C:Addr}{tk n:Nat}
theorem vm(c:bA X scope N')(I:Inv X σ H ρ s)(hf:∀b∈fp,(∃o,H b=some (.d7 o))/\X.H₀ b=none)(hn:X.N.length+n+1=N'.length)(J:Inv (aI X scope C N' s (cC H fp) fp) dR Hc bI s')
  (Ze:∀(i:Nat) x,N'[i]?=some x->i<X.N.length\/i=N'.length-1->dR x=wH X.N N' σ D x) :
  ∃H4,Inv X σ H4 (bI.take X.N.length) s'/\Le (cC H fp) H4/\j1 Hc H4/\(∀b,s.heap.objs.size<=b->Hc b=none->H4 b=none)/\∀d,bI[X.N.length+n]?=some (.ow d)->H4 D=some (.ow d X.N.length):=by
 have ok0:=Dd I λb hb=>(hf b hb).1;have QD:∀{a e},H a=some e->(∀o,e≠.d7 o)->a∉fp:=λq z y=>by obtain⟨⟨o,w⟩,_⟩:=hf _ y;obtain rfl:=sj q w;exact z o rfl
 have oF:∀{a},a∉fp->cC H fp a=H a:=λz=>Y4 z;have aan:∀{a e},cC H fp a=some e->a∉fp/\H a=some e:=λ{a e} q=>by by_cases z:a∈fp;unfold cC at q;exact en (Zh z) q;exact⟨z,(oF z).symm.trans q⟩
 have nof:∀{a},H a=none->cC H fp a=none:=λ{a} z=>by unfold cC;split;rfl;exact z
 obtain⟨h1,h2,h3,h4,h5⟩:=zg (Ln:=Hf X.N.length<|cC H fp) (fs:=qa X.stack) (QC (n:=X.N.length) (m:=N'.length-1)) ok0 (λa z=>Zh z) rfl J.aM J.le (λb hb=>by rcases I.D3 hb with z|⟨o,z⟩;exact .inl<|nof z;exact .inr ⟨o,(oF<|QD z λ_ y=>nomatch y).trans z⟩) J.nw;have hl0:bI.length=N'.length:=J.len;have hN':=c.len;have ow4:∀{l d i},back s.heap.objs.size (Hf X.N.length<|cC H fp) (T4 X.N.length<|N'.length-1) (cC H fp) Hc l=some (.ow d i)->i<X.N.length->Hc l=some (.ow d i):=λ{l d i} q hi=>by unfold back at q;split at q;split at q;rename_i d0 j0 z;split at q;exact yj q hi;rename_i nk;cases q;exact absurd ⟨i,hi,_,z⟩ nk;split at q;exact yj q hi;cases q;rename_i n1 _;exact absurd q<|n1 d i;exact yj q hi
 have Nu:∀{a},a<s.heap.objs.size->H a=none->back s.heap.objs.size (Hf X.N.length<|cC H fp) (T4 X.N.length<|N'.length-1) (cC H fp) Hc a=none:=λdQ z=>by unfold back;rw[Zh dQ,nof z]
 have nl:X.env.locals∉fp:=λy=>by obtain⟨⟨o,w⟩,_⟩:=hf _ y;exact ek I.fl w
 refine⟨_,?_,h2,h4,λb hb z=>?_,λd q=>?_⟩;obtain⟨e1,e2⟩:=I.Dk (h':=s'.heap) λb o hb q=>by
  have:(H b=none/\b∉fp)\/∃o' d,H b=some (.pin o' d):=by rcases hb with rfl|⟨x,e⟩;exact .inl ⟨I.fl,nl⟩;rcases (I.cell x b e).2 with z|⟨_,z⟩;exact .inl ⟨z,λy=>by obtain⟨⟨o,w⟩,_⟩:=hf _ y;exact ek z w⟩;exact .inr z
  rcases this with ⟨z,y⟩|⟨o',d,z⟩
  obtain⟨sl,y,_⟩:=h3 b o q (nof z) y;exact⟨sl,y⟩;have y:=(h1 b _<|h2 b _ ((oF<|QD z λ_ y=>nomatch y).trans z) trivial).1;obtain rfl:=sj ((I.aM b _ z).1) q;exact⟨_,y⟩
 refine⟨I.ok,J.os.trans rfl,J.bare,λa e q f=>h2 a e ((oF λy=>by exact en ((hf a y).2) q).trans<|I.le a e q f) f,λa e q z=>?_,h1,e1,λi sl q=>?_,λl d i q hi=>?_,Nu I.lt I.fl,λx c e=>⟨e2 x c e,?_⟩,by rw[Q1,hl0];lia⟩;by_cases dQ:a<s.heap.objs.size;cases y:cC H fp a with|none=>unfold back at q;rw[Zh dQ,y] at q;cases q|some e1=>rcases I.nw a e1 (aan y).2 z with w|⟨o,rfl⟩;exact .inl w;have w:=h2 a _ y trivial;obtain rfl:=sj q w;exact .inr ⟨o,rfl⟩
 exact .inl<|HJ I.sz<|Nat.le_of_not_lt dQ;have hi:i<X.N.length:=by have:=(List.getElem?_eq_some_iff.mp q).1;rw[Q1] at this;lia
 rw[JQ hi] at q;obtain⟨y,hy,r⟩:=J.slot i sl q;have hN:X.N[i]?=some X.N[i]:=UK hi;refine⟨X.N[i],hN,?_⟩;have e:dR y=σ X.N[i]:=by rw[Ze i y hy<|.inl hi];unfold wH;rw[qe c.nd hy,Zh hi,hN];rfl
 rw[e] at r;exact A8.mv (X:=X) r h4 λl d z=>by rw[h5 l d i z,z];exact Zh hi
 obtain⟨z1,z2⟩:=J.tg l d i (ow4 q hi) (by show i<N'.length;lia);exact⟨by rw[JQ hi];exact z1,λl' d' q'=>z2 l' d'<|ow4 q' hi⟩;rcases (I.cell x c e).2 with z|⟨f,o,d,z⟩;obtain⟨⟨v,y⟩,_⟩:=I.cell x c e;exact .inl<|Nu y.lt z;exact .inr ⟨f,o,d,h2 _ _ ((oF<|QD z λ_ y=>nomatch y).trans z) trivial⟩;unfold back;rw[Y4<|Nat.not_lt.mpr hb,z];rfl;obtain⟨y,hy,l,e,r⟩:=J.slot _ _ q;have hy:N'[X.N.length+n]?=some y:=hy;have em:X.N.length+n=N'.length-1:=WR;rw[Ze _ y hy<|.inr em] at e;unfold wH at e;rw[qe c.nd hy,Y4 WR,Zh em] at e;cases e;rw[h5 _ _ _ r,r];show (if _ then _ else if _ then _ else _)=_;rw[Y4 WR,Zh em]
theorem Inv.but(I:Inv X σ H ρ s)(hC:H C=none)(h0:C≠X.env.locals)(h1:∀x,X.env.cells.lookup x≠some C)(k:∀b o,b≠C->s.heap.get? b=some o->h'.get? b=some o):Inv X σ H ρ {s with heap:=h'}:=by obtain⟨e1,e2⟩:=I.Dk (h':=h') λb o hb q=>⟨o.slots,k b o (λz=>by subst z;exact hb.elim h0 λ⟨x,e⟩=>h1 x e) q⟩;exact⟨I.ok,I.os,I.bare,I.le,I.nw,I.aM.gen (·=C) (λx e z q=>by subst z;exact en hC q) (λ_ _=>rfl) (λb o z=>k b o z) (λ_ a e z q=>by subst z;exact en hC q),e1,I.slot,I.tg,I.fl,λx c e=>⟨e2 x c e,(I.cell x c e).2⟩,I.len⟩
def y4(X:Cx)(ifs:WK)(f:M Bool):Prop:=WP X RB (forIn ifs true λc r=>if r=true then do let ok <-isTrue c X.env (eval c X.env);pure (ForInStep.yield ok) else pure<|ForInStep.yield r) f
theorem lO:y4 X [] (ret true):=λs σ H ρ Q E I o=>wpAny_tests_nil (o s H true I Le.refl rfl)
theorem lP{e:Expr}{f:M Bool}(h:PB X e f):y4 X [e] f:=λs σ H ρ Q E I o=>wpAny_tests_one (h s σ H ρ Q E I o)
theorem Inv.abv{d:VP.D}{x:Str}(I:Inv X σ H ρ s)(hN:X.N[j]?=some x)(h:own ρ[j]?=some d):∃l,σ x=some (.ref l)/\H l=some (.ow d j):=by cases q:ρ[j]? with|none=>rw[q] at h;cases h|some t=>rw[q] at h;obtain⟨y,hy,r⟩:=I.slot j t q;obtain rfl:=sj hN hy;cases t with|ow e=>cases h;exact r|io e=>cases h;obtain⟨l,a,b,_⟩:=r;exact⟨l,a,b⟩|_=>cases h
end
end WL
end
section
set_option linter.all false
set_option maxRecDepth 100000
namespace WL
open PySem PySem.Spec PyProof.Rows L2 VP
section
variable{X:Cx}{elt tg VE:Expr}{ifs:WK}{pos:Pos}{it:M (List D)}{gf:D->M Unit}{ft:M Bool}{fe:M D}{js:WC}{scope:Scope}{N':TY}{σ:Sg}{H:Tm}{ρ:ay}{s:Shared}{E:YY}
def Ut(js:WC)(N':TY)(dR YF:Sg):Prop:=∀x,(∀j∈js,N'[j]?≠some x)->dR x=YF x
def ZR(k m:Nat)(P:D->ay->Prop):Unit->ay->Prop:=λ_ r=>∃d,r[k]?=some (.ow d)/\P d (r.take m)
def ZQ(m:Nat)(Ex:Xn->ay->Prop):Xn->ay->Prop:=λx r=>Ex x (r.take m)
inductive ZS(XX:Cx)(YF:Sg)(js:WC)(N':TY)(K:Xn->ay->Prop)(v:Value)(s:Shared):Prop|mk (dR:Sg) (Hc:Tm) (bI:ay) (x:Xn) (J:Inv XX dR Hc bI s) (r:XR XX Hc s v x) (n:Ut js N' dR YF) (k:K x bI)
inductive Uj(XX:Cx)(YF:Sg)(js:WC)(N':TY)(St:Nat->Tm->Prop)(ds:Y5)(O:Nat->ay->Prop)(m:Nat)(s:Shared):Prop|mk (i:Nat) (dR:Sg) (H':Tm) (bI:ay) (hm:m=ds.length-i) (hi:i<=ds.length) (I:Inv XX dR H' bI s) (st:St i H') (n:Ut js N' dR YF) (o:O i bI)
theorem mG(n:Nat){use:Option (Value->Sem Unit)}{QQ:YY}{P:D->ay->Prop}{Ex:Xn->ay->Prop}
  (hc:X.calm=true) (c:bA X scope N') (hn:X.N.length+n+1=N'.length) (hi:qW X tg VE it) (xO:∀d r x r',gf d r≠.exc x r') (vS:∀j∈js,X.N.length<=j/\j<X.N.length+n)
  (hg:∀C s H ex,u0 (aI X scope C N' s H ex) tg js gf) (ht:∀C s H ex,y4 (aI X scope C N' s H ex) ifs ft) (he:∀C s H ex,PV (aI X scope C N' s H ex) elt fe)
  (hs:∀x,foldedSetIterable VE X.env x=pure x) (I:Inv X σ H ρ s) (o:Out (aC n it gf ft fe ρ) P Ex) (hE:∀x r,Ex x r->OK X σ H (XR X) E x r)
  (Pz:∀s5 H4 GQ d l C mm,Inv X σ H4 GQ s5->Le H H4->H4 l=some (.ow d X.N.length)->P d GQ->s5.heap.Ns C mm->H4 C=none->C≠X.env.locals->(∀x,X.env.cells.lookup x≠some C)->X.H₀ C=none->X.n₀<=C->compPost X.M X.A E use QQ (.ref l) C (.ok .next) s5) :
  wpAny X.M X.A (comprehension (.ListComp elt [⟨tg,VE,ifs,0⟩] scope pos) scope X.env (firstIterPos [⟨tg,VE,ifs,0⟩] pos) (newList []) (firstAsync [⟨tg,VE,ifs,0⟩]) (firstIter [⟨tg,VE,ifs,0⟩] X.env) use) QQ E s:=by
 refine wpAny_comprehension_free (use:=use) rfl hs (VS.oE λp hp hf=>I.ok.has p.1<|(c.v hp).1 hf) c.kind (λy hy hl=>(c.v hy).2.2 hl) ?_;refine hi s σ H ρ _ E I<|o.Zi.mono (λds aS o1 s2 H2 ita fp St I2 l2 T qL w8=>?_) λx r q=>hE x r q;have hf:∀b∈fp,(∃o,H2 b=some (.d7 o))/\X.H₀ b=none:=λb hb=>⟨(w8 b hb).1,(w8 b hb).2.2⟩;refine D7<|wpAny_newFunctionEnv (λy hy=>(c.v hy).2.1) (by intro y hy;simp at hy) (λbB tY qd=>?_) c.kind;dsimp only at tY qd ⊢;generalize hH2:s2.heap.push {cls:=.type "list",dict:=none,data:=.seq ([]:Zg).toArray}=HP at tY qd ⊢;have hC:HP.objs.size=s2.heap.objs.size+1:=by rw[<-hH2,rj]
 have hDC:s2.heap.objs.size≠HP.objs.size:=by rw[hC];exact Rb (Ql _)
 have old:∀b o,s2.heap.get? b=some o->bB.get? b=some o:=λb o e=>qd.extBut b o (by have:=Hz e;rw[hC];exact Rb<|Vf this)<|Wm _<|hH2 ▸ Wm _ e;have hl:bB.get? s2.heap.objs.size=some {cls:=.type "list",data:=.seq #[] 0}:=qd.extBut _ _ hDC<|Wm _<|hH2 ▸ Zv _ rfl;generalize hCC:HP.objs.size=C at tY qd hC hDC ⊢;generalize HM:s2.heap.objs.size=DD at hC hDC hl ⊢;have Wa:bB.Ns C λ_=>none:=by simpa using tY
 have nC0:C≠X.env.locals:=λz=>by have:=I2.lt;rw[<-z,hC,<-HM] at this;lia
 have nC1:∀x,X.env.cells.lookup x≠some C:=λx z=>by obtain⟨⟨v,q⟩,_⟩:=I2.cell x C z;have:=q.lt;rw[hC,<-HM] at this;lia
 have I3:=Q2V (n:=n) (tk:=s2.toks+([]:List (Str×Value)).length) c I2 hf HM.symm (HM ▸ hC) old Wa hl hn;have l2':Le H (cC H2 fp):=λa e q f=>(Y4 λz=>(w8 a z).2.1 e q f).trans<|l2 a e q f;have Nn:aS.length=X.N.length:=I2.len;unfold inner at o1;rw[Nn] at o1;generalize Cb:aI X scope C N' s2 (cC H2 fp) fp=XX at I3;have eM:XX.M=X.M:=by rw[<-Cb];rfl
 have eA:XX.A=X.A:=by rw[<-Cb];rfl
 have hg':u0 XX tg js gf:=Cb ▸ hg _ _ _ _;have ht':y4 XX ifs ft:=Cb ▸ ht _ _ _ _;have VZ:PV XX elt fe:=Cb ▸ he _ _ _ _;have eN:XX.N=N':=by rw[<-Cb];rfl
 have RU:∀{dR:Sg},Ut js N' dR (wH X.N N' σ DD)->∀(i:Nat) x,N'[i]?=some x->i<X.N.length\/i=N'.length-1->dR x=wH X.N N' σ DD x:=λh i x hx hi=>h x λj hj z=>by
  have:=qr c.nd hx z;have:=vS j hj
  lia
 generalize hEB:ZS XX (wH X.N N' σ DD) js N' (λx r=>OK X σ H (XR X) E x<|r.take X.N.length)=EB;have pass:∀v s',EB v s'->notedBy X.M X.A XX.env (λx BU=>compPost X.M X.A E use QQ (.ref DD) C (.error x) BU) v s':=λv s' hb=>by
  subst hEB;obtain⟨dR,Hc,bI,xn,J,⟨e,Cx',dx,rfl,hm,hx,w,x⟩,Ze,ok⟩:=hb;have nt:=ur (Q:=λ_ BU=>compPost X.M X.A E use QQ (.ref DD) C (.error<|.ref e) BU) (E:=λx BU=>compPost X.M X.A E use QQ (.ref DD) C (.error x) BU) J x λh' w' J' kp x'=>?_;rw[eM,eA] at nt;exact nt;obtain⟨mm,Ce,_⟩:=J'.loc;subst Cb;refine⟨mm,Ce,λHL sb aal Px=>?_⟩;obtain⟨H4,I4,l4,lp4,fr4,_⟩:=vm (D:=DD) c I2 hf hn J'<|RU Ze;have hC4:H4 C=none:=fr4 C (by rw[HM,hC];exact Jd _) J'.fl;have I5:=I4.but (h':=HL) hC4 nC0 nC1 λb o hb e=>(sb.2 b hb).trans e;obtain⟨vs,sl,z1,z2,z3,z4,Tt,ot,ts,t1,t2,t3,t4,t5,t6,t7⟩:=x';have aaU:h'.Ns C mm:=Ce;have dC:∀{b o} {vs:Array Value},h'.get? b=some o->o.data=.fields vs->b≠C:=λ{b o vs} e d z=>by obtain⟨o',es,ep,ho,hd,_⟩:=aaU;subst z;obtain rfl:=sj e ho;rw[d] at hd;cases hd
  have x5:Hk X.n₀ H4 HL e (.ref Cx') dx (some w'):=⟨vs,sl,(sb.2 e<|dC z1 rfl).trans z1,z2,fr4 e z4 z3,HJ I2.sz z4,Tt,ot,ts,t1,t2,HJ I2.sz t3,fr4 Tt t3 t4,(sb.2 Tt<|dC t5 t6).trans t5,t6,t7⟩;unfold PySem.passOn;refine bx<|Gk ((sb.2 e<|dC z1 rfl).trans z1) rfl t1 ?_;rw[Y4 T2];refine bx<|je aal.frame I5 x5 λh6 I6 kp6 x6=>wpAny_throw<|ok _ H4 _ I6 (l2'.trans l4) ⟨e,Cx',dx,rfl,hm,hx.imp id ?_,_,x6⟩;rintro⟨b,o,y1,y2,f⟩;have nb:b≠C:=λz=>by have fl:Hc C=none:=J'.fl;rw[z,fl] at y2;cases y2
  refine⟨b,o,y1,lp4 _ _ _ y2,pB.kp (s:={s' with heap:=HL}) kp6 ?_⟩;obtain⟨fs,w1,w2,w3,mA,w4,w5⟩:=f.kp kp;exact⟨fs,w1,w2.p lp4,w3,mA,w4.at λo e=>(sb.2 b nb).trans e,w5⟩
 have px:∀{α:Type}{t:Sem α}{Q':α->Shared->Prop}{s':Shared},wpAny XX.M XX.A t Q' EB s'->wpAny X.M X.A t Q' (notedBy X.M X.A XX.env (λx BU=>compPost X.M X.A E use QQ (.ref DD) C (.error x) BU)) s':=λh=>by rw[eM,eA] at h;exact P9 h (λ_ _ q=>q) pass
 have hNm:XX.N[X.N.length+n]?=some N'[X.N.length+n]:=by rw[eN];exact UK WR
 have eg:XX.g=X.g:=by rw[<-Cb];rfl
 have ecm:XX.calm=true:=by rw[<-Cb];exact hc
 have h0:∀b∈fp,XX.H₀ b=none:=λb hb=>by rw[<-Cb];exact Zh hb
 have Ah:∀s3:Shared,s3={s2 with heap:=bB,toks:=s2.toks+([]:List (Str×Value)).length}->codeAny X.M X.A (.compLoop (.ListComp elt [⟨tg,VE,ifs,0⟩] scope pos) 0 (.ref ita) (.ref DD) XX.env) (compPost X.M X.A E use QQ (.ref DD) C) s3:=by
  rintro s3 rfl;generalize hO:(λi bI=>Out (turns (X.N.length+n) gf ft fe (ds.drop i) bI) (ZR (X.N.length+n) X.N.length P)<|ZQ X.N.length Ex)=O;refine codeAny_loop rfl (Uj XX (wH X.N N' σ DD) js N' St ds O) (λm s4 hI=>?_) ds.length ⟨0,_,_,_,T2,Hr _,I3,?_,λ_ _=>rfl,?_⟩;show wpAny _ X.A ((compTurn (.ListComp elt [⟨tg,VE,ifs,0⟩] scope pos) 0 (.ref ita) (.ref DD) XX.env).onRaise (λx=>do noteFrame x XX.env;theTreesLotGoes x)) _ _ s4;refine wpAny_noted ?_;rw[compTurn_list];obtain⟨i,YG,H4,G5,rfl,hi4,I4,Zz,Wh,o4⟩:=hI;rw[<-hO] at o4;by_cases dQ:i<ds.length;rw[Yd dQ] at o4;have again:∀{s7:Shared}{Km:Sg}{H7:Tm}{YE:ay},Inv XX Km H7 YE s7->St (i+1) H7->Ut js N' Km (wH X.N N' σ DD)->O (i+1) YE->∃m,m<ds.length-i/\Uj XX (wH X.N N' σ DD) js N' St ds O m s7:=λ{s7 Km H7 YE} I7 st7 h7 o7=>⟨ds.length-(i+1),WR,i+1,Km,H7,YE,rfl,dQ,I7,st7,h7,o7⟩;refine bx<|QN<|bx<|px<|xh (T.item XX YG i H4 G5 s4 ds[i] (λu s'=>∃H',Inv XX YG H' G5 s'/\Rel H' u ds[i]/\St (i+1) H') EB eg ecm I4 h0 Zz (by simp[dQ]) λs' H' u I' x r st=>⟨H',I',r,st⟩) λr s5 hr=>?_;obtain⟨u,hr,h5⟩:=hr;subst hr;refine bx<|px<|xh h5 λ_ s6 ⟨H6,I6,r6,X6⟩=>bx<|px<|hg' s6 YG H6 G5 u ds[i] _ _ I6 r6 ?_;have o5:=Out.Zi o4;cases qg:gf ds[i] G5 with
   |no=>rw[qg] at o5;exact o5.elim|exc x r=>exact absurd qg (xO _ _ _ _)|ok uu YE=>
    rw[qg] at o5;intro s7 Km H7 I7 l7 g7;have HY:Ut js N' Km (wH X.N N' σ DD):=λx hx=>(g7 x λj hj=>by rw[eN];exact hx j hj).trans<|Wh x hx;have ee:∀{H':Tm}(x:Xn)(r:ay),Ex x (r.take X.N.length)->OK XX Km H' (XR XX) EB x r:=λx r q s' H' b I' _ xr=>hEB ▸ ⟨Km,H',r,x,I',xr,HY,hE _ _ q⟩;refine bx<|px<|ht'.Zi I7 o5 (λx r q=>ee x r q) λs8 H8 ρ8 b a I8 l8 r8 o8=>?_;cases r8;cases b with
     |false=>exact Zx ⟨rfl,again I8 (T.le _ _ _ X6 (l7.trans l8).lf) HY<|hO ▸ o8⟩|true=>
      refine bx<|bx<|px<|VZ.Zi I8 o8 (λx r q=>ee x r q) λs9 H9 ρ9 v d9 I9 l9 r9 o9=>?_;obtain⟨d0,d1,q0,q1,k9⟩:=iy o9.Zi;obtain⟨l,hu,hl9⟩:=I9.abv hNm q0;have e9:Km N'[X.N.length+n]=some (.ref DD):=by have hx:N'[X.N.length+n]?=some N'[X.N.length+n]:=UK WR;rw[RU HY _ _ hx<|.inr WR];unfold wH;rw[qe c.nd hx,Y4 WR,Zh WR]
      rw[e9] at hu;cases hu;cases d0 with
      |lst xs=>
       simp only[fQ] at q1;split at q1;rename_i hz0;cases q1;obtain⟨us,nn,r,GW,_⟩:=I9.lo hl9;have hz:us.length<sizeLine:=by rw[r.length,tC];exact hz0
       refine bx<|VG F.slot_list_append ⟨_,GW,rfl⟩ F.entry_list_append (F.args_list_append_2 _ _) (PySem.list_append DD us.toArray nn v (by rw[Fj];lia)) ⟨GW,?_⟩;exact Zx<|Zx ⟨rfl,again (I9.lw (its':=us++[v]) hl9 GW T2 (r.app<|.cons r9 .nil) (by rw[RH,<-r.length];exact hz)) (T.le _ _ _ X6 (((l7.trans l8).trans l9).trans<|Le.ow hl9).lf) HY<|hO ▸ k9⟩;cases q1
      |_=>cases q1
  have ei:i=ds.length:=WR;subst ei;rw[List.drop_length] at o4;obtain⟨d,hd,post⟩:∃d,G5[X.N.length+n]?=some (.ow d)/\P d (G5.take X.N.length):=o4;refine bx<|QN<|bx<|px<|xh (T.done XX YG H4 G5 s4 (λs'=>compPost X.M X.A E use QQ (.ref DD) C (.ok .next) s') EB eg ecm I4 h0 Zz λs' H' I' x=>?_) λr s5 hr=>?_;subst Cb;obtain⟨H5,I5,l5,_,fr5,M1⟩:=vm (D:=DD) c I2 hf hn I'<|RU Wh;obtain⟨mm,Ce,_⟩:=I'.loc;exact Pz s' H5 _ d DD C mm I5 (l2'.trans l5) (M1 d hd) post Ce (fr5 C (by rw[HM,hC];exact Jd _) I'.fl) nC0 nC1 (I2.W3 (by rw[HM,hC];exact Jd _))<|HJ I2.sz (by rw[HM,hC];exact Jd _);obtain⟨hr,h5⟩:=hr;subst hr;exact Zx h5;refine T.le _ _ _ qL λa e q f hx=>?_;have lt:=I2.aM.lt q;have nD:a≠DD:=λz=>by rw[z,<-HM] at lt;exact Fw _ lt
  unfold eT;rw[Y4 nD];split;exact q;rename_i nf;rcases hx with ⟨o,d,rfl⟩|z
  exact fJ nf<|(Y4 nf).trans q;exact absurd z nf;rw[<-hO];simp only[List.drop_zero];cases q:turns (X.N.length+n) gf ft fe ds (aS++List.replicate n .no++[.ow<|.lst []]) with|no=>simp only[q] at o1;exact o1.elim|exc x r=>simp only[q] at o1;exact o1|ok u r=>simp only[q] at o1;show ∃d,r[X.N.length+n]?=some (.ow d)/\_;cases q2:r[X.N.length+n]? with|none=>simp only[q2] at o1;exact o1.elim|some t=>simp only[q2] at o1;cases t with|ow d=>exact⟨d,rfl,o1⟩|no=>exact o1.elim|sh d=>exact o1.elim|io d=>exact o1.elim
 have aaV:pF X.g H2 bB:=I2.aM.gen (λ_=>False) (λ_ _ z=>z.elim) (λ_ _=>rfl) (λb o _=>old b o) λ_ _ _ z=>z.elim;subst Cb;exact codeAny_compStart_list (Ah _ rfl) (T.self X.A _ 0 H2 _ _ aaV qL<|Ah _ rfl)
theorem Inv.mark{o:Obj}{C:Addr}(I:Inv X σ H ρ s)(hC:H C=none)(h0:C≠X.env.locals)(h1:∀x,X.env.cells.lookup x≠some C)(h2:X.n₀<=C)(e:s.heap.get? C=some o):Inv X σ (upd H C<|.d7 o) ρ s/\Le H (upd H C<|.d7 o):=by have l:Le H (upd H C<|.d7 o):=Le.lay hC;refine⟨⟨I.ok,I.os,I.bare,I.le.trans l,λa e q n=>?_,I.aM.gen (·=C) (λx e z q=>by subst z;exact en hC q) (λb z=>aD z) (λ_ _ _ z=>z) (λ_ a q z y=>by subst z;obtain rfl:=sj az y;exact e),I.loc,λi sl q=>?_,I.tg.lay hC (λ_ _ z=>nomatch z),(aD<|JL h0).trans I.fl,λx c e=>?_,I.len⟩,l⟩;by_cases z:a=C;exact .inl<|z ▸ h2;rw[aD z] at q;exact I.nw a e q n;obtain⟨x,hx,r⟩:=I.slot i sl q;exact⟨x,hx,r.mv l.p λp d y=>(aD λz=>by subst z;exact ek hC y).trans y⟩;have:c≠C:=λz=>h1 x<|z ▸ e;rw[aD this];exact I.cell x c e
theorem Ao(n:Nat)(hc:X.calm=true)(c:bA X scope N')(hn:X.N.length+n+1=N'.length)(hi:qW X tg VE it)(xO:∀d r x r',gf d r≠.exc x r')(vS:∀j∈js,X.N.length<=j/\j<X.N.length+n)
  (hg:∀C s H ex,u0 (aI X scope C N' s H ex) tg js gf) (ht:∀C s H ex,y4 (aI X scope C N' s H ex) ifs ft) (he:∀C s H ex,PV (aI X scope C N' s H ex) elt fe)
  (hs:∀x,foldedSetIterable VE X.env x=pure x:=by exact Rc):PF X (.ListComp elt [⟨tg,VE,ifs,0⟩] scope pos) (aC n it gf ft fe):=λs σ H ρ Q E I o=>by
 rw[eval_ListComp];exact mG (use:=none) n hc c hn hi xO vS hg ht he hs I o (λx r q=>q) λs5 H4 GQ d l C mm I4 l4 hD post Ce hC h0 h1 _ _=>⟨mm,Ce,λh' sb=>post _ H4 _ (I4.but hC h0 h1 λb o hb e=>(sb.2 b hb).trans e) l4 ⟨l,rfl,hD⟩⟩
theorem vn(own:Bool){i:Nat}{y:Str}{py:Pos}{Q:Flow->Shared->Prop}{d:D}{l C:Addr}{mm:Str->IW}{H4:Tm}(hN:X.N.Nodup)(hy:X.N[i]?=some y)(hx:Loc X.env.scope y)(hf:X.fn=true\/X.env.scope.names.lookup y=some .local)(I4:Inv X σ H4 ρ s)(l4:Le H H4)(hD:H4 l=some (.ow d X.N.length))
  (post:Out (Cj (if own then BD i d else mY i d) ρ) (jy X H RS Q) (jy X H (XR X) E)) (Ce:s.heap.Ns C mm) (hC:H4 C=none) (h0:C≠X.env.locals) (h1:∀x,X.env.cells.lookup x≠some C) (h2:X.H₀ C=none) (h3:X.n₀<=C) :
  wpAny X.M X.A (assign (.Name y py) X.env<|.ref l) (λ_ BU=>∃m,BU.heap.Ns C m/\∀h',Heap.SameBut C BU.heap h'->Q .next {BU with heap:=h'}) E s:=by
 obtain⟨oc,es,ep,hoc,hdc,hrc⟩:=Ce;obtain⟨I5,l5⟩:=I4.mark hC h0 h1 h3 hoc;have M1:upd H4 C (.d7 oc) l=some (.ow d X.N.length):=(aD λz=>by subst z;rw[hC] at hD;cases hD).trans hD;have fin:∀{OQ:Sg}{H6:Tm}{Ue:ay}{s6:Shared},Inv X OQ H6 Ue s6->Le (upd H4 C<|.d7 oc) H6->jy X H RS Q .nx Ue->∃m,s6.heap.Ns C m/\∀h',Heap.SameBut C s6.heap h'->Q .next {s6 with heap:=h'}:=λ{OQ H6 Ue s6} I6 l6 k=>by
  have q6:=l6 C _ az trivial;have e6:s6.heap.get? C=some oc:=I6.aM C _ q6;refine⟨mm,⟨oc,es,ep,e6,hdc,hrc⟩,λh' sb=>?_⟩;obtain⟨I7,l7⟩:=I6.aE (t':=s6.toks) q6 h2 (λ_ _ _ e=>e) none (λ_ z=>nomatch z);have hn7:pt H6 C none C=none:=Zh rfl;refine k _ OQ _ .next (I7.but hn7 h0 h1 λb o hb e=>(sb.2 b hb).trans e) (λa e q f=>?_) rfl;have q4:=l4 a e q f;have na:a≠C:=λz=>by subst z;exact en hC q4
  exact(Y4 na).trans (l6 a e ((aD na).trans q4) f)
 refine EE ?_;cases own with|true=>exact nA true I5 hN hy hx hf ⟨l,rfl,M1⟩ (post.Zi.mono (λ_ _ q s' dR H' I' l' _=>fin I' l' q) λ_ _ q=>q)|false=>obtain⟨H6,o6,I6,l6,h6,_⟩:=I5.fz M1<|.inr<|TC _;rw[List.set_eq_of_length_le (by rw[I5.len];exact TC _)] at I6;exact nA false I6 hN hy hx hf (by cases d with|lst ds=>exact⟨l,o6,rfl,h6⟩|tup ds=>exact⟨l,o6,rfl,h6⟩|gp ks ds=>exact⟨l,o6,rfl,h6⟩|ins c ns ds=>exact⟨l,o6,rfl,h6⟩|fm c ns ds=>exact⟨l,o6,rfl,h6⟩|_=>exact absurd (I5.aM l _ M1).1 (by first|exactλz=>z.elim|exactλ_=>(I5.aM l _ M1).2 rfl)) (post.Zi.mono (λ_ _ q s' dR H' I' l' _=>fin I' (l6.trans l') q) λ_ _ q=>q)
theorem kA(own:Bool)(n i:Nat){y:Str}{py lV:Pos}(hc:X.calm=true)(c:bA X scope N')(hn:X.N.length+n+1=N'.length)(hi:qW X tg VE it)(xO:∀d r x r',gf d r≠.exc x r')(vS:∀j∈js,X.N.length<=j/\j<X.N.length+n)
  (hg:∀C s H ex,u0 (aI X scope C N' s H ex) tg js gf) (ht:∀C s H ex,y4 (aI X scope C N' s H ex) ifs ft) (he:∀C s H ex,PV (aI X scope C N' s H ex) elt fe)
  (hN:X.N.Nodup) (hy:X.N[i]?=some y) (hx:Loc X.env.scope y) (HW:swapsWith (.ListComp elt [⟨tg,VE,ifs,0⟩] scope pos) (some<|.Name y py) lV.line X.env=pure true)
  (hs:∀x,foldedSetIterable VE X.env x=pure x) (hf:X.fn=true\/X.env.scope.names.lookup y=some .local):gY X (.Assign [.Name y py] (.ListComp elt [⟨tg,VE,ifs,0⟩] scope pos) lV) (Zi (aC n it gf ft fe) λd=>Cj<|if own then BD i d else mY i d):=λs σ H ρ Q E I o=>by
 rw[exec_Assign_Name_used _ _ _ _ HW];refine bx<|QN<|bx ?_;show wpAny _ X.A (do let _ <-comprehension (.ListComp elt [⟨tg,VE,ifs,0⟩] scope pos) scope X.env _ (newList []) false (firstIter [⟨tg,VE,ifs,0⟩] X.env) (some<|assign (.Name y py) X.env)) _ _ s;refine bx<|P9 (mG (use:=some<|assign (.Name y py) X.env) (QQ:=λ_ s'=>Q .next s') n hc c hn hi xO vS hg ht he hs I o.Zi (λx r q=>q.x) λs5 H4 GQ d l C mm I4 l4 hD post Ce hC h0 h1 h2 h3=>?_) (λ_ s' hq=>Zx<|Zx hq) λ_ _ e=>e;exact vn own hN hy hx hf I4 l4 hD post Ce hC h0 h1 h2 h3
end
end WL
end
section
set_option linter.all false
set_option maxRecDepth 100000
namespace WL
open PySem PySem.Spec PyProof.Rows L2 VP
section
variable{X:Cx}{σ:Sg}{H:Tm}{ρ:ay}{s:Shared}{g:Gb}{tg:Expr}{it:Addr}{fp:xW}{ds:Y5}{tn:Nat->Heap->Prop}{P:Tm->Prop}
def oL(fp:xW)(h':Heap)(H:Tm):Tm:=λb=>if b∈fp then(h'.get? b).map .d7 else H b
def Tz(fp:xW)(tn:Nat->Heap->Prop)(P:Tm->Prop):Nat->Tm->Prop:=λi H=>(∀b∈fp,∃o,H b=some (.d7 o))/\(∃h,(∀b∈fp,∀o,H b=some (.d7 o)->h.get? b=some o)/\tn i h)/\P H
def Val(H:Tm)(s:Shared)(h':Heap)(u:Value)(d:D):Prop:=Rel H u d\/∃d1 d2 u1 u2,d=.tup [d1,d2]/\u=.ref s.heap.objs.size/\IsPair h' s.heap.objs.size u1 u2/\Rel H u1 d1/\Rel H u2 d2
structure Tv(fp:xW)(tn:Nat->Heap->Prop):Prop where
 keep:∀i h h',tn i h->(∀b∈fp,∀o,h.get? b=some o->h'.get? b=some o)->tn i h'
 obj:∀i h,tn i h->∀b∈fp,∃o,h.get? b=some o
theorem uc(L:Tv fp tn)(hP:∀H H',P H->j1 H H'->P H')
  (step:∀(X:Cx)(σ:Sg)(i:Nat)(H:Tm)(ρ:ay)(s:Shared)(d:D)(Q:YY)(E:YY),X.g=g->X.calm=true->Inv X σ H ρ s->tn i s.heap->P H->ds[i]?=some d->(∀h' tk u,tn (i+1) h'->(∀b o,b∉fp->s.heap.get? b=some o->h'.get? b=some o)->Val H s h' u d->Q u {s with heap:=h',toks:=tk})->wpAny X.M X.A (pyNext<|.ref it) (λr s1=>∃u,r=some u/\wpAny X.M X.A (letOwnedTupleGo tg (.ref it) u) (λ_ s2=>Q u s2) E s1) E s)
  (stop:∀(X:Cx)(σ:Sg)(H:Tm)(ρ:ay)(s:Shared)(Q:Shared->Prop)(E:YY),X.g=g->X.calm=true->Inv X σ H ρ s->tn ds.length s.heap->P H->(∀h' tk,(∀b o,b∉fp->s.heap.get? b=some o->h'.get? b=some o)->Q {s with heap:=h',toks:=tk})->wpAny X.M X.A (pyNext<|.ref it) (λr s1=>r=none/\Q s1) E s)
  (self:∀(A:Around)(s:Shared)(i:Nat)(Q:YY)(E:YY),tn i s.heap->Q (.ref it) s->wpAny (model g.prog g.w) A (pyIter<|.ref it) Q E s):sR g tg it fp ds (Tz fp tn P) where
 le:=λi H H' ⟨h1,⟨h,h2,h3⟩,h4⟩ l=>by have e:∀b∈fp,∀o,H b=some (.d7 o)->H' b=some (.d7 o):=λb hb o q=>l _ _ q trivial<|.inr hb;exact⟨λb hb=>let ⟨o,q⟩:=h1 b hb;⟨o,e b hb o q⟩,⟨h,λb hb o q=>(by obtain⟨o2,q2⟩:=h1 b hb;obtain rfl:=iij (e b hb o2 q2) q;exact h2 b hb _ q2),h3⟩,hP _ _ h4 l.p⟩
 item:=λX σ i H ρ s d Q E hg hc I h0 ⟨h1,⟨h,h2,h3⟩,h4⟩ hd k=>by
  have t:tn i s.heap:=L.keep i h _ h3 λb hb o e=>by obtain⟨o',q⟩:=h1 b hb;obtain rfl:=sj (h2 b hb o' q) e;exact I.aM b _ q
  refine step X σ i H ρ s d Q E hg hc I t h4 hd λh' tk u t' kp val=>?_;have MV:∀b∈fp,b<s.heap.objs.size:=λb hb=>let ⟨o,q⟩:=h1 b hb;I.aM.lt q;have rc:∀b∈fp,∃o,h'.get? b=some o:=L.obj _ _ t';have fin:∀H',(∀b,b∈fp->H' b=(h'.get? b).map .d7)->(∀b,b∉fp->b<s.heap.objs.size->H' b=H b)->(j1 H H'->∀b e,s.heap.objs.size<=b->H' b=some e->oA X.g H' h' b e/\∀d i,e≠.ow d i)->Rel H' u d->Q u {s with heap:=h',toks:=tk}:=λH' e1 e2 e3 r=>by
   obtain⟨I',l'⟩:=I.turn (t':=tk) (h':=h') (H':=H') (fp:=fp) (λb hb=>⟨h1 b hb,h0 b hb⟩) kp e2 λlp b e hb q=>by
    by_cases z:b∈fp
    ·rw[e1 b z] at q;obtain⟨o,w⟩:=rc b z;rw[w] at q;cases q;exact⟨w,λ_ _ z=>(nomatch z),λ_=>⟨_,rfl⟩⟩
    ·rcases hb with hb|hb
     ·exact absurd hb z
     ·obtain⟨w1,w2⟩:=e3 lp b e hb q;exact⟨w1,w2,λy=>absurd y z⟩
   have lp:j1 H H':=λa o d q=>(e2 a (λz=>by obtain⟨o',y⟩:=h1 a z;exact ek q y)<|I.aM.lt q).trans q;refine k _ H' u I' l' r ⟨λb hb=>let ⟨o,w⟩:=rc b hb;⟨o,by rw[e1 b hb,w];rfl⟩,⟨h',λb hb o q=>?_,t'⟩,hP _ _ h4 lp⟩;obtain⟨o',w⟩:=rc b hb;rw[e1 b hb,w] at q;cases q;exact w
  rcases val with r|⟨d1,d2,u1,u2,rfl,rfl,pr,r1,r2⟩
  ·refine fin (oL fp h' H) (λb hb=>Zh hb) (λb hb _=>Y4 hb) (λ_ b e hb q=>?_) (r.p λa o d q=>?_)
   ·unfold oL at q;rw[Y4 λz=>absurd (MV b z)<|Nat.not_lt.mpr hb,I.aM.fresh hb] at q;cases q
   ·exact(Y4 λz=>by obtain⟨o',y⟩:=h1 a z;exact ek q y).trans q
  ·have ns:s.heap.objs.size∉fp:=λz=>Fw _<|MV _ z;refine fin (upd (oL fp h' H) s.heap.objs.size<|.pin {cls:=.type "tuple",data:=.seq #[u1,u2]}<|some<|.tup [d1,d2]) (λb hb=>(aD λ(z:b=s.heap.objs.size)=>ns (by rw[<-z];exact hb)).trans<|Zh hb) (λb hb dQ=>(aD<|Rb dQ).trans<|Y4 hb) (λlp b e hb q=>?_) ⟨_,_,rfl,az⟩;by_cases z:b=s.heap.objs.size
   ·subst z;obtain rfl:=sj az q;exact⟨⟨pr,λe z=>by cases z;exact⟨rfl,by show 2<=sizeLine;decide,[u1,u2],.cons (r1.p lp)<|.cons (r2.p lp) .nil,_,pr,rfl,⟨_,rfl⟩,rfl⟩⟩,λ_ _ z=>nomatch z⟩
   ·rw[aD z] at q;unfold oL at q;rw[Y4 λz=>absurd (MV b z)<|Nat.not_lt.mpr hb,I.aM.fresh hb] at q;cases q
 done:=λX σ H ρ s Q E hg hc I h0 ⟨h1,⟨h,h2,h3⟩,h4⟩ k=>by
  have t:tn ds.length s.heap:=L.keep _ h _ h3 λb hb o e=>by obtain⟨o',q⟩:=h1 b hb;obtain rfl:=sj (h2 b hb o' q) e;exact I.aM b _ q
  refine stop X σ H ρ s Q E hg hc I t h4 λh' tk kp=>?_;obtain⟨I',l'⟩:=I.turn (t':=tk) (h':=h') (H':=cC H fp) (fp:=fp) (λb hb=>⟨h1 b hb,h0 b hb⟩) kp (λb hb _=>Y4 hb) λlp b e hb q=>by
   by_cases z:b∈fp
   ·unfold cC at q;exact en (Zh z) q
   ·rcases hb with hb|hb
    ·exact absurd hb z
    ·unfold cC at q;rw[Y4 z,I.aM.fresh hb] at q;cases q
  exact k _ _ I' l'
 self:=λA s i H Q E aM ⟨h1,⟨h,h2,h3⟩,h4⟩ hq=>self A s i Q E (L.keep i h _ h3 λb hb o e=>by obtain⟨o',q⟩:=h1 b hb;obtain rfl:=sj (h2 b hb o' q) e;exact aM b _ q) hq
theorem ue{H0:Tm}{h':Heap}{tk:Nat}(L:Tv fp tn)(hP:∀H H',P H->j1 H H'->P H')(I:Inv X σ H ρ s)(l0:Le H0 H)(k:∀b o,s.heap.get? b=some o->h'.get? b=some o)(hf:∀b∈fp,s.heap.objs.size<=b)(t:tn 0 h')(p:P H) : ∃H',Inv X σ H' ρ {s with heap:=h',toks:=tk}/\Le H H'/\Tz fp tn P 0 H'/\∀b∈fp,(∃o,H' b=some (.d7 o))/\(∀e,H0 b=some e->¬e.fast)/\X.H₀ b=none:=by
 have rc:=L.obj _ _ t;have hn:∀b∈fp,H b=none:=λb hb=>I.aM.fresh<|hf b hb;have e1:∀b,b∈fp->oL fp h' H b=(h'.get? b).map .d7:=λb hb=>Zh hb;have e2:∀b,b∉fp->oL fp h' H b=H b:=λb hb=>Y4 hb;have l:Le H (oL fp h' H):=λa e q f=>(e2 a λz=>by exact en (hn a z) q).trans q;refine⟨oL fp h' H,I.gen (·∈fp) (λb hb=>.inl<|hf b hb) e2 (λb o _=>k b o) (λlp b e hb q=>?_) rfl (λl' d i q hi=>?_) (λlp i t h=>⟨t,h,λv z=>z.mv lp λp d q=>(e2 p λz=>by exact ek (hn p z) q).trans q⟩) (λb e o hb q z=>by exact ek (hn b hb) z),l,⟨λb hb=>let ⟨o,w⟩:=rc b hb;⟨o,by rw[e1 b hb,w];rfl⟩,⟨h',λb hb o q=>?_,t⟩,hP _ _ p l.p⟩,λb hb=>⟨let ⟨o,w⟩:=rc b hb;⟨o,by rw[e1 b hb,w];rfl⟩,I.Ca l0<|hf b hb⟩⟩;obtain⟨o,w⟩:=rc b hb;rw[e1 b hb,w] at q;cases q;exact w;have ne:∀{l d},oL fp h' H l=some (.ow d i)->l∉fp:=λ{l d} q z=>by obtain⟨o,w⟩:=rc l z;rw[e1 l z,w] at q;cases q
 obtain⟨z1,z2⟩:=I.tg l' d i ((e2 l'<|ne q).symm.trans q) hi;exact⟨z1,λl2 d2 q2=>z2 l2 d2<|(e2 l2<|ne q2).symm.trans q2⟩;obtain⟨o',w⟩:=rc b hb;rw[e1 b hb,w] at q;cases q;exact w
end
section
variable{X:Cx}{a b e:Expr}{fa fe:M D}{tg:Expr}{p pos:Pos}{σ:Sg}{H:Tm}{ρ:ay}{s:Shared}{ds:Y5}{q it:Addr}{t:Bool}
def Pq(t:Bool)(it q:Addr)(n:Nat):Nat->Heap->Prop:=λi h=>i<=n/\VS.nN t it q ((n:Int)-1-i) h
theorem Wz{n:Nat}:Tv [it] (Pq t it q n):=⟨λi h h' st k=>⟨st.1,st.2.at λo e=>k it T2 o e⟩,λi h st b hb=>by cases List.mem_singleton.mp hb;obtain⟨o,_,_,e,_⟩:=st.2.obj;exact⟨o,e⟩⟩
theorem P6(g:Gb):sR g tg it [it] ds.reverse (Tz [it] (Pq t it q ds.length) λH=>Rel H (.ref q)<|jt t ds):=
 uc Wz (λH H' r l=>r.p l) (λX σ i H ρ s d Q E hg hc I st r hd k=>by
  subst hg;obtain⟨q',us,e,rs,sq,hz⟩:=I.seq t<|.inl r;cases e;have hi:i<ds.length:=by simpa using (List.getElem?_eq_some_iff.mp hd).1
  rw[JH hi] at hd;obtain⟨u,hu,ru⟩:=rs.get hd;have e1:(ds.length:Int)-1-(i:Int)=((ds.length-1-i:Nat):Int):=WR;have e2:((ds.length-1-i:Nat):Int)-1=(ds.length:Int)-1-((i+1:Nat):Int):=WR;have qL:=st.2;rw[e1] at qL;have fin:∀h' tk,VS.nN t it q (((ds.length-1-i:Nat):Int)-1) h'->Heap.SameBut it s.heap h'->wpAny X.M X.A (letOwnedTupleGo tg (.ref it) u) (λ_ s2=>Q u s2) E {s with heap:=h',toks:=tk}:=λh' tk qV sb=>by rw[e2] at qV;obtain⟨o,nm,vs,e,c,d,nc⟩:=qV.obj;exact zW (s:={s with heap:=h',toks:=tk}) e c d nc (k h' tk u ⟨hi,qV⟩ (λb o hb e=>(sb.2 b λz=>hb (by simp[z])).trans e)<|.inl ru)
  cases t with|false=>exact wpAny_pyNext_rev_item qL sq (x:=u) (by simpa using hu) λh' qV sb=>⟨u,rfl,fin h' s.toks qV sb⟩|true=>exact VS.RV.next_item qL sq (x:=u) (by simpa using hu) (by rw[Fj,rs.length];exact hz) λh' tk qV sb=>⟨u,rfl,fin h' tk qV sb⟩)
 (λX σ H ρ s Q E hg hc I st r k=>by subst hg;have qL:=st.2;rw[List.length_reverse,show (ds.length:Int)-1-(ds.length:Int)=-1 by lia] at qL;have kp:∀h',Heap.ExtBut it s.heap h'->∀b o,b∉[it]->s.heap.get? b=some o->h'.get? b=some o:=λh' eb b o hb e=>eb b o (λz=>hb (by simp[z])) e;cases t with|false=>exact wpAny_pyNext_rev_end (I.ok.hd hc) qL λh' eb=>⟨rfl,k h' s.toks<|kp h' eb⟩|true=>exact VS.RV.next_end (I.ok.hd hc) qL λh' eb=>⟨rfl,k h' s.toks<|kp h' eb⟩)
 λA s i Q E st h=>by cases t with|false=>exact wpAny_pyIter_revIter st.2 h|true=>exact VS.RV.mT st.2 h
theorem S4(hg:Gl X "reversed")(hm:X.g.mg "reversed" = none)(ha:PV X a fa)(hs:starEach [a] X.env=[(false,eval a X.env)]:=by rfl):qW X tg (.Call (.Name "reversed" p) [a] [] pos) (EV fa):=λs σ H ρ Q E I o=>by
 refine bc (id:="reversed") true I hg hm boot_reversed ?_ (by decide) (by decide) hs rfl;rw[hs];refine S8<|ha.Zi I o (λ_ _ q=>q) λs1 H1 aS v d1 I1 l1 r1 o1=>Sr ?_;obtain⟨es,e,k⟩:=o1.opt;cases e1:b9 d1 with
 |none=>rw[e1] at e;cases e|some ds=>
  rw[e1] at e;cases e;obtain⟨t,rfl⟩:=df e1;obtain⟨q,us,rfl,rs,sq,hz⟩:=I1.seq t<|.inl r1;have hl:us.toArray.size=ds.length:=by rw[Fj,rs.length]
  have fin:∀h' tk,(∀b o,s1.heap.get? b=some o->h'.get? b=some o)->VS.nN t s1.heap.objs.size q ((ds.length:Int)-1) h'->Q (.ref s1.heap.objs.size) {s1 with heap:=h',toks:=tk}:=λh' tk kp ri=>by obtain⟨H2,I2,l2,qL,f2⟩:=ue (tk:=tk) (Wz (t:=t) (it:=s1.heap.objs.size) (q:=q) (n:=ds.length)) (P:=λH=>Rel H (.ref q)<|jt t ds) (λH H' r l=>r.p l) I1 l1 kp (λb hb=>by cases List.mem_singleton.mp hb;exact TC _) ⟨Hr _,by simpa using ri⟩ r1;exact k _ H2 _ _ _ I2 (l1.trans l2) (P6 X.g) qL f2
  cases t with|false=>refine call_reversed_list sq ?_;rw[hl];have ri:Heap.IsRevIter (s1.heap.push<|revObj q<|(ds.length:Int)-1) s1.heap.objs.size q ((ds.length:Int)-1):=⟨_,Zv _ rfl,rfl,rfl⟩;exact wpAny_pyIter_revIter (s:={s1 with heap:=_}) ri (fin _ s1.toks (λb o e=>Wm _ e) ri)|true=>refine VS.RV.make sq (by rw[hl];exact hz) λtk=>?_;rw[hl];have ri:VS.RV.Is (s1.heap.push<|VS.RV.obj q<|(ds.length:Int)-1) s1.heap.objs.size q ((ds.length:Int)-1):=⟨_,Zv _ rfl,rfl,rfl⟩;exact VS.RV.mT (s:={s1 with heap:=_,toks:=tk}) ri (fin _ tk (λb o e=>Wm _ e) ri)
end
end WL
end
section
set_option linter.all false
set_option maxRecDepth 100000
namespace WL
open PySem PySem.Spec PyProof.Rows L2 VP
section
variable{X:Cx}{a b e:Expr}{fa fe:M D}{es:WK}{k:Nat}{JX p pos:Pos}{σ:Sg}{H:Tm}{ρ:ay}{s:Shared}{TJ TK ds:Y5}{q it:Addr}{t t1 t2:Bool}{z TI TO i1 i2 p1 p2:Addr}
theorem iU.v(x:iU t h q us):VS.iU t h q us:=by cases t<;>exact x
def IL(z TI TO i1 i2:Addr)(t1 t2:Bool)(p1 p2:Addr):Nat->Heap->Prop:=λi h=>IsZip h z TI TO .none/\IsPair h TI (.ref i1) (.ref i2)/\(∃a c,IsPair h TO a c)/\VS.cZ t1 i1 p1 i h/\VS.cZ t2 i2 p2 i h
theorem WA:Tv [z,TI,TO,i1,i2] (IL z TI TO i1 i2 t1 t2 p1 p2):=⟨λi h h' ⟨hz,zX,⟨a,c,Bq⟩,h1,h2⟩ kk=>⟨kk z T2 _ hz,kk TI T2 _ zX,⟨a,c,kk TO T2 _ Bq⟩,h1.at λo e=>kk i1 T2 o e,h2.at λo e=>kk i2 T2 o e⟩,λi h ⟨hz,zX,⟨a,c,Bq⟩,h1,h2⟩ b hb=>by simp only[List.mem_cons,List.not_mem_nil,or_false] at hb;rcases hb with rfl|rfl|rfl|rfl|rfl;exact⟨_,hz⟩;exact⟨_,zX⟩;exact⟨_,Bq⟩;exact let ⟨o,e,_⟩:=h1.obj;⟨o,e⟩;exact let ⟨o,e,_⟩:=h2.obj;⟨o,e⟩⟩
theorem bi2(g:Gb)(D:VS.sY z TI TO i1 i2 [i1,p1] [i2,p2])(n1:p1≠i1)(n2:p2≠i2):sR g (.Tuple es k JX) z [z,TI,TO,i1,i2] (List.zipWith (λx y=>VP.D.tup [x,y]) TJ TK) (Tz [z,TI,TO,i1,i2] (IL z TI TO i1 i2 t1 t2 p1 p2) λH=>Rel H (.ref p1) (jt t1 TJ)/\Rel H (.ref p2) (jt t2 TK)):=
 uc WA (λH H' r l=>⟨r.1.p l,r.2.p l⟩) (λX σ i H ρ s d Q E hg hc I st r hd kq=>by
  subst hg;obtain⟨hz,zX,⟨a,c,Bq⟩,h1,h2⟩:=st;obtain⟨_,OL,e,Zs,Ua,_⟩:=I.seq t1<|.inl r.1;cases e;obtain⟨_,S0,e,Zt,Ub,_⟩:=I.seq t2<|.inl r.2;cases e;rw[List.getElem?_zipWith] at hd;cases e1:TJ[i]? with
  |none=>rw[e1] at hd;cases hd|some d1=>
   cases e2:TK[i]? with
   |none=>rw[e1,e2] at hd;cases hd|some d2=>
    rw[e1,e2] at hd;cases hd;obtain⟨u,hu,ru⟩:=Zs.get e1;obtain⟨v,hv,rv⟩:=Zt.get e2;have hh:X.A.handled=none:=I.ok.hd hc;have hT:s.TypeIs (.ref z) "zip" := ⟨_,hz,rfl⟩;unfold pyNext;have Np:i<OL.toArray.size:=by have:=(List.getElem?_eq_some_iff.mp hu).1;simpa using this
    have Qk:i<S0.toArray.size:=by have:=(List.getElem?_eq_some_iff.mp hv).1;simpa using this
    refine bx<|J6<|Bs (name:=Str.ofString "__next__") hT GJ<|XA GJ hT PySem.F.entry_zip_next (VS.B9 (VS.jD (by exact hh) t1 i1 p1 n1 OL.toArray) (VS.jD (by exact hh) t2 i2 p2 n2 S0.toArray) D hz zX Bq ⟨h1,Ua.v⟩ ⟨h2,Ub.v⟩ Np Qk λx' y' h' tk px py z1 o1 w1 w2 pr kp=>Zx ?_)<|PySem.F.args_zip_next_1 _;have ex:x'=u:=by
     have:OL.toArray[i]?=some u:=by simpa using hu
     rw[this] at px;exact(JY px).symm
    have ey:y'=v:=by
     have:S0.toArray[i]?=some v:=by simpa using hv
     rw[this] at py;exact(JY py).symm
    subst ex ey;refine⟨_,rfl,wpAny_letOwnedTupleGo_zip z1 λHL z2 sb=>?_⟩;replace sb:Heap.SameBut z h' HL:=sb;have SO:z≠s.heap.objs.size:=Rb<|Hz hz;refine kq HL tk _ ⟨z2,sb.extBut _ _ D.TIz (kp _ _ D.TIz D.TITO D.TIi1 D.TIi2 zX),⟨_,_,sb.extBut _ _ D.TOz o1⟩,w1.1.at λo e=>sb.extBut _ o D.i1z e,w2.1.at λo e=>sb.extBut _ o D.i2z e⟩ (λc o uV e=>?_)<|.inr ⟨d1,d2,_,_,rfl,rfl,sb.extBut _ _ (JL SO) pr,ru,rv⟩;simp only[List.mem_cons,List.not_mem_nil,or_false,not_or] at uV;exact sb.extBut c o uV.1<|kp c o uV.1 uV.2.2.1 uV.2.2.2.1 uV.2.2.2.2 e)
 (λX σ H ρ s Q E hg hc I st r kq=>by
  subst hg;obtain⟨hz,zX,⟨a,c,Bq⟩,h1,h2⟩:=st;obtain⟨_,OL,e,Zs,Ua,_⟩:=I.seq t1<|.inl r.1;cases e;obtain⟨_,S0,e,Zt,Ub,_⟩:=I.seq t2<|.inl r.2;cases e;have l1:=Zs.length;have l2:=Zt.length;have hh:X.A.handled=none:=I.ok.hd hc;have hT:s.TypeIs (.ref z) "zip" := ⟨_,hz,rfl⟩;have he:(List.zipWith (λx y=>VP.D.tup [x,y]) TJ TK).length=OL.toArray.size\/((List.zipWith (λx y=>VP.D.tup [x,y]) TJ TK).length<OL.toArray.size/\(List.zipWith (λx y=>VP.D.tup [x,y]) TJ TK).length=S0.toArray.size):=by simp;lia
  unfold pyNext;refine bx<|J6<|Bs (name:=Str.ofString "__next__") hT GJ<|XA GJ hT PySem.F.entry_zip_next (VS.Q1p (m:=0) (by exact hh) (VS.jD (by exact hh) t1 i1 p1 n1 OL.toArray) (VS.jD (by exact hh) t2 i2 p2 n2 S0.toArray) D hz zX Bq ⟨h1,Ua.v⟩ ⟨h2,Ub.v⟩ he λh' e tk hk he=>?_)<|PySem.F.args_zip_next_1 _;obtain⟨o,ho,uV⟩:=he;refine bx<|Qs (T:="StopIteration") (b:=true) ⟨o,ho,uV⟩ isSubtype_stop ?_;refine Zx ⟨rfl,kq h' tk λc o vQ e=>?_⟩;simp only[List.mem_cons,List.not_mem_nil,or_false,not_or] at vQ;exact hk c o vQ.1 vQ.2.2.1 vQ.2.2.2.1 vQ.2.2.2.2 e)
 λA s i Q E ⟨hz,_⟩ h=>wpAny_pyIter_zip hz h
theorem yV{fl:List (M D)}(hg:Gl X "zip")(hm:X.g.mg "zip" = none)(ha:uY X [a,b] (mL fl))(hs:starEach [a,b] X.env=[(false,eval a X.env),(false,eval b X.env)]:=by rfl)(kT:starEach [b] X.env=[(false,eval b X.env)]:=by rfl) : qW X (.Tuple es k JX) (.Call (.Name "zip" p) [a,b] [] pos) (ui fl):=λs σ H ρ Q E I o=>by
 refine bc (id:="zip") true I hg hm boot_zip ?_ (by decide) (by decide) (hs.trans<|congrArg (_::·) kT.symm)<|(congrArg (λl=>(backTo pos l).any (·.1)) kT).trans rfl;refine(ha pos).Zi I o (λ_ _ q=>q) λs1 H1 aS us ds I1 l1 r1 o1=>?_;obtain⟨MM,e,kq⟩:=o1.opt;unfold nJ at e;split at e;rename_i c d;cases e1:b9 c with
  |none=>rw[e1] at e;cases e|some cs=>
   cases e2:b9 d with
   |none=>rw[e1,e2] at e;cases e|some Pk=>
    rw[e1,e2] at e;cases e;obtain⟨u1,u2,rfl,ra,rb⟩:=r1.two;obtain⟨t1,rfl⟩:=df e1;obtain⟨t2,rfl⟩:=df e2;obtain⟨p1,OL,rfl,Zs,Ua,_⟩:=I1.seq t1<|.inl ra;obtain⟨p2,S0,rfl,Zt,Ub,_⟩:=I1.seq t2<|.inl rb;have lt:∀{t:Bool}{q:Addr}{aY:Array Value},iU t s1.heap q aY->q<s1.heap.objs.size:=λ{t q aY} z=>by cases t;obtain⟨o,e,_⟩:=(show Heap.IsList _ _ _ from z);exact Hz e;obtain⟨o,e,_⟩:=(show Heap.IsTuple _ _ _ from z);exact Hz e
    have Np:=lt Ua;have Qk:=lt Ub;refine VS.Q18 Ua.v Ub.v λh' hz zX Bq hi1 TQ hk=>wpAny_pyIter_zip hz ?_;have ne:∀{q:Addr}(j:Nat),q<s1.heap.objs.size->q≠s1.heap.objs.size+j:=λ{q} j hq=>Rb<|Sq hq<|Nat.le_add_right _ _;have D:VS.sY (s1.heap.objs.size+4) (s1.heap.objs.size+2) (s1.heap.objs.size+3) s1.heap.objs.size (s1.heap.objs.size+1) [s1.heap.objs.size,p1] [s1.heap.objs.size+1,p2]:=by have a1:=ne 4 Np;have a2:=ne 3 Np;have a3:=ne 1 Np;have b1:=ne 4 Qk;have b2:=ne 3 Qk;have b3:=ne 0 Qk;refine⟨T2,T2,T2,T2,T2,T2,T2,T2,T2,T2,?_,?_,?_,?_,?_,?_⟩;simp[Ne.symm a1];simp[Ne.symm b1];simp[Ne.symm a2];simp[Ne.symm b2];simp;exact JL b3;simp[Ne.symm a3]
    obtain⟨H2,I2,l2,qL,f2⟩:=ue (tk:=s1.toks) (WA (z:=s1.heap.objs.size+4) (TI:=s1.heap.objs.size+2) (TO:=s1.heap.objs.size+3) (i1:=s1.heap.objs.size) (i2:=s1.heap.objs.size+1) (t1:=t1) (t2:=t2) (p1:=p1) (p2:=p2)) (P:=λH=>Rel H (.ref p1) (jt t1 cs)/\Rel H (.ref p2) (jt t2 Pk)) (λH H' r l=>⟨r.1.p l,r.2.p l⟩) I1 l1 hk (λb hb=>by simp only[List.mem_cons,List.not_mem_nil,or_false] at hb;rcases hb with rfl|rfl|rfl|rfl|rfl<;>lia) ⟨hz,zX,⟨_,_,Bq⟩,hi1,TQ⟩ ⟨ra,rb⟩;exact kq _ H2 _ _ _ I2 (l1.trans l2) (bi2 X.g D (ne 0 Np)<|ne 1 Qk) qL f2
 cases e
def Bx(e it p:Addr):Nat->Heap->Prop:=λi h=>(∃old,IsEnum h e it i old)/\h.IsListIter it p i
theorem Wx{e it p:Addr}:Tv [e,it] (Bx e it p):=⟨λi h h' ⟨⟨old,he⟩,hi⟩ kk=>⟨⟨old,kk e T2 _ he⟩,hi.at λo q=>kk it T2 o q⟩,λi h ⟨⟨old,he⟩,o,hi,_⟩ b hb=>by simp only[List.mem_cons,List.not_mem_nil,or_false] at hb;rcases hb with rfl|rfl;exact⟨_,he⟩;exact⟨_,hi⟩⟩
theorem Ig(g:Gb){e it p:Addr}(n1:p≠it)(n2:e≠it)(n3:e≠p):sR g (.Tuple es k JX) e [e,it] (iE ds) (Tz [e,it] (Bx e it p) λH=>Rel H (.ref p)<|.lst ds):=
 uc Wx (λH H' r l=>r.p l) (λX σ i H ρ s d Q E hg hc I st r hd kq=>by
  subst hg;obtain⟨⟨old,he⟩,hi⟩:=st;obtain⟨_,us,ee,rs,pl,_⟩:=I.lst<|.inl r;cases ee;unfold iE at hd;rw[List.getElem?_zipWith] at hd;cases e1:ds[i]? with
  |none=>rw[e1] at hd;cases e2:(List.range ds.length)[i]?<;>rw[e2] at hd<;>cases hd|some d1=>
   rw[e1,Il (List.getElem?_eq_some_iff.mp e1).1] at hd;cases hd;obtain⟨u,hu,ru⟩:=rs.get e1;have hh:X.A.handled=none:=I.ok.hd hc;have Np:i<us.toArray.size:=by have:=(List.getElem?_eq_some_iff.mp hu).1;simpa using this
   refine wpAny_pyNext_enum_itemD (Draws.list (by exact hh) it p n1 us.toArray) he ⟨hi,pl.isList⟩ Np n2 (by simp[n2,n3]) λx' h' tk px ho qV pr hsz kp=>?_;have ex:x'=u:=by
    have:us.toArray[i]?=some u:=by simpa using hu
    rw[this] at px;exact(JY px).symm
   subst ex;refine⟨_,rfl,wpAny_letOwnedTupleGo_enum ho λHL z2 sb=>?_⟩;replace sb:Heap.SameBut e h' HL:=sb;have SO:e≠s.heap.objs.size:=Rb<|Hz he;refine kq HL (tk+1) _ ⟨⟨_,by simpa using z2⟩,qV.1.at λo q=>sb.extBut _ o (JL n2) q⟩ (λc o uV q=>?_)<|.inr ⟨.int i,d1,_,_,rfl,rfl,sb.extBut _ _ (JL SO) pr,⟨_,rfl⟩,ru⟩;simp only[List.mem_cons,List.not_mem_nil,or_false,not_or] at uV;exact sb.extBut c o uV.1<|kp c o uV.1 uV.2 q)
 (λX σ H ρ s Q E hg hc I st r kq=>by
  subst hg;obtain⟨⟨old,he⟩,hi⟩:=st;obtain⟨_,us,ee,rs,pl,_⟩:=I.lst<|.inl r;cases ee;have hh:X.A.handled=none:=I.ok.hd hc;have ee:(iE ds).length=us.toArray.size:=by simp[iE,rs.length]
  rw[ee] at he hi;refine wpAny_pyNext_enum_endD (Draws.list (by exact hh) it p n1 us.toArray) he ⟨hi,pl.isList⟩ λh' hk=>⟨rfl,kq h' s.toks λc o vQ q=>?_⟩;simp only[List.mem_cons,List.not_mem_nil,or_false,not_or] at vQ;exact hk c o vQ.2 q)
 λA s i Q E st h=>by obtain⟨⟨old,he⟩,_⟩:=st;exact wpAny_pyIter_enum he h
theorem uP{fl:List (M D)}(hg:Gl X "enumerate")(hm:X.g.mg "enumerate" = none)(ha:uY X [a] (mL fl))(hs:starEach [a] X.env=[(false,eval a X.env)]:=by rfl) : qW X (.Tuple es k JX) (.Call (.Name "enumerate" p) [a] [] pos) (qp fl):=λs σ H ρ Q E I o=>by
 refine bc (id:="enumerate") true I hg hm VS.boot_enumerate ?_ (by decide) (by decide) hs rfl;refine(ha pos).Zi I o (λ_ _ q=>q) λs1 H1 aS us ds I1 l1 r1 o1=>?_;obtain⟨MM,e,kq⟩:=o1.opt;unfold gK at e;split at e;rename_i xs;cases e;obtain⟨u,rfl,ra⟩:=r1.one;obtain⟨q,aY,rfl,rs,pl,_⟩:=I1.lst<|.inl ra;obtain⟨⟨c0,d0,dt0,sl0⟩,n,hq,hc0,hd0,VX⟩:=pl;simp only at hc0 hd0 VX;subst hc0 hd0 VX;have lt:q<s1.heap.objs.size:=Hz hq;refine callType_new PySem.F.called_enumerate (by decide) (PySem.F.typeCall_enumerate_1 _) (PySem.F.newCall_enumerate_1 _) (λobj=>yC obj _) PySem.F.entry_enumerate_new (VS.Q1a q aY.toArray n sl0) ⟨hq,⟨_,Zv _ rfl,rfl⟩,?_⟩;have sz:(s1.heap.push {cls:=.type "list_iterator",data:=.fields #[.ref q,.int 0 0]}).objs.size=s1.heap.objs.size+1:=rj ..;have he:IsEnum ((s1.heap.push {cls:=.type "list_iterator",data:=.fields #[.ref q,.int 0 0]}).push {cls:=.type "enumerate",data:=.fields #[.none,.bool false,.ref s1.heap.objs.size,rawInt 0,.none,.none]}) (s1.heap.objs.size+1) s1.heap.objs.size 0 .none:=by rw[<-sz];exact Zv _ rfl
 rw[sz];refine wpAny_pyIter_enum he ?_;obtain⟨H2,I2,l2,qL,f2⟩:=ue (tk:=s1.toks) (Wx (e:=s1.heap.objs.size+1) (it:=s1.heap.objs.size) (p:=q)) (P:=λH=>Rel H (.ref q)<|.lst xs) (λH H' r l=>r.p l) I1 l1 (λb o e=>Wm _<|Wm _ e) (λb hb=>by simp only[List.mem_cons,List.not_mem_nil,or_false] at hb;rcases hb with rfl|rfl<;>lia) ⟨⟨_,he⟩,⟨_,Wm _<|Zv _ rfl,rfl,rfl⟩⟩ ra;exact kq _ H2 _ _ _ I2 (l1.trans l2) (Ig X.g (Rb lt) T2<|yB<|Vf lt) qL f2;cases e
end
end WL
end
section
set_option linter.all false
set_option maxRecDepth 100000
namespace WL
open PySem PySem.Spec PyProof.Rows L2 VP
section
variable{H:Tm}{k:Key}{v:Value}{x d:D}
theorem B7{p:Key×Value}{vs:List (Key×Value)}(e:p.1=k):valueAt (p::vs) k=some p.2:=by unfold valueAt;rw[List.find?_cons_of_pos (by simpa using e)];rfl
theorem B6{p:Key×Value}{vs:List (Key×Value)}(e:¬p.1=k):valueAt (p::vs) k=valueAt vs k:=by unfold valueAt;rw[List.find?_cons_of_neg (by simpa using e)]
theorem zo:∀{vs:List (Key×Value)}{ds:Y5},aF H (vs.map (·.2)) ds->match TH (vs.map (·.1)) ds k with
 |some d=>∃v,valueAt vs k=some v/\Rel H v d|none=>valueAt vs k=none
|[],_,.nil=>rfl|p::vs,_,.cons h t=>by rw[BE,TH];by_cases c:p.1=k;rw[Zh c];exact⟨p.2,B7 c,h⟩;rw[Y4 c,B6 c];exact zo t
theorem yN{vs:List (Key×Value)}{p:Key×Value}(hn:¬k∈vs.map (·.1))(e:p.1=k):stored (p::vs) k v=(p.1,v)::vs:=by unfold stored;rw[Zh (by simp[e])];simp only[List.map_cons,if_pos e];congr 1;refine(List.map_congr_left λq hq=>?_).trans<|List.map_id vs;exact Y4 λ(z:q.1=k)=>hn (by rw[<-z];exact XB hq)
theorem yM{vs:List (Key×Value)}{p:Key×Value}(e:¬p.1=k):stored (p::vs) k v=p::stored vs k v:=by unfold stored;simp only[List.any_cons,Zq e,Bool.false_or];split;simp[e];rfl
theorem zt(hx:Rel H v x):∀{vs:List (Key×Value)}{ds:Y5},(vs.map (·.1)).Nodup->aF H (vs.map (·.2)) ds->(stored vs k v).map (·.1)=(Bl k x (vs.map (·.1)) ds).1/\aF H ((stored vs k v).map (·.2)) (Bl k x (vs.map (·.1)) ds).2/\(stored vs k v).length<=vs.length+1|[],_,_,.nil=>⟨rfl,.cons hx .nil,TC _⟩|p::vs,_,hn,.cons h t=>by have rg:=List.nodup_cons.mp hn;rw[BE,Bl];by_cases c:p.1=k;rw[Zh c,yN (c ▸ rg.1) c];exact⟨rfl,.cons hx t,Jd _⟩;rw[Y4 c,yM c];obtain⟨h1,h2,h3⟩:=zt hx rg.2 t;exact⟨by rw[BE,h1],.cons h h2,Nat.succ_le_succ h3⟩
end
section
variable{X:Cx}{e a b c value:Expr}{fa fb fe fk fv:M D}{pos p:Pos}{x:Str}{tg:Expr}{σ:Sg}{H:Tm}{ρ:ay}{s:Shared}{ks:List Key}{ds:Y5}{Q:YY}{E:YY}
theorem Inv.gp(I:Inv X σ H ρ s)(r:RW H s v (.gp ks ds)):∃a vs ep,v=.ref a/\ks.length<=sizeLine/\(a == sysModules)=false/\vs.map (·.1)=ks/\aF H (vs.map (·.2)) ds/\s.heap.DictAt (ie X.g.prog X.g.w) a vs ep:=let ⟨a,_,e,z,y,vs,ep,k,r,d⟩:=I.obj r rfl;⟨a,vs,ep,e,z,y,k,r,d⟩
theorem Ar(ha:PV X a fa)(hb:PV X b fb)(hs:Uu b:=by exact SX):PV X (.Subscript a b pos) (m2 Bk fa fb):=λs σ H ρ Q E I o=>
 JO PySem.F.slot_dict_getitem.lookup hs (ha.Zi I o (λ_ _ q=>q) λs1 H1 aS u d1 I1 l1 r1 o1=>hb.Zi I1 o1 (λ_ _ q=>q.le l1) λs2 H2 sN iv d2 I2 l2 r2 o2=>by
  obtain⟨d,e,q⟩:=o2.opt;cases d1 with
  |gp ks ds=>cases d2 with|int k=>obtain⟨l,vs,ep,rfl,z,hd,rfl,rr,dd⟩:=I2.gp<|.inl<|r1.le l2;have:=zo (k:=.inl k) rr;rw[show TH _ _ _=some d from e] at this;obtain⟨v,hv,rv⟩:=this;obtain⟨t,rfl⟩:=r2;exact⟨dd.dictOf.typeIs,wpAny_getItem_of (oi _ _ k t) dd.dictOf.mapOf hv<|q _ H2 v (I2.tok _) (l1.trans l2) rv⟩|_=>cases e
  |_=>cases e)
theorem Inv.big(I:Inv X σ H ρ s):sysModules<s.heap.objs.size:=by have h:mainGlobals<s.heap.objs.size:=(I.mod.glob.keeps I.bk).lt;exact Nat.lt_trans (by decide) h
theorem Q1O:PF X (.Dict [] [] pos) (mC<|.gp [] []):=λs σ H ρ Q E I o=>by
 have dd:(s.heap.push {cls:=.type "dict",data:=.dict #[]}).DictAt (ie X.g.prog X.g.w) s.heap.objs.size [] 0:=⟨_,_,Zv _ rfl,⟨rfl,rfl,rfl⟩,rfl,λ_ h=>(by simp at h),.nil,T2⟩;obtain⟨I',l'⟩:=I.lay (t':=s.toks) (h':=s.heap.push {cls:=.type "dict",data:=.dict #[]}) (a:=s.heap.objs.size) (e:=.ow (.gp [] []) X.N.length) (λb o e=>Wm _ e) (TC _) (λlp=>⟨⟨Hr _,beq_eq_false_iff_ne.mpr<|JL<|Rb I.big,[],0,rfl,.nil,dd⟩,λz=>nomatch z⟩) λd i z=>by cases z;exact TC _
 exact wpAny_Dict_empty (o _ _ _ I' l' ⟨_,rfl,az⟩)
theorem Pm:Hb X (bf true "dict") (RF X) De:=λs σ H ρ v a d Q E I r e k=>by
 cases a with
 |gp ks ds=>
  cases e;obtain⟨l,vs,ep,rfl,z,hd,rfl,rr,dd⟩:=I.gp r;refine kt_call_dict hd dd.dictOf (by simpa using z) λh' Y3 hs=>?_;obtain⟨Pe,da⟩:=Y3.dictAt;obtain⟨I',l'⟩:=I.lay (t':=s.toks) (h':=h') (a:=s.heap.objs.size) (e:=.ow (.gp (vs.map (·.1)) ds) X.N.length) (λb o e=>(hs.2 b<|Rb<|Hz e).trans<|Wm _ e) (TC _) (λlp=>⟨⟨z,beq_eq_false_iff_ne.mpr<|JL<|Rb I.big,vs,Pe,rfl,rr.p lp,da⟩,λz=>nomatch z⟩) λd i z=>by cases z;exact TC _
  exact k _ _ _ I' l' ⟨_,rfl,az⟩
 |_=>cases e
theorem Ke(i:Nat){p1 p2:Pos}(hk:PV X b fk)(HX:PV X value fv)(hN:X.N[i]?=some x:=by rfl)(hv:pH X.env.scope x:=by exact BQ)(hd:RY x:=by decide)(jI:BG x:=by decide) (hs:swapsWith value (some<|.Subscript (.Name x p1) b p2) pos.line X.env=pure false:=by rfl):gY X (.Assign [.Subscript (.Name x p1) b p2] value pos) (AK i fk fv):=λs σ H ρ Q E I o=>
 wpAny_Assign_Subscript (HX.Zi I o (λ_ _ q=>q.x) λs1 H1 aS v d1 I1 l1 r1 o1=>by
  split at o1;rename_i ho;obtain⟨d0,ho⟩:=Option.isSome_iff_exists.mp ho;obtain⟨l,hu,hl⟩:=I1.ownAt hN hv ho;refine dF I1 hv hu (hk.Zi I1 o1 (λ_ _ q=>q.x.le l1) λs2 H2 sN iv d2 I2 l2 r2 o2=>?_) hd jI;obtain⟨d3,d4,q0,q1,kq⟩:=iy o2.Zi;obtain⟨l',z8,xc⟩:=I2.ownAt hN hv q0;rw[hu] at z8;cases z8;cases d3 with
  |gp ks ds=>cases d2 with|int k=>simp only[putD] at q1;split at q1;rename_i dQ;cases q1;obtain⟨t,rfl⟩:=r2;obtain⟨⟨z,PS,vs,ep,rfl,rr,dd⟩,_⟩:=I2.aM l _ xc;have Qk:=Le.ow (d':=.gp (Bl (.inl k) d1 (vs.map (·.1)) ds).1 (Bl (.inl k) d1 (vs.map (·.1)) ds).2) (j:=i) xc;refine wpAny_setItem_pairs (hsz:=by simpa using z) (oi _ _ k t) dd.dictOf λh' Y3 sb=>?_;obtain⟨Pe,da⟩:=Y3.dictAt;obtain⟨h1,h2,h3⟩:=zt (k:=.inl k) (r1.le l2) dd.nodup rr;have hq:∃o,h'.get? l=some o:=let ⟨o,_,e,_⟩:=da;⟨o,e⟩;obtain⟨I3,l3⟩:=I2.wr (t':=s2.toks+1) (h':=h') (d':=.gp (Bl (.inl k) d1 (vs.map (·.1)) ds).1 (Bl (.inl k) d1 (vs.map (·.1)) ds).2) xc (.inl rfl) (λb q hb z=>(sb.2 b hb).trans z) hq (λlp=>⟨by rw[<-h1,SS];have:(vs.map (·.1)).length<1000:=dQ;rw[SS] at this;exact HJ h3<|HJ this (by decide),PS,_,Pe,h1,h2.p lp,da⟩) λz=>nomatch z;exact kq _ _ _ _ I3 ((l1.trans l2).trans l3) rfl;cases q1|_=>simp only[putD,reduceCtorEq] at q1
  |_=>simp only[putD,reduceCtorEq] at q1
  exact o1.elim) hs
theorem Wy{it q:Addr}{n ep:Nat}:Tv [it] (λi h=>h.IsKeyIter it q i n ep):=⟨λi h h' st k=>st.at λo e=>k it T2 o e,λi h st b hb=>by cases List.mem_singleton.mp hb;exact let ⟨o,e,_⟩:=st;⟨o,e⟩⟩
theorem Io{k:Key}{u:Value}(h:(ie P w).is k u=true):Rel H u (EA k):=by
 rcases bj (k:=k) (v:=u) h with ⟨i,t,rfl,rfl⟩|⟨x,t,rfl,rfl⟩
 exact⟨t,rfl⟩;exact⟨t,rfl⟩
theorem bi3(g:Gb){it q:Addr}{ep:Nat}:sR g tg it [it] (ks.map EA) (Tz [it] (λi h=>h.IsKeyIter it q i ks.length ep) λH=>∃o,H q=some (.pin o<|some<|.gp ks ds)/\∃(es:Array DictEntry),o.data=.dict es ep):=
 uc Wy (λH H' ⟨o,r,es⟩ l=>⟨o,l _ _ _ r,es⟩) (λX σ i H ρ s d Q E hg hc I st r hd kq=>by
  subst hg;obtain⟨o,hq,es,PA⟩:=r;obtain⟨ho,Wc⟩:=I.aM q _ hq;obtain⟨z,PS,vs,Pe,rfl,rr,dd⟩:=Wc _ rfl;have hl:(vs.map (·.1)).length=vs.length:=T2;have eep:Pe=ep:=by obtain⟨o',Pk,e1,e2,e3,_⟩:=dd;rw[ho] at e1;cases e1;rw[PA] at e3;injection e3 with _ e3;exact e3.symm
  subst eep;rw[FC] at hd;cases ek:(vs.map (·.1))[i]? with|none=>rw[ek] at hd;cases hd|some kk=>rw[ek] at hd;cases hd;rw[FC] at ek;cases ev:vs[i]? with|none=>rw[ev] at ek;cases ek|some p=>rw[ev] at ek;cases ek;rw[hl] at st;refine wpAny_pyNext_dict_item st dd (k:=p.1) (v:=p.2) ev λkey h' PG qV sb=>?_;obtain⟨o,e,c,d⟩:=id qV;rw[<-hl] at qV;exact⟨key,rfl,zW (s:={s with heap:=h'}) e c d (by decide)<|kq h' s.toks key qV (λb o hb e=>(sb.2 b λz=>hb (by simp[z])).trans e)<|.inl<|Io PG⟩)
 (λX σ H ρ s Q E hg hc I st r kq=>by
  subst hg;obtain⟨o,hq,es,PA⟩:=r;obtain⟨ho,Wc⟩:=I.aM q _ hq;obtain⟨z,PS,vs,Pe,rfl,rr,dd⟩:=Wc _ rfl;have eep:Pe=ep:=by obtain⟨o',Pk,e1,e2,e3,_⟩:=dd;rw[ho] at e1;cases e1;rw[PA] at e3;injection e3 with _ e3;exact e3.symm
  subst eep;have hl:((vs.map (·.1)).map EA).length=vs.length:=T2;rw[hl,SS] at st;exact wpAny_pyNext_dict_end (I.ok.hd hc) st dd T2 λh' eb=>⟨rfl,kq h' s.toks λb o hb e=>eb b o (λz=>hb (by simp[z])) e⟩)
 λA s i Q E st h=>wpAny_pyIter_keyiter st h
theorem J7(h:PV X e fe):qW X tg e (vZ fe):=λs σ H ρ Q E I o=>h.Zi I o (λ_ _ q=>q) λs1 H1 aS v d I1 l1 r1 o1=>by obtain⟨MM,ee,kq⟩:=o1.opt;cases d with|gp ks ds=>cases ee;obtain⟨q,oq,rfl,hq⟩:=r1;obtain⟨ho,Wc⟩:=I1.aM q _ hq;obtain⟨z,PS,vs,ep,rfl,rr,dd⟩:=Wc _ rfl;have hl:(vs.map (·.1)).length=vs.length:=T2;obtain⟨o',Pk,e1,e2,e3,_⟩:=id dd;rw[ho] at e1;cases e1;refine wpAny_pyIter_dict PS dd ?_;obtain⟨H2,I2,l2,qL,f2⟩:=ue (tk:=s1.toks) (h':=s1.heap.push {cls:=.type "dict_keyiterator",data:=.fields #[.ref q,.int 0 0,.int vs.length 0,.int ep 0]}) (Wy (it:=s1.heap.objs.size) (q:=q) (n:=(vs.map (·.1)).length) (ep:=ep)) (P:=λH=>∃o,H q=some (.pin o<|some<|.gp (vs.map (·.1)) ds)/\∃(es:Array DictEntry),o.data=.dict es ep) (λH H' ⟨o,r,es⟩ l=>⟨o,l _ _ _ r,es⟩) I1 l1 (λb o e=>Wm _ e) (λb hb=>by cases List.mem_singleton.mp hb;exact TC _) ⟨_,Zv _ rfl,rfl,by rw[hl];rfl⟩ ⟨oq,hq,Pk,e3⟩;exact kq _ H2 _ _ _ I2 (l1.trans l2) (bi3 X.g) qL f2|_=>cases ee
theorem Ib{ws:Zg}{ns:Zw}(h:IntsAre ws ns)(j:Nat)(w)(e:ws[j]?=some w):∃t,w=Value.int (ns.getD j 0) t:=by induction h generalizing j with|nil=>cases e|cons n t hr ih=>cases j with|zero=>obtain rfl:=JY e;exact⟨t,rfl⟩|succ j=>exact ih j e
theorem Jw{ap cp:Pos}(hc:X.calm=true)(GW:Gl X "max")(hm:X.g.mg "max" = none)(hv:bootBuiltins "max" = some (.builtin "max"))(ha:PV X a fa)
  (hb:attributeBase a "values" X.env (eval a X.env)=eval a X.env:=by rfl) (lC:(ap.endLine == cp.line)=true:=by rfl)
  (hs:starEach [.Call (.Attribute a "values" ap) [] [] cp] X.env=(false,eval (.Call (.Attribute a "values" ap) [] [] cp) X.env)::starEach [] X.env:=by rfl) :
  PV X (.Call (.Name "max" p) [.Call (.Attribute a "values" ap) [] [] cp] [] pos) (m1 sr fa):=λs σ H ρ Q E I o=>by
 refine bc (id:="max") false I GW hm hv ?_ (by decide) (by decide) hs rfl;rw[hs];refine S8<|wpAny_Call_method0_late hb lC<|ha.Zi I o (λ_ _ q=>q) λs1 H1 aS v d1 I1 l1 r1 o1=>?_;obtain⟨d,e,q⟩:=o1.opt;cases d1 with
 |gp ks ds=>
  simp only[sr] at e;split at e;rename_i i is hi;cases e;obtain⟨l,vs,ep,rfl,z,PS,rfl,rr,dd⟩:=I1.gp<|.inl r1;obtain⟨ob,es,h1,h2,_⟩:=id dd;refine⟨"dict","dict.values",PySem.F.plainAttrs_dict,PySem.F.slot_dict_values,PySem.F.type_dict_values,dd.dictOf.typeIs,λa e=>by cases e;exact⟨ob,h1,h2.2.1⟩,?_⟩;refine PE rfl<|PySem.evalArgs_none ?_;refine call_meetsIn PySem.F.slot_dict_values dd.dictOf.typeIs PySem.F.entry_dict_values (PySem.F.args_dict_values_1 _) (meets_dict_values (ie X.g.prog X.g.w) l PS) ⟨⟨_,dd.dictOf⟩,Sr ?_⟩;have I2:=I1.kept (t':=s1.toks) (h':=s1.heap.push {cls:=.type "dict_values",data:=.fields #[.ref l]}) λb o e=>Wm _ e;have vw:(s1.heap.push {cls:=.type "dict_values",data:=.fields #[.ref l]}).IsValuesView s1.heap.objs.size l:=⟨_,Zv _ rfl,rfl,rfl⟩;have ML:=dd.push {cls:=.type "dict_values",data:=.fields #[.ref l]};have lt:=ML.lt_size;have HR:vs.length=is.length+1:=by have:=(gQ rr hi).length;simpa using this
  have vals:∀j w,(∃k,vs[j]?=some (k,w))->∃t,w=Value.int ((i::is).getD j 0) t:=λj w ⟨k,hj⟩=>by
   have hw:(vs.map (·.2))[j]?=some w:=by rw[FC,hj];rfl
   exact Ib (gQ rr hi) j w hw
  refine call_max_walk<|wpAny_pyIter_values vw ML ?_;refine⟨_,_,_,_,_,_,_,rfl,Walks.dictValues (A:=X.A.in1) (knd:=ie X.g.prog X.g.w) (I1.ok.hd hc) _ l (Rb lt) vs ep,⟨⟨_,Zv _ rfl,rfl,rfl⟩,ML.push _⟩,λb hb=>?_,WR,CmpOf.ints_gt (λj=>(i::is).getD j 0) vals,λw h' tk hw kp=>?_⟩;rw[rj];simp at hb;rcases hb with rfl|rfl;rw[rj];exact Ql _;exact Vf lt;obtain⟨t,e⟩:=vals _ _ hw;refine q _ H1 _ (I2.kept (t':=tk) λb o e=>kp b o (λhm=>?_)<|Wm _ e) l1 ⟨t,?_⟩;have:=Hz e;have zb:=List.mem_singleton.mp hm;rw[zb] at this;exact Fw _ this;rw[e,show is.foldl (λa b=>if a<b then b else a) i=is.foldl VS.mx i from rfl,<-VS.vg i is,show vs.length-1=(i::is).length-1 by simp;lia];cases e
 |_=>cases e
end
end WL
end
section
set_option linter.all false
set_option maxRecDepth 100000
namespace WL
open PySem PySem.Spec PyProof.Rows L2 VP
def dP(w:Bool)(n:Nat)(h:Heap)(H:Tm):Tm:=λa=>match H a with|some (.ow d i)=>(h.get? a).map λo=>.pin o (if w&&decide (i<n) then some d else none)|some (.di _)=>(h.get? a).map λo=>.pin o (if w then some .aQ else none)|e=>e
def Gw(w:Bool):Sl->Sl:=if w then eY else hide
def Vx(w:Bool)(n:Nat):Option En->Option En|some (.pin o<|some d)=>if w&&!RO d then none else some (.pin o<|some d)|some (.pin o none)=>some (.pin o none)|some (.ow (.lst ds) i)=>if w&&noLs ds&&decide (n<=i) then some (.ow (.lst ds) i) else none|_=>none
def aU(w:Bool)(n:Nat)(H H4:Tm):Tm:=λa=>match H a with|some e=>some e|none=>Vx w n (H4 a)
section
variable{X:Cx}{σ dR:Sg}{H H4:Tm}{ρ GQ:ay}{s s5:Shared}{w:Bool}{n:Nat}
theorem Inv.Gx(w:Bool)(I:Inv X σ H ρ s):Inv X σ (dP w X.N.length s.heap H) (ρ.map<|Gw w) s:=by
 have fast:∀{a e},H a=some e->e.fast->dP w X.N.length s.heap H a=some e:=λ{a e} q f=>by unfold dP;rw[q];cases e with|ow _ _=>exact f.elim|di _=>exact f.elim|_=>rfl
 have owv:∀{a d i o},H a=some (.ow d i)->s.heap.get? a=some o->dP w X.N.length s.heap H a=some (.pin o<|if w&&decide (i<X.N.length) then some d else none):=λq z=>by unfold dP;rw[q];show Option.map _ _=_;rw[z];rfl
 have Pc:∀{a b o},H a=some (.di b)->s.heap.get? a=some o->dP w X.N.length s.heap H a=some (.pin o<|if w then some .aQ else none):=λq z=>by unfold dP;rw[q];show Option.map _ _=_;rw[z];rfl
 have inv:∀{a e},dP w X.N.length s.heap H a=some e->(H a=some e/\e.fast)\/(∃d i o,H a=some (.ow d i)/\s.heap.get? a=some o/\e=.pin o (if w&&decide (i<X.N.length) then some d else none))\/(∃b o,H a=some (.di b)/\s.heap.get? a=some o/\e=.pin o (if w then some .aQ else none)):=λ{a e} q=>by cases z:H a with|none=>unfold dP at q;rw[z] at q;cases q|some e0=>obtain⟨o,ho⟩:=(I.aM a _ z).at;cases e0 with|ow d i=>obtain rfl:=sj (owv z ho) q;exact .inr (.inl ⟨d,i,o,rfl,ho,rfl⟩)|di b=>obtain rfl:=sj (Pc z ho) q;exact .inr (.inr ⟨b,o,rfl,ho,rfl⟩)|_=>obtain rfl:=sj (fast z trivial) q;exact .inl ⟨rfl,trivial⟩
 have lp:j1 H (dP w X.N.length s.heap H):=λa o d q=>fast q trivial;refine⟨I.ok,I.os,I.bare,λa e q f=>fast (I.le a e q f) f,λa e q z=>?_,λa e q=>?_,I.loc,λi sl q=>?_,λl d i q hi=>?_,?_,λx c e=>⟨(I.cell x c e).1,?_⟩,by rw[SS];exact I.len⟩;rcases inv q with ⟨y,_⟩|⟨d,i,o,y,_⟩|⟨b,o,y,_⟩
 exact I.nw a e y z;exact .inl<|(I.nw a _ y z).elim id λ⟨_,z⟩=>nomatch z;exact .inl<|(I.nw a _ y z).elim id λ⟨_,z⟩=>nomatch z;rcases inv q with ⟨y,f⟩|⟨d,i,o,y,ho,rfl⟩|⟨b,o,y,ho,rfl⟩
 have x:=I.aM a e y;cases e with|pin o d=>exact⟨x.1,λe z=>(x.2 e z).mv lp (λ_ z=>z) (λz=>nomatch z) λ_ _ _ z=>z⟩|ow _ _=>exact f.elim|di _=>exact f.elim|_=>exact x
 refine⟨ho,λe z=>?_⟩;split at z;rename_i hw;have hw:=((Ss _ _).mp hw).1;cases z;obtain⟨ob,nn⟩:=I.aM a _ y;cases d with
 |ins c ns ds=>obtain⟨C,dx,m,e,q,ne,fs,k,r,z,mA,n,w'⟩:=ob;obtain⟨od,_,_,Ek,_⟩:=id n;exact⟨C,dx,m,e,⟨od,by have z:=Pc q Ek;rw[hw] at z ⊢;exact z⟩,ne,fs,k,r.p lp,z,mA,n,w'⟩|fm c ns ds=>obtain⟨C,dx,vs,sl,m,e,e2,e1,q⟩:=ob;refine⟨C,dx,vs,sl,m,e,e2,(nomatch ·),?_⟩;cases dx with|none=>exact q|some b=>obtain⟨q,ne,fs,k,r,z,mA,n,w'⟩:=q;obtain⟨od,_,_,Ek,_⟩:=id n;exact⟨⟨od,by have z:=Pc q Ek;rw[hw] at z ⊢;exact z⟩,ne,fs,k,r.p lp,z,mA,n,w'⟩
 |tup ds=>cases ob.1|lst ds=>obtain⟨z,us,r,c⟩:=ob;exact⟨z,us,r.p lp,c⟩|gp ks ds=>obtain⟨z,y,vs,ep,k,r,c⟩:=ob;exact⟨z,y,vs,ep,k,r.p lp,c⟩|aQ=>exact absurd rfl nn|_=>exact ob.elim
 cases z;exact⟨ho,λe z=>by cases w<;>cases z;trivial⟩;rw[FC] at q;cases z:ρ[i]? with
 |none=>rw[z] at q;cases q|some t=>
  rw[z] at q;have e:Gw w t=sl:=JY q;subst e;obtain⟨x,hx,r⟩:=I.slot i t z;have hi:i<X.N.length:=(List.getElem?_eq_some_iff.mp hx).1;refine⟨x,hx,?_⟩;have own:∀{d l},σ x=some (.ref l)->H l=some (.ow d i)->A8 X (dP true X.N.length s.heap H) i (σ x) (.sh d):=λ{d l} e q=>by
   obtain⟨ob,nn⟩:=I.aM l _ q;obtain⟨o,ho⟩:=ob.at nn;have q':dP true X.N.length s.heap H l=some (.pin o<|some d):=by unfold dP;rw[q];show Option.map _ _=_;rw[ho];simp[hi]
   refine⟨.ref l,e,?_⟩;cases d with|lst ds=>exact⟨l,o,rfl,q'⟩|tup ds=>exact⟨l,o,rfl,q'⟩|gp ks ds=>exact⟨l,o,rfl,q'⟩|ins c ns ds=>exact⟨l,o,rfl,q'⟩|fm c ns ds=>exact⟨l,o,rfl,q'⟩|aQ=>exact absurd rfl nn|_=>exact ob.elim
  cases w with
  |true=>cases t with|no=>trivial|sh d=>obtain⟨u,a,b⟩:=r;exact⟨u,a,b.p lp⟩|ow d=>obtain⟨l,a,b⟩:=r;exact own a b|io d=>obtain⟨l,a,b,_⟩:=r;exact own a b
  |false=>cases t with|no=>trivial|sh d=>obtain⟨u,a,b⟩:=r;exact⟨u,a,b.p lp⟩|ow d=>trivial|io d=>trivial
 rcases inv q with ⟨y,f⟩|⟨_,_,_,_,_,z⟩|⟨_,_,_,_,z⟩
 exact f.elim;cases z;cases z;unfold dP;rw[I.fl];rcases (I.cell x c e).2 with z|⟨f,o,d,z⟩;exact .inl (by unfold dP;rw[z]);exact .inr ⟨f,o,d,fast z trivial⟩
theorem bQ(I:Inv X σ H ρ s)(J:Inv X dR H4 GQ s5)(l:Le (dP w X.N.length s.heap H) H4){a:Addr}{e:En}{o:Obj}(q:H a=some e)(ho:s.heap.get? a=some o)(hf:∀o,e≠.km o):s5.heap.get? a=some o/\(e.fast->H4 a=some e)/\(∀d i,e=.ow d i->H4 a=some (.pin o<|if w&&decide (i<X.N.length) then some d else none))/\(∀b,e=.di b->H4 a=some (.pin o<|if w then some .aQ else none)):=by cases e with|pin o' d=>have q':=l a (.pin o' d) (by unfold dP;rw[q]) trivial;have:=(I.aM a _ q).1;obtain rfl:=sj ho this;exact⟨(J.aM a _ q').1,λ_=>q',λ_ _ z=>(nomatch z),λ_ z=>nomatch z⟩|d7 o'=>have q':=l a (.d7 o') (by unfold dP;rw[q]) trivial;have:s.heap.get? a=some o':=I.aM a _ q;obtain rfl:=sj ho this;exact⟨J.aM a _ q',λ_=>q',λ_ _ z=>(nomatch z),λ_ z=>nomatch z⟩|km o'=>exact absurd rfl (hf o')|ow d i=>have q':=l a _ (show dP w X.N.length s.heap H a=some (.pin o<|if w&&decide (i<X.N.length) then some d else none) by unfold dP;rw[q];show Option.map _ _=_;rw[ho];rfl) trivial;exact⟨(J.aM a _ q').1,λf=>f.elim,λ_ _ z=>by cases z;exact q',λ_ z=>nomatch z⟩|di b=>have q':=l a _ (show dP w X.N.length s.heap H a=some (.pin o<|if w then some .aQ else none) by unfold dP;rw[q];show Option.map _ _=_;rw[ho];rfl) trivial;exact⟨(J.aM a _ q').1,λf=>f.elim,λ_ _ z=>(nomatch z),λ_ _=>q'⟩
theorem Q1f(I:Inv X σ H ρ s)(J:Inv X dR H4 GQ s5)(l:Le (dP w X.N.length s.heap H) H4){u:Value}{d:D}(r:Rel H4 u d)(hd:w=true->RO d=true):Rel (aU w X.N.length H H4) u d:=by
 have key:∀{a o},d≠.aQ->H4 a=some (.pin o<|some d)->aU w X.N.length H H4 a=some (.pin o<|some d):=λ{a o} nn q=>by
  unfold aU;cases z:H a with
  |none=>show Vx w X.N.length (H4 a)=_;rw[q];show (if (w&&!RO d)=true then none else some (En.pin o<|some d))=_;cases w with|false=>rfl|true=>rw[hd rfl];rfl
  |some e=>
   show some e=_;obtain⟨oa,ho⟩:=(I.aM a _ z).at;cases e with
   |km o'=>have q':=l a (.km o') (by unfold dP;rw[z]) trivial;exact ek q q'|pin o' d'=>rw[<-q];exact((bQ I J l z ho λ_ y=>nomatch y).2.1 trivial).symm|d7 o'=>rw[<-q];exact((bQ I J l z ho λ_ y=>nomatch y).2.1 trivial).symm|ow d' i=>
    have q':=(bQ I J l z ho λ_ y=>nomatch y).2.2.1 _ _ rfl;rw[q] at q';injection q' with q';injection q' with _ q';split at q';rename_i hw;rw[Ss] at hw;cases q';have:=hd hw.1;obtain⟨ob,_⟩:=I.aM a _ z;cases d with|tup ds=>cases ob.1|lst ds=>cases this|gp ks ds=>cases this|ins c ns ds=>cases this|fm c ns ds=>cases this|aQ=>exact absurd rfl nn|_=>exact ob.elim
    cases q'
   |di b=>have q':=(bQ I J l z ho λ_ y=>nomatch y).2.2.2 _ rfl;rw[q] at q';cases w<;>cases q';exact absurd rfl nn
 cases d with|aQ=>exact r|bl _=>exact r|int _=>exact r|str _=>exact r|_=>obtain⟨a,o,e,q⟩:=r;exact⟨a,o,e,key (λz=>nomatch z) q⟩
theorem gc(I:Inv X σ H ρ s)(J:Inv X dR H4 GQ s5)(l:Le (dP w X.N.length s.heap H) H4):∀{us:Zg}{ds:Y5},aF H4 us ds->(w=true->noLs ds=true)->aF (aU w X.N.length H H4) us ds|_,_,.nil,_=>.nil|_,_,.cons h t,hd=>.cons (Q1f I J l h λz=>((Ss _ _).mp<|hd z).1) (gc I J l t λz=>((Ss _ _).mp<|hd z).2)
theorem Inv.wQ(I:Inv X σ H ρ s)(J:Inv X σ H4 GQ s5)(l:Le (dP w X.N.length s.heap H) H4):Inv X σ (aU w X.N.length H H4) ρ s5/\Le H (aU w X.N.length H H4):=by
 have old:∀{a e},H a=some e->aU w X.N.length H H4 a=some e:=λq=>by unfold aU;rw[q]
 have new:∀{a e},H a=none->aU w X.N.length H H4 a=some e->Vx w X.N.length (H4 a)=some e:=λz q=>by unfold aU at q;rw[z] at q;exact q
 have le:Le H (aU w X.N.length H H4):=λa e q _=>old q;have kp:∀{a e o},H a=some e->(∀o,e≠.km o)->s.heap.get? a=some o->s5.heap.get? a=some o:=λq hf ho=>(bQ I J l q ho hf).1;refine⟨⟨I.ok,J.os,J.bare,I.le.trans le,λa e q z=>?_,λa e q=>?_,J.loc,λi sl q=>?_,λl' d i q hi=>?_,?_,λx c e=>⟨(J.cell x c e).1,?_⟩,I.len⟩,le⟩;cases y:H a with|some e'=>obtain rfl:=sj (old y) q;exact I.nw a _ y z|none=>have q':=new y q;cases z4:H4 a with|none=>rw[z4] at q';cases q'|some e4=>rcases J.nw a e4 z4 z with y|⟨o,rfl⟩;exact .inl y;rw[z4] at q';cases q'
 cases y:H a with
 |some e'=>
  obtain rfl:=sj (old y) q;have x:=I.aM a e y;have hk:∀{f:Bool}(b:Addr)(o:Obj),(f=false/\H b=some (.di a))\/(f=true/\∃q,H b=some (.pin q<|some .aQ))->s.heap.get? b=some o->s5.heap.get? b=some o:=λb o z ho=>by
   rcases z with ⟨_,z⟩|⟨_,_,z⟩
   exact kp z (λ_ y=>nomatch y) ho;exact kp z (λ_ y=>nomatch y) ho
  cases e with|pin o d=>exact⟨kp y (λ_ y=>nomatch y) x.1,λe z=>(x.2 e z).mv le.p (λo' ho=>kp y (λ_ y=>nomatch y) ho) (λz=>nomatch z) hk⟩|ow d i=>exact⟨x.1.mv le.p (λo' ho=>kp y (λ_ y=>nomatch y) ho) (λ_ b z=>old z) hk,x.2⟩|di b=>obtain⟨o,ho⟩:=x;exact⟨o,kp y (λ_ y=>nomatch y) ho⟩|km o=>have q':=l a (.km o) (by unfold dP;rw[y]) trivial;exact J.aM a _ q'|d7 o=>exact kp y (λ_ y=>nomatch y) x
 |none=>
  have q':=new y q;unfold Vx at q';split at q';rename_i o d z4;split at q';cases q';rename_i hn;cases q';have hd:w=true->RO d=true:=λz=>by subst z;simpa using hn
  have x:=J.aM a _ z4;refine⟨x.1,λe z=>?_⟩;cases z;have ob:=x.2 _ rfl;have WJ:∀{us:Zg}{es:Y5},aF H4 us es->(w=true->noLs es=true)->aF (aU w X.N.length H H4) us es:=gc I J l;have dxu:w=false->∀{dx od},H4 dx=some (.pin od<|some .aQ)->aU w X.N.length H H4 dx=some (.pin od<|some .aQ):=λhw dx od q0=>by subst hw;unfold aU;cases z0:H dx with|none=>rw[q0];rfl|some e0=>show some e0=_;obtain⟨oa,ho⟩:=(I.aM dx _ z0).at;cases e0 with|km o'=>have q':=l dx (.km o') (by unfold dP;rw[z0]) trivial;exact ek q0 q'|pin o' d'=>rw[<-q0];exact((bQ I J l z0 ho λ_ y=>nomatch y).2.1 trivial).symm|d7 o'=>rw[<-q0];exact((bQ I J l z0 ho λ_ y=>nomatch y).2.1 trivial).symm|ow d' i=>have q':=(bQ I J l z0 ho λ_ y=>nomatch y).2.2.1 _ _ rfl;rw[q0] at q';cases q'|di b=>have q':=(bQ I J l z0 ho λ_ y=>nomatch y).2.2.2 _ rfl;rw[q0] at q';cases q'
  cases d with
  |tup ds=>obtain⟨f,z,us,r,c⟩:=ob;exact⟨f,z,us,WJ r hd,c⟩|aQ=>trivial|lst ds=>cases w with|true=>cases hd rfl|false=>obtain⟨z,us,r,c⟩:=ob;exact⟨z,us,WJ r (λz=>nomatch z),c⟩
  |gp ks ds=>cases w with|true=>cases hd rfl|false=>obtain⟨z,y,vs,ep,k,r,c⟩:=ob;exact⟨z,y,vs,ep,k,WJ r (λz=>nomatch z),c⟩
  |ins c ns ds=>cases w with|true=>cases hd rfl|false=>obtain⟨C,dx,m,e,⟨od,q0⟩,ne,fs,k,r,z,mA,n,w'⟩:=ob;exact⟨C,dx,m,e,⟨od,dxu rfl q0⟩,ne,fs,k,WJ r (λz=>nomatch z),z,mA,n,w'⟩
  |fm c ns ds=>cases w with|true=>cases hd rfl|false=>obtain⟨C,dx,vs,sl,m,e,e2,e1,q⟩:=ob;refine⟨C,dx,vs,sl,m,e,e2,e1,?_⟩;cases dx with|none=>exact q|some b=>obtain⟨⟨od,q0⟩,ne,fs,k,r,z,mA,n,w'⟩:=q;exact⟨⟨od,dxu rfl q0⟩,ne,fs,k,WJ r (λz=>nomatch z),z,mA,n,w'⟩
  |_=>exact ob.elim
  cases q';rename_i o z4;exact⟨(J.aM a _ z4).1,λ_ z=>nomatch z⟩;rename_i ds i z4;split at q';rename_i hn;cases q';rw[Ss,Ss] at hn;obtain⟨⟨z,us,r,c⟩,nn⟩:=J.aM a _ z4;exact⟨⟨z,us,gc I J l r λ_=>hn.1.2,c⟩,nn⟩;cases q';cases q'
 obtain⟨x,hx,r⟩:=I.slot i sl q;exact⟨x,hx,r.mv le.p λp d y=>old y⟩;have ow:∀{l d},aU w X.N.length H H4 l=some (.ow d i)->H l=some (.ow d i):=λ{l d} q=>by cases y:H l with|some e=>rw[old y] at q;rw[q]|none=>have q':=new y q;unfold Vx at q';split at q';split at q'<;>cases q';cases q';split at q';rename_i hn;cases q';rw[Ss] at hn;exact absurd hi<|Nat.not_lt.mpr<|P7 hn.2;cases q';cases q'
 obtain⟨h1,h2⟩:=I.tg l' d i (ow q) hi;exact⟨h1,λl2 d2 q2=>h2 l2 d2<|ow q2⟩;show aU w X.N.length H H4 X.env.locals=none;unfold aU;rw[I.fl,J.fl];rfl;rcases (I.cell x c e).2 with z|⟨f,o,d,z⟩;rcases (J.cell x c e).2 with y|⟨f,o,d,y⟩;exact .inl (by unfold aU;rw[z,y];rfl);show aU w X.N.length H H4 c=none\/_;unfold aU;rw[z,y];cases d with|none=>exact .inr ⟨f,o,none,rfl⟩|some d=>show (if (w&&!RO d)=true then none else some (En.pin o<|some d))=none\/(X.fn=false/\∃o' d',(if (w&&!RO d)=true then none else some (En.pin o<|some d))=some (En.pin o' d'));split;exact .inl rfl;exact .inr ⟨f,o,_,rfl⟩
 exact .inr ⟨f,o,d,old z⟩
end
end WL
end
section
set_option linter.all false
set_option maxRecDepth 100000
namespace WL
open PySem PySem.Spec PyProof.Rows L2 VP
section
variable{X:Cx}{elt tg VE:Expr}{ifs:WK}{pos:Pos}{it:M (List D)}{gf:D->M Unit}{ft:M Bool}{fe f:M D}{js:WC}{scope:Scope}{N':TY}{σ:Sg}{H:Tm}{ρ:ay}{s:Shared}{E:YY}
theorem GB{P:D->ay->Prop}{E':Xn->ay->Prop}(o:Out (jn f ρ) P E'):Out (f<|ρ.map<|Gw true) (λd _=>∃ds,d=.lst ds/\noLs ds=true/\P d ρ) (λ_ _=>False):=by unfold jn at o;show Out (f<|ρ.map eY) _ _;cases q:f (ρ.map eY) with|no=>rw[q] at o;exact o.elim|exc x r=>rw[q] at o;exact o.elim|ok d r=>rw[q] at o;cases d with|lst ds=>dsimp only at o;split at o;rename_i hn;exact⟨ds,rfl,hn,o⟩;exact o.elim|_=>exact o.elim
theorem nU(own:Bool)(n i:Nat){y:Str}{py lV:Pos}(hc:X.calm=true)(c:bA X scope N')(hn:X.N.length+n+1=N'.length)(hi:qW X tg VE it)(xO:∀d r x r',gf d r≠.exc x r')(vS:∀j∈js,X.N.length<=j/\j<X.N.length+n)
  (hg:∀C s H ex,u0 (aI X scope C N' s H ex) tg js gf) (ht:∀C s H ex,y4 (aI X scope C N' s H ex) ifs ft) (he:∀C s H ex,PV (aI X scope C N' s H ex) elt fe)
  (hN:X.N.Nodup) (hy:X.N[i]?=some y) (hx:Loc X.env.scope y) (HW:swapsWith (.ListComp elt [⟨tg,VE,ifs,0⟩] scope pos) (some<|.Name y py) lV.line X.env=pure true)
  (hs:∀x,foldedSetIterable VE X.env x=pure x) (hf:X.fn=true\/X.env.scope.names.lookup y=some .local):gY X (.Assign [.Name y py] (.ListComp elt [⟨tg,VE,ifs,0⟩] scope pos) lV) (Zi (jn<|aC n it gf ft fe) λd=>Cj<|if own then BD i d else mY i d):=λs σ H ρ Q E I o=>by
 rw[exec_Assign_Name_used _ _ _ _ HW];refine bx<|QN<|bx ?_;show wpAny _ X.A (do let _ <-comprehension (.ListComp elt [⟨tg,VE,ifs,0⟩] scope pos) scope X.env _ (newList []) false (firstIter [⟨tg,VE,ifs,0⟩] X.env) (some<|assign (.Name y py) X.env)) _ _ s;refine bx<|P9 (mG (use:=some<|assign (.Name y py) X.env) (QQ:=λ_ s'=>Q .next s') n hc c hn hi xO vS hg ht he hs (I.Gx true) (GB o.Zi) (λx r q=>q.elim) λs5 H4 GQ d l C mm I4 l4 hD post Ce hC h0 h1 h2 h3=>?_) (λ_ s' hq=>Zx<|Zx hq) λ_ _ e=>e;obtain⟨ds,rfl,M9,post⟩:=post;obtain⟨I5,l5⟩:=I.wQ I4 l4;have none_of:∀{a},(∀e,H4 a=some e->¬e.fast)->H a=none:=λ{a} h=>by cases z:H a with|none=>rfl|some e=>obtain⟨oa,ho⟩:=(I.aM a _ z).at;cases e with|km o'=>exact absurd trivial (h _<|l4 a (.km o') (by unfold dP;rw[z]) trivial)|pin o' d'=>exact absurd trivial (h _<|(bQ I I4 l4 z ho λ_ y=>nomatch y).2.1 trivial)|d7 o'=>exact absurd trivial (h _<|(bQ I I4 l4 z ho λ_ y=>nomatch y).2.1 trivial)|ow d' i=>exact absurd trivial (h _<|(bQ I I4 l4 z ho λ_ y=>nomatch y).2.2.1 _ _ rfl)|di b=>exact absurd trivial (h _<|(bQ I I4 l4 z ho λ_ y=>nomatch y).2.2.2 _ rfl)
 have M1:aU true X.N.length H H4 l=some (.ow (.lst ds) X.N.length):=by unfold aU;rw[none_of (λe q f=>by obtain rfl:=sj hD q;exact f),hD];show (if _ then _ else _)=_;rw[M9];simp
 have hC5:aU true X.N.length H H4 C=none:=by unfold aU;rw[none_of (λe q f=>by exact en hC q),hC];rfl
 exact vn own hN hy hx hf I5 l5 M1 post Ce hC5 h0 h1 h2 h3
end
section
variable{X:Cx}{a:Expr}{es:WK}{fa:M D}{fl:List (M D)}{pos p:Pos}{x:Str}{k:Nat}{fA:Addr}{fd:FuncData}{ps:TY}{fs:Fn}
theorem vd:∀(ds:Y5)(ρ:ay),gj (ds.map AV.val) ρ=some ds|[],_=>rfl|d::ds,ρ=>by simp only[List.map_cons,gj,vd ds ρ];rfl
theorem jJ:∀(ds:Y5),bJ (ds.map AV.val)=[]|[]=>rfl|d::ds=>jJ ds
theorem mB:∀(ds:Y5),(ds.map AV.val).map ku=List.replicate ds.length false|[]=>rfl|d::ds=>by rw[BE,BE,mB ds];rfl
theorem uh:∀{fl:List (M D)}{r r':ay}{ds:Y5},mL fl r=.ok ds r'->ds.length=fl.length
|[],_,_,_,h=>by cases h;rfl|f::fl,r,r',ds,h=>by
 simp only[mL,VP.Zi] at h;cases q:f r with
 |ok a r1=>rw[q] at h;dsimp only at h;cases q':mL fl r1 with|ok as r2=>rw[q'] at h;cases h;simp[uh q']|exc _ _=>rw[q'] at h;cases h|no=>rw[q'] at h;cases h
 |exc _ _=>rw[q] at h;cases h|no=>rw[q] at h;cases h
theorem BO{bs:Qg}(F:pC X.g k fA fd ps bs fs)(hbs:bs=true::List.replicate fl.length false)(hr:bE k X.A)(hg:Gl X x)(hm:X.g.mg x=some (.ref fA))(hk:W.keepIn X.g.K (.ref fA)=true)(hb:Binds X.g.K fd ps [])(Bt:bs.length=ps.length)
  (ha:PF X a fa) (PA:uY X es (mL fl)) (kF:RY x:=by decide) (he:PZ X a es:=by rfl) (gO:F6 X pos es:=by rfl) :
  PV X (.Call (.Name x p) (a::es) [] pos) (lJ fs fa fl):=λs σ H ρ Q E I o=>by
 subst hbs;refine Bz<|cj I hg hm ?_ kF;refine R4 (h₀:=X.g.base) I.ok.mod.gu hk ?_ he gO;rw[he];refine S8 (rest:=backTo pos<|starEach es X.env)<|ha.Zi I o (λ_ _ q=>q) λs1 H1 aS v d I1 l1 r1 o1=>?_;obtain⟨l,rfl,hl⟩:=r1;refine PA pos s1 σ _ _ _ E (I1.Gx false) ?_;show Out (mL fl<|aS.map hide) _ _;cases q1:mL fl (aS.map hide) with
 |no=>simp only[q1] at o1;exact o1.elim|exc xx rr=>simp only[q1] at o1;exact o1.elim|ok ds rr=>
  simp only[q1] at o1;intro s2 H2 us I2 l2 r2;obtain⟨I3,l3⟩:=I1.wQ I2 l2;have r3:=gc I1 I2 l2 r2 (λz=>nomatch z);have hl3:aU false X.N.length H1 H2 l=some (.ow d X.N.length):=by unfold aU;rw[hl]
  generalize aU false X.N.length H1 H2=H3 at I3 l3 r3 hl3;have ra:RA X σ H3 s2 us (ds.map .val):=by clear q1 o1 r2;induction r3 with|nil=>exact .nil|cons h t ih=>exact .cons h ih
  have av:=vd ds aS;have nd:(bJ<|ds.map AV.val).Nodup:=by rw[jJ];exact .nil
  obtain⟨ar,xZ⟩:=jA I3 ra av nd;have TB:=ar.cons hl3 λi k=>by obtain⟨j,d',h1,_⟩:=xZ i _ k;have:=eH h1;rw[jJ] at this;cases this
  rw[mB,uh q1] at TB;have zZ:=hb s2 (Value.ref l::us) I3.iS (by rw[JS,<-Bt];have:=r3.length;simp[this,uh q1]);rw[JS] at zZ;have e0:=I3.Dl;refine⟨I3.iS,wpAny_call<|F X.A X.stack s2 H3 _ _ _ _ hr e0 zZ TB ?_⟩;have fin:∀{d' ios H' s'},After X.g X.stack H3 s2 (true::List.replicate fl.length false) (.ref l::us) (d'::ios) H' s'->Inv X σ H' aS s':=λ{d' ios H' s'} af=>by have:=jz (vs:=ds.map .val) (ios:=ios) I3 ra av nd hl3 (by rw[mB,uh q1];exact af);rw[jJ] at this;cases ios<;>exact this
  unfold Cw at o1;cases q2:fs (d::ds) with
  |no=>rw[q2] at o1;exact o1.elim|ok d2 ios=>
   rw[q2] at o1
   match ios,o1 with|[io],o1=>exactλs' H' v af rv=>o1 s' H' v (fin af) ((l1.trans l3).trans af.le) rv|[],o1=>exact o1.elim|_::_::_,o1=>exact o1.elim
  |exc xx ios=>
   rw[q2] at o1
   match ios,o1 with|[io],o1=>exactλs' H' v af xr=>o1 s' H' v (fin af) ((l1.trans l3).trans af.le) (xr.up I3.sz)|[],o1=>exact o1.elim|_::_::_,o1=>exact o1.elim
end
end WL
end
section
set_option linter.all false
set_option maxRecDepth 100000
namespace WL
open PySem PySem.Spec PyProof.Rows L2 VP VS
def yY(g:Gb)(k:Nat)(f:Addr)(fd:FuncData)(ps:TY)(fl:Qg)(fn:Fn):Prop:=fl.length=ps.length/\pC g k f fd ps fl fn
section
variable{X:Cx}{e a b o tg VE elt value:Expr}{es ifs:WK}{as:List VP.Arg}{fa fb fe fo:M D}{f:M Fl}{body:List Stmt}{pos p TX:Pos}{k n i:Nat}{C fA:Addr}{fd:FuncData}{ps:TY}{c x m qn:Str}{bs:Bool}{st:Stmt}{fl:Qg}{fs:Fn}
theorem pmk(W:∃qn st ps C fA fd,Cq X.g.K X.g.mg c "__init__" qn bs st ps C fA fd/\yY X.g k fA fd ps (true::fl) fs)(hr:bE n X.A)(ha:xm X (e::es) as)(hk:k+1<=n:=by exact R2)(hg:Gl X c:=by rfl)(uW:as.map VP.Arg.isIo=fl:=by rfl)(kF:RY c:=by decide)(he:PZ X e es:=by rfl) (gO:F6 X pos es:=by rfl):PF X (.Call (.Name c p) (e::es) [] pos) (n6 c fs as):=
 by obtain⟨_,_,_,_,_,_,M,F⟩:=W;exact Jf (M.mke rfl) F.2 (hr.mono hk) hg M.gm M.bi F.1 ha uW kF he gO
theorem SU{pl:Sem Bool}(W:∃qn st ps C fA fd,Cq X.g.K X.g.mg c m qn bs st ps C fA fd/\yY X.g k fA fd ps (false::fl) fs)(hr:bE n X.A)(ho:PV X o fo)(ha:xm X (e::es) as)(hk:k<=n:=by exact R2)(uW:as.map VP.Arg.isIo=fl:=by rfl)
  (iO:PZ X e es:=by rfl) (gO:F6 X pos es:=by rfl)
  (ht:eval (.Call (.Attribute o m TX) (e::es) [] pos) X.env=(do
   let ov <-eval o X.env
   standAt TX.atName
   let (f,first) <-holding [ov] (getMethod ov m pl)
   callWith pos f first (backTo pos<|starEach (e::es) X.env)<|backToKw pos<|keywordEach [] X.env):=by rfl):PV X (.Call (.Attribute o m TX) (e::es) [] pos) (gR c m fs fo as):=
 by obtain⟨_,_,_,_,_,_,M,F⟩:=W;exact Jy M.gm M.cls M.me F.2 (hr.mono hk) M.bi F.1 ho ha uW iO gO ht
theorem Xk{pl:Sem Bool}(W:∃qn st ps C fA fd,Cq X.g.K X.g.mg c m qn true st ps C fA fd/\yY X.g k fA fd ps fl fs)(hr:bE n X.A)(ha:xm X (e::es) as)(hk:k<=n:=by exact R2)(hg:Gl X c:=by rfl)(uW:as.map VP.Arg.isIo=fl:=by rfl)
 (kF:RY c:=by decide) (iO:PZ X e es:=by rfl) (gO:F6 X pos es:=by rfl)
 (ht:eval (.Call (.Attribute (.Name c p) m TX) (e::es) [] pos) X.env=(do
  let ov <-eval (.Name c p) X.env
  standAt TX.atName
  let (f,first) <-holding [ov] (getMethod ov m pl)
  callWith pos f first (backTo pos<|starEach (e::es) X.env)<|backToKw pos<|keywordEach [] X.env):=by rfl) :
 PV X (.Call (.Attribute (.Name c p) m TX) (e::es) [] pos) (au fs as):=by obtain⟨_,_,_,_,_,_,M,F⟩:=W;exact Jp (M.ba rfl) F.2 (hr.mono hk) M.bi F.1 ha hg uW kF iO gO ht
theorem Q0(W:∃st ps fA fd,sO X.g.K X.g.mg x st ps fA fd/\yY X.g k fA fd ps fl fs)(hr:bE n X.A)(ha:xm X (e::es) as)(hk:k<=n:=by exact R2)(hg:Gl X x:=by rfl)(uW:as.map VP.Arg.isIo=fl:=by rfl)(kF:RY x:=by decide)(he:PZ X e es:=by rfl) (gO:F6 X pos es:=by rfl):PV X (.Call (.Name x p) (e::es) [] pos) (au fs as):=
 by obtain⟨_,_,_,_,D,F⟩:=W;exact Aq F.2 (hr.mono hk) hg D.mg D.fu.kp D.bi F.1 ha uW kF he gO
theorem O4{α:Type}{a:α}{l:List α}{Q:α->Prop}(h:Q a)(t:∀p∈l,Q p):∀p∈a::l,Q p:=λp hp=>by rcases List.mem_cons.mp hp with e|e;subst e;exact h;exact t p e
theorem Q0o{env:Env}(h:env.scope.kind=.function):env.blockKind=.function:=by unfold Env.blockKind;rw[h];rfl
theorem WW{env:Env}(hb:attributeBase o m env (eval o env)=eval o env)(hs:∀pos,(backTo pos<|starEach es env).any (·.1)=false)(hn:es.length<30)(hl:(ap.endLine == pos.line)=true):eval (.Call (.Attribute o m ap) es [] pos) env=(do
  let ov <-eval o env
  standAt ap.atName
  let (f,first) <-holding [ov] (getMethod ov m<|do return (<-importBound o env).getD true)
  callWith pos f first (backTo pos<|starEach es env)<|backToKw pos<|keywordEach [] env):=by
 have hf:methodCallForm (es.length+([]:List Keyword).length) (backTo pos<|starEach es env) (backToKw pos<|keywordEach [] env)=true:=by unfold methodCallForm;have h1:=hs pos;rw[List.any_eq_false] at h1;rw[Ss,Ss];exact⟨⟨List.all_eq_true.mpr λx hx=>by rw[Bool.not_eq_true'];exact Bool.eq_false_iff.mpr<|h1 x hx,rfl⟩,Pj hn⟩
 rw[arm_eval_Call,hb];refine congrArg (bind<|eval o env) (funext λov=>congrArg (bind _) (funext λ_=>?_));unfold methodCall calleeOf methodCallPos;rw[hf,hl];rfl
theorem Q2H{st:Stmt}:gY X st qG:=λ_ _ _ _ _ _ _ o=>o.elim
end
abbrev YV(G:Gb)(j:Nat)(r:aA):Prop:=∃st ps fA fd,sO G.K G.mg r.1 st ps fA fd/\yY G j fA fd ps r.2.1 r.2.2
abbrev Vb(G:Gb)(b:Bool)(c m:Str)(q:List Bool×Fn)(k:Nat):Prop:=∃bs qn st ps C fA fd,Cq G.K G.mg c m qn bs st ps C fA fd/\yY G k fA fd ps (b::q.1) q.2
structure sP(G:Gb)(k:Nat)(ds:List aA)(ms:List (Str×aA))(ks:List aA):Prop where
 ds:∀p∈ds,∃j,j<=k/\YV G j p
 ms:∀p∈ms,∃j,j<=k/\Vb G false p.2.1 p.1 p.2.2 j
 ks:∀p∈ks,∃j,j+1<=k/\Vb G true p.1 "__init__" p.2 j
class Kq (X:Cx) (c:outParam Tc):Prop where
 N:X.N=c.N
 sc:X.env.scope=c.sc
 cm:X.calm=true
 ok:∃r,bE r X.A/\sP X.g r c.ds c.ms c.ks
 T:∃a,Txt c.L X.g.w X.g.K X.g.mg a
structure LCp(X:Cx)(elt tg VE:Expr)(ifs:WK)(scope:Scope)(n:Nat)(it:M (List D))(gf:D->M Unit)(ft:M Bool)(fe:M D)(N':TY)(js:WC):Prop where
 c:bA X scope N'
 l:X.N.length+n+1=N'.length
 i:qW X tg VE it
 x:∀d r x r',gf d r≠.exc x r'
 j:∀j∈js,X.N.length<=j/\j<X.N.length+n
 g:∀C s H ex,u0 (aI X scope C N' s H ex) tg js gf
 t:∀C s H ex,y4 (aI X scope C N' s H ex) ifs ft
 e:∀C s H ex,PV (aI X scope C N' s H ex) elt fe
 s:∀x,foldedSetIterable VE X.env x=pure x
inductive LC(X:Cx)(elt:Expr)(scope:Scope):List Comprehension->M D->Prop|mk:LCp X elt tg VE ifs scope n it gf ft fe N' js->LC X elt scope [⟨tg,VE,ifs,0⟩] (aC n it gf ft fe)
def D0(X:Cx)(f:M D):Expr->Prop|.ListComp elt gs sc _=>LC X elt sc gs f|_=>True
structure He(X:Cx)(e:Expr)(f:M D):Prop where
 lc:D0 X f e
 st:∀es env,starEach (e::es) env=(false,eval e env)::starEach es env
 ix:oQ e
 nm:∀op,behindInMarks op e=false
 at':∀f env w,attributeBase e f env w=w
 sw:isLC e=false->∀t l env,swapsWith e t l env=pure false
 as:∀o p env v,assign (.Subscript o e p) env v=(do
  let ov <-holding [v] (eval o env);let iv <-holding [v,ov] (eval e env)
  standAt p
  holding [v,ov,iv] (setItem ov iv v)
  release [v,ov,iv] [])
 fs:∀env x,foldedSetIterable e env x=pure x
 it:isCmp e=false->∀env w,isTrue e env w=(do let v <-w;standAt e.pos;holding [v]<|truthy v)
instance adW{X:Cx}{c:Tc}{scope:Scope}{C:Addr}{N':TY}{s:Shared}{H:Tm}{ex:xW}[T:Kq X c]:Kq (aI X scope C N' s H ex) {c with N:=N',sc:=MH scope c.sc}:=⟨rfl,T.sc ▸ rfl,T.cm,T.ok,T.T⟩
abbrev oO(X:Cx)(E:mw):Prop:=∀{e f},E e=some f->PV X e f/\He X e f
abbrev YK(X:Cx)(B:Hi):Prop:=∀{e f},B e=some f->PB X e f
theorem T6{X:Cx}{c:Tc}[T:Kq X c]:∃r,bE r X.A:=let ⟨_,h,_⟩:=T.ok;⟨_,h⟩
section
variable{X:Cx}{c:Tc}[T:Kq X c]{E:mw}{B:Hi}
theorem ir(h:slot c x=some i){C:Prop}(k:X.N[i]?=some x->pH X.env.scope x->(x == ("__debug__" : Str))=false->(x == ("__classdict__" : Str))=false->C):C:=og h λq h=>oa q λq1 q2=>oa q2 λq2 q3=>k (T.N ▸ oV h) (T.sc ▸ Ka q1) (ne q2) (ne q3)
theorem isGl_ok(h:isGl c.sc x=true):Gl X x:=by unfold Gl Env.kindOf;rw[T.sc];exact eq_of_beq h
theorem mE(h:TF c x=true):Gl X x/\X.g.mg x=none:=oa h λh1 h2=>⟨isGl_ok h1,by obtain⟨a,t⟩:=T.T;obtain⟨i,hi⟩:=List.getElem?_of_mem<|ct h2;exact t.b i hi⟩
theorem RQ(h:BL o=some g):nM X (binaryOp o) g:=by cases o with|Add=>cases h;exact w_add|Sub=>cases h;exact w_sub|Mult=>cases h;exact w_mul|Mod=>cases h;exact w_mod|FloorDiv=>cases h;exact Td|_=>exact nn h
theorem xA(hr:∃k,bE k X.A)(h:Y0 o=some g):nM X (compareOp o) g:=by cases o with|Lt=>cases h;exact w_lt|LtE=>cases h;exact ab3|Gt=>cases h;exact Yu|GtE=>cases h;exact ab2|Eq=>cases h;exact let ⟨_,hr⟩:=hr;w_eq false hr.units|NotEq=>cases h;exact let ⟨_,hr⟩:=hr;w_eq true hr.units|Is=>cases h;exact Yx|In=>cases h;exact Yv|_=>exact nn h
theorem AW(k:oO X E):∀{es fl},tL E es=some fl->uY X es (mL fl)|[],_,h=>by cases h;exact aT|e::es,_,h=>ob h λf hf h=>om h λl hl h=>by subst h;have q:=k hf;exact aB q.1 (AW k hl) (q.2.st es X.env)
theorem OI(k:oO X E){o:Option Expr}{z:Option (M D)}(h:tO E o=some z):uZ X o z:=by cases o with|none=>cases h;exact Jl|some e=>exact om h λf hf h=>by subst h;exact Q0Q (k hf).1
theorem Gh(k:oO X E)(h:tR c E e=some f):PR X e f/\∀es env,starEach (e::es) env=(false,eval e env)::starEach es env:=oc h (λ_ h=>ob h λx hx h=>om h λj hj h=>ir (X:=X) hj λh1 h2 h3 h4=>by subst h;obtain⟨p,e⟩:=ij hx;subst e;exact⟨nu j h1 h2 h3 h4,λ_ _=>rfl⟩) λh=>⟨PV.rd (k h).1,(k h).2.st⟩
theorem AU(k:oO X E):∀{fl es as},tA c E fl es=some as->xm X es as/\as.map VP.Arg.isIo=fl/\(∀pos,F6 X pos es)/\∀e r,es=e::r->PZ X e r|[],[],_,h=>by cases h;exact⟨eB,rfl,λ_=>rfl,λ_ _ z=>by cases z⟩|[],_::_,_,h=>nn h|false::_,[],_,h=>nn h|true::_,[],_,h=>nn h|false::fl,e::es,_,h=>ob h λf hf h=>om h λl hl h=>by subst h;have q:=k hf;have z:=AU k hl;exact⟨bU q.1 z.1 (q.2.st es X.env),congrArg (false::·) z.2.1,λpos=>Eq.mpr (congrArg (λl=>(backTo pos l).any (·.1)=false)<|q.2.st es X.env) (z.2.2.1 pos),λ_ _ e=>by cases e;exact q.2.st _ _⟩|true::fl,e::es,_,h=>ob h λx hx h=>ob h λj hj h=>om h λl hl h=>ir (X:=X) hj λh1 h2 h3 h4=>by subst h;obtain⟨p,e⟩:=ij hx;subst e;have z:=AU k hl;exact⟨nh j z.1 h1 h2 h3 h4 rfl,congrArg (true::·) z.2.1,z.2.2.1,λ_ _ e=>by cases e;rfl⟩
theorem Q26(k:oO X E)(h:Rz c E a b=some f):PV X (.Subscript a b pos) f:=oc h (λ_ h=>ob h λx hx h=>ob h λj hj h=>om h λg hg h=>ir (X:=X) hj λh1 h2 h3 h4=>by subst h;obtain⟨p,e⟩:=ij hx;subst e;exact Sb j (k hg).1 (k hg).2.ix h1 h2 h3 h4) λh=>ob h λfa ha h=>ob h λg hg h=>oc h (λ_ h=>by cases h;exact Ar (k ha).1 (k hg).1 (k hg).2.ix) λh=>by cases h;exact As (k ha).1 (k hg).1 (k hg).2.ix
theorem Yg(k:oO X E)(h:tX c E a b=some f):PV X (.Subscript a b pos) f:=by
 cases b with
 |Slice lo hi st p=>cases st with|none=>exact ob h λf hf h=>ob h λl hl h=>om h λg hg h=>by subst h;exact Q1k (k hf).1 (OI k hl) (OI k hg)|some _=>exact nn h
 |_=>exact Q26 k h
theorem Yf(k:oO X E)(hx:Gl X x)(hm:X.g.mg x=none):∀{es},tN c E x es=some f->PV X (.Call (.Name x p) es [] pos) f
|[],h=>nn h|[a],h=>oc h (λe h=>om h λf hf h=>by
 subst h;cases eq_of_beq e;exact qT true f_int hx hm boot_int (aB (k hf).1 aT<|(k hf).2.st _ _) (by decide) (by decide)<|(k hf).2.st _ _) λh=>ob h λf hf h=>om h λg hg h=>by
 subst h;have q:=Gh (X:=X) (c:=c) k hf;have s:=q.2 [] X.env;exact oc hg (λe h=>by cases h;cases eq_of_beq e;exact bZ false f_len hx hm PySem.boot_len q.1 (by decide) (by decide) s) λh=>oc h (λe h=>by cases h;cases eq_of_beq e;exact bZ true f_tup hx hm boot_tuple q.1 (by decide) (by decide) s) λh=>oc h (λe h=>by cases h;cases eq_of_beq e;exact PF.pv<|PN.pf<|bZ true MO hx hm boot_list q.1 (by decide) (by decide) s) λh=>
  oc h (λe h=>by cases h;cases eq_of_beq e;exact bZ false (zy T.cm true) hx hm VS.boot_all q.1 (by decide) (by decide) s) λh=>oc h (λe h=>by cases h;cases eq_of_beq e;exact bZ false (zy T.cm false) hx hm VS.boot_any q.1 (by decide) (by decide) s) λh=>
  oc h (λe h=>by cases h;cases eq_of_beq e;exact bZ false (Vo T.cm) hx hm boot_sum q.1 (by decide) (by decide) s) λh=>og h λe h=>by cases h;cases eq_of_beq e;exact bZ false Pn hx hm PyProof.Rows.boot_sorted q.1 (by decide) (by decide) s
|[a,b],h=>oc h (λe h=>ob h λn hn h=>og h λq h=>ob h λf hf h=>om h λsu hs h=>by
 subst h;cases eq_of_beq e;obtain⟨p,e⟩:=ij hn;subst e;obtain⟨a,t⟩:=T.T;obtain⟨i,hi⟩:=List.getElem?_of_mem<|lk hs;have z:=Gh (X:=X) (c:=c) k hf;exact oa q λq1 q2=>oa q2 λq2 _=>Jt (t.i i hi) hx hm (isGl_ok q1) z.1 (ne q2)<|z.2 _ _) λh=>og h λe h=>ob h λf hf h=>om h λg hg h=>by
 subst h;cases eq_of_beq e;have s:=(k hg).2.st [] X.env;exact qT false (Vm T.cm) hx hm boot_max (aB (k hf).1 (aB (k hg).1 aT s)<|(k hf).2.st _ _) (by decide) (by decide) ((k hf).2.st _ _) (Eq.mpr (congrArg (λl=>(backTo pos l).any (·.1)=false) s) rfl)
|_::_::_::_,h=>nn h
theorem Yb(k:oO X E)(h:F5 c E x (e::es)=some f):PV X (.Call (.Name x p) (e::es) [] pos) f:=og h λq h=>oa q λq0 q1=>oa q1 λq1 _=>by have z:=λ{fl as} (ha:tA c E fl (e::es)=some as)=>AU (X:=X) k ha;have y:=λ{fl as} (ha:tA c E fl (e::es)=some as)=>Eq.mp (congrArg (λl=>(backTo pos l).any (·.1)=false)<|(z ha).2.2.2 e es rfl)<|(z ha).2.2.1 pos;cases e1:c.ds.lookup x with|some d=>rw[e1] at h;exact om h λas ha h=>by subst h;obtain⟨r,hr,ok⟩:=T.ok;obtain⟨j,hj,hd⟩:=ok.ds _<|lk e1;exact Q0 hd hr (z ha).1 hj (isGl_ok q0) (z ha).2.1 (ne q1) ((z ha).2.2.2 e es rfl) (y ha)|none=>rw[e1] at h;cases e2:c.ks.lookup x with|some d=>rw[e2] at h;exact om h λas ha h=>by subst h;obtain⟨r,hr,ok⟩:=T.ok;obtain⟨j,hk,bs,hd⟩:=ok.ks _<|lk e2;exact PF.pv (pmk hd hr (z ha).1 hk (isGl_ok q0) (z ha).2.1 (ne q1) ((z ha).2.2.2 e es rfl)<|y ha)|none=>rw[e2] at h;exact og h λq2 h=>Yf k (isGl_ok q0) (mE (X:=X) (c:=c) (show (_&&_)=true by rw[q0,q2];rfl)).2 h
theorem Ye(k:oO X E):∀{es},tM c E o m ap pos es=some f->PV X (.Call (.Attribute o m ap) es [] pos) f|[],h=>nn h|e::es,h=>og h λq h=>oa q λq1 q2=>ob h λ⟨r0,r2,r3⟩ hr h=>ob h λfo ho h=>om h λas ha h=>by subst h;have z:=AU (X:=X) k ha;obtain⟨r,rm,ok⟩:=T.ok;obtain⟨j,hk,bs,hd⟩:=ok.ms _<|lk hr;have s:=z.2.2.2 e es rfl;have w:=Eq.mp (congrArg (λl=>(backTo pos l).any (·.1)=false) s)<|z.2.2.1 pos;have w2:=WW (m:=m) (ap:=ap) (pos:=pos) ((k ho).2.at' m X.env<|eval o X.env) z.2.2.1 (Nat.succ_lt_succ<|Nat.lt_trans (P7 q2) (by decide)) q1;exact SU hd rm (k ho).1 z.1 hk z.2.1 s w w2
theorem OH(hr:∃rm,bE rm X.A)(k:oO X E):∀{os bs},tK E a os bs=some f->PV X (.Compare a os bs pos) f/\PB X (.Compare a os bs pos) (tB f)|[o],[b],h=>ob h λf hf h=>ob h λg hg h=>om h λd hd h=>by subst h;have h1:=xA hr hd;exact⟨FA h1 (k hf).1 (k hg).1<|(k hg).2.nm o,yx h1 (k hf).1 (k hg).1<|(k hg).2.nm o⟩|[o,o'],[b,b'],h=>ob h λf hf h=>ob h λg hg h=>ob h λq hq h=>ob h λd hd h=>om h λd' vR h=>by subst h;have h1:=xA hr hd;have h3:=xA hr vR;have m:lastMarks [o,o'] [b,b']=false:=(k hq).2.nm o';exact⟨Fz h1 h3 (k hf).1 (k hg).1 (k hq).1 m,Q0P h1 h3 (k hf).1 (k hg).1 (k hq).1 m⟩|[],_,h=>nn h|[_],[],h=>nn h|[_],_::_::_,h=>nn h|[_,_],[],h=>nn h|[_,_],[_],h=>nn h|[_,_],_::_::_::_,h=>nn h|_::_::_::_,_,h=>nn h
theorem yO(k:YK X B):∀{l f},C8 B o l=some f->A6 X (.BoolOp o l pos) f|[],_,h=>nn h|[a],_,h=>by cases o;exact Jc<|k h;exact yy (k h)|a::b::l,_,h=>ob h λf hf h=>ob h λg hg h=>by cases o;cases h;exact R7 (k hf)<|yO k hg;cases h;exact wk (k hf) (yO k hg)
theorem yP(k:oO X E):∀{l f},J5 E o l=some f->PV X (.BoolOp o l pos) f|[],_,h=>nn h|[a],_,h=>FE (k h).1|a::b::l,_,h=>ob h λf hf h=>ob h λg hg h=>by cases o;cases h;exact Fy (k hf).1<|yP k hg;cases h;exact Xw (k hf).1 (yP k hg)
theorem Q0j(k:oO X E)(hc:isCmp e=false)(h:((E e).bind λz=>some<|tB z)=some f):PB X e f:=om h λg hg h=>by subst h;exact kN (k hg).1 λ_=>(k hg).2.it hc _ _
theorem qP(hr:∃rm,bE rm X.A)(k:oO X E):∀{n e f},tT E n e=some f->PB X e f
|0,_,_,h=>nn h|n+1,e,f,h=>by
 cases e with
 |UnaryOp o a p=>cases o with|Not=>exact om h λg hg h=>by subst h;exact nq (qP hr k hg)|_=>exact nn h
 |BoolOp o l p=>exact A6.pb (yO (qP hr k) h)|Compare a os bs p=>exact om h λg hg h=>by subst h;exact(OH hr k hg).2|IfExp _ _ _ _=>exact nn h|_=>exact Q0j k rfl h
theorem qO(k:oO X E)(h:((E e).bind λz=>some<|cG z)=some f):qW X g e f/\∀x,foldedSetIterable e X.env x=pure x:=om h λf hf h=>by subst h;exact⟨uQ (k hf).1,(k hf).2.fs _⟩
theorem Ge(k:oO X E)(h:ZC c E (isTup g) e=some f):qW X g e f/\∀x,foldedSetIterable e X.env x=pure x:=by
 unfold ZC at h;cases q:zk e with
 |none=>rw[q] at h;exact qO k h|some r=>
  obtain⟨x,es⟩:=r;rw[q] at h;obtain⟨p,pos,e⟩:=vh q;cases es with
  |nil=>exact qO k h|cons a es=>
   cases es with
   |nil=>
    exact oc h (λe' h=>og h λz h=>om h λf hf h=>by
     subst h e;cases eq_of_beq e';have z:=mE (X:=X) z;exact⟨jY z.1 z.2 (aB (k hf).1 aT<|(k hf).2.st _ _) ((k hf).2.st _ _),λ_=>rfl⟩) λh=>oc h (λe' h=>og h λz h=>om h λf hf h=>by
     subst h e;cases eq_of_beq e';have z:=mE (X:=X) z;exact⟨S4 z.1 z.2 (k hf).1 ((k hf).2.st _ _),λ_=>rfl⟩) λh=>oc h (λe' h=>og h λz' h=>oa z' λz y=>om h λf hf h=>by
     subst h e;cases eq_of_beq e';obtain⟨_,_,_,rfl⟩:=isTup_ok y;have z:=mE (X:=X) z;exact⟨uP z.1 z.2 (aB (k hf).1 aT<|(k hf).2.st _ _) ((k hf).2.st _ _),λ_=>rfl⟩) (qO k)
   |cons b es=>cases es with|nil=>exact oc h (λe' h=>og h λz' h=>oa z' λz y=>ob h λf hf h=>om h λg hg h=>by subst h e;cases eq_of_beq e';obtain⟨_,_,_,rfl⟩:=isTup_ok y;have z:=mE (X:=X) z;have s2:=(k hg).2.st [] X.env;have s1:=(k hf).2.st [b] X.env;exact⟨yV z.1 z.2 (aB (k hf).1 (aB (k hg).1 aT s2) s1) (s1.trans<|congrArg _ s2) s2,λ_=>rfl⟩) (qO k)|cons=>exact qO k h
theorem Ga(nd:X.N.Nodup)(hl:∀x,lb c.sc x=true->Loc X.env.scope x/\(X.fn=true\/X.env.scope.names.lookup x=some .local)):∀{es l},Bg lb c es=some l->u3 X es l/\(assignEach es X.env).length=l.length/\(assignEach es X.env).findIdx? (·.1)=none|[],_,h=>by cases h;exact⟨mn,rfl,rfl⟩|e::es,l,h=>ob h λx hx h=>og h λq h=>ob h λi hi h=>om h λl hq h=>by subst h;obtain⟨p,e⟩:=ij hx;subst e;have z:=Ga nd hl hq;refine⟨wR i nd (T.N ▸ oV hi) (hl x q).1 z.1 (hl x q).2 rfl,congrArg (·+1) z.2.1,?_⟩;show ((false,_)::assignEach es X.env).findIdx? _=_;rw[List.findIdx?_cons];exact congrArg (Option.map (·+1)) z.2.2
theorem OG(nd:X.N.Nodup)(hl:∀x,lb c.sc x=true->Loc X.env.scope x/\(X.fn=true\/X.env.scope.names.lookup x=some .local))(h:tG lb c g=some q):u0 X g q.1 q.2/\∀d r x r',q.2 d r≠.exc x r':=by cases g with|Name x p=>exact og h λz h=>om h λi hi h=>by subst h;exact⟨AZ i nd (T.N ▸ oV hi) (hl x z).1 (hl x z).2,jH⟩|Tuple es j p=>exact om h λl hq h=>by subst h;have z:=Ga (X:=X) nd hl hq;exact⟨qS T.cm z.1 z.2.1 z.2.2,xK⟩|_=>exact nn h
theorem abU{lb:Scope->Str->Bool}(h:tG lb c g=some q):∀d r x r',q.2 d r≠.exc x r':=by cases g with|Name x p=>exact og h λz h=>om h λi hi h=>by subst h;exact jH|Tuple es j p=>exact om h λl hq h=>by subst h;exact xK|_=>exact nn h
theorem pmt(k:YK X B):∀{l f},Vy B l=some f->y4 X l f|[],_,h=>by cases h;exact lO|[_],_,h=>lP (k h)|_::_::_,_,h=>nn h
theorem LC.pv(cm:X.calm=true)(h:LC X elt scope gs f):PV X (.ListComp elt gs scope pos) f:=by cases h with|mk h=>exact PF.pv (Ao _ cm h.c h.l h.i h.x h.j h.g h.t h.e h.s)
theorem SQ{E':mw}(k:oO X E)(k':∀{C s H ex},oO (aI X scope C (lX c scope<|gT gs).N s H ex) E')(kB:∀{C s H ex},YK (aI X scope C (lX c scope<|gT gs).N s H ex) B)(h:J4 c scope E E' B elt gs=some f):LC X elt scope gs f:=by
 unfold J4 at h;split at h;rename_i tg VE ifs;exact ob h λi hi h=>ob h λ⟨js,gf⟩ hq h=>ob h λt ht h=>ob h λf hf h=>ob h λn hn h=>og h λz h=>oa z λz1 z2=>oa z1 λz1 z3=>oa z2 λz2 z4=>by
  cases h;cases Iv hn;have I:=Ge (g:=tg) k hi;have Gf:=λC s H ex=>OG (X:=aI X scope C (lX c scope<|JV tg).N s H ex) (c:=lX c scope<|JV tg) (P7 z2) (λx hx=>by
   have w:(aI X scope C (lX c scope<|JV tg).N s H ex).env.scope=MH scope c.sc:=T.sc ▸ rfl;have y:(aI X scope C (lX c scope<|JV tg).N s H ex).env.scope.names.lookup x=some .local:=by rw[w];exact eq_of_beq hx
   exact⟨.inl y,.inr y⟩) hq
  refine .mk (js:=js) (N':=(lX c scope<|JV tg).N) ⟨⟨eq_of_beq z1,by rw[T.sc,T.N];exact z3,P7 z2⟩,?_,I.1,abU hq,by rw[T.N];exact qc z4,λC s H ex=>(Gf C s H ex).1,λC s H ex=>pmt kB ht,λC s H ex=>(k' hf).1,I.2⟩;rw[T.N];unfold lX;simp only[List.length_append,List.length_map,List.length_cons,List.length_nil]
 exact nn h
end
theorem He.of(h1:∀es env,starEach (e::es) env=(false,eval e env)::starEach es env:=by intros;rfl)(h2:oQ e:=by exactλ_ _=>rfl)(h3:∀op,behindInMarks op e=false:=by intros;rfl)(h4:∀f env w,attributeBase e f env w=w:=by intros;rfl)(h5:isLC e=false->∀t l env,swapsWith e t l env=pure false:=by first|exactλh=>Bool.noConfusion h|(intros;rfl))(h9:∀o p env v,assign (.Subscript o e p) env v=(do
  let ov <-holding [v] (eval o env);let iv <-holding [v,ov] (eval e env)
  standAt p
  holding [v,ov,iv] (setItem ov iv v)
  release [v,ov,iv] []):=by intros;rfl)(h6:∀env x,foldedSetIterable e env x=pure x:=by intros;rfl)
 (h7:isCmp e=false->∀env w,isTrue e env w=(do let v <-w;standAt e.pos;holding [v]<|truthy v):=by first|exactλh=>Bool.noConfusion h|(intros;rfl)) (h8:D0 X f e:=by exact trivial):He X e f:=⟨h8,h1,h2,h3,h4,h5,h9,h6,h7⟩
theorem lY:∀{n X c} [T:Kq X c] {e f},tE n c e=some f->PV X e f/\He X e f
|0,_,_,_,_,_,h=>nn h|n+1,X,c,T,e,f,h=>by
 have k:oO X (tE n c):=lY;cases e with
 |Name x p=>refine⟨oc h (λq h=>om h λd hd h=>?_) λh=>om h λi hi h=>ir (X:=X) hi λh1 h2 h3 h4=>by subst h;exact gE i h1 h2 h3 h4,.of⟩;subst h;obtain⟨a,t⟩:=T.T;obtain⟨i,hi⟩:=List.getElem?_of_mem<|lk hd;exact oa q λq1 q2=>oa q2 λq2 _=>Q0w (t.n i hi) (isGl_ok q1) (ne q2)|Constant v j p=>
  refine om h λd hd h=>⟨?_,.of⟩;subst h;cases v with
   |none=>cases hd;exact FD|bool=>cases hd;exact Xu|int=>cases hd;exact kP|str=>exact ob hd λy _ hd=>og hd λz hd=>by cases y with|str=>cases hd;cases eq_of_beq z;exact kQ|_=>cases z
   |_=>exact nn hd
 |BinOp a o b p=>exact ob h λf hf h=>ob h λg hg h=>om h λd hd h=>by subst h;exact⟨sy (RQ hd) (k hf).1 (k hg).1,.of⟩|UnaryOp o a p=>refine ob h λf hf h=>om h λd hd h=>⟨?_,.of⟩;subst h;cases o with|USub=>cases hd;exact Q16 Yy (k hf).1|_=>exact nn hd
 |BoolOp o l p=>exact⟨yP k h,.of⟩|Compare a os bs p=>exact⟨(OH (T6 (X:=X)) k h).1,.of⟩|Subscript a b p=>exact⟨Yg k h,.of⟩|Tuple es j p=>exact om h λl hl h=>by subst h;exact⟨yE<|AW k hl,.of⟩|List es p=>exact om h λl hl h=>by subst h;exact⟨PF.pv<|ux<|AW k hl,.of⟩|Attribute a f p=>exact ob h λg hg h=>om h λcs hc h=>by subst h;obtain⟨a,t⟩:=T.T;obtain⟨i,hi⟩:=List.getElem?_of_mem<|lk hc;exact⟨qy (t.f i hi) (PV.rd (k hg).1)<|(k hg).2.at' _ _ _,.of⟩|Call g es ks p=>
  cases ks with
  |nil=>
   cases g with
   |Name x q=>cases es with|nil=>exact nn h|cons=>exact⟨Yb k h,.of⟩
   |Attribute o m q=>exact⟨Ye k h,.of⟩|_=>exact nn h
  |_=>cases g<;>exact nn h
 |IfExp t a b p=>exact ob h λg hg h=>ob h λf hf h=>om h λq hq h=>by subst h;exact⟨Q1z (qP (T6 (X:=X)) k hg) (k hf).1 (k hq).1,.of⟩|ListComp e gs sc p=>have q:=SQ k lY (λ{C s H ex e f} h=>qP (X:=aI X sc C (lX c sc<|gT gs).N s H ex) (T6 (X:=X)) lY h) h;exact⟨LC.pv T.cm q,.of (h8:=q)⟩|_=>exact nn h
class Cp (X:Cx) (c:outParam Tc):Prop extends Kq X c where
 nd:X.N.Nodup
 fn:X.fn=true
 bk:X.env.blockKind=.function
section
variable{X:Cx}{c:Tc}[T:Cp X c]{E:mw}{B:Hi}
theorem nE{S:Stmt->Option (M Fl)}(k:∀{s f},S s=some f->gY X s f):∀{l f},JU S l=some f->iV X l f|[],_,h=>by cases h;exact ax|s::l,_,h=>ob h λf hf h=>om h λg hg h=>by subst h;exact ae (k hf) (nE k hg)
theorem OF(h:Vn c.sc x p (.ListComp elt gs sc pos)=true):swapsWith (.ListComp elt gs sc pos) (some<|.Name x p) l X.env=pure true:=by refine congrArg pure ?_;rw[T.bk,Env.kindOf,T.sc];exact h
theorem uM(k:oO X E)(h:Yw c E e=some f):WP X (RN X) (eval e X.env) f/\∀t l env,swapsWith e t l env=pure false:=ob h λ⟨x,es⟩ h1 h=>ob h λa h2 h=>og h λz h=>oa z λz y=>om h λf hf h=>by subst h;obtain⟨q,p,e⟩:=vh h1;cases Nv h2;subst e;cases eq_of_beq z;have y:=mE (X:=X) y;have w:=Gh (X:=X) k hf;exact⟨bZ true MO y.1 y.2 boot_list w.1 (by decide) (by decide) (w.2 _ _),λ_ _ _=>rfl⟩
theorem Q15(k:oO X E)(h:tF c E e=some f):PF X e f/\∀t l env,swapsWith e t l env=pure false:=by
 cases e with
 |List=>exact om h λf hf h=>by subst h;exact⟨ux (AW k hf),λ_ _ _=>rfl⟩|Dict ks vs=>
  cases ks with
  |nil=>cases vs with|nil=>cases h;exact⟨Q1O,λ_ _ _=>rfl⟩|_=>exact nn h
  |_=>exact nn h
 |_=>exact⟨PN.pf (uM k h).1,(uM k h).2⟩
theorem JR(k:oO X E)(h:X7 c E e t=some f):gY X (.Assign [t] e pos) f:=by
 cases t with
 |Name x p=>
  exact og h λq h=>oa q λq w=>ob h λi hi h=>by
   have hx:Loc X.env.scope x:=T.sc ▸ Ag q;have hi:X.N[i]?=some x:=T.N ▸ oV hi;have lc:∀{f},E e=some f->isLC e=true->gY X (.Assign [.Name x p] e pos) (gU i f)/\gY X (.Assign [.Name x p] e pos) (aO i f):=λ{f} hf hl=>by
    cases e with
    |ListComp=>have z:LC _ _ _ _ _:=(k hf).2.lc;cases z with|mk z=>exact⟨kA true _ i T.cm z.c z.l z.i z.x z.j z.g z.t z.e T.nd hi hx (OF w) z.s<|.inl T.fn,kA false _ i T.cm z.c z.l z.i z.x z.j z.g z.t z.e T.nd hi hx (OF w) z.s<|.inl T.fn⟩
    |_=>exact fb hl
   exact oc h (λ_ h=>oc h (λz h=>om h λg hg h=>by subst h;exact(lc hg z).1) λh=>om h λg hg h=>by
    subst h;have z:=Q15 k hg;exact S9 i T.nd hi hx z.1 (z.2 _ _ _)<|.inl T.fn) λh=>om h λg hg h=>by
    subst h;cases z:isLC e
    ·exact GH i T.nd hi hx (k hg).1 ((k hg).2.sw z _ _ _) (.inl T.fn)
    ·exact(lc hg z).2
 |Attribute o f p=>
  exact og h λz h=>ob h λx hx h=>ob h λi hi h=>ob h λcs hc h9=>ir (X:=X) hi λh1 h2 h3 h4=>by
   obtain⟨q,e⟩:=ij hx;subst e;obtain⟨a,t⟩:=T.T;obtain⟨j,hj⟩:=List.getElem?_of_mem<|lk hc;cases hf:(f == ("cells" : Str));rotate_left
   all_goals rw[hf] at h9
   ·exact om h9 λg hg h=>by subst h;exact uR i toF_new (t.f j hj) (uM k hg).1 h1 h2 h3 h4 ((uM k hg).2 _ _ _)
   ·exact om h9 λg hg h=>by subst h;exact uR i (toF_ne λy=>by rw[y] at hf;cases hf) (t.f j hj) (k hg).1 h1 h2 h3 h4 ((k hg).2.sw (ne z) _ _ _)
 |Subscript o b p=>
  exact og h λz h=>ob h λx hx h=>ob h λi hi h=>ob h λu hu h=>ob h λg hg h=>ir (X:=X) hi λh1 h2 h3 h4=>by
   obtain⟨q,e⟩:=ij hx;subst e;refine oc h (λ_ h=>?_) λh=>?_<;>cases h;rotate_left
   ·exact GI i (k hu).1 (k hg).1 h1 h2 h3 h4 ((k hu).2.as _ _ _) ((k hg).2.sw (ne z) (some<|.Subscript (.Name x q) b p) pos.line X.env) rfl rfl
   ·exact Ke i (k hu).1 (k hg).1 h1 h2 h3 h4 ((k hg).2.sw (ne z) _ _ _)
 |_=>exact nn h
theorem Q1e(k:oO X E):∀{ts},X8 c E e ts=some f->gY X (.Assign ts e pos) f|[],h=>nn h|[_],h=>JR k h|_::_::_,h=>nn h
theorem SP(k:oO X E)(h:Xa c E e=some f):gY X (.Expr e pos) f:=ob h λ⟨g,es,p⟩ h1 h=>ob h λ⟨o,m,ap⟩ h2 h=>ob h λa h3 h=>og h λq h=>oa q λq1 q2=>ob h λx hx h=>ob h λi hi h=>om h λg hg h=>ir (X:=X) hi λz1 z2 z3 z4=>by subst h;obtain⟨p,e⟩:=ij hx;subst e;cases eq_of_beq q1;cases MK h1;cases UC h2;cases Nv h3;have s:=(k hg).2.st [] X.env;exact Q1C i (k hg).1 z1 z2 z3 z4 rfl (by rw[s];rfl) q2 s rfl
theorem xJ(h:gY X s f)(e:VC c l f=some g):gY X s g:=by unfold VC at e;cases q:c.fz.lookup l with|some i=>rw[q] at e;cases e;exact GD h|none=>rw[q] at e;cases e;exact h
theorem sI(k:oO X E)(kB:YK X B):∀{n s f},tS c E B n s=some f->gY X s f
|0,_,_,h=>nn h|n+1,s,f,h=>by
 cases s with
 |Return v p=>cases v with|none=>exact nn h|some e=>exact ob h λg hg h=>xJ (fP (k hg).1) h
 |If t a b p=>exact ob h λf hf h=>ob h λg hg h=>om h λq hq h=>by subst h;exact cB (kB hf) (nE (sI k kB) hg) (nE (sI k kB) hq)|Assign ts e p=>exact ob h λg hg h=>xJ (Q1e k hg) h|For g e b o p=>cases o with|nil=>exact ob h λi hi h=>ob h λ⟨_,_⟩ hq h=>om h λf hf h=>by subst h;have z:=Ge (g:=g) k hi;have y:=OG (X:=X) T.nd (λx hx=>⟨T.sc ▸ Ag hx,.inl T.fn⟩) hq;exact GC T.fn T.cm z.1 y.1 (nE (sI k kB) hf) z.2|_=>exact nn h
 |While t b o p=>cases o with|nil=>exact ob h λf hf h=>om h λg hg h=>by subst h;exact Q1q T.fn (kB hf) (nE (sI k kB) hg)|_=>exact nn h
 |Expr e p=>exact ob h λg hg h=>xJ (SP k hg) h|Raise=>cases h;exact Q2H|_=>exact nn h
end
section
variable{X:Cx}{c:Tc}{e:Expr}
theorem xe[T:Kq X c]{f:M D}(h:tE 32 c e=some f:=by kernel_rfl):PV X e f:=(lY h).1
theorem xb[T:Kq X c]{f:M Bool}(h:ZU c e=some f:=by kernel_rfl):PB X e f:=qP (T6 (X:=X)) lY h
theorem xs[T:Cp X c]{s:Stmt}{f:M Fl}(h:ZD c s=some f:=by kernel_rfl):gY X s f:=sI lY (qP (T6 (X:=X)) lY) h
theorem ke[T:Cp X c]{l:List Stmt}{f:M Fl}(h:JU (ZD c) l=some f:=by kernel_rfl):iV X l f:=nE (sI lY<|qP (T6 (X:=X)) lY) h
end
abbrev bS(P:Program)(base:Heap){L:Hh}{w:World}{K:Frag}{mg:VS.MG}{a:G6}(T:Txt L w K mg a)(j:Nat)(r:aA):Prop:=YV ⟨P,w,K,mg,base⟩ j r
section
variable{P:Program}{w:World}{K:Frag}{mg:VS.MG}{base:Heap}{k:Nat}{ds ks:List aA}{ms:List (Str×aA)}{L:Hh}{a:G6}{x y qn:Str}{j:Nat}{fl:Qg}{f g:Fn}{bs:Bool}{st:Stmt}{ps:TY}{A C:Addr}{fd:FuncData}{body:M Fl}
theorem dn:sP ⟨P,w,K,mg,base⟩ k [] [] []:=⟨λ_ h=>absurd h Sh,λ_ h=>absurd h Sh,λ_ h=>absurd h Sh⟩
theorem dc{r:aA}(h:YV ⟨P,w,K,mg,base⟩ j r)(t:sP ⟨P,w,K,mg,base⟩ k ds ms ks)(hk:j<=k:=by exact R2):sP ⟨P,w,K,mg,base⟩ k (r::ds) ms ks:=⟨O4 ⟨j,hk,h⟩ t.ds,t.ms,t.ks⟩
theorem dm(h:∃qn st ps C fA fd,Cq K mg y x qn bs st ps C fA fd/\yY ⟨P,w,K,mg,base⟩ j fA fd ps (false::fl) f)(t:sP ⟨P,w,K,mg,base⟩ k ds ms ks)(hk:j<=k:=by exact R2):sP ⟨P,w,K,mg,base⟩ k ds ((x,y,fl,f)::ms) ks:=⟨t.ds,O4 ⟨j,hk,_,h⟩ t.ms,t.ks⟩
theorem dk(h:∃qn st ps C fA fd,Cq K mg x "__init__" qn bs st ps C fA fd/\yY ⟨P,w,K,mg,base⟩ j fA fd ps (true::fl) f)(t:sP ⟨P,w,K,mg,base⟩ k ds ms ks)(hk:j+1<=k:=by exact R2):sP ⟨P,w,K,mg,base⟩ k ds ms ((x,fl,f)::ks):=⟨t.ds,t.ms,O4 ⟨j,hk,_,h⟩ t.ks⟩
noncomputable abbrev BA(G:Gb)(N:TY)(fl:Qg)(us:Zg)(x:Str)(st:Stmt)(f:Addr)(j3:Value)(A:Around)(outer:List Env)(s:Shared)(H:Tm):Cx:=Vk G N fl us x (aw st) f j3 A outer s H
variable(c:Tc)(T:Txt c.L w K mg a)(hd:sP ⟨P,w,K,mg,base⟩ k c.ds c.ms c.ks)
include T hd in
theorem aat{f:Addr}{j3:Value}{A:Around}{outer:List Env}{s:Shared}{H:Tm}{us:Zg}(S:bD c.N ps (aw st))(hr:bE k (A.deeper<|envOfC x (aw st) s.heap.objs.size f j3))(hc:c.sc=aw st):Cp (BA ⟨P,w,K,mg,base⟩ c.N fl us x st f j3 A outer s H) c:={N:=rfl,sc:=hc.symm,ok:=⟨_,hr,hd⟩,T:=⟨_,T⟩,cm:=rfl,nd:=S.nd,fn:=rfl,bk:=Q0o S.kind}
include T hd in
theorem lz(F:GR K y x st A fd)(hB:∀{us:Zg}{j3:Value}{B:Around}{outer:List Env}{s:Shared}{H:Tm},bD c.N ps (aw st)->bE k (B.deeper<|envOfC x (aw st) s.heap.objs.size A j3)->Cp (BA ⟨P,w,K,mg,base⟩ c.N fl us x st A j3 B outer s H) c->iV (BA ⟨P,w,K,mg,base⟩ c.N fl us x st A j3 B outer s H)  (bh st) body)(hc:c.sc=aw st:=by exact rfl)(S:bD c.N ps (aw st):=by exact Ck)(hl:fl.length=ps.length:=by rfl)(hg:defn c.N.length fl body=g:=by exact rfl) : yY ⟨P,w,K,mg,base⟩ (k+1) A fd ps fl g:=⟨hl,hg ▸ MW F S hl λ_ _ _ _ _ _ hr=>hB S hr<|aat c T hd S hr hc⟩
include T hd in
include T hd in
theorem dG{r:aA}(D:sO K mg r.1 st ps A fd)(hb:ZP c body:=by kernel_rfl)(hs:c.st=st:=by exact rfl)(hc:c.sc=aw st:=by exact rfl)(S:bD c.N ps (aw st):=by exact Ck)(hl:r.2.1.length=ps.length:=by rfl)(hg:defn c.N.length r.2.1 body=r.2.2:=by exact rfl):YV ⟨P,w,K,mg,base⟩ (k+1) r:=⟨_,_,_,_,D,lz c T hd D.fu (λ_ _ _=>ke<|hs ▸ hb) hc S hl hg⟩
include T hd in
theorem vO(D:Cq K mg y x qn bs st ps C A fd)(hb:ZP c body:=by kernel_rfl)(hs:c.st=st:=by exact rfl)(hc:c.sc=aw st:=by exact rfl)(S:bD c.N ps (aw st):=by exact Ck)(hl:fl.length=ps.length:=by rfl)(hg:defn c.N.length fl body=g:=by exact rfl):∃qn st ps C fA fd,Cq K mg y x qn bs st ps C fA fd/\yY ⟨P,w,K,mg,base⟩ (k+1) fA fd ps fl g:=⟨_,_,_,_,_,_,D,lz c T hd D.fu (λ_ _ _=>ke<|hs ▸ hb) hc S hl hg⟩
end
end WL
end
section
set_option linter.all false
set_option maxRecDepth 100000
namespace WL
open PySem PySem.Spec PyProof.Rows L2 VP VS
section
variable{P:Program}{w:World}{K:W.Frag}{mg mb:MG}{k:Nat}{fa a:Addr}{fd:FuncData}{x:Str}{fn:Fn}{aK:Shared}{vs:Zg}{ns:Zw}
open Classical in
theorem Q1h(KX:K.In aK.heap)(Wa:aK.heap.Ns mainGlobals mg)(hb:aK.heap.Ns builtinsNs mb)(hbb:∀x:Str,x≠"__name__" -> mb x=bootBuiltins x)(aaT:aK.heap.NoLimit)(hg:aK.gens=#[])
  (ha:aK.heap.get? a=some {cls:=.type "list",data:=.seq vs.toArray}) (hi:IntsAre vs ns) (hl:ns.length<=sizeLine) (hr:bE k callerA)
  (F:∀base:Heap,pC ⟨P,w,K,mg,base⟩ k fa fd [x] [false] fn) (VQ:∀(s:Shared)(u:Value),BindsTo s fd ⟨[u],[]⟩ [(x,u)]) (w7:fn [.lst<|ns.map .int]=.ok (.bl true) []) :
  codeAny (model P w) callerA (.call (.ref fa) ⟨[.ref a],[]⟩) (λr s'=>r=.ok (.ret<|.bool true)/\OldK aK.heap s'.heap/\s'.os=aK.os/\AllBare s'.gens) aK:=by
 have WH:=hi.length;have fl:Paired cY (ns.map D.int) vs:=by clear ha w7 WH hl;induction hi with|nil=>exact .nil|cons n t h ih=>exact .cons ⟨t,rfl⟩ ih
 have ⟨base,lB,hB,hA⟩:∃base:Heap,(∀b o,base.get? b=some o->aK.heap.get? b=some o/\(b=a->G4 K a=some (.lst<|ns.map .int)))/\(∀b o,aK.heap.get? b=some o->b≠a\/K.lookup a≠none->base.get? b=some o)/\base.objs.size=aK.heap.objs.size:=by cases hk:K.lookup a with|some o=>have e:=KX a o hk;obtain rfl:=sj ha e;exact⟨aK.heap,λb o e=>⟨e,λz=>Gj ⟨false,_,vs.toArray,_,rfl,hk,by rw[Fj,WH];exact hl,fl⟩⟩,λb o e _=>e,rfl⟩|none=>refine⟨Ef aK.heap (λb=>if b=a then some (.lst []) else none),λb o e=>?_,λb o e h=>Eg e<|Y4<|h.elim id λz=>absurd rfl z,Q12 _ _⟩;obtain⟨h1,h2⟩:=Q0D e;refine⟨h1,λz=>?_⟩;rw[Zh z] at h2;cases h2
 have Ws:∀b o,aK.heap.get? b=some o->(∀n,o.data≠.seq vs.toArray n)->base.get? b=some o:=λb o e n=>hB b o e (.inl λz=>by subst z;obtain rfl:=sj ha e;exact n _ rfl);have nsK:∀{b:Addr}{m:Str->IW},aK.heap.Ns b m->base.Ns b m:=λ{b m} ⟨o,es,ep,e,d,r⟩=>⟨o,es,ep,Ws b o e (by rw[d];exactλ_ z=>nomatch z),d,r⟩;have hKb:K.In base:=λb o e=>hB b o (KX b o e) (by by_cases z:b=a;subst z;exact .inr (by rw[e];exactλz=>nomatch z);exact .inl z);have hM:Mod K mg base:=⟨hKb,nsK Wa,⟨mb,nsK hb,hbb⟩,let ⟨mc,h1,h2⟩:=aaT;⟨mc,nsK h1,h2⟩⟩;let H:Tm:=λb=>(aK.heap.get? b).map λo=>.pin o<|if b=a then some (.lst<|ns.map .int) else G4 K b;have hH:∀{b o},aK.heap.get? b=some o->H b=some (.pin o<|if b=a then some (.lst<|ns.map .int) else G4 K b):=λe=>by show Option.map _ _=_;rw[e];rfl
 have flat:∀{ds:Y5}{us:Zg},Paired cY ds us->aF H us ds:=λh=>by induction h with|nil=>exact .nil|cons h t ih=>exact .cons (cY.rel h) ih
 have aM:pF ⟨P,w,K,mg,base⟩ H aK.heap:=λb e q=>by
  cases z:aK.heap.get? b with
  |none=>have q':Option.map _ (aK.heap.get? b)=some e:=q;rw[z] at q';cases q'|some o=>
   obtain rfl:=sj (hH z) q;refine⟨z,λd y=>?_⟩;split at y;rename_i eb;cases y;subst eb;exact⟨by rw[SS];exact hl,vs,flat fl,_,ha⟩;obtain⟨t,ds,aY,n,rfl,h1,h2,h3⟩:=Q0r y;have e1:=KX b _ h1;have BX:ds.length<=sizeLine:=by rw[h3.length,Array.length_toList];exact h2
   cases t with|true=>exact⟨rfl,BX,aY.toList,flat h3,_,e1,rfl,⟨n,rfl⟩,rfl⟩|false=>exact⟨BX,aY.toList,flat h3,n,e1⟩
 have bsH:∀b o,base.get? b=some o->H b=some (.pin o<|G4 K b):=λb o e=>by obtain⟨h1,h2⟩:=lB b o e;rw[hH h1];by_cases z:b=a;rw[Zh z];subst z;exact congrArg (λd=>some<|En.pin o d) (h2 rfl).symm;rw[Y4 z]
 have e0:Co ⟨P,w,K,mg,base⟩ callerA [] aK H:=⟨rfl,hM,bsH,Nat.le_of_eq hA,(λe he=>absurd (show e∈([]:List Env) from he) T2),λb hb=>absurd (show b∈([]:xW) from hb) T2,aM,.of_eq hg⟩;refine F base callerA [] aK H [.ref a] [.lst<|ns.map .int] ⟨[.ref a],[]⟩ _ hr e0 (VQ aK<|.ref a) ⟨rfl,rfl,λi u d h1 h2 h3=>?_,λi u d h1 _ _=>?_,λi j b k _=>?_⟩ ?_;cases i with|zero=>cases h2;cases h3;exact⟨a,_,rfl,by rw[hH ha,Zh rfl]⟩|succ i=>simp at h1
 cases i with|zero=>cases h1|succ i=>simp at h1
 have:=k.1;cases i with|zero=>cases this|succ i=>simp at this
 rw[w7];intro s' H' v af rv;cases rv;refine⟨rfl,OldK.of_keep λb o e=>?_,af.os,af.bare⟩;exact(af.aM b _<|af.le b _ (hH e) trivial).1
end
abbrev Ul(l:W.OpenLaw)(w:World)(K:Frag)(mg:MG)(fa:Addr)(k:Nat)(p:Str):Prop:=∃(fd:FuncData)(fn:Fn),(∀(s:Shared)(v:Value),BindsTo s fd ⟨[v],[]⟩ [(p,v)])/\(∀ns:Zw,ns.length<=63->fn [.lst<|ns.map .int]=.ok (.bl true) [])/\∀base:Heap,pC ⟨l.prog,w,K,mg,base⟩ k fa fd [p] [false] fn
theorem walk63{l:W.OpenLaw}{q:Program}{loose:TY}{XP:(Str->IW)->Heap->Prop}{YP:World->Heap->Prop}{d:DefRec}{K:Params->W.Frag}(k:Nat)(hn:l.most=some 63)(hdf:d.params.defaults=[])
  (hY:∀(w:World)(h:Heap),YP w h->(K w.params).In h)
  (F:∀(w:World)(mg:Str->IW)(fa:Addr)(h:Heap),(K w.params).In h->h.Ns mainGlobals mg->mg d.name=some (.ref fa)->Ul l w (K w.params) mg fa k "_law_script") (hr:bE k callerA:=by exact⟨rfl,by decide,by decide⟩) :
  W.WalkO q loose XP YP l.row.toRowW d [] (λf vs=>PySem.call f vs):=by
 refine Att.vb hn hdf λw JP aK mg mb fa o pm cd doc a vs ns G Y ho hd jI V9 PK hints BX hg=>?_;have KX:=hY w _ Y;obtain⟨fd,fn,hb,w7,hF⟩:=F w mg fa _ KX G.T.g V9;exact Q1h KX G.T.g G.T.b G.T.builtins G.T.nolimit hg PK hints (HJ BX (by decide)) hr hF hb (w7 ns BX)
abbrev kg(P:Program)(base:Heap){L:Hh}{w:World}{K:Frag}{mg:MG}{a:G6}(T:Txt L w K mg a)(c x:Str)(bs:Bool)(k:Nat)(fl:Qg)(f:Fn):Prop:=∃qn st ps C fA fd,Cq K mg c x qn bs st ps C fA fd/\yY ⟨P,w,K,mg,base⟩ k fA fd ps fl f
theorem p8{g:Gb}{k:Nat}{f:Addr}{fd:FuncData}{ps:TY}{fl:Qg}(h:fl.length=ps.length):yY g k f fd ps fl (λ_=>.no):=⟨h,λ_ _ _ _ _ _ _ _ _ _ _ _ z=>z.elim⟩
section
variable{X:Cx}{e a b o tg VE elt value:Expr}{es ifs:WK}{as:List VP.Arg}{fa fb fe fo:M D}{f:M Fl}{body:List Stmt}{pos p TX:Pos}{k n i:Nat}{c x m qn:Str}{fs:Fn}{js:WC}
theorem aby{bs:Qg}{fl:List (M D)}(W:∃st ps fA fd,sO X.g.K X.g.mg x st ps fA fd/\yY X.g k fA fd ps bs fs)(hr:bE n X.A)(ha:PF X a fa)(PA:uY X es (mL fl))(hbs:bs=true::List.replicate fl.length false:=by rfl)(hk:k<=n:=by exact R2)(hg:Gl X x:=by rfl)(kF:RY x:=by decide)(he:PZ X a es:=by rfl)(gO:F6 X pos es:=by rfl):PV X (.Call (.Name x p) (a::es) [] pos) (lJ fs fa fl):=by obtain⟨_,_,_,_,D,F⟩:=W;exact BO F.2 hbs (hr.mono hk) hg D.mg D.fu.kp D.bi F.1 ha PA kF he gO
theorem wy{id:String}{g:D->Y1}(t:Bool)(h:Hb X (bf t id) RV g)(hg:Gl X x)(hm:X.g.mg x=none)(hv:bootBuiltins x=some (bf t id))(ha:PR X a fa)(hn:x≠"__name__" := by decide)(kF:RY x:=by decide)(hs:PZ X a []:=by rfl):PV X (.Call (.Name x p) [a] [] pos) (m1 g fa):=bZ t h hg hm hv ha hn kF hs
theorem abA(hm:X.g.mg "len" = none)(ha:PR X a fa)(hg:Gl X "len" := by rfl)(hs:PZ X a []:=by rfl):PV X (.Call (.Name "len" p) [a] [] pos) (m1 cw fa):=bZ false f_len hg hm PySem.boot_len ha (by decide) (by decide) hs
theorem abB(hm:X.g.mg "tuple" = none)(ha:PR X a fa)(hg:Gl X "tuple" := by rfl)(hs:PZ X a []:=by rfl):PV X (.Call (.Name "tuple" p) [a] [] pos) (m1 iM fa):=bZ true f_tup hg hm boot_tuple ha (by decide) (by decide) hs
theorem Q1I(hg:Gl X x)(hm:X.g.mg x=none)(hv:bootBuiltins x=some (.type "dict"))(ha:PV X a fa)(hn:x≠"__name__" := by decide)(kF:RY x:=by decide)(hs:PZ X a []:=by rfl):PV X (.Call (.Name x p) [a] [] pos) (m1 De fa):=PF.pv (bZ true Pm hg hm hv ha.rd hn kF hs)
theorem JN(hr:bE n X.A)(ha:PV X a fa)(hb:PV X b fb):PB X (.Compare a [.NotEq] [b] pos) (tB<|m2 jo fa fb):=yx (w_eq true hr.units) ha hb (E4 _)
theorem Ys(i:Nat){x:Str}{To:Pos}(hN:X.N.Nodup)(he:PV X e fe)(hi:X.N[i]?=some x:=by rfl)(hx:Loc X.env.scope x:=by exact Jm)(hs:swapsWith e (some<|.Name x To) pos.line X.env=pure false:=by rfl)(hf:X.fn=true\/X.env.scope.names.lookup x=some .local:=by exact Fm):gY X (.Assign [.Name x To] e pos) (aO i fe):=GH i hN hi hx he hs hf
theorem ON(i:Nat)(hN:X.N.Nodup)(hi:X.N[i]?=some x:=by rfl)(hx:Loc X.env.scope x:=by exact Jm)(hf:X.fn=true\/X.env.scope.names.lookup x=some .local:=by exact Fm):u0 X (.Name x pos) [i] (ao i):=AZ i hN hi hx hf
theorem OM{is:WC}(i:Nat)(hN:X.N.Nodup)(h2:u3 X es is)(hi:X.N[i]?=some x:=by rfl)(hx:Loc X.env.scope x:=by exact Jm)(hf:X.fn=true\/X.env.scope.names.lookup x=some .local:=by exact Fm) (hs:(assignEach (.Name x pos::es) X.env).map (·.2)=assign (.Name x pos) X.env::(assignEach es X.env).map (·.2):=by rfl):u3 X (.Name x pos::es) (i::is):=wR i hN hi hx h2 hf hs
variable{it:M (List D)}{gf:D->M Unit}{ft:M Bool}{scope:Scope}{N':TY}
theorem ZH(hi:qW X tg VE it)(hg:u0 X tg js gf)(hb:iV X body f)(w7:X.fn=true:=by rfl)(hc:X.calm=true:=by rfl)(hs:∀x,foldedSetIterable VE X.env x=pure x:=by exact Rc):gY X (.For tg VE body [] pos) (iQ it gf f):=GC w7 hc hi hg hb hs
theorem Xl(n:Nat)(N':TY)(hi:qW X tg VE it)(hg:N'.Nodup->∀{C s H ex},u0 (aI X scope C N' s H ex) tg js gf)(ht:∀{C s H ex},y4 (aI X scope C N' s H ex) ifs ft)(he:∀{C s H ex},PV (aI X scope C N' s H ex) elt fe)
 (nd:N'.Nodup:=by exact II) (xO:∀d r x r',gf d r≠.exc x r':=by first|exact jH|exact xK) (vS:∀j∈js,X.N.length<=j/\j<X.N.length+n:=by exact qc (by kernel_rfl)) (hc:X.calm=true:=by rfl) (ck:scope.kind=.function:=by rfl) (c:gZ X.env.scope.names scope.names X.N N'=true:=by kernel_rfl) (hn:X.N.length+n+1=N'.length:=by rfl)
 (hs:∀x,foldedSetIterable VE X.env x=pure x:=by exact Rc):PF X (.ListComp elt [⟨tg,VE,ifs,0⟩] scope pos) (aC n it gf ft fe):=Ao n hc ⟨ck,c,nd⟩ hn hi xO vS (λ_ _ _ _=>hg nd) (λ_ _ _ _=>ht) (λ_ _ _ _=>he) hs
theorem Kb(n i:Nat){y:Str}{py lV:Pos}(hN:X.N.Nodup)(hy:X.N[i]?=some y)(hx:Loc X.env.scope y)(hc:X.calm=true)(c:bA X scope N')(hn:X.N.length+n+1=N'.length)(hi:qW X tg VE it)(xO:∀d r x r',gf d r≠.exc x r')(vS:∀j∈js,X.N.length<=j/\j<X.N.length+n)
 (hg:∀C s H ex,u0 (aI X scope C N' s H ex) tg js gf) (ht:∀C s H ex,y4 (aI X scope C N' s H ex) ifs ft) (he:∀C s H ex,PV (aI X scope C N' s H ex) elt fe)
 (HW:swapsWith (.ListComp elt [⟨tg,VE,ifs,0⟩] scope pos) (some<|.Name y py) lV.line X.env=pure true:=by rfl) (hs:∀x,foldedSetIterable VE X.env x=pure x:=by exact Rc)
 (w7:X.fn=true\/X.env.scope.names.lookup y=some .local:=by exact Fm):gY X (.Assign [.Name y py] (.ListComp elt [⟨tg,VE,ifs,0⟩] scope pos) lV) (gU i<|aC n it gf ft fe):=kA true n i hc c hn hi xO vS hg ht he hN hy hx HW hs w7
theorem Kg(n i:Nat){y:Str}{py lV:Pos}(hN:X.N.Nodup)(hy:X.N[i]?=some y)(hx:Loc X.env.scope y)(hc:X.calm=true)(c:bA X scope N')(hn:X.N.length+n+1=N'.length)(hi:qW X tg VE it)(xO:∀d r x r',gf d r≠.exc x r')(vS:∀j∈js,X.N.length<=j/\j<X.N.length+n)
 (hg:∀C s H ex,u0 (aI X scope C N' s H ex) tg js gf) (ht:∀C s H ex,y4 (aI X scope C N' s H ex) ifs ft) (he:∀C s H ex,PV (aI X scope C N' s H ex) elt fe)
 (HW:swapsWith (.ListComp elt [⟨tg,VE,ifs,0⟩] scope pos) (some<|.Name y py) lV.line X.env=pure true:=by rfl) (hs:∀x,foldedSetIterable VE X.env x=pure x:=by exact Rc)
 (w7:X.fn=true\/X.env.scope.names.lookup y=some .local:=by exact Fm):gY X (.Assign [.Name y py] (.ListComp elt [⟨tg,VE,ifs,0⟩] scope pos) lV) (aO i<|jn<|aC n it gf ft fe):=nU false n i hc c hn hi xO vS hg ht he hN hy hx HW hs w7
theorem Kc(n i:Nat){y:Str}{py lV:Pos}(hN:X.N.Nodup)(hy:X.N[i]?=some y)(hx:Loc X.env.scope y)(hc:X.calm=true)(c:bA X scope N')(hn:X.N.length+n+1=N'.length)(hi:qW X tg VE it)(xO:∀d r x r',gf d r≠.exc x r')(vS:∀j∈js,X.N.length<=j/\j<X.N.length+n)
 (hg:∀C s H ex,u0 (aI X scope C N' s H ex) tg js gf) (ht:∀C s H ex,y4 (aI X scope C N' s H ex) ifs ft) (he:∀C s H ex,PV (aI X scope C N' s H ex) elt fe)
 (HW:swapsWith (.ListComp elt [⟨tg,VE,ifs,0⟩] scope pos) (some<|.Name y py) lV.line X.env=pure true:=by rfl) (hs:∀x,foldedSetIterable VE X.env x=pure x:=by exact Rc)
 (w7:X.fn=true\/X.env.scope.names.lookup y=some .local:=by exact Fm):gY X (.Assign [.Name y py] (.ListComp elt [⟨tg,VE,ifs,0⟩] scope pos) lV) (gU i<|jn<|aC n it gf ft fe):=nU true n i hc c hn hi xO vS hg ht he hN hy hx HW hs w7
end
end WL
end
section
set_option linter.all false
set_option maxRecDepth 100000
namespace WL
open PySem PySem.Spec PyProof.Rows L2 VP
abbrev VF:=PySem.F.excBase_ValueError
inductive xk(h:Heap)(C:Addr)(iv:Value):Prop|mk (bm:Zg) (hC:h.get? C=some (excClassObj nm qn C N bs bm hd sn sub ab col dd k0 k1 k2 k3 k5 "ValueError.__new__")) (hn:h.Ns N mN) (T:OwnTail h VS.rz bm) (hi:mN "__init__" = some iv\/mN "__init__" = none/\iv=.builtin "ValueError.__init__")
theorem xk.keeps(x:xk h C iv)(k:∀b o,h.get? b=some o->h'.get? b=some o):xk h' C iv:=by obtain⟨bm,a,b,c,d⟩:=x;exact⟨bm,k _ _ a,b.keeps k,c.keeps k,d⟩
section
variable{prog:Program}{w:World}{A:Around}{E:YY}{h:Heap}{g:Array GenState}{d:Drawn}{t:Nat}{os:OsState}{env:Env}{s:Shared}{iv:Value}{rest:Zg}{C:Addr}
theorem Ts{Q:PySem.Fin->Shared->Prop}(x:xk h C iv)(hb:∀h' (e:Addr) (Q:Value×List Value->Shared->Prop),(∀b o,h.get? b=some o->h'.get? b=some o)->Q (iv,[.ref e]) ⟨h',g,d,t,os⟩->wpAny (model prog w) A (bindSpecial iv<|.ref e) Q E ⟨h',g,d,t,os⟩)
  (hq:∀h' e,Heap.MadeExcOf h h' e (.ref C) rest->h.objs.size<=e->wpAny (model prog w) A (call iv (.ref e::rest)) (λr s'=>r=.none/\Q (.done<|.ret<|.ref e) s') E ⟨h',g,d,t,os⟩) (hrest:rest.length<=sizeLine) :
  wpAny (model prog w) A (Builtin.«type.__call__» ⟨.ref C::rest,[]⟩) Q E ⟨h,g,d,t,os⟩:=by
 obtain⟨bm,hC,hn,T,hi⟩:=x;repeat (first|with_reducible refine wpAny_loadPart_at hC ?_|with_reducible refine wpAny_madeBy_exc hC ?_|wp_step)
 refine codeAny_call_builtin_code (Code.quiet_builtin _ VF.quiet)<|wpAny_check_new_subU VF (by decide) T hC ?_;refine codeAny_exc_new_subU VF (by decide) VF T hC ?_ hrest;show wpAny _ _ _ _ _ _;have k:∀b o,h.get? b=some o->((h.push {cls:=.type "tuple",data:=.seq rest.toArray}).push {cls:=.ref C,data:=.fields #[.ref h.objs.size,.none,.none,.none,.bool false,.none]}).get? b=some o:=λb o e=>Wm _<|Wm _ e;have PD:((h.push {cls:=.type "tuple",data:=.seq rest.toArray}).push {cls:=.ref C,data:=.fields #[.ref h.objs.size,.none,.none,.none,.bool false,.none]}).get? (h.objs.size+1)=some {cls:=.ref C,data:=.fields #[.ref h.objs.size,.none,.none,.none,.bool false,.none]}:=by heap_get
 have ht:((h.push {cls:=.type "tuple",data:=.seq rest.toArray}).push {cls:=.ref C,data:=.fields #[.ref h.objs.size,.none,.none,.none,.bool false,.none]}).get? h.objs.size=some {cls:=.type "tuple",data:=.seq rest.toArray}:=Wm _<|Heap.get?_push_at rfl rfl;generalize (h.push {cls:=.type "tuple",data:=.seq rest.toArray}).push {cls:=.ref C,data:=.fields #[.ref h.objs.size,.none,.none,.none,.bool false,.none]}=h1 at k PD ht;have hcC:(Value.ref C::bm).contains (.ref C)=true:=T2;have M0:=k _ _ hC;unfold isInstance;repeat (first|with_reducible refine wpAny_loadPart_at PD ?_|(with_reducible refine wpAny_isSubtype_exc M0 ?_;rw[hcC])|wp_step)
 show wpAny _ _ (typeLookup (.ref C) _) _ _ _;refine wpAny_typeLookup_tail M0 (hn.keeps k) (T.keeps k) VF.mroIs VF.init.lookup ?_;rcases hi with hi|⟨hi,rfl⟩<;>rw[hi];all_goals refine RL (bx<|hb _ _ _ k<|bx<|P9 (hq _ (h.objs.size+1) ⟨k,Heap.get?_none_of_le<|Jd _,h.objs.size,PD,Heap.get?_none_of_le<|TC _,ht⟩<|Jd _) (λr s' hr=>?_) λ_ _ x=>x)
 all_goals
  obtain⟨rfl,hQ⟩:=hr
  wp_walk
  exact hQ
theorem x_call{Q:YY}(x:xk h C iv)(hb:∀A h' (e:Addr) (Q:Value×List Value->Shared->Prop),(∀b o,h.get? b=some o->h'.get? b=some o)->Q (iv,[.ref e]) ⟨h',g,d,t,os⟩->wpAny (model prog w) A (bindSpecial iv<|.ref e) Q E ⟨h',g,d,t,os⟩)
  (hq:∀h' e,Heap.MadeExcOf h h' e (.ref C) rest->h.objs.size<=e->wpAny (model prog w) (A.under<|.builtin "type.__call__" ⟨.ref C::rest,[]⟩) (call iv (.ref e::rest)) (λr s'=>r=.none/\Q (.ref e) s') E ⟨h',g,d,t,os⟩) (hrest:rest.length<=sizeLine) :
  wpAny (model prog w) A (call (.ref C) rest) Q E ⟨h,g,d,t,os⟩:=by
 obtain⟨bm,hC,hx⟩:=id x;have f1:=tc_lookup;have f2:=tc_bind<|.ref C;have hT:(⟨h,g,d,t,os⟩:Shared).TypeIs (.ref C) "type" := ⟨_,hC,rfl⟩;refine wpAny_call<|codeAny_of_tree ?_;show wpAny _ _ (callAny (.ref C) _) _ _ _;repeat (any_goals (first|assumption|with_reducible refine wpAny_loadPart_at hC ?_|wp_step))
 refine⟨rfl,codeAny_call_builtin_at (Code.quiet_builtin _ (by decide +kernel)) entry_typeCall<|wpAny_check_type_call_sub hC<|Ts (hrest:=hrest) x (hb _) λh' e hm hl=>hq h' e hm hl⟩
theorem Q1c{M:Model}{x:Sem Value}{Q:Flow->Shared->Prop}(hh:A.handled=none)(h:wpAny M A x (λv aK=>∃e dx vs sl,v=.ref e/\xk aK.heap C iv/\aK.heap.get? e=some ⟨.ref C,dx,.fields vs,sl⟩/\vs[1]?=some .none/\E (.ref e) aK) E s) : wpAny M A (raiseStmt env (some x) none) Q E s:=by
 unfold raiseStmt;refine bx<|P9 h (λv aK bB=>?_) λ_ _ x=>x;obtain⟨e,dx,vs,sl,rfl,⟨bm,hC,hn,T,_⟩,he,hv1,hE⟩:=bB;have hcB:(Value.ref C::bm).contains (.type "BaseException")=true:=by have:=T.hasType (show VS.rz.contains (.type "BaseException")=true by decide);rw[List.contains_cons,this,Bool.or_true]
 obtain⟨hp,g,d,tk,os⟩:=aK;repeat (first|with_reducible refine wpAny_loadPart_at he ?_|with_reducible refine wpAny_loadPart_at hC ?_|(with_reducible refine wpAny_isSubtype_exc hC ?_;rw[hcB])|rw[hv1]|wp_step)
 exact wpAny_raiseNew_none hh hE
theorem x_raise{x:Str}{np bM pos:Pos}{args:WK}{Q:Flow->Shared->Prop}(hh:A.handled=none)(PQ:(backTo bM<|starEach args env).any (·.1)=false)
  (h:wpAny (model prog w) A (eval (.Name x np) env) (λf aK=>f=.ref C/\wpAny (model prog w) A (evalArgs (.ref C) true (backTo bM<|starEach args env) []) (λa iR=>a.kw=[]/\a.pos.length<=sizeLine/\xk iR.heap C iv/\(∀A h' (e:Addr) (Q:Value×List Value->Shared->Prop),(∀b o,iR.heap.get? b=some o->h'.get? b=some o)->Q (iv,[.ref e]) {iR with heap:=h'}->wpAny (model prog w) A (bindSpecial iv<|.ref e) Q E {iR with heap:=h'})/\∀h' e,Heap.MadeExcOf iR.heap h' e (.ref C) a.pos->iR.heap.objs.size<=e->wpAny (model prog w) (A.under<|.builtin "type.__call__" ⟨.ref C::a.pos,[]⟩) (call iv (.ref e::a.pos)) (λr s'=>r=.none/\∃dx vs sl,xk s'.heap C iv/\s'.heap.get? e=some ⟨.ref C,dx,.fields vs,sl⟩/\vs[1]?=some .none/\E (.ref e) s') E {iR with heap:=h'}) E aK) E s) :
  wpAny (model prog w) A (exec (.Raise (some<|.Call (.Name x np) args [] bM) none pos) env) Q E s:=by
 rw[arm_exec_Raise,arm_evalOpt_some];refine bx<|QN<|Q1c (C:=C) (iv:=iv) hh<|bx<|P9 (wpAny_Call_ofName<|P9 h (λf aK bB=>?_) λ_ _ x=>x) (λv F9 lE=>bx<|QN<|Zx lE) λ_ _ x=>x;obtain⟨rfl,bB⟩:=bB;unfold callWith;refine bx<|RL<|P9 bB (λa iR iP=>bx<|QN ?_) λ_ _ x=>x;obtain⟨TX,akw⟩:=a;obtain⟨hkw,BX,hC,hb,iP⟩:=iP;obtain rfl:akw=[]:=hkw;obtain⟨hp,g,d,tk,os⟩:=iR;simp only[PQ];obtain⟨bm,hC',_⟩:=id hC;refine bx<|wpAny_keeperOf_exc hC' ?_;refine bx<|x_call (hrest:=BX) hC hb λh' e hm hl=>P9 (iP h' e hm hl) (λr s' ⟨hr,dx,vs,sl,e1,e2,e4,e3⟩=>⟨hr,bx<|RL<|wpAny_point<|Zx ?_⟩) λ_ _ x=>x;exact⟨e,dx,vs,sl,rfl,e1,e2,e4,e3⟩
end
section
variable{X:Cx}{e:Expr}{es:WK}{fs:List (M D)}{pos bM np:Pos}{C:Addr}{x:Str}
theorem xk.of0{K:W.Frag}{h:Heap}(gu:K.In h)(q:W.excIn K C VS.rz "ValueError.__new__" = true):xk h C (.builtin "ValueError.__init__"):=by obtain⟨bm,N,nm,qn,bs,hd,sn,sub,ab,col,dd,k0,k1,k2,k3,k5,mN,a,b,c,d⟩:=VS.HC gu q;exact⟨bm,a,b,d,.inr ⟨c,rfl⟩⟩
theorem GG(hk:W.excIn X.g.K C VS.rz "ValueError.__new__" = true)(hg:Gl X x)(hm:X.g.mg x=some (.ref C))(hc:X.calm=true)(ha:uY X (e::es) (mL fs))
  (hd:RY x:=by decide) (he:PZ X e es:=by rfl) (gO:(backTo bM<|starEach es X.env).any (·.1)=false:=by rfl) :
  gY X (.Raise (some<|.Call (.Name x np) (e::es) [] bM) none pos) (uH x fs):=λs σ H ρ Q E I o=>by
 refine x_raise (C:=C) (iv:=.builtin "ValueError.__init__") (I.ok.hd hc) (by rw[he];show (false||(backTo bM<|starEach es X.env).any (·.1))=false;rw[gO];rfl)<|cj I hg hm ⟨rfl,?_⟩ hd;have h:=ha bM;rw[he] at h ⊢;refine Calls.evalArgs_plain<|h.Zi I o (λ_ _ q=>q.x) λs1 H1 aS us ds I1 l1 r1 o1=>?_;split at o1;rename_i hl;have hul:us.length<=sizeLine:=by rw[Paired.length r1];exact HJ hl (by decide)
 have X0:=xk.of0 I1.iS hk;refine⟨rfl,hul,X0,λA h' e Q _ q=>IB (VF.init.bind _) q,λh' a rZ hsz=>?_⟩;obtain⟨t,h1,h2,h3⟩:=rZ.there;obtain⟨bm,hC,hn,T,hi⟩:=X0.keeps rZ.keeps;refine wpAny_call (codeAny_call_builtin VF.init.plain VF.initEntry<|wpAny_check_init_subU VF T hC h1 rfl ?_)
 wp_walk
 have hf:=Xs (Obj.mapFields λx=>x.setIfInBounds 0<|Value.ref h'.objs.size) (Wm {cls:=.type "tuple",data:=.seq us.toArray} h1) rfl;have k:∀b o,s1.heap.get? b=some o->((h'.push {cls:=.type "tuple",data:=.seq us.toArray}).update a<|Obj.mapFields λx=>x.setIfInBounds 0<|Value.ref h'.objs.size).get? b=some o:=λb o e=>(UM _ _<|yB<|Sq (Hz e) hsz).trans<|Wm _<|rZ.keeps b o e;exact⟨rfl,none,_,_,X0.keeps k,hf,rfl,o1 _ σ H1 _ (I1.kept (t':=s1.toks) k) l1 ⟨a,C,none,rfl,hm,.inl ⟨rfl,rfl,rfl⟩,none,_,_,hf,rfl,I1.aM.fresh hsz,HJ I1.sz hsz,rfl⟩⟩;exact o1.elim
end
end WL
end
section
set_option linter.all false
set_option maxRecDepth 100000
namespace WL
open PySem PySem.Spec PyProof.Rows L2 VP
abbrev hand(X:Cx)(e:Addr):Cx:={X with A:=X.A.mark<|some<|.ref e,calm:=false}
inductive XS(X:Cx)(H:Tm)(s:Shared)(e:Addr)(x:Xn):Prop|mk (C:Addr) (dx:Ra) (w:Value) (hm:X.g.mg x.cls=some (.ref C)) (hx:(dx=none/\x.ns=[]/\x.vs=[])\/∃b o,dx=some b/\H b=some (.pin o<|some .aQ)/\pB H s.heap b x.ns x.vs) (xa:Hk X.n₀ H s.heap e (.ref C) dx (some w))
def PH(X:Cx)(hs:List ExceptHandler)(f:Xn->M Fl):Prop:=∀s σ H ρ Q E e x,Inv X σ H ρ s->XS X H s e x->Out (f x ρ) (jy X H RS Q) (λ_ _=>False)->wpAny X.M X.A (handleBy (.ref e) X.env hs) Q E s
def PU(X:Cx)(name:Option Str)(body:List Stmt)(pos:Pos)(f:Xn->M Fl):Prop:=∀s σ H ρ Q E e x,Inv X σ H ρ s->XS X H s e x->Out (f x ρ) (jy X H RS Q) (λ_ _=>False)->codeAny X.M (X.A.mark<|some<|.ref e) (.handlers (.ref e) [.ExceptHandler none name body pos] X.env) (λr iR=>match r with
|.ok f=>(match name with
  |none=>Q f iR|some n=>wpAny X.M X.A (do bindName X.env n .none;unbindBehindTheSuite X.env n pos) (λ_ F9=>Q f F9) E iR)
 |.error x=>cameBackBy X.M X.A X.env E x iR) s
section
variable{X:Cx}{σ:Sg}{H:Tm}{ρ:ay}{s:Shared}{e Dc:Addr}{x:Xn}{body AS:List Stmt}{Ht:Stmt}{fb fh:M Fl}{cn n:Str}{pos hp cp:Pos}{subs:Ju}{j:Nat}{hs:List ExceptHandler}
theorem QG(ok:X.Ok)(e:Addr):(hand X e).Ok:=⟨ok.mod,ok.kind,ok.glob,ok.blt,ok.inj,ok.has,(λz=>nomatch z),ok.frames,ok.ZA,ok.fr0,ok.bs,ok.Hs,ok.h0,ok.fr,ok.lo⟩
theorem Inv.hand(I:Inv X σ H ρ s)(e:Addr):Inv (hand X e) σ H ρ s:=⟨QG I.ok e,I.os,I.bare,I.le,I.nw,I.aM,I.loc,λi sl h=>(I.slot i sl h).imp λx hx=>⟨hx.1,by have:=hx.2;cases sl<;>exact this⟩,I.tg,I.fl,I.cell,I.len⟩
theorem Inv.yT(ok:X.Ok)(I:Inv (WL.hand X e) σ H ρ s):Inv X σ H ρ s:=⟨ok,I.os,I.bare,I.le,I.nw,I.aM,I.loc,λi sl h=>(I.slot i sl h).imp λx hx=>⟨hx.1,by have:=hx.2;cases sl<;>exact this⟩,I.tg,I.fl,I.cell,I.len⟩
theorem XS.kp(x1:XS X H s e x):∃oe C,s.heap.get? e=some oe/\oe.cls=.ref C/\X.g.mg x.cls=some (.ref C):=by obtain⟨C,dx,w,hm,_,vs,sl,he,_⟩:=x1;exact⟨_,C,he,rfl,hm⟩
theorem Ta{hd:List (List (Str×Bool)×Option Nat×M Fl)}{h₀:ExceptHandler}(hb:iV X body fb)(hh:PH X (h₀::hs) (FY hd)):gY X (.Try body (h₀::hs) [] [] pos) (lT fb hd):=λs σ H ρ Q E I o=>by
 refine wpAny_Try_except<|hb s σ H ρ _ _ I ?_;unfold lT at o;cases q:fb ρ with
 |no=>rw[q] at o;exact o|ok k r1=>rw[q] at o;intro s' dR H' f I' l r;have z:=o s' dR H' f I' l r;cases f with|next=>exact wpAny_execs_nil z|_=>exact z
 |exc x r1=>rw[q] at o;have o:Out (FY hd x r1) (jy X H RS Q) (jy X H (XR X) E):=o;intro s' dR H' v I' l r;obtain⟨e,C,dx,rfl,hm,hx,w,xa⟩:=r;refine ur I' xa λh2 w2 I2 k2 x2=>je none I2 x2 λh3 I3 k3 x3=>hh _ dR H' r1 Q E e x I3 ⟨C,dx,_,hm,hx.imp id λ⟨b,o,h1,h2,f⟩=>⟨b,o,h1,h2,f.kp (s:=s')<|k2.trans k3⟩,x3⟩ ?_;cases z:FY hd x r1 with|ok a r2=>rw[z] at o;exact jy.le l o|exc y r2=>exact absurd z OA|no=>rw[z] at o;exact o
theorem R8:PH X [] (FY []):=λs σ H ρ Q E e x I xs o=>o.elim
theorem Ap{name:Option Str}{hd:List (List (Str×Bool)×Option Nat×M Fl)}{oj:Option Nat}(ct:VS.A3 X.g.K Dc)(hg:Gl X cn)(hm:X.g.mg cn=some (.ref Dc))(Bu:∀p∈subs,∃C,X.g.mg p.1=some (.ref C)/\W.mroIn X.g.K C (.ref Dc)=some p.2)(hu:PU X name body hp (tU oj fh)) (hr:PH X hs (FY hd)) (kF:RY cn:=by decide):PH X (.ExceptHandler (some<|.Name cn cp) name body hp::hs) (FY ((subs,oj,fh)::hd)):=λs σ H ρ Q E e x I xs o=>by refine wpAny_handleBy_cons (codeAny_handlers_test<|cj (X:=WL.hand X e) (I.hand e) hg hm ?_ kF) (by intro q;cases q);obtain⟨oe,C,he,hc,PI⟩:=xs.kp;rw[FY] at o;cases hl:subs.lookup x.cls with|none=>rw[hl] at o;exact o.elim|some b=>rw[hl] at o;obtain⟨C',h1,h2⟩:=Bu _<|Fh hl;rw[PI] at h1;cases h1;cases b with|true=>cases name<;>exact VS.sM I.iS ct he hc h2 (hu s σ H ρ Q E e x I xs o)|false=>exact VS.sM I.iS ct he hc h2 (hr s σ H ρ Q E e x I xs o)
theorem XS.fly{E:YY}{Q:Unit->Shared->Prop}(I:Inv X σ H ρ s)(xs:XS X H s e x)(h:∀s',Inv X σ H ρ s'->XS X H s' e x->Q () s'):wpAny X.M (X.A.mark<|some<|.ref e) (setFlight (.ref e) none) Q E s:=by obtain⟨C,dx,w,hm,hx,xa⟩:=xs;refine je (X:=WL.hand X e) none (I.hand e) xa λh' I' k x2=>h _ (I'.yT I.ok) ⟨C,dx,_,hm,hx.imp id λ⟨b,o,h1,h2,f⟩=>⟨b,o,h1,h2,f.kp (X:=WL.hand X e) k⟩,x2⟩
theorem Q0g(hh:∀e,iV (WL.hand X e) (Ht::AS) fh):PU X none (Ht::AS) pos (tU none fh):=λs σ H ρ Q E e x I xs o=>by refine codeAny_handlers_suite<|xs.fly I λs' I' x'=>hh e s' σ H ρ _ _ (I'.hand e) ?_;simp only[tU] at o;cases q:fh ρ with|ok f r=>rw[q] at o;exactλs2 Kl H2 b I2 l2 r2=>o s2 Kl H2 b (I2.yT I.ok) l2 r2|_=>rw[q] at o;exact o.elim
theorem Inv.Yk{o:Obj}{vs:Array Value}{d:D}(I:Inv X σ H ρ s)(hn:H e=none)(Cd:X.n₀<=e)(he:s.heap.get? e=some o)(hd:o.data=.fields vs)(new:gH X.g (upd H e<|.pin o<|some d) s.heap true e d):Inv X σ (upd H e<|.pin o<|some d) ρ s:=by
 have l:Le H (upd H e<|.pin o<|some d):=Le.lay hn;have ne:∀{b q},H b=some q->b≠e:=λq z=>by rw[z,hn] at q;cases q
 refine⟨I.ok,I.os,I.bare,I.le.trans l,λa q h n=>?_,λa q h=>?_,I.loc,λi sl h=>?_,I.tg.lay hn (λ_ _ z=>nomatch z),?_,λy c h=>?_,I.len⟩;by_cases z:a=e;exact .inl<|z ▸ Cd;exact I.nw a q (by rw[aD z] at h;exact h) n;by_cases z:a=e;subst z;obtain rfl:=sj az h;exact⟨he,λe z=>by cases z;exact new⟩;rw[aD z] at h;have y:=I.aM a q h;have mv:∀{f:Bool}{d:D},gH X.g H s.heap f a d->gH X.g _ s.heap f a d:=λy=>y.mv l.p (λ_ z=>z) (λ_ b z=>(aD<|ne z).trans z) λ_ _ _ z=>z;cases q with|pin o d=>exact⟨y.1,λe z=>mv<|y.2 e z⟩|ow d i=>exact⟨mv y.1,y.2⟩|_=>exact y
 obtain⟨x,hx,r⟩:=I.slot i sl h;exact⟨x,hx,r.mv l.p λp d q=>(aD<|ne q).trans q⟩;rw[aD λz=>?_];exact I.fl;obtain⟨m,⟨o',es,ep,h3,h4,_⟩,_⟩:=I.loc;rw[z,he] at h3;cases h3;rw[hd] at h4;cases h4;obtain⟨⟨v,o',h3,h4⟩,r⟩:=I.cell y c h;have:c≠e:=λz=>by rw[z,he] at h3;cases h3;rw[hd] at h4;cases h4
 rw[aD this];exact⟨⟨v,o',h3,h4⟩,r⟩
theorem name_goes{E:YY}{Q:Unit->Shared->Prop}(I:Inv X σ H ρ s)(hN:X.N.Nodup)(hi:X.N[j]?=some n)(hl:X.env.scope.names.lookup n=some .local)(hr:free ρ[j]?=true)(h:∀s' H',Inv X (λy=>if y=n then none else σ y) H' (ρ.set j .no) s'->Le H H'->Q () s'):wpAny X.M X.A (do bindName X.env n .none;unbindBehindTheSuite X.env n pos) Q E s:=by
 obtain⟨H1,t,I1,l1,ht,bk⟩:=I.give hr;obtain⟨m,hm,hk⟩:=id I1.loc;have jl:=I.WG hi;refine wpAny_nameGoes_keeps hl hm (by rw[I.ok.kind];rfl) λh' v hn hs=>h _ H1 ?_ l1;refine⟨I1.ok,I1.os,I1.bare,I1.le,I1.nw,I1.aM.gen (·=X.env.locals) (λa q z y=>by subst z;exact en I1.fl y) (λ_ _=>rfl) (λb o z q=>(hs.2 b z).trans q) (λ_ b q z y=>by subst z;exact en I1.fl y),⟨_,hn,λy u vy e=>?_⟩,λi sl q=>?_,λa d i q TQ=>?_,I1.fl,λy c e=>⟨?_,(I1.cell y c e).2⟩,by rw[List.length_set];exact I.len⟩;have ny:y≠n:=λz=>by exact en (Zh z) e
 rw[Y4 ny] at e;rcases hk y u vy e with ⟨k,q⟩|⟨k,c,q,z⟩
 exact .inl ⟨k,by simp[ny,q]⟩;exact .inr ⟨k,c,q,z.sameBut hs<|I1.TG q⟩;by_cases z:i=j;subst z;obtain rfl:=sj (Xh jl) q;exact⟨n,hi,trivial⟩;rw[Jj<|JL z] at q;obtain⟨x,hx,r⟩:=I1.slot i sl (by rw[Jj<|JL z];exact q);have nx:x≠n:=λe=>z<|qr hN hx<|e ▸ hi;exact⟨x,hx,by rw[Y4 nx];exact r⟩;have a1:=I1.tg a d i q TQ;have z:i≠j:=λz=>by subst z;rw[Xh jl] at a1;rcases ht with rfl|⟨_,rfl⟩<;>rcases a1.1 with y|y<;>cases y
 rw[Jj<|JL z] at a1 ⊢;exact a1;obtain⟨⟨w,z⟩,_⟩:=I1.cell y c e;exact⟨w,z.sameBut hs<|I1.TG e⟩
theorem Q0z(hN:X.N.Nodup)(hi:X.N[j]?=some n)(hl:X.env.scope.names.lookup n=some .local)(hh:∀e,iV (WL.hand X e) (Ht::AS) fh):PU X (some n) (Ht::AS) pos (tU (some j) fh):=λs σ H ρ Q E e x I xs o=>by
 refine codeAny_handlers_suite_as<|xs.fly I λs1 I1 x1=>?_;obtain⟨C,dx,w,hm,hx,vs,sl,he,h2,hn,Cd,_⟩:=x1;have dxf:∀H',j1 H H'->QJ H' s1.heap true e x.ns x.vs dx:=λH' lp=>by
  rcases hx with ⟨rfl,a,b⟩|⟨b,o,rfl,hb,f⟩
  exact⟨a,b⟩;exact⟨⟨o,lp _ _ _ hb⟩,(λz=>by rw[z,hn] at hb;cases hb),f.p lp⟩
 have I2:=I1.Yk (d:=.fm x.cls x.ns x.vs) hn Cd he rfl ⟨C,dx,vs,sl,hm,he,h2,(nomatch ·),dxf _ (Le.lay hn).p⟩;simp only[tU] at o;split at o;rename_i hj;refine Inv.store (X:=WL.hand X e) (I2.hand e) hN hi (.inl hl) (.inr hl) (by rw[hj];rfl) (.inl ⟨.fm x.cls x.ns x.vs,rfl,⟨e,_,rfl,az⟩⟩) λs3 H3 I3 l3=>hh e s3 _ H3 _ _ _ I3 ?_;generalize fh (ρ.set j<|.sh<|.fm x.cls x.ns x.vs)=B at o;cases B with
  |ok f r=>
   simp only[tQ] at o;by_cases z:free r[j]?=true;rw[Zh z] at o;intro s4 YG H4 b I4 l4 r4;refine name_goes (I4.yT I.ok) hN hi hl z λs5 H5 I5 l5=>o s5 _ H5 b I5 ((Le.lay hn).trans<|l3.trans<|l4.trans l5) ?_;cases f with|rt d=>obtain⟨v,z,r⟩:=r4;exact⟨v,z,r.le l5⟩|_=>exact r4
   rw[Y4 z] at o;exact o.elim
  |_=>exact o.elim
 exact o.elim
end
end WL
end
section
set_option linter.all false
set_option maxRecDepth 100000
namespace WL
open PySem PySem.Spec PyProof.Rows L2 VP
section
variable{X:Cx}{e a o value:Expr}{es:WK}{fa fe fo:M D}{fs:List (M D)}{pos p p' bM np:Pos}{x c f:Str}{σ:Sg}{H H':Tm}{ρ:ay}{s s':Shared}{ds ios:Y5}{us:Zg}{Q:YY}{E:YY}
variable{k:Nat}{fA C:Addr}{fd:FuncData}{ps:TY}{fl:Qg}{fn:Fn}{cs:TY}
theorem A0(i:Nat){To p':Pos}(T:∀c∈cs,∃C,X.g.mg c=some (.ref C)/\VS.sQ X.g.K C f)(HX:PV X value fe)(hN:X.N[i]?=some x:=by rfl)(hv:pH X.env.scope x:=by exact BQ)(hd:RY x:=by decide)(jI:BG x:=by decide)(hs:swapsWith value (some<|.Attribute (.Name x p') f To) pos.line X.env=pure false:=by rfl)(hf:f≠"cells" := by decide) : gY X (.Assign [.Attribute (.Name x p') f To] value pos) (F0 i cs f fe):=λs σ H ρ Q E I o=>
 plainObj_wpAny_Assign_Attribute (HX.Zi I o (λ_ _ q=>q.x) λs1 H1 aS u d1 I1 l1 r1 o1=>by
  obtain⟨d,d',q0,q1,k⟩:=iy o1.Zi;obtain⟨l,hu,hl⟩:=I1.ownAt hN hv q0;refine dF I1 hv hu ?_ hd jI;cases d with
  |fm c ns vs=>
   simp only[XZ] at q1;split at q1;rename_i hc;rw[Ss] at hc;cases q1;obtain⟨C,hm,hC⟩:=T c (by simpa using hc.1);have h9:ns.length<1000:=by simpa using P7 hc.2
   obtain⟨⟨C',dx,vv,sl,h1,h2,h3,Pt,h4⟩,_⟩:=I1.aM l _ hl;rw[hm] at h1;cases h1;cases dx with
   |none=>
    obtain⟨rfl,rfl⟩:=h4;refine VS.Q2v I1.iS h2 hC λh' PX rg kk=>?_;obtain⟨od,es,ep,n1,n2,n3⟩:=id rg;have nl:l≠s1.heap.objs.size:=Rb<|Hz h2;have nf:=(Heap.get?_some_iff.mp n1).2;obtain⟨I2,l2⟩:=I1.lay (t':=s1.toks) (h':=s1.heap.push od) (a:=s1.heap.objs.size) (e:=.di l) (λb o e=>Wm _ e) (TC _) λlp=>⟨_,Zv _ nf⟩;have HR:upd H1 s1.heap.objs.size (.di l) l=some (.ow (.fm c [] []) i):=(aD nl).trans hl;have lk1:∀g,[(f,u)].lookup g=if g=f then some u else none:=λg=>by rw[Xp];by_cases z:g=f;subst z;simp;rw[beq_eq_false_iff_ne.mpr z,Y4 z];rfl
    have lk2:PySem.Within (λg=>if g=f then some u else none) [f]:=λg hg=>by by_cases z:g=f;simp[z];exact absurd (Y4 z) hg
    obtain⟨I3,l3⟩:=I2.wr (t':=s1.toks+2) (h':=h') (d':=.fm c [f] [d1]) HR (.inl rfl) (λb q hb z=>by
     rcases Heap.get?_push_cases z with ⟨rfl,rfl⟩|z
     exact n1;exact kk b q hb z) ⟨_,PX⟩ (λlp=>⟨C,some s1.heap.objs.size,vv,sl,hm,PX,h3,Pt,(aD<|JL nl).trans az,JL nl,[(f,u)],rfl,.cons ((r1.le l2).p lp) .nil,Nat.succ_le_of_lt (Nat.zero_lt_succ 999),_,rg,lk1,lk2,λ_ z=>nomatch (Y4<|JL hf).symm.trans z⟩) λz=>nomatch z
    exact k _ _ _ _ I3 (l1.trans<|l2.trans l3) rfl
   |some b=>
    obtain⟨hb,ne,fs,rfl,r,h8,mA,h5,h6,h7,Y7⟩:=h4;have h9:fs.length<1000:=by simpa using h9
    refine VS.Tp I1.iS h2 h5 ne hC h7 (by rw[SS,tC];lia) λh' PX rg sb=>?_;have lo:Le H1 _:=Le.ow (d':=.fm c (dN f d1 (fs.map (·.1)) vs).1 (dN f d1 (fs.map (·.1)) vs).2) (j:=i) hl;obtain⟨p1,p2,p3,p4,p5,p6⟩:=qx (f:=f) (r1.le lo)<|aF.le lo r;have hq:∀g,(if g=f then some u else mA g)≠none->g∈(dN f d1 (fs.map (·.1)) vs).1:=λg hg=>by rw[<-p1];by_cases q:g=f;rw[q];exact p5;rw[Y4 q] at hg;exact p6 g (h7 g hg)
    obtain⟨I2,l2⟩:=I1.wr (t':=s1.toks+2) (h':=h') (d':=.fm c (dN f d1 (fs.map (·.1)) vs).1 (dN f d1 (fs.map (·.1)) vs).2) hl (.inr hb) (λb q hb z=>(sb.2 b hb).trans z) (let ⟨o,_,_,e',_⟩:=rg;⟨o,e'⟩) (λlp=>⟨C,some b,vv,sl,hm,PX,h3,Pt,(aD ne).trans hb,ne,oK f u fs,p1,p2,by rw[<-p1,SS];lia,_,rg,λg=>by rw[p4 g,h6 g],hq,λl' z=>Y7 l'<|(Y4<|JL hf).symm.trans z⟩) λz=>nomatch z;exact k _ _ _ _ I2 (l1.trans l2) rfl
   cases q1
  |_=>cases q1) hs
theorem xk.of1{K:W.Frag}{h:Heap}(gu:K.In h)(q:VS.G9 K C fA):xk h C (.ref fA):=by obtain⟨⟨bm,N,nm,qn,bs,hd,sn,sub,ab,col,dd,k0,k1,k2,k3,k5,l,n,i,t⟩,_⟩:=q;exact⟨bm,gu _ _ l,Heap.Ns.of_isNs<|W.isNs_of_in gu n,W.tail_of_in gu t,.inl<|VS.we gu n i⟩
theorem oS:∀(ds:Y5)(ρ:ay),gj (ds.map .val) ρ=some ds/\bJ (ds.map .val)=[]/\(ds.map AV.val).map ku=List.replicate ds.length false|[],_=>⟨rfl,rfl,rfl⟩|d::ds,ρ=>by obtain⟨h1,h2,h3⟩:=oS ds ρ;exact⟨by simp only[List.map_cons,gj,h1];rfl,h2,by simp only[List.map_cons,h3];rfl⟩
theorem FQ:∀{us:Zg}{ds:Y5},aF H us ds->RA X σ H s us (ds.map .val)|_,_,.nil=>.nil|_,_,.cons h t=>.cons h (FQ t)
theorem Inv.letGo{l:Addr}{ns:TY}{vs:Y5}(I:Inv X σ H ρ s)(hl:H l=some (.ow (.fm c ns vs) X.N.length))(lo:X.n₀<=l):∃H',Inv X σ H' ρ s/\Le H H'/\XR X H' s (.ref l) ⟨c,ns,vs⟩:=by
 obtain⟨⟨C,dx,vv,sl,hm,h2,h3,Pt,h4⟩,_⟩:=I.aM l _ hl;have no:∀{b d j},b≠l->j<X.N.length->H b=some (.ow d j)->j<X.N.length:=λ_ z _=>z;have go:∀(H':Tm)(x:Addr),(x=l\/H x=some (.di l))->(∀b,b≠l->b≠x->H' b=H b)->H' l=none->(x≠l->∃o,s.heap.get? x=some o/\H' x=some (.pin o<|some .aQ))->Inv X σ H' ρ s/\Le H H':=λH' x hx ho hn hp=>by
  have nw:∀{b d j},H' b=some (.ow d j)->b≠l/\H b=some (.ow d j):=λ{b d j} q=>by
   have n1:b≠l:=λz=>by rw[z,hn] at q;cases q
   have n2:b≠x:=λz=>by subst z;obtain⟨o,_,z⟩:=hp n1;exact ek z q
   exact⟨n1,(ho b n1 n2) ▸ q⟩
  have bk:∀{b d j},H b=some (.ow d j)->j<X.N.length->H' b=some (.ow d j):=λ{b d j} q hj=>by
   have n1:b≠l:=λz=>by subst z;obtain⟨rfl,rfl⟩:=Ci hl q;exact Fw _ hj
   refine(ho b n1 λz=>?_).trans q;rcases hx with y|y;exact n1<|z.trans y;rw[<-z,q] at y;cases y
  refine⟨I.chg (t':=s.toks) hl hx ho (λ_ _ _ z=>z) (λlp e q=>by exact en hn q) (λz e q=>?_) rfl (λb d j q hj=>?_) (λlp j t ht=>⟨t,ht,λv z=>z.mv lp λp d q=>bk q (by rw[<-I.len];exact(List.getElem?_eq_some_iff.mp ht).1)⟩),λa e q f=>?_⟩;obtain⟨o,h1,h2⟩:=hp z;obtain rfl:=sj h2 q;exact⟨h1,λe z=>by cases z;trivial⟩;obtain⟨n1,q1⟩:=nw q;exact⟨(I.tg _ _ _ q1 hj).1,λl2 d2 q2=>(I.tg _ _ _ q1 hj).2 _ _ (nw q2).2⟩;have n1:a≠l:=λz=>by subst z;obtain rfl:=sj hl q;exact f
  refine(ho a n1 λz=>?_).trans q;subst z;rcases hx with y|y;exact n1 y;obtain rfl:=sj q y;exact f
 cases dx with|none=>obtain⟨I',l'⟩:=go (λb=>if b=l then none else H b) l (.inl rfl) (λb z _=>Y4 z) (Zh rfl) λz=>absurd rfl z;exact⟨_,I',l',l,C,none,rfl,hm,.inl ⟨rfl,h4.1,h4.2⟩,none,vv,sl,h2,h3,Zh rfl,lo,Pt rfl⟩|some b=>obtain⟨hb,ne,fs,k1,k2,k3,mA,n,w⟩:=h4;obtain⟨od,_,_,Ek,_⟩:=id n;obtain⟨I',l'⟩:=go (upd (λb=>if b=l then none else H b) b<|.pin od<|some .aQ) b (.inr hb) (λy z z'=>(aD z').trans<|Y4 z) ((aD<|JL ne).trans<|Zh rfl) λz=>⟨od,Ek,az⟩;exact⟨_,I',l',l,C,some b,rfl,hm,.inr ⟨b,od,rfl,az,fs,k1,k2.le l',k3,mA,n,w⟩,none,vv,sl,h2,h3,(aD<|JL ne).trans<|Zh rfl,lo,Pt rfl⟩
theorem gX(hk:VS.G9 X.g.K C fA)(F:pC X.g k fA fd ps (true::fl) fn)(uW:fl=List.replicate fs.length false)(hb:Binds X.g.K fd ps [])(Bt:(true::fl).length=ps.length)(HV:fl.length<=sizeLine)(hr:bE (k+1) X.A)(hg:Gl X x)(hm:X.g.mg x=some (.ref C))(hc:X.calm=true)(ha:uY X (e::es) (mL fs))
  (hd:RY x:=by decide) (he:PZ X e es:=by rfl) (gO:(backTo bM<|starEach es X.env).any (·.1)=false:=by rfl) :
  gY X (.Raise (some<|.Call (.Name x np) (e::es) [] bM) none pos) (fZ x fn fs):=λs σ H ρ Q E I o=>by
 refine x_raise (C:=C) (iv:=.ref fA) (I.ok.hd hc) (by rw[he];show (false||(backTo bM<|starEach es X.env).any (·.1))=false;rw[gO];rfl)<|cj I hg hm ⟨rfl,?_⟩ hd;have h:=ha bM;rw[he] at h ⊢;refine Calls.evalArgs_plain<|h.Zi I o (λ_ _ q=>q.x) λs1 H1 aS us ds I1 l1 r1 o1=>?_;unfold XJ at o1;by_cases hl:ds.length=fs.length
 ·rw[Zh hl] at o1;have X0:=xk.of1 I1.iS hk;obtain⟨oI,lkI,hfc⟩:∃oI,s1.heap.get? fA=some oI/\oI.cls=.type "function" := by have z:(X.g.K.lookup fA).map (λo=>o.cls)=some (.type "function"):=beq_iff_eq.mp hk.fn;cases q:X.g.K.lookup fA with|none=>rw[q] at z;cases z|some oI=>rw[q] at z;exact⟨oI,I1.iS _ _ q,JY z⟩
  have ul:us.length=ds.length:=Paired.length r1;have pl:ps.length=fl.length+1:=Bt.symm;have fll:fl.length=fs.length:=by rw[uW];simp
  refine⟨rfl,?_,X0,λA h' e Q kk q=>?_,λh' a rZ hsz=>?_⟩
  ·show us.length<=sizeLine;rw[ul,hl,<-fll];exact HV
  ·unfold bindSpecial;refine bx<|GP (T:="function") ⟨_,kk _ _ lkI,hfc⟩ ?_;rw[Zh (by decide)];exact Zx q
  ·obtain⟨t,h1,h2,h3⟩:=rZ.there;obtain⟨I2,l2⟩:=I1.lay (t':=s1.toks) (h':=h') (a:=a) (e:=.ow (.fm x [] []) X.N.length) rZ.keeps hsz (λlp=>⟨⟨C,none,_,_,hm,h1,rfl,λ_=>rfl,rfl,rfl⟩,λz=>nomatch z⟩) (λd i z=>by cases z;exact TC _);have hx:upd H1 a (.ow (.fm x [] []) X.N.length) a=some (.ow (.fm x [] []) X.N.length):=az;have r2:=aF.le l2 r1;generalize upd H1 a (.ow (.fm x [] []) X.N.length)=H2 at *;have ra:=FQ (X:=X) (σ:=σ) (s:={s1 with heap:=h'}) r2;obtain⟨av1,av2,av3⟩:=oS ds aS;have nd:(bJ<|ds.map .val).Nodup:=by rw[av2];exact List.nodup_nil
   obtain⟨ar,_⟩:=jA I2 ra av1 nd;have TB:=ar.cons hx λi k=>by have z:=k.1;rw[av3,IS] at z;split at z<;>cases z
   have zZ:=hb {s1 with heap:=h'} (Value.ref a::us) I2.iS (by rw[JS,F4,ul,hl,<-fll,pl]);rw[JS] at zZ;have e0:=I2.Dl;have F':pC X.g k fA fd ps (true::(ds.map AV.val).map ku) fn:=by rw[av3,hl,<-uW];exact F
   refine wpAny_call<|F' _ X.stack _ H2 _ _ _ _ (hr.make C us []) ⟨e0.frames,e0.mod,e0.bs,e0.Hs,e0.fr,e0.D3,e0.aM,e0.bare⟩ zZ TB ?_;cases q:fn (.fm x [] []::ds) with
   |no=>rw[q] at o1;exact o1.elim|exc y ios=>rw[q] at o1;exact o1.elim|ok d ios=>
    rw[q] at o1;intro s3 H3 v af rv;obtain⟨d',Py,hd2⟩:=af.xX 0 a _ _ ⟨rfl,rfl⟩ hx;cases d with
    |aQ=>
     cases rv
     match ios,o1,Py,af with
     |[.fm c' ns vs],o1,Py,af=>
      cases Py;have o2:Out (if c'=x then Res.exc ⟨c',ns,vs⟩ aS else .no) (jy X H RS Q) (jy X H (XR X) E):=o1;by_cases cx:c'=x;case neg=>rw[Y4 cx] at o2;exact o2.elim
      rw[Zh cx] at o2;subst cx;have I3:=jz I2 ra av1 nd hx af;rw[av2] at I3;have I3:Inv X σ H3 aS s3:=I3;obtain⟨⟨C',dx,vv,sl,m1,g1,g2,g3,g4⟩,_⟩:=I3.aM a _ hd2;obtain⟨H4,I4,l4,xr⟩:=I3.letGo hd2<|HJ I1.sz hsz;rw[hm] at m1;cases m1;exact⟨rfl,dx,vv,sl,xk.of1 I3.iS hk,g1,g3 rfl,o2 s3 σ H4 _ I4 (l1.trans<|l2.trans<|af.le.trans l4) xr⟩
    |_=>exact o1.elim
 ·rw[Y4 hl] at o1;exact o1.elim
theorem ph(T:VS.OV X.g.K X.g.mg cs f)(ha:PV X e fe)(hb:attributeBase e f X.env (eval e X.env)=eval e X.env:=by rfl):PV X (.Attribute e f pos) (m1 (vN cs f) fe):=λs σ H ρ Q E I o=>
 y7 hb (ha.Zi I o (λ_ _ q=>q) λs1 H1 aS v d I1 l1 r1 o1=>by
  obtain⟨d,e1,q⟩:=o1.opt;rename_i d1;cases d1 with
  |fm c ns vs=>
   simp only[vN] at e1;split at e1;rename_i hc;obtain⟨C,hm,k,na,hh⟩:=T c (by simpa using hc);obtain⟨a,o,rfl,hp⟩:=r1;obtain⟨C',dx,vv,sl,h1,h2,h3,_,h4⟩:=(I1.aM a _ hp).2 _ rfl;rw[hm] at h1;cases h1;cases dx with|none=>obtain⟨rfl,rfl⟩:=h4;cases e1|some b=>obtain⟨_,ne,fs,rfl,r,_,mA,h5,h6,_⟩:=h4;obtain⟨u,lu,ru⟩:=kK r e1;obtain⟨od,Ek,hlk⟩:=mW h5;unfold getAttr;refine bx<|wpAny_mkText ?_;refine VS.YD (s:={s1 with toks:=s1.toks+1}) I1.iS (show W.InstAt s1.heap a ⟨.ref C,some b,.fields vv,sl⟩ C (some od) from⟨h2,rfl,rfl,Ek⟩) k (W.findObj_own hh na rfl (by rw[hlk,<-h6 f,lu])) ?_;exact W.handed_on ru.handed (q _ H1 u (I1.tok _) l1 ru)
   cases e1
  |_=>cases e1)
theorem Jv{Dc:Addr}{subs:Ju}{pT:Pos}(hC:X.g.mg c=some (.ref Dc))(T:VS.Uo X.g.K X.g.mg (.ref Dc) subs)(hg:Gl X "isinstance")(hm:X.g.mg "isinstance" = none)(Ee:Gl X c)(ha:PV X a fa)(VV:RY c:=by decide)
  (hs:starEach [a,.Name c pT] X.env=(false,eval a X.env)::starEach [.Name c pT] X.env:=by rfl) (kT:starEach [.Name c pT] X.env=(false,eval (.Name c pT) X.env)::starEach [] X.env:=by rfl) (gO:(backTo pos<|starEach [.Name c pT] X.env).any (·.1)=false:=by rfl) :
  PV X (.Call (.Name "isinstance" p) [a,.Name c pT] [] pos) (m1 (Ie subs) fa):=λs σ H ρ Q E I o=>by
 refine bc (id:="isinstance") false I hg hm boot_isinstance ?_ (by decide) (by decide) hs gO;rw[hs,kT];refine S8<|ha.Zi I o (λ_ _ q=>q) λs1 H1 aS v d1 I1 l1 r1 o1=>S8<|cj I1 Ee hC (Sr ?_) VV;obtain⟨d,e,q⟩:=o1.opt;cases d1 with
 |fm c' ns vs=>
  simp only[Ie] at e;cases e1:subs.lookup c' with
  |none=>rw[e1] at e;cases e|some b=>
   rw[e1] at e;cases e;obtain⟨a,o,rfl,hp⟩:=r1;obtain⟨C',dx,vv,sl,h1,h2,h3,_,h4⟩:=(I1.aM a _ hp).2 _ rfl;obtain⟨D,hD,f,hb⟩:=T.ex _<|Fh e1;rw[h1] at hD;cases hD;have at_:VS.Ko a C' s1.heap:=by cases dx with|none=>exact⟨_,none,h2,rfl,rfl,trivial⟩|some b=>obtain⟨_,_,_,_,_,_,mA,⟨od,_,_,Ek,_⟩,_⟩:=h4;exact⟨_,some od,h2,rfl,rfl,Ek⟩
   exact W.kia_one (VS.ED f T.sp T.tk) I1.iS at_ hb (λz=>nomatch z) λtk=>q _ H1 _ (I1.tok tk) l1 rfl
 |_=>cases e
end
end WL
end
section
set_option linter.all false
set_option maxRecDepth 100000
namespace WL
open PySem PySem.Spec PyProof.Rows L2 VP
section
variable{X:Cx}{a:Expr}{fa:M D}{pos p:Pos}
theorem yD(T:String){xT:Str}{pT:Pos}(hT:T∈["int","bool","tuple","list","str","dict"])(hg:Gl X "isinstance")(hm:X.g.mg "isinstance" = none)(Ee:Gl X xT)(PJ:X.g.mg xT=none)(hvT:bootBuiltins xT=some (.type T))(ha:PR X a fa)
  (hn:xT≠"__name__" := by decide) (VV:RY xT:=by decide)
  (hs:starEach [a,.Name xT pT] X.env=(false,eval a X.env)::starEach [.Name xT pT] X.env:=by rfl) (kT:starEach [.Name xT pT] X.env=(false,eval (.Name xT pT) X.env)::starEach [] X.env:=by rfl) (gO:(backTo pos<|starEach [.Name xT pT] X.env).any (·.1)=false:=by rfl) :
  PV X (.Call (.Name "isinstance" p) [a,.Name xT pT] [] pos) (m1 (Eo T) fa):=λs σ H ρ Q E I o=>by
 refine bc (id:="isinstance") false I hg hm boot_isinstance ?_ (by decide) (by decide) hs gO;rw[hs,kT];refine S8<|ha.Zi I o (λ_ _ q=>q) λs1 H1 aS v d1 I1 l1 r1 o1=>S8<|qm I1 Ee PJ hvT (Sr ?_) hn VV;obtain⟨d,e,q⟩:=o1.opt;unfold Eo at e;cases ek:Nk d1 with
 |none=>rw[ek] at e;cases e|some k=>
  rw[ek] at e;cases e;have hb:=VS.Ir X.g.K k (by cases d1<;>cases ek<;>simp) T hT;have fin:∀tk,Q (.bool (k == T||(k == "bool" && T == "int"))) {s1 with toks:=tk}:=λtk=>q _ H1 _ (I1.tok tk) l1 rfl;cases d1 with
   |aQ=>cases ek;rcases r1 with r1|⟨l,i,_,z⟩;(cases r1;exact W.kia_one W.kitx_none I1.iS True.intro hb (λz=>nomatch z) fin);exact absurd rfl (I1.aM l _ z).2
   |bl v=>cases ek;rcases r1 with r1|⟨l,i,_,z⟩;(cases r1;exact W.kia_one W.kitx_bool I1.iS True.intro hb (λz=>nomatch z) fin);exact(I1.aM l _ z).1.elim
   |int v=>cases ek;rcases r1 with ⟨t,rfl⟩|⟨l,i,_,z⟩;exact W.kia_one W.kitx_int I1.iS True.intro hb (λz=>nomatch z) fin;exact(I1.aM l _ z).1.elim
   |str v=>cases ek;rcases r1 with ⟨t,rfl⟩|⟨l,i,_,z⟩;exact W.kia_one W.kitx_str I1.iS True.intro hb (λz=>nomatch z) fin;exact(I1.aM l _ z).1.elim
   |tup ds=>cases ek;obtain⟨l,ff,rfl,_,_,us,_,o,ho,hc,_⟩:=I1.obj r1 rfl;exact W.kia_one W.kitx_tuple I1.iS ⟨o,ho,hc⟩ hb (λz=>nomatch z) fin|lst ds=>cases ek;obtain⟨l,ff,rfl,_,us,_,la⟩:=I1.obj r1 rfl;obtain⟨o,_,ho,hc,_⟩:=la.plain;exact W.kia_one W.kitx_list I1.iS ⟨o,ho,hc⟩ hb (λz=>nomatch z) fin|gp ks ds=>cases ek;obtain⟨l,ff,rfl,_,_,vs,ep,_,_,o,es,ho,h2,_⟩:=I1.obj r1 rfl;exact W.kia_one W.kitx_dict I1.iS ⟨o,ho,h2.1⟩ hb (λz=>nomatch z) fin|_=>cases ek
theorem swB(hc:X.calm=true):YM X (λus=>call (bf false "min") us) minD:=λs σ H ρ us ds d Q E I r e k=>by unfold minD at e;split at e;rename_i i j;cases e;obtain⟨u,v,rfl,⟨t,rfl⟩,⟨t',rfl⟩⟩:=r.two;refine min_two_ints (I.ok.hd hc) λh' tk kp=>k _ H _ (I.kept kp) Le.refl ?_;by_cases hj:j<i;rw[Zh hj,Zh hj];exact⟨_,rfl⟩;rw[Y4 hj,Y4 hj];exact⟨_,rfl⟩;cases e
variable{o e:Expr}{fo fe:M D}{TX bM:Pos}
theorem Q21(ho:PV X o fo)(he:PV X e fe)
  (lB:attributeBase o "index" X.env (eval o X.env)=eval o X.env:=by rfl)
  (xN:((backTo bM<|starEach [e] X.env).all (λx=>!x.1)&&(backToKw bM<|keywordEach [] X.env).all (λx=>x.1.isSome)&&decide ([e].length+([]:List Keyword).length+(if ([]:List Keyword).isEmpty then 0 else 1)<30))=true:=by rfl)
  (lC:(TX.endLine == bM.line)=true:=by rfl) (iO:starEach [e] X.env=[(false,eval e X.env)]:=by rfl):PV X (.Call (.Attribute o "index" TX) [e] [] bM) (vY fo fe):=λs σ H ρ Q E I oo=>by
 refine wpAny_Call_method_late lB xN lC rfl<|ho.Zi I oo (λ_ _ q=>q) λs1 H1 aS v d1 I1 l1 r1 o1=>?_;cases d1 with|tup ds=>obtain⟨l,ff,rfl,_,hz,aY,rr,⟨ob,hg,hc,TP,hd⟩⟩:=I1.obj (.inl r1) rfl;refine⟨"tuple","tuple.index",PySem.F.plainAttrs_tuple,PySem.F.slot_tuple_index,PySem.F.type_tuple_index,⟨_,hg,hc⟩,λa e=>by cases e;exact⟨_,hg,hd⟩,?_⟩;rw[iO];refine PE rfl<|Calls.evalArgs_plain<|S8<|he.Zi I1 o1 (λ_ _ q=>q.le l1) λs2 H2 sN u d2 I2 l2 r2 o2=>Sr ?_;obtain⟨d,e1,q⟩:=o2.opt;obtain⟨ns,k,rfl,rfl,hk,rfl⟩:=VS.nsS e1;obtain⟨t,rfl⟩:=r2;obtain⟨l',ff,z,_,hz,aY,r,⟨⟨c,dd,dt,sl⟩,hg,hc,⟨n,TP⟩,hd⟩⟩:=I2.obj (.inl<|r1.le l2) rfl;cases z;simp only at hc TP hd;subst hc TP hd;have hi:IntsAre aY ns:=gQ r<|d6 ns;have BX:=hi.length;have hj:ns.idxOf k<ns.length:=List.idxOf_lt_length_iff.mpr hk;refine VG PySem.F.slot_tuple_index ⟨_,hg,rfl⟩ PySem.F.entry_tuple_index (PySem.F.args_tuple_index_2 _ _) (VS.wO l aY.toArray n sl none (.int k t) (isInt k) (λy hy=>eq_isInt k t hi y (by simpa using hy)) (ns.idxOf k) (by simpa[BX] using hj) ?_ ?_) ⟨hg,?_⟩;show isInt k aY[ns.idxOf k]=true;rw[isInt_at k hi _ WR hj];simpa using List.getElem_idxOf hj;intro j vS dQ;show isInt k aY[j]=false;rw[isInt_at k hi j (by simpa using vS) WR];exact ne_of_lt_idxOf dQ _;exact q _ H2 _ (I2.kept (t':=s2.toks+1) λ_ _ e=>e) (l1.trans l2) ⟨_,rfl⟩|_=>exact o1.elim
end
end WL
end
section
namespace VP
section
variable{α β:Type}
noncomputable def Res.then{α β:Type}:Res α->(α->M β)->Res β|.ok a r,g=>g a r|.exc x r,_=>.exc x r|.no,_=>.no
noncomputable def Res.seq:Res Fl->M Fl->Res Fl|.ok .nx r,g=>g r|.ok k r,_=>.ok k r|.exc x r,_=>.exc x r|.no,_=>.no
noncomputable def Res.turn:Res Fl->M Fl->Res Fl|.ok .nx r,g=>g r|.ok .ct r,g=>g r|.ok .bk r,_=>.ok .nx r|.ok (.rt d) r,_=>.ok (.rt d) r|.exc x r,_=>.exc x r|.no,_=>.no
@[simp] theorem ag(a:α)(r:ay)(g:α->M β):(Res.ok a r).then g=g a r:=WB
@[simp] theorem Gq(x:Xn)(r:ay)(g:α->M β):(Res.exc x r:Res α).then g=.exc x r:=WB
@[simp] theorem Q0M(c:Prop)[Decidable c](a b:Res α)(g:α->M β):(if c then a else b).then g=if c then a.then g else b.then g:=by split<;>rfl
@[simp] theorem yI(r:ay)(g:M Fl):(Res.ok .nx r).seq g=g r:=WB
@[simp] theorem abO(d:D)(r:ay)(g:M Fl):(Res.ok (.rt d) r).seq g=.ok (.rt d) r:=WB
@[simp] theorem Q2Z(c:Prop)[Decidable c](a b:Res Fl)(g:M Fl):(if c then a else b).seq g=if c then a.seq g else b.seq g:=by split<;>rfl
@[simp] theorem bH(a:α)(r:ay):ret a r=.ok a r:=WB
@[simp] theorem aX(a:α):opt (some a)=ret a:=WB
theorem aq(f:M α)(g:α->M β)(r:ay):Zi f g r=(f r).then g:=by unfold Zi;cases f r<;>rfl
@[simp] theorem ac1(d:D)(r:ay):mC d r=.ok d r:=WB
@[simp] theorem Nq(g:D->Y1)(a:M D)(r:ay):m1 g a r=(a r).then λx=>opt (g x):=aq _ _ _
@[simp] theorem WO(g:D->D->Y1)(a b:M D)(r:ay):m2 g a b r=(a r).then λx r=>(b r).then λy=>opt (g x y):=by unfold m2;rw[aq];congr;funext x r;exact aq _ _ _
@[simp] theorem abh(r:ay):mL [] r=.ok [] r:=WB
@[simp] theorem IE(f:M D)(fs:List (M D))(r:ay):mL (f::fs) r=(f r).then λx r=>(mL fs r).then λxs=>ret (x::xs):=by
 conv=>lhs;unfold mL
 rw[aq];congr;funext x r;exact aq _ _ _
@[simp] theorem WS(g:Y5->Y1)(as:List (M D))(r:ay):mF g as r=(mL as r).then λxs=>opt (g xs):=aq _ _ _
@[simp] theorem IJ(as:List (M D))(r:ay):bR as r=(mL as r).then λxs=>opt (Gs xs):=aq _ _ _
@[simp] theorem IF(as:List (M D))(r:ay):gB as r=(mL as r).then λxs=>opt (EN xs):=aq _ _ _
def boolOf:D->M Bool|.bl b=>ret b|_=>stuck
@[simp] theorem Q0Y(b:Bool):boolOf (.bl b)=ret b:=WB
@[simp] theorem X9(a:M D)(r:ay):tB a r=(a r).then boolOf:=by unfold tB;rw[aq];cases a r with|ok d r'=>cases d<;>rfl|_=>rfl
@[simp] theorem JT(a:M Bool)(r:ay):lZ a r=(a r).then λb=>ret (!b):=aq _ _ _
@[simp] theorem Q0y(a b:M Bool)(r:ay):uL a b r=(a r).then λx r=>if x=true then b r else .ok false r:=by unfold uL;rw[aq];congr;funext x r;cases x<;>rfl
@[simp] theorem SR(a b:M Bool)(r:ay):Gg a b r=(a r).then λx r=>if x=true then .ok true r else b r:=by unfold Gg;rw[aq];congr;funext x r;cases x<;>rfl
@[simp] theorem Qn(c:M Bool)(a b:M D)(r:ay):Nr c a b r=(c r).then λx r=>if x=true then a r else b r:=by unfold Nr;rw[aq];congr;funext x r;cases x<;>rfl
@[simp] theorem Q2P(a b:M D)(r:ay):sk a b r=((a r).then boolOf).then λx r=>if x=true then b r else .ok (.bl false) r:=by
 unfold sk;rw[aq];cases a r with
 |ok d r'=>
  cases d<;>try rfl
  rename_i b;cases b<;>rfl
 |_=>rfl
@[simp] theorem IG(a b:M D)(r:ay):EU a b r=((a r).then boolOf).then λx r=>if x=true then .ok (.bl true) r else b r:=by
 unfold EU;rw[aq];cases a r with
 |ok d r'=>
  cases d<;>try rfl
  rename_i b;cases b<;>rfl
 |_=>rfl
@[simp] theorem abN(r:ay):aJ r=.ok .nx r:=WB
@[simp] theorem jU(f g:M Fl)(r:ay):ai f g r=(f r).seq g:=by unfold ai Zi;cases f r with|ok k r'=>cases k<;>rfl|_=>rfl
@[simp] theorem kR(f:M Unit)(r:ay):Cj f r=(f r).then λ_=>ret .nx:=aq _ _ _
@[simp] theorem wG(f:M D)(r:ay):iL f r=(f r).then λ_=>ret .nx:=aq _ _ _
@[simp] theorem AL(f:M D)(r:ay):a8 f r=(f r).then λd=>ret (.rt d):=aq _ _ _
@[simp] theorem Q1P(c:M Bool)(a b:M Fl)(r:ay):eC c a b r=(c r).then λx r=>if x=true then a r else b r:=by unfold eC;rw[aq];congr;funext x r;cases x<;>rfl
@[simp] theorem AM(i:Nat)(f:M D)(r:ay):aO i f r=(f r).then λd r=>if free r[i]?=true then .ok .nx (r.set i<|.sh d) else .no:=by unfold aO;rw[aq];congr;funext d r;rw[kR];unfold mY;split<;>rfl
@[simp] theorem Q2R(i:Nat)(f:M D)(r:ay):gU i f r=(f r).then λd r=>if free r[i]?=true then .ok .nx (r.set i<|.ow d) else .no:=by unfold gU;rw[aq];congr;funext d r;rw[kR];unfold BD;split<;>rfl
@[simp] theorem Q0C(i:Nat)(f:M Fl)(r:ay):BW i f r=(Qm i r).then λ_=>f:=aq _ _ _
noncomputable def X1:Option Sl->Option D|some (.sh d)=>some d|_=>none
noncomputable def anyOf:Option Sl->Option D|some (.sh d)=>some d|some (.ow d)=>some d|some (.io d)=>some d|_=>none
@[simp] theorem Q0X(d:D):X1 (some<|.sh d)=some d:=WB
@[simp] theorem Q0e:free (some .no)=true:=WB
@[simp] theorem Q2k(d:D):free (some<|.sh d)=true:=WB
@[simp] theorem yw(d:D):own (some<|.ow d)=some d:=WB
@[simp] theorem abw(d:D):own (some<|.io d)=some d:=WB
@[simp] theorem Q2Y(i:Nat)(r:ay):aa i r=opt (X1 r[i]?) r:=by unfold aa;cases h:r[i]? with|none=>rfl|some s=>cases s<;>rfl
@[simp] theorem Qo(i:Nat)(r:ay):xg i r=opt (anyOf r[i]?) r:=by unfold xg;cases h:r[i]? with|none=>rfl|some s=>cases s<;>rfl
noncomputable def Q5(i:Nat)(r:ay):Option Sl->Res Unit|some (.ow d)=>.ok () (r.set i<|.sh d)|some (.sh _)=>.ok () r|_=>.no
@[simp] theorem abg(i:Nat)(r:ay):Qm i r=Q5 i r r[i]?:=by unfold Qm;cases h:r[i]? with|none=>rfl|some s=>cases s<;>rfl
@[simp] theorem aaw(i:Nat)(r:ay)(d:D):Q5 i r (some<|.ow d)=.ok () (r.set i<|.sh d):=WB
noncomputable def Sa(i:Nat)(r:ay):Option Sl->D->ay|some (.ow _),d=>r.set i (.ow d)|some (.io _),d=>r.set i (.io d)|_,_=>r
@[simp] theorem lQ(i:Nat)(d:D)(r:ay):dh i d r=Sa i r r[i]? d:=by unfold dh;cases h:r[i]? with|none=>rfl|some s=>cases s<;>rfl
@[simp] theorem uB(i:Nat)(r:ay)(e d:D):Sa i r (some<|.ow e) d=r.set i (.ow d):=WB
@[simp] theorem Q06(i:Nat)(r:ay)(e d:D):Sa i r (some<|.io e) d=r.set i (.io d):=WB
@[simp] theorem jR(i:Nat)(g:D->Y1)(r:ay):gC i g r=(opt (own r[i]?) r).then λd r=>(opt (g d) r).then λd' r=>.ok () (dh i d' r):=by unfold gC;cases own r[i]? with|none=>rfl|some d=>simp only[aX,bH,ag];cases g d<;>rfl
@[simp] theorem AI(i:Nat)(fe:M D)(r:ay):nv i fe r=if isLst (own r[i]?)=true then(fe r).then λx r=>(gC i (fQ x) r).then λ_=>ret .nx else .no:=by unfold nv;split;rw[aq];congr;funext x r;exact kR _ _;rfl
@[simp] theorem isLst_lst(ds:Y5):isLst (some<|.lst ds)=true:=WB
@[simp] theorem Q2n(i:Nat)(fk fv:M D)(r:ay):jr i fk fv r=(fv r).then λv r=>if isLst (own r[i]?)=true then(fk r).then λk r=>(gC i (setAt k v) r).then λ_=>ret .nx else .no:=by unfold jr;rw[aq];congr;funext v r;split;rw[aq];congr;funext k r;exact kR _ _;rfl
@[simp] theorem jg(i:Nat)(d:D)(r:ay):ao i d r=if free r[i]?=true then .ok () (r.set i<|.sh d) else .no:=WB
@[simp] theorem Aj(i:Nat)(d:D)(r:ay):mY i d r=if free r[i]?=true then .ok () (r.set i<|.sh d) else .no:=WB
@[simp] theorem Q2o(r:ay):q9 [] [] r=.ok () r:=WB
@[simp] theorem rY(i:Nat)(is:WC)(d:D)(ds:Y5)(r:ay):q9 (i::is) (d::ds) r=(mY i d r).then λ_=>q9 is ds:=aq _ _ _
@[simp] theorem Q10(is:WC)(ds:Y5):b8 is (.tup ds)=q9 is ds:=WB
@[simp] theorem AJ(it:M (List D))(g:D->M Unit)(body:M Fl)(r:ay):iQ it g body r=(it r).then λds=>loop g body ds:=aq _ _ _
@[simp] theorem jO(g:D->M Unit)(body:M Fl)(d:D)(ds:Y5)(r:ay):loop g body (d::ds) r=(g d r).then λ_ r=>(body r).turn (loop g body ds):=by
 conv=>lhs;unfold loop
 rw[aq];congr;funext u r;rw[aq];cases body r with|ok k r'=>cases k<;>rfl|_=>rfl
@[simp] theorem Q2m(k:Nat)(g:D->M Unit)(test:M Bool)(elt:M D)(r:ay):turns k g test elt [] r=.ok () r:=WB
@[simp] theorem ed(k:Nat)(g:D->M Unit)(test:M Bool)(elt:M D)(d:D)(ds:Y5)(r:ay):turns k g test elt (d::ds) r=(g d r).then λ_ r=>(test r).then λb r=>if b=true then(elt r).then λx r=>(gC k (fQ x) r).then λ_=>turns k g test elt ds else turns k g test elt ds r:=by
 conv=>lhs;unfold turns
 rw[aq];congr;funext u r;rw[aq];congr;funext b r;cases b with|true=>simp only[if_true];rw[aq];congr;funext x r;exact aq _ _ _|false=>rfl
theorem jk(n:Nat)(it:M (List D))(g:D->M Unit)(test:M Bool)(elt:M D)(r:ay):aC n it g test elt r=(it r).then λds=>inner n λk=>turns k g test elt ds:=aq _ _ _
def fin(fl:Qg):Res Fl->FR
|.ok (.rt d) r=>match bz fl r with
  |some ios=>.ok d ios|none=>.no
 |.ok .nx r=>match bz fl r with|some ios=>.ok .aQ ios|none=>.no
 |.exc x r=>match bz fl r with|some ios=>.exc x ios|none=>.no
 |_=>.no
theorem ef(n:Nat)(fl:Qg)(body:M Fl)(ds:Y5)(h:ds.length=fl.length):defn n fl body ds=fin fl (body<|aR n fl ds):=by unfold defn;rw[Zh h];cases body (aR n fl ds) with|ok k r=>cases k<;>rfl|_=>rfl
def CN(js:WC)(r:ay):FR->Res D|.ok d ios=>.ok d (putAll js ios r)|.exc x ios=>.exc x (putAll js ios r)|.no=>.no
@[simp] theorem pQ(js:WC)(r:ay)(d:D)(ios:Y5):CN js r (.ok d ios)=.ok d (putAll js ios r):=WB
@[simp] theorem Bf(js:WC)(r:ay)(x:Xn)(ios:Y5):CN js r (.exc x ios)=.exc x (putAll js ios r):=WB
@[simp] theorem Q25(ds:Y5)(r:ay):putAll [] ds r=r:=WB
@[simp] theorem wx(j:Nat)(js:WC)(d:D)(ds:Y5)(r:ay):putAll (j::js) (d::ds) r=putAll js ds (dh j d r):=WB
@[simp] theorem Q2W(r:ay):aW [] r=.ok [] r:=WB
@[simp] theorem Q0L(f:M D)(as:List Arg)(r:ay):aW (.val f::as) r=(f r).then λd r=>(aW as r).then λvs=>ret (.val d::vs):=by
 conv=>lhs;unfold aW
 rw[aq];congr;funext x r;exact aq _ _ _
@[simp] theorem Q02(r:ay):gj [] r=some []:=WB
@[simp] theorem oS(d:D)(as:List AV)(r:ay):gj (.val d::as) r=(gj as r).map (d::·):=WB
@[simp] theorem mco(j:Nat)(as:List AV)(r:ay):gj (.io j::as) r=(own r[j]?).bind λd=>(gj as r).map (d::·):=by
 conv=>lhs;unfold gj
 cases own r[j]?<;>rfl
@[simp] theorem Q03:bJ []=[]:=WB
@[simp] theorem Em(d:D)(as:List AV):bJ (.val d::as)=bJ as:=WB
@[simp] theorem Q2N(j:Nat)(as:List AV):bJ (.io j::as)=j::bJ as:=WB
@[simp] theorem vX(f:Fn)(as:List Arg)(r:ay):au f as r=(aW as r).then λvs=>qo f vs:=aq _ _ _
@[simp] theorem oX(f:Fn)(vs:List AV)(r:ay):qo f vs r=(opt (gj vs r) r).then λds r=>if (bJ vs).Nodup then CN (bJ vs) r (f ds) else .no:=by unfold qo;cases gj vs r with|none=>rfl|some ds=>simp only[aX,bH,ag];split;cases f ds<;>rfl;rfl
@[simp] theorem wL(n:Nat)(b:Bool)(bs:Qg)(d:D)(ds:Y5):aR (n+1) (b::bs) (d::ds)=(if b=true then .io d else .sh d)::aR n bs ds:=by cases b<;>rfl
@[simp] theorem yK(n:Nat):aR n [] []=List.replicate n .no:=WB
@[simp] theorem u5(i j:Int):aV (.int i) (.int j)=some (.int<|i+j):=WB
@[simp] theorem AR(i j:Int):jv (.int i) (.int j)=some (.int<|i-j):=WB
@[simp] theorem Q1Y(i:Int):yi (.int i)=some (.int<|-i):=WB
@[simp] theorem hZ(i j:Int):ltI (.int i) (.int j)=some (.bl<|decide<|i<j):=WB
@[simp] theorem gy(i j:Int):EG (.int i) (.int j)=some (.bl<|decide<|i<=j):=WB
@[simp] theorem xM(i j:Int):HK (.int i) (.int j)=some (.bl<|decide<|j<i):=WB
@[simp] theorem D6(i j:Int):TM (.int i) (.int j)=some (.bl<|decide<|j<=i):=WB
theorem bP(i j:Int)(h:0<j):fM (.int i) (.int j)=some (.int<|i % j):=Zh h
theorem jG(i j:Int)(h:0<j)(h2:j<1073741824):rW (.int i) (.int j)=some (.int<|i / j):=Zh ⟨h,h2⟩
theorem gS(i j:Int)(h:-(2 ^ 64)<i)(h2:i<2 ^ 64):um (.int i) (.int j)=some (.int<|i*j):=Zh (.inl ⟨h,h2⟩)
theorem cV(i j:Int)(h:-(2 ^ 64)<j)(h2:j<2 ^ 64):um (.int i) (.int j)=some (.int<|i*j):=Zh (.inr ⟨h,h2⟩)
@[simp] theorem fV(i j:Int):eh (.int i) (.int j)=some (.bl<|decide<|i=j):=by simp[eh,plain,vp];rfl
@[simp] theorem cu(i j:Int):jo (.int i) (.int j)=some (.bl<|!decide (i=j)):=by simp[jo,plain,vp];rfl
@[simp] theorem Q2a(ds:Y5):cw (.tup ds)=some (.int ds.length):=WB
@[simp] theorem Q0J(ds:Y5):cw (.lst ds)=some (.int ds.length):=WB
@[simp] theorem oY(i j:Int):maxD [.int i,.int j]=some (.int<|max i j):=by simp only[maxD,Option.some.injEq,D.int.injEq];split<;>lia
@[simp] theorem Q1U(ds:Y5):b9 (.tup ds)=some ds:=WB
@[simp] theorem F1(ds:Y5):b9 (.lst ds)=some ds:=WB
@[simp] theorem Q0V(f:M D)(r:ay):cG f r=(f r).then λd=>opt (b9 d):=aq _ _ _
@[simp] theorem EW(fl:List (M D))(r:ay):bO fl r=(mL fl r).then λxs=>opt (rk xs):=aq _ _ _
@[simp] theorem tnZ(fl:List (M D))(r:ay):ui fl r=(mL fl r).then λxs=>opt (nJ xs):=aq _ _ _
noncomputable def Wl(n:Nat):Y5:=(List.range n).map λ(i:Nat)=>D.int i
theorem JB(j:Int)(h:-(2 ^ 62)<=j)(h2:j<2 ^ 62):rk [.int j]=some (Wl j.toNat):=Zh ⟨h,h2⟩
theorem JZ(ds:Y5)(h:ds.length<=16777216):Gs ds=some (.tup ds):=Zh h
theorem Iz(ds:Y5)(h:ds.length<=16777216):EN ds=some (.lst ds):=Zh h
@[simp] theorem Q2j:EN []=some (.lst []):=WB
theorem fS(x:D)(xs:Y5)(h:xs.length<16777216):fQ x (.lst xs)=some (.lst<|xs++[x]):=by show (if _ then _ else _)=_;rw[Zh h]
theorem Q09(xs ys:Y5)(h:xs.length+ys.length<=iz):aV (.tup xs) (.tup ys)=some (.tup<|xs++ys):=Zh h
theorem iW(xs ys:Y5)(h:xs.length+ys.length<=iz):aV (.lst xs) (.lst ys)=some (.lst<|xs++ys):=Zh h
theorem mU(xs:Y5)(i:Int)(d:D)(h0:0<=i)(h:xs[i.toNat]?=some d):Ac xs i=some d:=by have hl:=(List.getElem?_eq_some_iff.mp h).1;unfold Ac xf;rw[Zh h0,Zh WR];exact h
@[simp] theorem Q2e(xs:Y5)(i:Int):aj (.tup xs) (.int i)=Ac xs i:=WB
@[simp] theorem mS(xs:Y5)(i:Int):aj (.lst xs) (.int i)=Ac xs i:=WB
def intOf:D->M (Option Int)|.int i=>ret (some i)|_=>stuck
@[simp] theorem bi6(f:M D)(r:ay):lK (some f) r=(f r).then intOf:=by show Zi f _ r=_;rw[aq];cases f r with|ok d r'=>cases d<;>rfl|_=>rfl
@[simp] theorem Qp(g:D->VA->VA->Y1)(f:M D)(lo hi:Option (M D))(r:ay):EY g f lo hi r=(f r).then λd r=>(lK lo r).then λl r=>(lK hi r).then λh=>opt (g d l h):=by unfold EY;rw[aq];congr;funext d r;rw[aq];congr;funext l r;exact aq _ _ _
@[simp] theorem Q1i(g g2:D->D->Y1)(a b c:M D)(r:ay):IC g g2 a b c r=(a r).then λx r=>(b r).then λy r=>((opt (g x y) r).then boolOf).then λk r=>if k=true then(c r).then λz=>opt (g2 y z) else .ok (.bl false) r:=by
 unfold IC;rw[aq];congr;funext x r;rw[aq];congr;funext y r;rw[aq];cases g x y with
 |none=>rfl|some d=>
  cases d<;>try rfl
  rename_i k;cases k;rfl;exact aq _ _ _
@[simp] theorem IH(f:M D)(r:ay):EV f r=(f r).then λd=>opt ((b9 d).map List.reverse):=aq _ _ _
@[simp] theorem pS(xs:Y5)(lo hi:VA):g6 (.lst xs) lo hi=some (.lst<|cutD xs lo hi):=WB
theorem bV{r:ay}{xs:ay}{s s':Sl}:(r++s::xs).set r.length s'=r++s'::xs:=by rw[List.set_append_right _ _<|TC _];simp
theorem bG{r:ay}{xs:ay}{s:Sl}:(r++s::xs)[r.length]?=some s:=by rw[Jn<|TC _];simp
theorem mh{r:ay}{s:Sl}{acc:Y5}{x:D}(h:acc.length<16777216):gC (r.length+1) (fQ x) (r++[s,.ow<|.lst acc])=.ok () (r++[s,.ow<|.lst<|acc++[x]]):=by have e:r++[s,Sl.ow<|.lst acc]=(r++[s])++Sl.ow (.lst acc)::[]:=T2;have e2:r.length+1=(r++[s]).length:=T2;rw[e,e2,jR,bG];simp only[yw,aX,bH,ag,fS x acc h,lQ,bG,uB,bV];simp
theorem txs(t:D->Bool)(f:D->D)(mM:it r=.ok ds r)(hk:k=r.length)(hL:ds.length<=16777216)
  (ht:∀d∈ds,∀acc,test (r++[.sh d,.ow acc])=.ok (t d) (r++[.sh d,.ow acc]))
  (he:∀d∈ds,t d=true->∀acc,elt (r++[.sh d,.ow acc])=.ok (f d) (r++[.sh d,.ow acc])) :
  aC 1 it (ao k) test elt r=.ok (.lst<|(ds.filter t).map f) r:=by
 subst hk;have key:∀(es:Y5)(acc:Y5)(s:Sl),free (some s)=true->(∀d∈es,d∈ds)->acc.length+es.length<=16777216->∃s',turns (r.length+1) (ao r.length) test elt es (r++[s,.ow<|.lst acc])=.ok () (r++[s',.ow<|.lst<|acc++(es.filter t).map f]):=by
  intro es;induction es with
  |nil=>intro acc s _ _ _;exact⟨s,T2⟩|cons d es ih=>
   intro acc s hs hm hl;have hd:=hm d TL;have V8:∀x∈es,x∈ds:=λx hx=>hm x<|SY _ hx;have e1:ao r.length d (r++[s,.ow<|.lst acc])=.ok () (r++[.sh d,.ow<|.lst acc]):=by rw[jg,bG,Zh hs,bV]
   rw[ed,e1,ag,ht d hd,ag];cases q:t d with|false=>obtain⟨s',z⟩:=ih acc (.sh d) rfl V8 (by simp at hl;lia);refine⟨s',?_⟩;rw[Y4 T2,z,X3,q,Y4 T2]|true=>obtain⟨s',z⟩:=ih (acc++[f d]) (.sh d) rfl V8 (by simp at hl ⊢;lia);refine⟨s',?_⟩;rw[Zh rfl,he d hd q,ag,mh (by simp at hl;lia),ag,z,X3,q,Zh rfl];simp
 obtain⟨s',z⟩:=key ds [] .no rfl (λ_ h=>h) (by simpa using hL);rw[jk,mM,ag];unfold inner;have e:r++List.replicate 1 Sl.no++[Sl.ow<|.lst []]=r++[.no,.ow<|.lst []]:=T2;dsimp only;rw[e,z];have e2:(r++[s',Sl.ow<|.lst<|[]++(ds.filter t).map f])[r.length+1]?=some (.ow<|.lst<|[]++(ds.filter t).map f):=by rw[Jn WR];simp
 simp only[e2];simp
theorem O8(f:D->D)(mM:it r=.ok ds r)(hk:k=r.length)(hL:ds.length<=16777216)
  (he:∀d∈ds,∀acc,elt (r++[.sh d,.ow acc])=.ok (f d) (r++[.sh d,.ow acc])) :
  aC 1 it (ao k) (ret true) elt r=.ok (.lst<|ds.map f) r:=by
 have:=txs (test:=ret true) (λ_=>true) f mM hk hL (λ_ _ _=>rfl) (λd h _=>he d h);rw[this,List.filter_eq_self.mpr (λ_ _=>rfl)]
end
@[simp] theorem Q2p(r:ay):bz [] r=some []:=by cases r<;>rfl
@[simp] theorem Q2f(bs:Qg)(s:Sl)(r:ay):bz (false::bs) (s::r)=bz bs r:=WB
@[simp] theorem Q0c(bs:Qg)(d:D)(r:ay):bz (true::bs) (.io d::r)=(bz bs r).map (d::·):=WB
noncomputable def Pp(d:D):Option (List D)->FR|some ios=>.ok d ios|none=>.no
@[simp] theorem Q08(d:D)(l:Y5):Pp d (some l)=.ok d l:=WB
@[simp] theorem aas(fl:Qg)(d:D)(r:ay):fin fl (.ok (.rt d) r)=Pp d (bz fl r):=by unfold fin Pp;first|(dsimp only;done)|(dsimp only;cases bz fl r<;>rfl)
@[simp] theorem FU(n:Nat):List.replicate (n+1) Sl.no=.no::List.replicate n .no:=WB
@[simp] theorem XN:List.replicate 0 Sl.no=[]:=WB
noncomputable def T(xs:Zw):D:=.tup (xs.map .int)
noncomputable def Z(xs:Zw):D:=.lst (xs.map .int)
@[simp] theorem Qh(xs:Zw):cw (T xs)=some (.int xs.length):=by simp[T]
@[simp] theorem EH(xs:Zw):cw (Z xs)=some (.int xs.length):=by simp[Z]
@[simp] theorem uI(xs:Zw):b9 (T xs)=some (xs.map .int):=WB
@[simp] theorem Su(xs:Zw):b9 (Z xs)=some (xs.map .int):=WB
@[simp] theorem IA(xs:Zw):eX (T xs)=some (Z xs):=WB
@[simp] theorem Q1E(xs:Zw):eX (Z xs)=some (Z xs):=WB
@[simp] theorem J0(xs:Zw):iM (T xs)=some (T xs):=WB
@[simp] theorem J3(xs:Zw):iM (Z xs)=some (T xs):=WB
@[simp] theorem bnd(xs:Zw)(i:Int):aj (Z xs) (.int i)=Ac (xs.map .int) i:=WB
theorem cA(xs:Zw)(i:Int)(h0:0<=i)(h:i<xs.length):Ac (xs.map D.int) i=some (.int<|xs.getD i.toNat 0):=by refine mU _ _ _ h0 ?_;have h2:i.toNat<xs.length:=WR;simp[h2]
theorem dX(xs ys:Zw)(h:xs.length+ys.length<=iz):aV (T xs) (T ys)=some (T<|xs++ys):=by unfold T;rw[Q09]<;>simp[h]
theorem OW(xs ys:Zw)(h:xs.length+ys.length<=iz):aV (Z xs) (Z ys)=some (Z<|xs++ys):=by unfold Z;rw[iW]<;>simp[h]
theorem mz(xs:Zw)(x:Int)(h:xs.length<16777216):fQ (.int x) (Z xs)=some (Z<|xs++[x]):=by unfold Z;rw[fS];simp;simpa using h
theorem SW:D.tup []=T []:=WB
theorem fX(n:Nat)(xs:Zw):eS n (xs.map .int)=true:=by induction xs with|nil=>cases n<;>rfl|cons x xs ih=>simp[eS,ih];cases n<;>simp[plain]
theorem mJ(xs ys:Zw):oG (xs.map .int) (ys.map .int)=decide (xs=ys):=by induction xs generalizing ys with|nil=>cases ys<;>simp[oG]|cons x xs ih=>cases ys with|nil=>simp[oG]|cons y ys=>simp[oG,ih,vp];rfl
@[simp] theorem Dp(xs ys:Zw):eh (T xs) (T ys)=some (.bl<|decide<|xs=ys):=by unfold eh T;simp[plain,fX,Dm,zu,mJ]
@[simp] theorem E3(xs ys:Zw):jo (T xs) (T ys)=some (.bl<|!decide (xs=ys)):=by unfold jo T;simp[plain,fX,Dm,zu,mJ]
theorem xS(xs:Zw):bT (xs.map .int)=some xs:=by induction xs with|nil=>rfl|cons x xs ih=>simp[bT,ih]
@[simp] theorem SN(xs:Zw):F8 (Z xs)=some (.int xs.sum):=by simp[F8,xS]
theorem nK(a b:D)(xs ys:Zw)(ha:b9 a=some (xs.map .int))(hb:b9 b=some (ys.map .int)):nJ [a,b]=some ((xs.zip ys).map λp=>.tup [.int p.1,.int p.2]):=by simp only[nJ,ha,hb];congr 1;clear ha hb;induction xs generalizing ys with|nil=>simp|cons x xs ih=>cases ys with|nil=>simp|cons y ys=>simp[ih]
@[simp] theorem Sj(xs:Zw):wC (Z xs)=some (T xs.reverse):=by simp[wC,T]
theorem tBo(f:Int->D)(xs:Zw)(lo hi:VA):cutD (xs.map f) lo hi=((xs.drop<|j9 xs.length 0 lo).take<|j9 xs.length xs.length hi-j9 xs.length 0 lo).map f:=by simp[cutD,List.map_take,List.map_drop]
@[simp] theorem Pa(xs:Zw)(lo hi:VA):g6 (Z xs) lo hi=some (Z<|(xs.drop<|j9 xs.length 0 lo).take<|j9 xs.length xs.length hi-j9 xs.length 0 lo):=by simp only[Z,pS,tBo]
theorem qF(j:Int)(n:Nat)(h:j.toNat=n)(h2:-(2 ^ 62)<=j)(h3:j<2 ^ 62):rk [.int j]=some ((List.range n).map λ(k:Nat)=>.int k):=by subst h;exact JB j h2 h3
noncomputable def aE(g:D->M Unit)(body:M Fl)(d:D)(r:ay):Res Fl:=(g d r).then λ_=>body
noncomputable def cont:Res Fl->Option ay|.ok .nx r=>some r|.ok .ct r=>some r|_=>none
@[simp] theorem Q2l(r:ay):cont (.ok .nx r)=some r:=WB
theorem jP(h:cont (aE g body d r)=some r'):loop g body (d::ds) r=loop g body ds r':=by rw[jO];unfold aE at h;cases q:g d r with|no=>rw[q] at h;cases h|exc x r=>rw[q] at h;cases h|ok u r1=>rw[q,ag] at h;rw[ag];cases q2:body r1 with|no=>rw[q2] at h;cases h|exc x r=>rw[q2] at h;cases h|ok k r2=>rw[q2] at h;cases k with|nx=>cases h;rfl|ct=>cases h;rfl|bk=>cases h|rt v=>cases h
theorem EK(h:aE g body d r=.ok (.rt v) r'):loop g body (d::ds) r=.ok (.rt v) r':=by rw[jO];unfold aE at h;cases q:g d r with|no=>rw[q] at h;cases h|exc x r=>rw[q] at h;cases h|ok u r1=>rw[q,ag] at h;rw[ag,h];rfl
theorem EJ(h:aE g body d r=.exc x r'):loop g body (d::ds) r=.exc x r':=by rw[jO];unfold aE at h;cases q:g d r with|no=>rw[q] at h;cases h|exc y r=>rw[q] at h;exact h|ok u r1=>rw[q,ag] at h;rw[ag,h];rfl
noncomputable def jf{S E A:Type}(step:S->A->E ⊕ S):List A->S->E ⊕ S|[],s=>.inr s|a::as,s=>match step s a with|.inl e=>.inl e|.inr s'=>jf step as s'
theorem kL{S Tm A:Type}(mk:A->D)(R:S->Tm->ay)(ok:Tm->Prop)(step:S->A->D ⊕ S):∀(as:List A)(P:Nat->S->Prop)(s:S)(t:Tm),ok t->P 0 s ->
  (∀(i:Nat)(a:A),as[i]?=some a->∀s t,ok t->P i s->match step s a with|.inr s'=>P (i+1) s'/\∃t',ok t'/\cont (aE g body (mk a)<|R s t)=some (R s' t')|.inl v=>∃s' t',aE g body (mk a) (R s t)=.ok (.rt v) (R s' t')) ->
  match jf step as s with|.inr s'=>P as.length s'/\∃t',ok t'/\loop g body (as.map mk) (R s t)=.ok .nx (R s' t')|.inl v=>∃s' t',loop g body (as.map mk) (R s t)=.ok (.rt v) (R s' t'):=by
 intro as;induction as with|nil=>intro P s t ht hs _;exact⟨hs,t,ht,rfl⟩|cons a as ih=>intro P s t ht hs h;have h1:=h 0 a rfl s t ht hs;simp only[jf,List.map_cons];cases q:step s a with|inl v=>rw[q] at h1;obtain⟨s',t',e⟩:=h1;exact⟨s',t',EK e⟩|inr s1=>rw[q] at h1;obtain⟨p1,t1,o1,e1⟩:=h1;have h2:=ih (λk=>P<|k+1) s1 t1 o1 p1 λi a' ha=>h (i+1) a' (by simpa using ha);have e:(a::as).length=as.length+1:=T2;dsimp only;rw[e];cases q2:jf step as s1 with|inl v=>rw[q2] at h2;obtain⟨s',t',z⟩:=h2;exact⟨s',t',by rw[jP e1];exact z⟩|inr s2=>rw[q2] at h2;obtain⟨p2,t2,o2,z⟩:=h2;exact⟨p2,t2,o2,by rw[jP e1];exact z⟩
theorem hV{S Tm A:Type}(mk:A->D)(R:S->Tm->ay)(ok:Tm->Prop)(P:Nat->S->Prop)(step:S->A->S)(as:List A)(s:S)(t:Tm)(ht:ok t)(hs:P 0 s)
  (h:∀(i:Nat)(a:A),as[i]?=some a->∀s t,ok t->P i s->P (i+1) (step s a)/\∃t',ok t'/\cont (aE g body (mk a)<|R s t)=some (R (step s a) t')) :
  P as.length (as.foldl step s)/\∃t',ok t'/\loop g body (as.map mk) (R s t)=.ok .nx (R (as.foldl step s) t'):=by
 have:=kL (g:=g) (body:=body) mk R ok (λs a=>.inr<|step s a) as P s t ht hs h;have e:∀(as:List A)(s:S),jf (E:=D) (λs a=>.inr<|step s a) as s=.inr (as.foldl step s):=by intro as;induction as with|nil=>intro s;rfl|cons a as ih=>intro s;exact ih _
 rw[e] at this;exact this
theorem bF(h:(List.range n)[i]?=some k):k=i/\i<n:=by have h1:=(List.getElem?_eq_some_iff.mp h).1;simp at h1;rw[Il h1] at h;exact⟨(JY h).symm,h1⟩
def p9(s:Sl):Prop:=free (some s)=true
def iJ(s:Sl×Sl):Prop:=free (some s.1)=true/\free (some s.2)=true
def zV(s:Sl×Sl×Sl):Prop:=free (some s.1)=true/\free (some s.2.1)=true/\free (some s.2.2)=true
@[simp] theorem Ij(j:Nat)(i:D)(r:ay):Et j i r=(opt (own r[j]?) r).then λd=>opt (aj d i):=by unfold Et;cases own r[j]?<;>rfl
@[simp] theorem ID(j:Nat)(fb:M D)(r:ay):jm j fb r=if (own r[j]?).isSome=true then(fb r).then (Et j) else .no:=by unfold jm;split;exact aq _ _ _;rfl
theorem Q2B(n:Nat)(i:Int)(h0:0<=i)(h:i<n):xf n i=some i.toNat:=by unfold xf;rw[Zh h0,Zh h]
theorem nz(xs:Y5)(i:Int)(v:D)(h0:0<=i)(h:i<xs.length):setAt (.int i) v (.lst xs)=some (.lst<|xs.set i.toNat v):=by show (xf xs.length i).map _=_;rw[Q2B _ _ h0 h];rfl
theorem AN(xs:Zw)(i v:Int)(h0:0<=i)(h:i<xs.length):setAt (.int i) (.int v) (Z xs)=some (Z<|xs.set i.toNat v):=by unfold Z;rw[nz _ _ _ h0 (by simpa using h)];simp
noncomputable def outs{S A B:Type}(step:S->A->S)(f:S->A->B):S->List A->List B|_,[]=>[]|s,a::as=>f s a::outs step f (step s a) as
theorem MF{S A:Type}(mk:A->D)(R:S->ay)(P:Nat->S->Prop)(step:S->A->S)(f:S->A->D)(as:List A)(s:S)
  (BX:∀s,(R s).length=k) (mM:it r0=.ok (as.map mk) (R s)) (hL:as.length<=16777216) (hP:P 0 s)
  (he:∀(i:Nat)(a:A),as[i]?=some a->∀s acc,P i s->P (i+1) (step s a)/\elt (R s++[.sh<|mk a,.ow acc])=.ok (f s a) (R (step s a)++[.sh<|mk a,.ow acc])) :
  aC 1 it (ao k) (ret true) elt r0=.ok (.lst<|outs step f s as) (R<|as.foldl step s)/\P as.length (as.foldl step s):=by
 have key:∀(es:List A)(n:Nat)(acc:Y5)(x:Sl)(s:S),free (some x)=true->(∀(i:Nat)(a:A),es[i]?=some a->as[n+i]?=some a)->acc.length+es.length<=16777216->P n s->(∃x',turns (k+1) (ao k) (ret true) elt (es.map mk) (R s++[x,.ow<|.lst acc])=.ok () (R (es.foldl step s)++[x',.ow<|.lst<|acc++outs step f s es]))/\P (n+es.length) (es.foldl step s):=by
  intro es;induction es with
  |nil=>intro n acc x s _ _ _ hp;exact⟨⟨x,by simp[outs]⟩,hp⟩|cons a es ih=>
   intro n acc x s hx hm hl hp;obtain⟨p1,e1⟩:=he n a (hm 0 a rfl) s (.lst acc) hp;obtain⟨⟨x',e2⟩,p2⟩:=ih (n+1) (acc++[f s a]) (.sh<|mk a) (step s a) rfl (λi b hb=>by rw[Nat.add_assoc,Nat.add_comm 1 i];exact hm (i+1) b hb) (by simp at hl ⊢;lia) p1;refine⟨⟨x',?_⟩,?_⟩;have g1:ao k (mk a) (R s++[x,.ow<|.lst acc])=.ok () (R s++[.sh<|mk a,.ow<|.lst acc]):=by have:=bG (r:=R s) (xs:=[.ow<|.lst acc]) (s:=x);have:=bV (r:=R s) (xs:=[.ow<|.lst acc]) (s:=x) (s':=.sh<|mk a);rw[BX s] at *;rw[jg];simp_all
   have u1:gC (k+1) (fQ<|f s a) (R (step s a)++[.sh<|mk a,.ow<|.lst acc])=.ok () (R (step s a)++[.sh<|mk a,.ow<|.lst<|acc++[f s a]]):=by have:=mh (r:=R<|step s a) (s:=.sh<|mk a) (acc:=acc) (x:=f s a) (by simp at hl;lia);rw[BX] at this;exact this
   rw[BE,ed,g1,ag,bH,ag,Zh rfl,e1,ag,u1,ag,e2];simp[outs];have e:n+(a::es).length=n+1+es.length:=by simp;lia
   rw[e];exact p2
 obtain⟨⟨x',z⟩,p⟩:=key as 0 [] .no s rfl (λi a h=>by rw[Nat.zero_add];exact h) (by simpa using hL) hP;refine⟨?_,by rw[Nat.zero_add] at p;exact p⟩;rw[jk,mM,ag];unfold inner;have e:R s++List.replicate 1 Sl.no++[Sl.ow<|.lst []]=R s++[.no,.ow<|.lst []]:=T2;dsimp only;rw[e,BX,z];have e2:(R (as.foldl step s)++[x',Sl.ow<|.lst<|[]++outs step f s as])[k+1]?=some (.ow<|.lst<|[]++outs step f s as):=by rw[Jn (by rw[BX];lia),BX];simp
 simp only[e2];have e3:List.take k (R (as.foldl step s)++[x',Sl.ow<|.lst<|[]++outs step f s as])=R (as.foldl step s):=by rw[<-BX (as.foldl step s)];simp
 rw[e3];simp
theorem wh{S A B:Type}(f:A->B)(s:S):∀as:List A,outs (λ(s:S)(_:A)=>s) (λ_ a=>f a) s as=as.map f|[]=>rfl|a::as=>by simp[outs,wh f s as]
theorem cJ{A:Type}{it:M (List D)}{elt:M D}{k:Nat}{r:ay}{out:D}(mk:A->D)(f:A->D)(as:List A)(mM:it r=.ok (as.map mk) r)(hL:as.length<=16777216)(xP:D.lst (as.map f)=out)(he:∀a∈as,∀acc,elt (r++[.sh<|mk a,.ow acc])=.ok (f a) (r++[.sh<|mk a,.ow acc])) (hk:r.length=k:=by rfl):aC 1 it (ao k) (ret true) elt r=.ok out r:=by have:=(MF (elt:=elt) mk (λ(_:Unit)=>r) (λ_ _=>True) (λs _=>s) (λ_ a=>f a) as () (λ_=>hk) mM hL trivial λi a ha s acc _=>⟨trivial,he a (Ct ha) acc⟩).1;rw[wh,xP] at this;exact this
@[simp] theorem W2(xs ys:Zw):jo (Z xs) (Z ys)=some (.bl<|!decide (xs=ys)):=by unfold jo Z;simp[plain,fX,Dm,zu,mJ]
@[simp] theorem acU(a:D)(xs:Y5):Ac (a::xs) 0=some a:=mU _ _ _ WR rfl
@[simp] theorem abZ(a b c:D):Gs [a,b,c]=some (.tup [a,b,c]):=WB
theorem ME{A:Type}(mk:A->D)(sl:A->List Sl)(t:A->Bool)(f:A->D)(as:List A)(hk:r.length=k)(mM:it r=.ok (as.map mk) r)(hL:as.length<=16777216)
  (HV:∀a∈as,(sl a).length=n/\∀x∈sl a,free (some x)=true)
  (hg:∀a∈as,∀(ts:List Sl) acc,ts.length=n->(∀x∈ts,free (some x)=true)->g (mk a) (r++ts++[.ow acc])=.ok () (r++sl a++[.ow acc]))
  (ht:∀a∈as,∀acc,test (r++sl a++[.ow acc])=.ok (t a) (r++sl a++[.ow acc]))
  (he:∀a∈as,t a=true->∀acc,elt (r++sl a++[.ow acc])=.ok (f a) (r++sl a++[.ow acc])) :
  aC n it g test elt r=.ok (.lst<|(as.filter t).map f) r:=by
 subst hk;have Yn:∀(ts:List Sl)(acc:Y5)(x:D),ts.length=n->acc.length<16777216->gC (r.length+n) (fQ x) (r++ts++[.ow<|.lst acc])=.ok () (r++ts++[.ow<|.lst<|acc++[x]]):=by
  intro ts acc x h1 h2;have e2:r.length+n=(r++ts).length:=by simp[h1]
  rw[e2,jR];have:=bG (r:=r++ts) (xs:=[]) (s:=.ow<|.lst acc);rw[this];have:=bV (r:=r++ts) (xs:=[]) (s:=.ow<|.lst acc) (s':=.ow<|.lst<|acc++[x]);simp only[yw,aX,bH,ag,fS x acc h2,lQ,bG,uB,this]
 have key:∀(es:List A)(acc:Y5)(ts:List Sl),ts.length=n->(∀x∈ts,free (some x)=true)->(∀d∈es,d∈as)->acc.length+es.length<=16777216->∃B5,B5.length=n/\turns (r.length+n) g test elt (es.map mk) (r++ts++[.ow<|.lst acc])=.ok () (r++B5++[.ow<|.lst<|acc++(es.filter t).map f]):=by intro es;induction es with|nil=>intro acc ts h1 _ _ _;exact⟨ts,h1,T2⟩|cons a es ih=>intro acc ts h1 h2 hm hl;have ha:=hm a TL;have V8:∀x∈es,x∈as:=λx hx=>hm x<|SY _ hx;rw[BE,ed,hg a ha ts _ h1 h2,ag,ht a ha,ag];cases q:t a with|false=>obtain⟨B5,z1,z2⟩:=ih acc (sl a) (HV a ha).1 (HV a ha).2 V8 (by simp at hl;lia);refine⟨B5,z1,?_⟩;rw[Y4 T2,z2,X3,q,Y4 T2]|true=>obtain⟨B5,z1,z2⟩:=ih (acc++[f a]) (sl a) (HV a ha).1 (HV a ha).2 V8 (by simp at hl ⊢;lia);refine⟨B5,z1,?_⟩;rw[Zh rfl,he a ha q,ag,Yn _ _ _ (HV a ha).1 (by simp at hl;lia),ag,z2,X3,q,Zh rfl];simp
 obtain⟨B5,z1,z2⟩:=key as [] (List.replicate n .no) T2 (λx hx=>by rw[List.eq_of_mem_replicate hx];rfl) (λ_ h=>h) (by simpa using hL);rw[jk,mM,ag];unfold inner;dsimp only;rw[z2];have e2:(r++B5++[Sl.ow<|.lst<|[]++(as.filter t).map f])[r.length+n]?=some (.ow<|.lst<|[]++(as.filter t).map f):=by rw[Jn (by simp;lia)];simp[z1]
 simp only[e2];simp
theorem Q1t{r:ay}{ts:List Sl}{acc x y:D}(h1:ts.length=2)(h2:∀x∈ts,free (some x)=true):b8 [r.length,r.length+1] (.tup [x,y]) (r++ts++[.ow acc])=.ok () (r++[.sh x,.sh y]++[.ow acc]):=by
 match ts,h1,h2 with
 |[s,s2],_,h2=>
  have hs:=h2 s TL;have kT:=h2 s2<|SY _ TL;have g2:(r++[Sl.sh x,s2,.ow acc])[r.length+1]?=some s2:=by rw[Jn WR];simp
  have g3:(r++[Sl.sh x,s2,.ow acc]).set (r.length+1) (.sh y)=r++[.sh x,.sh y,.ow acc]:=by rw[List.set_append_right _ _ WR];simp
  simp only[List.append_assoc,List.cons_append,List.nil_append];rw[Q10,rY,Aj,bG,Zh hs,bV,ag,rY,Aj,g2,Zh kT,g3];rfl
theorem O9{A:Type}{it:M (List D)}{test:M Bool}{elt:M D}{k:Nat}{r:ay}{out:D}(m1 m2:A->D)(t:A->Bool)(f:A->D)(as:List A)(mM:it r=.ok (as.map λa=>.tup [m1 a,m2 a]) r)(hL:as.length<=16777216)(xP:D.lst ((as.filter t).map f)=out)
  (ht:∀a∈as,∀acc,test (r++[.sh<|m1 a,.sh<|m2 a,.ow acc])=.ok (t a) (r++[.sh<|m1 a,.sh<|m2 a,.ow acc]))
  (he:∀a∈as,t a=true->∀acc,elt (r++[.sh<|m1 a,.sh<|m2 a,.ow acc])=.ok (f a) (r++[.sh<|m1 a,.sh<|m2 a,.ow acc])) (hk:r.length=k:=by rfl) :
  aC 2 it (b8 [k,k+1]) test elt r=.ok out r:=by
 rw[<-xP];subst hk;refine ME (λa=>.tup [m1 a,m2 a]) (λa=>[.sh<|m1 a,.sh<|m2 a]) t f as rfl mM hL (λa _=>⟨rfl,by intro x hx;simp at hx;rcases hx with rfl|rfl<;>rfl⟩) (λa ha ts acc h1 h2=>Q1t h1 h2) (λa ha acc=>?_) λa ha q acc=>?_;have:=ht a ha acc;simpa using this;have:=he a ha q acc;simpa using this
theorem xD{A:Type}{it:M (List D)}{elt:M D}{k:Nat}{r:ay}{out:D}(m1 m2:A->D)(f:A->D)(as:List A)(mM:it r=.ok (as.map λa=>.tup [m1 a,m2 a]) r)(hL:as.length<=16777216)(xP:D.lst (as.map f)=out)
  (he:∀a∈as,∀acc,elt (r++[.sh<|m1 a,.sh<|m2 a,.ow acc])=.ok (f a) (r++[.sh<|m1 a,.sh<|m2 a,.ow acc])) (hk:r.length=k:=by rfl) :
  aC 2 it (b8 [k,k+1]) (ret true) elt r=.ok out r:=
 O9 m1 m2 (λ_=>true) f as mM hL (by rw[List.filter_eq_self.mpr (λ_ _=>rfl)];exact xP) (λ_ _ _=>rfl) (λa ha _ acc=>he a ha acc) hk
theorem xC{A:Type}{it:M (List D)}{test:M Bool}{elt:M D}{k:Nat}{r:ay}{out:D}(mk:A->D)(t:A->Bool)(f:A->D)(as:List A)(mM:it r=.ok (as.map mk) r)(hL:as.length<=16777216)(xP:D.lst ((as.filter t).map f)=out)
  (ht:∀a∈as,∀acc,test (r++[.sh<|mk a,.ow acc])=.ok (t a) (r++[.sh<|mk a,.ow acc]))
  (he:∀a∈as,t a=true->∀acc,elt (r++[.sh<|mk a,.ow acc])=.ok (f a) (r++[.sh<|mk a,.ow acc])) (hk:r.length=k:=by rfl) :
  aC 1 it (ao k) test elt r=.ok out r:=by
 rw[<-xP];subst hk;refine ME mk (λa=>[.sh<|mk a]) t f as rfl mM hL (λa _=>⟨rfl,by intro x hx;simp at hx;rw[hx];rfl⟩) (λa ha ts acc h1 h2=>?_) (λa ha acc=>?_) λa ha q acc=>?_
 match ts,h1,h2 with|[s],_,h2=>have hs:=h2 s TL;simp only[List.append_assoc,List.cons_append,List.nil_append];rw[jg,bG,Zh hs,bV]
 have:=ht a ha acc;simpa using this;have:=he a ha q acc;simpa using this
@[simp] theorem FZ(i:Nat)(cs:TY)(f:Str)(fv:M D)(r:ay):bY i cs f fv r=(fv r).then λv r=>(gC i (sD cs f v) r).then λ_=>ret .nx:=by unfold bY;rw[aq];congr;funext v r;exact kR _ _
@[simp] theorem v5(c:Str)(f:Fn)(as:List Arg)(r:ay):n6 c f as r=(aW as r).then λvs=>BC c f vs:=aq _ _ _
@[simp] theorem ES(c m:Str)(f:Fn)(fo:M D)(as:List Arg)(r:ay):gR c m f fo as r=(fo r).then λo r=>if gP c m o=true then(aW as r).then λvs=>qo f (.val o::vs) else .no:=by unfold gR;rw[aq];congr;funext o r;split;exact aq _ _ _;rfl
@[simp] theorem EP(fl:List (M D))(r:ay):qp fl r=(mL fl r).then λxs=>opt (gK xs):=aq _ _ _
@[simp] theorem Q0K(fl:List (M D))(r:ay):Ai fl r=(mL fl r).then λxs=>opt (FW xs):=aq _ _ _
@[simp] theorem rN(ds:Y5):gK [.lst ds]=some (iE ds):=WB
theorem jE{A:Type}(mk:A->D)(as:List A):iE (as.map mk)=(List.range as.length).zipWith (λi a=>D.tup [.int (i:Nat),mk a]) as:=by unfold iE;rw[SS,List.zipWith_map_right]
@[simp] theorem u6(al:Bool)(ds:Y5):oC al (.lst ds)=(i7 ds).map λbs=>.bl (if al then bs.all id else bs.any id):=WB
theorem ky{A:Type}(f:A->Bool):∀as:List A,i7 (as.map λa=>D.bl<|f a)=some (as.map f)|[]=>rfl|a::as=>by simp[i7,ky f as]
theorem tf{A:Type}(f:A->Bool)(as:List A):oC true (.lst<|as.map λa=>D.bl<|f a)=some (.bl<|as.all f):=by rw[u6,ky];simp[Function.comp_def]
theorem Cv{A:Type}(f:A->Bool)(as:List A):oC false (.lst<|as.map λa=>D.bl<|f a)=some (.bl<|as.any f):=by rw[u6,ky];simp[Function.comp_def]
theorem Q1L(c:Str)(f:Fn)(vals:Y5)(d:D)(r:ay)(h:f (.ins c [] []::vals)=.ok .aQ [d]):BC c f (vals.map AV.val) r=.ok d r:=by
 have e1:∀(vs:Y5)(r:ay),gj (vs.map AV.val) r=some vs:=λvs r=>by induction vs with|nil=>rfl|cons v vs ih=>simp[ih]
 have e2:∀vs:Y5,bJ (vs.map AV.val)=[]:=λvs=>by induction vs with|nil=>rfl|cons v vs ih=>simp[ih]
 have g:(r++[Sl.ow<|.ins c [] []])[r.length]?=some (.ow<|.ins c [] []):=T2;have p:putAll [r.length] [d] (r++[Sl.ow<|.ins c [] []])=r++[.ow d]:=by rw[wx,Q25,lQ,g,uB,bV]
 unfold BC;rw[oX,mco,g];simp only[yw,Option.bind_some,e1,Option.map_some,aX,bH,ag,Q2N,e2];rw[Zh T2,h,pQ,p];simp
def Tb(s c:Zw):D:=.ins "Table" ["sides","cells"] [T s,Z c]
theorem d6:∀ns:Zw,bT (ns.map .int)=some ns|[]=>rfl|n::ns=>by rw[BE,bT,d6 ns];rfl
theorem Q2G(xs:Zw)(h:xs.length<64):sG (T xs)=some (Z<|sortI xs):=by have e:b9 (T xs)=some (xs.map .int):=rfl;unfold sG;rw[e];dsimp only;rw[d6];dsimp only;rw[if_pos h];rfl
noncomputable def mj(n:Nat):Zw:=(List.range n).map λ(k:Nat)=>(k:Int)
theorem Iy(n:Nat)(h:n<=1000):EM [.int n]=some (Z<|mj n):=by simp only[EM];rw[Zh WR];simp[Z,mj,Function.comp_def]
theorem nB(h:sortI xs=mj n)(hx:x∈xs):∃k:Nat,x=k/\k<n:=by have:=(sortI_perm xs).mem_iff.mpr hx;rw[h] at this;obtain⟨k,hk,rfl⟩:=List.mem_map.mp this;exact⟨k,rfl,by simpa using hk⟩
def afx(i:Nat)(r:ay):D->Res D
|.lst xs=>match xs.getLast? with
  |some d=>.ok d (dh i (.lst xs.dropLast) r)|none=>.no
 |_=>.no
@[simp] theorem Q04(i:Nat)(fe:M D)(r:ay):FX i fe r=if isLst (own r[i]?)=true then(fe r).then λx r=>(gC i (Du x) r).then λ_=>ret .nx else .no:=by unfold FX;split;rw[aq];congr;funext k r;exact kR _ _;rfl
theorem HD(xs ys:Y5)(h:xs.length+ys.length<=iz):Du (.lst ys) (.lst xs)=some (.lst<|xs++ys):=Zh h
def OO(r:ay):Res D->Res D|.ok (.lst ds) _=>if noLs ds then .ok (.lst ds) r else .no|_=>.no
@[simp] theorem v8(f:M D)(r:ay):jn f r=OO r (f<|r.map eY):=by unfold jn;cases f (r.map eY) with|ok d r=>cases d<;>rfl|exc e r=>rfl|no=>rfl
theorem wU(r r':ay)(ds:Y5)(h:noLs ds=true):OO r (.ok (.lst ds) r')=.ok (.lst ds) r:=Zh h
@[simp] theorem wV(d:D):eY (.ow d)=.sh d:=rfl
@[simp] theorem Gy(d:D):eY (.io d)=.sh d:=rfl
@[simp] theorem wW(d:D):eY (.sh d)=.sh d:=rfl
@[simp] theorem Gz:eY .no=.no:=rfl
theorem wX(h:c r=.ok false r'):gG c b (n+1) r=.ok .nx r':=by unfold gG;rw[aq,h];rfl
theorem B8(h:c r=.ok true r1)(h2:b r1=.ok .nx r2):gG c b (n+1) r=gG c b n r2:=by rw[gG,aq,h];show (Zi b _) r1=_;rw[aq,h2];rfl
theorem E0(xs:Zw)(d:D):mZ (T xs) d=match xs with|[]=>some d|i::is=>some (.int<|is.foldl (λa b=>if a<b then b else a) i):=by
 have e:bT (xs.map .int)=some xs:=by induction xs with|nil=>rfl|cons x xs ih=>simp[bT,ih]
 show (match bT (xs.map .int) with|some []=>some d|some (i::is)=>some (.int<|is.foldl (λa b=>if a<b then b else a) i)|none=>none)=_;rw[e];cases xs<;>rfl
def Wi(fe:M D):D->M D|.tup ds=>Zi fe λy=>opt (Bw ds y)|_=>stuck
@[simp] theorem ER(fo fe:M D)(r:ay):vY fo fe r=(fo r).then (Wi fe):=by unfold vY;rw[aq];congr
theorem Q0H(fe:M D)(xs:Zw)(k:Int)(r r':ay)(he:fe r=.ok (.int k) r')(hk:k∈xs):Wi fe (T xs) r=.ok (.int (xs.idxOf k:Nat)) r':=by show Zi fe (λy=>opt<|Bw (xs.map .int) y) r=_;rw[aq,he];unfold Bw;rw[d6];simp[hk]
theorem MI{A:Type}{it:M (List D)}{elt:M D}{k:Nat}{r:ay}{x:Xn}(mk:A->D)(f:A->D)(pre:List A)(a:A)(post:List A)(mM:it r=.ok ((pre++a::post).map mk) r)(hL:pre.length<=1000000)(he:∀b∈pre,∀acc,elt (r++[.sh<|mk b,.ow acc])=.ok (f b) (r++[.sh<|mk b,.ow acc])) (hx:∀acc,elt (r++[.sh<|mk a,.ow acc])=.exc x (r++[.sh<|mk a,.ow acc])) (hk:r.length=k:=by rfl):aC 1 it (ao k) (ret true) elt r=.exc x r:=by
 have g1:∀(b:A)(y:Sl)(acc:D),free (some y)=true->ao k (mk b) (r++[y,.ow acc])=.ok () (r++[.sh<|mk b,.ow acc]):=λb y acc hy=>by have:=bG (r:=r) (xs:=[.ow acc]) (s:=y);have:=bV (r:=r) (xs:=[.ow acc]) (s:=y) (s':=.sh<|mk b);rw[hk] at *;rw[jg];simp_all
 have key:∀(es:List A),(∀b∈es,b∈pre)->∀(acc:Y5)(y:Sl),free (some y)=true->acc.length+es.length<=1000000->∃y' pI,turns (k+1) (ao k) (ret true) elt ((es++a::post).map mk) (r++[y,.ow<|.lst acc])=.exc x (r++[y',.ow pI]):=by
  intro es;induction es with
  |nil=>intro _ acc y hy _;refine⟨.sh<|mk a,.lst acc,?_⟩;rw[List.nil_append,BE,ed,g1 a y _ hy,ag,bH,ag,Zh rfl,hx,Gq]|cons b es ih=>
   intro hm acc y hy hl;obtain⟨y',pI,e⟩:=ih (λc hc=>hm c<|SY _ hc) (acc++[f b]) (.sh<|mk b) rfl (by simp at hl ⊢;lia);refine⟨y',pI,?_⟩;have u1:gC (k+1) (fQ<|f b) (r++[.sh<|mk b,.ow<|.lst acc])=.ok () (r++[.sh<|mk b,.ow<|.lst<|acc++[f b]]):=by have:=mh (r:=r) (s:=.sh<|mk b) (acc:=acc) (x:=f b) (by simp at hl;lia);rw[hk] at this;exact this
   rw[List.cons_append,BE,ed,g1 b y _ hy,ag,bH,ag,Zh rfl,he b<|hm b TL,ag,u1,ag,e]
 obtain⟨y',pI,z⟩:=key pre (λb h=>h) [] .no rfl (by simpa using hL);rw[jk,mM,ag];unfold inner;have e:r++List.replicate 1 Sl.no++[Sl.ow<|.lst []]=r++[.no,.ow<|.lst []]:=T2;dsimp only;rw[e,hk,z];dsimp only;congr 1;rw[<-hk];simp
variable{α β:Type}
theorem oz(h:f r=.ok .nx r1)(h2:g r1=R):ai f g r=R:=by rw[jU,h];exact h2
def Sx:Fl->M Fl->M Fl|.nx,g=>g|k,_=>ret k
theorem Q2K(h:f r=.ok k r1)(h2:Sx k g r1=R):ai f g r=R:=by rw[jU,h];cases k<;>exact h2
theorem Q1m(h:g r=R):Sx .nx g r=R:=h
theorem JJ:Sx (.rt d) g r=.ok (.rt d) r:=rfl
theorem ZO:mC d r=.ok d r:=rfl
theorem W6:aJ r=.ok .nx r:=rfl
theorem BP{a:α}:ret a r=.ok a r:=rfl
theorem MN(h:i=j):eh (.int i) (.int j)=some (.bl true):=by rw[fV,Pj h]
theorem zv(h:¬i=j):eh (.int i) (.int j)=some (.bl false):=by rw[fV,Zq h]
theorem VH(h:¬j<i):HK (.int i) (.int j)=some (.bl false):=by rw[xM,Zq h]
theorem vU(h:c r=.ok t r1)(h2:(bif t then a else b) r1=R):eC c a b r=R:=by rw[Q1P,h];cases t<;>exact h2
theorem E1(h:c r=.ok t r1)(h2:(bif t then a else b) r1=R):Nr c a b r=R:=by rw[Qn,h];cases t<;>exact h2
theorem Lz{a b:M α}{R:Res α}(ht:t=true)(h:a r=R):(bif t then a else b) r=R:=by subst ht;exact h
theorem Ly{a b:M α}{R:Res α}(ht:t=false)(h:b r=R):(bif t then a else b) r=R:=by subst ht;exact h
theorem bi7{i:Nat}{f:M D}{r r1 r2:ay}{d:D}(h:f r=.ok d r1)(hf:free r1[i]?=true)(h2:r1.set i (.sh d)=r2):aO i f r=.ok .nx r2:=by rw[AM,h,ag,Zh hf,h2]
theorem RX{i:Nat}{f:M D}{r r1 r2:ay}{d:D}(h:f r=.ok d r1)(hf:free r1[i]?=true)(h2:r1.set i (.ow d)=r2):gU i f r=.ok .nx r2:=by rw[Q2R,h,ag,Zh hf,h2]
theorem Si(h:f r=.ok d r1):a8 f r=.ok (.rt d) r1:=by rw[AL,h];rfl
theorem Hy(h:f r=.ok d r1):iL f r=.ok .nx r1:=by rw[wG,h];rfl
theorem S2(h:r[i]?=some (.sh d)):aa i r=.ok d r:=by rw[Q2Y,h];rfl
theorem WN(h:a r=.ok x r1)(hg:g x=some z):m1 g a r=.ok z r1:=by rw[Nq,h,ag,hg];rfl
theorem WQ(h:a r=.ok x r1)(h2:b r1=.ok y r2)(hg:g x y=some z):m2 g a b r=.ok z r2:=by rw[WO,h,ag,h2,ag,hg];rfl
theorem Q1w(h:mL as r=.ok xs r1)(hg:g xs=some z):mF g as r=.ok z r1:=by rw[WS,h,ag,hg];rfl
theorem BB:mL [] r=.ok [] r:=rfl
theorem Q1s(h:f r=.ok x r1)(h2:mL fs r1=.ok xs r2):mL (f::fs) r=.ok (x::xs) r2:=by rw[IE,h,ag,h2];rfl
theorem Q0U(h:mL fs r=.ok xs r1)(hl:(decide<|xs.length<=16777216)=true):bR fs r=.ok (.tup xs) r1:=by rw[IJ,h,ag,JZ _<|P7 hl];rfl
theorem Qj(h:mL fs r=.ok xs r1)(hl:(decide<|xs.length<=16777216)=true):gB fs r=.ok (.lst xs) r1:=by rw[IF,h,ag,Iz _<|P7 hl];rfl
theorem Ya(h:a r=.ok (.bl b) r1):tB a r=.ok b r1:=by rw[X9,h];rfl
theorem Q1Z(h:a r=.ok b r1):lZ a r=.ok (!b) r1:=by rw[JT,h];rfl
theorem OX(h:a r=.ok x r1)(h2:(bif x then b else ret false) r1=.ok t r2):uL a b r=.ok t r2:=by rw[Q0y,h];cases x<;>exact h2
theorem Q0l(h:a r=.ok x r1)(h2:(bif x then ret true else b) r1=.ok t r2):Gg a b r=.ok t r2:=by rw[SR,h];cases x<;>exact h2
theorem Hm(h:a r=.ok (.bl x) r1)(h2:(bif x then b else ret<|.bl false) r1=R):sk a b r=R:=by rw[Q2P,h];cases x<;>exact h2
theorem RR(h:a r=.ok (.bl x) r1)(h2:(bif x then ret (.bl true) else b) r1=R):EU a b r=R:=by rw[IG,h];cases x<;>exact h2
theorem Q2E(e:f r=.ok d r1)(e1:lK lo r1=.ok l r2)(e2:lK hi r2=.ok h r3)(hg:g d l h=some z):EY g f lo hi r=.ok z r3:=by rw[Qp,e,ag,e1,ag,e2,ag,hg];rfl
theorem Xr(h:f r=.ok (.int i) r1):lK (some f) r=.ok (some i) r1:=by rw[bi6,h];rfl
theorem Hu(h:aW as r=.ok vs r1)(ha:gj vs r1=some ds)(hn:decide (bJ vs).Nodup=true)(hf:f ds=.ok d ios)(hp:putAll (bJ vs) ios r1=r2):au f as r=.ok d r2:=by rw[vX,h,ag,oX,ha,aX,bH,ag,Zh<|P7 hn,hf,pQ,hp]
theorem u9:aW [] r=.ok [] r:=rfl
theorem va(h:f r=.ok d r1)(h2:aW as r1=.ok vs r2):aW (.val f::as) r=.ok (.val d::vs) r2:=by show Zi _ _ r=_;rw[aq,h,ag,aq,h2];rfl
theorem xq(h:(own r[j]?).isSome=true)(h2:aW as r=.ok vs r2):aW (.io j::as) r=.ok (.io j::vs) r2:=by show (if _ then _ else _)=_;rw[Zh h,aq,h2];rfl
theorem Qa(h0:(own r[j]?).isSome=true)(h:f r=.ok i r1)(h1:own r1[j]?=some d)(h2:aj d i=some z):jm j f r=.ok z r1:=by rw[ID,Zh h0,h,ag,Ij,h1,aX,bH,ag,h2];rfl
theorem tTs(hl:decide (ds.length=fl.length)=true)(h:b (aR n fl ds)=.ok (.rt d) r)(hi:bz fl r=some ios):defn n fl b ds=.ok d ios:=by rw[ef _ _ _ _<|P7 hl,h];show (match bz fl r with|some ios=>FR.ok d ios|none=>FR.no)=_;rw[hi]
theorem Q1X(hl:decide (ds.length=fl.length)=true)(h:b (aR n fl ds)=.ok .nx r)(hi:bz fl r=some ios):defn n fl b ds=.ok .aQ ios:=by rw[ef _ _ _ _<|P7 hl,h];show (match bz fl r with|some ios=>FR.ok .aQ ios|none=>FR.no)=_;rw[hi]
theorem Q22(ho:fo r=.ok o r1)(hi:gP c m o=true)(h:aW as r1=.ok vs r2)(ha:gj vs r2=some ds)(hn:decide (bJ vs).Nodup=true)(hf:f (o::ds)=.ok d ios)(hp:putAll (bJ vs) ios r2=r3):gR c m f fo as r=.ok d r3:=by rw[ES,ho,ag,Zh hi,h,ag,oX,oS,ha,Option.map_some,aX,bH,ag,Em,Zh<|P7 hn,hf,pQ,hp]
theorem bi1(h:it r=.ok ds r1)(h2:loop g b ds r1=R):iQ it g b r=R:=by rw[AJ,h];exact h2
theorem Sn(h:mL fl r=.ok xs r1)(h2:rk xs=some ds):bO fl r=.ok ds r1:=by rw[EW,h,ag,h2];rfl
theorem Sw(h:f r=.ok d r1)(h2:b9 d=some ds):cG f r=.ok ds r1:=by rw[Q0V,h,ag,h2];rfl
theorem Tu(h:mL fl r=.ok xs r1)(h2:nJ xs=some ds):ui fl r=.ok ds r1:=by rw[tnZ,h,ag,h2];rfl
theorem Q0a(h:mL fl r=.ok xs r1)(h2:gK xs=some ds):qp fl r=.ok ds r1:=by rw[EP,h,ag,h2];rfl
theorem Sk(h:f r=.ok d r1)(h2:(b9 d).map List.reverse=some ds):EV f r=.ok ds r1:=by rw[IH,h,ag,h2];rfl
theorem OZ(h0:isLst (own r[i]?)=true)(h:f r=.ok x r1)(h1:own r1[i]?=some d)(h2:fQ x d=some d')(h3:dh i d' r1=r2):nv i f r=.ok .nx r2:=by rw[AI,Zh h0,h,ag,jR,h1,aX,bH,ag,h2,aX,bH,ag,h3];rfl
theorem Sz(hv:fv r=.ok v r1)(h0:isLst (own r1[i]?)=true)(hk:fk r1=.ok k r3)(h1:own r3[i]?=some d)(h2:setAt k v d=some d')(h3:dh i d' r3=r2):jr i fk fv r=.ok .nx r2:=by rw[Q2n,hv,ag,Zh h0,hk,ag,jR,h1,aX,bH,ag,h2,aX,bH,ag,h3];rfl
theorem JK(hv:fv r=.ok v r1)(h1:own r1[i]?=some d)(h2:sD cs f v d=some d')(h3:dh i d' r1=r2):bY i cs f fv r=.ok .nx r2:=by rw[FZ,hv,ag,jR,h1,aX,bH,ag,h2,aX,bH,ag,h3];rfl
theorem VD(h:Qm i r=.ok () r1)(h2:f r1=R):BW i f r=R:=by rw[Q0C,h];exact h2
theorem XM(h:anyOf r[i]?=some d):xg i r=.ok d r:=by rw[Qo,h];rfl
theorem Q20(h:f r=.ok d r1)(h2:EC d=some ds):vZ f r=.ok ds r1:=by show Zi _ _ r=_;rw[aq,h,ag,h2];rfl
theorem Jo(hv:fv r=.ok v r1)(h0:(own r1[i]?).isSome=true)(hk:fk r1=.ok k r3)(h1:own r3[i]?=some d)(h2:putD k v d=some d')(h3:dh i d' r3=r2):AK i fk fv r=.ok .nx r2:=by show Zi _ _ r=_;rw[aq,hv,ag,Zh h0,aq,hk,ag,kR,jR,h1,aX,bH,ag,h2,aX,bH,ag,h3];rfl
theorem UN(h:a r=.ok x r1)(h2:b r1=.ok y r2)(hg:g x y=some (.bl k))(h3:(bif k then m1 (g2 y) c else ret<|.bl false) r2=R):IC g g2 a b c r=R:=by rw[Q1i,h,ag,h2,ag,hg];cases k;exact h3;rw[<-h3];exact(Nq ..).symm
theorem IM(h:aW as r=.ok vs r1)(hv:ds.map AV.val=vs)(hf:f (.ins c [] []::ds)=.ok .aQ [d]):n6 c f as r=.ok d r1:=by subst hv;rw[v5,h,ag];exact Q1L c f ds d r1 hf
theorem Gv(h:ds.map AV.val=vs):(d::ds).map AV.val=.val d::vs:=by rw[BE,h]
theorem tBv:([]:Y5).map AV.val=[]:=rfl
theorem HI(e:o=some s)(h:free (some s)=true):free o=true:=by rw[e];exact h
end VP
end
section
set_option maxRecDepth 100000
set_option linter.all false
namespace LW
open PySem VP
def names:TY:=(["given","even","turn","cut","drop","wide","spread","shape","shift","one","both","where","fold","run","pick","join","minus","half","none","add","less","times","least","most","below","alike","line","number","numbers","place","sides","many"]:TY)++(["a number to pick by is not a place of the side"]:TY)
def nm(i:Nat):Str:=names.getD i ""
abbrev cI(i:Int):M D:=mC (.int i)
abbrev cS(i:Nat):M D:=mC (.str<|nm i)
abbrev cT:M D:=mC (.bl true)
abbrev cF:M D:=mC (.bl false)
def rA:TY:=[(nm 27),(nm 28),(nm 26)]
def nH:List (Str×D):=[((nm 9),.tup [.str<|nm 16,.str<|nm 17,.str<|nm 18]),((nm 10),.tup [.str<|nm 19,.str<|nm 20,.str<|nm 21,.str<|nm 22,.str<|nm 23,.str<|nm 24,.str<|nm 25]),((nm 12),.tup [.str<|nm 19,.str<|nm 21,.str<|nm 22,.str<|nm 23])]
def oB:TY:=[]
def eU:List (Str×D):=[((nm 19),.int 0),((nm 21),.int 1)]
def Ba:TY:=[]
def nI:List (Str×D):=[((nm 0),.tup [.str<|nm 27]),((nm 1),.tup [.str<|nm 28,.str<|nm 27]),((nm 2),.tup [.str<|nm 26,.str<|nm 28]),((nm 3),.tup [.str<|nm 26,.str<|nm 27,.str<|nm 27,.str<|nm 27,.str<|nm 27]),((nm 4),.tup [.str<|nm 26,.str<|nm 27,.str<|nm 27]),((nm 5),.tup [.str<|nm 26,.str<|nm 27]),((nm 6),.tup [.str<|nm 26,.str<|nm 28]),((nm 7),.tup [.str<|nm 26,.str<|nm 28]),((nm 8),.tup [.str<|nm 26,.str<|nm 27,.str<|nm 27,.str<|nm 27]),((nm 9),.tup [.str<|nm 9,.str<|nm 26]),((nm 10),.tup [.str<|nm 10,.str<|nm 26,.str<|nm 26]),((nm 11),.tup [.str<|nm 26,.str<|nm 26,.str<|nm 26]),((nm 12),.tup [.str<|nm 12,.str<|nm 26,.str<|nm 27]),((nm 13),.tup [.str<|nm 12,.str<|nm 26,.str<|nm 27]),((nm 14),.tup [.str<|nm 26,.str<|nm 27,.str<|nm 26]),((nm 15),.tup [.str<|nm 26,.str<|nm 26,.str<|nm 27])]
def pX:TY:=["Joined"]
def pY:TY:=["Where"]
def mK:TY:=["Joined"]
def fF:TY:=["Table"]
def tI:TY:=["Both","Fold","One","Through"]
def ll:TY:=["One","Within"]
def zQ:TY:=["Weaver"]
def lq:TY:=["Both","Where"]
def pZ:TY:=["Plan"]
def g8:TY:=["Fill","Fold","Load","Pick","Read","Through"]
def vL:TY:=["Plan"]
def zR:TY:=["Weaver"]
def Q1Q:TY:=["Even","Within"]
def HE:TY:=["Joined","Within"]
def rT:TY:=["Pick"]
def p7:TY:=["Weaver"]
def jd:TY:=["Both","Where"]
def rU:TY:=["Plan"]
def oU:TY:=["Fold","Pick","Through"]
def bp:TY:=["Fill","Fold","Load","Pick","Table","Through","Weaver"]
def zS:TY:=["Fold","Joined","Within"]
def rV:TY:=["Pick"]
def iH:TY:=["Pick"]
def DX:TY:=["Read"]
def DY:TY:=["Read"]
def vM:TY:=["Load"]
def jF:TY:=["Fill","Fold","Through"]
noncomputable def ji:Ju:=[("Both",true),("Even",false),("Joined",false),("One",false),("Read",false),("Where",false),("Within",false)]
noncomputable def kJ:Ju:=[("Both",false),("Even",false),("Joined",true),("One",false),("Read",false),("Where",false),("Within",false)]
noncomputable def qi:Ju:=[("Fill",false),("Fold",false),("Load",true),("Pick",false),("Through",false)]
noncomputable def qj:Ju:=[("Fill",false),("Fold",false),("Load",false),("Pick",true),("Through",false)]
noncomputable def fH:Ju:=[("Both",false),("Even",false),("Joined",false),("One",false),("Read",true),("Where",false),("Within",false)]
noncomputable def jK:Ju:=[("Both",false),("Even",false),("Joined",false),("One",false),("Read",false),("Where",true),("Within",false)]
noncomputable def br:Ju:=[("Both",false),("Even",false),("Joined",false),("One",true),("Read",false),("Where",false),("Within",true)]
def eF:Ju:=[("BadLine",true),("NoCell",false)]
def fE:Ju:=[("BadLine",false),("NoCell",true)]
def A1:TY:=["BadLine"]
def uT:TY:=["BadLine"]
def gr:Ju:=[("BadLine",true),("NoCell",true)]
def top(i:Nat):PySem.Stmt:=PySem.Challenge.pw_loomarrays_k29_refused_alike.main.body.getD i (.Pass ⟨0,0,0,0⟩)
def L:VS.Hh where
 b:=["all","any","bool","dict","enumerate","int","isinstance","len","list","max","min","range","reversed","sorted","str","sum","tuple","zip"]
 n:=[("LONGEST_SIDE",.int 64),("MOST_CELLS",.int 4096),("MOST_LINES",.int 40),("MOST_SIDES",.int 4),("REST",.int 1000003)]
 t:=[("DEEDS",nH,rA),("FOLDED_NONE",eU,oB),("FORMS",nI,Ba)]
 d:=([("cells_in",top 30,["sides"]),
  ("is_rest",top 14,["number"]),
  ("sides_can_be",top 29,["sides"]),
  ("_law_cells",top 111,["_law_sides"]),
  ("_law_taken",top 109,["_law_row","_law_many"]),
  ("_law_drawn",top 118,["_law_row","_law_sides","_law_index"]),
  ("_law_changed",top 113,["_law_sides","_law_side","_law_size"]),
  ("_law_met",top 112,["_law_one","_law_other"]),
  ("_law_more",top 116,["_law_row","_law_a","_law_sides","_law_way","_law_index"]),
  ("_law_sided",top 115,["_law_row","_law_a","_law_own","_law_way"]),
  ("_law_view",top 114,["_law_row","_law_a","_law_own","_law_way"]),
  ("_law_program",top 117,["_law_row"]),
  ("_law_spoilt",top 119,["_law_at","_law_way","_law_cell"]),
  ("_law_whole",top 110,["_law_found"]),
  ("deed_is_known",top 4,["line"]),
  ("number_is_cell",top 45,["line"]),
  ("named_by",top 3,["line"]),
  ("places_are_there",top 44,["line","lines_ahead","tables"]),
  ("has_side",top 48,["sides","side"]),
  ("without",top 37,["row","side"]),
  ("folded_sides",top 54,["deed","sides","side"]),
  ("replaced",top 39,["row","side","number"]),
  ("joined_sides",top 56,["one","other","side"]),
  ("picked_sides",top 55,["sides","side","places"])]:List VS.u4) ++
  ([("with_ones_ahead",top 36,["sides","many"]),
  ("sides_met",top 35,["one","other"]),
  ("has_place",top 49,["sides","side","place"]),
  ("cut_sides",top 51,["sides","side","begin","step","many"]),
  ("dropped_sides",top 52,["sides","side","place"]),
  ("put_in",top 38,["row","side","number"]),
  ("turned_sides",top 50,["sides","order"]),
  ("sides_viewed",top 47,["line","sides"]),
  ("three_met",top 53,["one","other","third"]),
  ("sides_told",top 46,["line","ahead","given"]),
  ("sides_looked_over",top 43,["at","line","ahead","given"]),
  ("sides_of",top 42,["program","given"]),
  ("strides_of",top 31,["sides"]),
  ("place_at",top 32,["sides","at"]),
  ("one_if",top 19,["holds"]),
  ("both_deed",top 16,["deed","one","other"]),
  ("folded_none",top 17,["deed"]),
  ("folded",top 18,["deed","numbers"]),
  ("fold_cell",top 104,["deed","source","side","at"]),
  ("join_cell",top 106,["ahead","behind","side","at"]),
  ("one_deed",top 15,["deed","number"]),
  ("pick_cell",top 105,["source","side","numbers","at"]),
  ("shift_cell",top 107,["source","side","by","number","at"]),
  ("spread_cell",top 102,["source","at"])]:List VS.u4) ++
  ([("view_cell",top 101,["line","source","at"]),
  ("where_cell",top 103,["asked","left","right","at"]),
  ("cell_made",top 100,["line","sides","made","at"]),
  ("index_of",top 33,["sides","place"]),
  ("indexes_of",top 34,["sides"]),
  ("run_cells",top 99,["deed","source","side"]),
  ("table_made",top 98,["line","sides","made","tables"]),
  ("wanted_lines",top 6,["program"]),
  ("plain_answer",top 97,["program","tables"]),
  ("spreads",top 10,["program","sides","number","at"]),
  ("is_kept",top 9,["program","sides","at","naming"]),
  ("naming_lines",top 8,["program","wanted","at"]),
  ("kept_lines",top 7,["program","sides"]),
  ("lengths_of",top 93,["loops","row_of"]),
  ("reading_by",top 82,["way","strides","many"]),
  ("part_standing",top 75,["number"]),
  ("part_moved",top 78,["part","begin","step"]),
  ("way_moved",top 77,["way","side","begin","step"]),
  ("way_spread",top 81,["way","own"]),
  ("way_dropped",top 79,["way","side","place"]),
  ("way_turned",top 76,["way","order"]),
  ("way_widened",top 80,["way","side"]),
  ("straight_way",top 74,["many"]),
  ("loop_of",top 86,["program","sides","kept","at"])]:List VS.u4) ++
  ([("lines_read_in",top 88,["tree"]),
  ("lines_read_by",top 89,["loop"]),
  ("last_readings",top 90,["loops"]),
  ("lowest_beside",top 92,["rows"]),
  ("rows_of",top 91,["loops"]),
  ("plan_of",top 85,["program","given"]),
  ("_law_why",top 120,["_law_program_here","_law_given","_law_tables","_law_which"]),
  ("law",top 121,["_law_script"])]:List VS.u4)
 m:=([("Table","__init__","Table.__init__",false,L2.inClass (top 95) 0,["self","sides","cells"]),
  ("Table","cell","Table.cell",false,L2.inClass (top 95) 1,["self","at"]),
  ("Plan","__init__","Plan.__init__",false,L2.inClass (top 84) 0,["self","loops","row_of","lengths"]),
  ("Loop","__init__","Loop.__init__",true,L2.inClass (top 58) 0,["self","line","sides"]),
  ("Fill","__init__","Fill.__init__",false,L2.inClass (top 60) 0,["self","line","sides","tree"]),
  ("Fold","__init__","Fold.__init__",false,L2.inClass (top 61) 0,["self","line","sides","side","size","deed","tree"]),
  ("Load","__init__","Load.__init__",false,L2.inClass (top 59) 0,["self","line","sides","table"]),
  ("Pick","__init__","Pick.__init__",false,L2.inClass (top 63) 0,["self","line","sides","side","source","places","source_sides"]),
  ("Through","__init__","Through.__init__",false,L2.inClass (top 62) 0,["self","line","sides","side","deed","tree"]),
  ("Weaver","__init__","Weaver.__init__",false,L2.inClass (top 87) 0,["self","program","sides","kept","many"]),
  ("Both","__init__","Both.__init__",false,L2.inClass (top 69) 0,["self","deed","left","right"]),
  ("Even","__init__","Even.__init__",false,L2.inClass (top 66) 0,["self","number"]),
  ("One","__init__","One.__init__",false,L2.inClass (top 68) 0,["self","deed","inner"]),
  ("Read","__init__","Read.__init__",false,L2.inClass (top 67) 0,["self","line","start","steps"]),
  ("Weaver","row_read","Weaver.row_read",false,L2.inClass (top 87) 2,["self","at","way","sides"]),
  ("Joined","__init__","Joined.__init__",false,L2.inClass (top 72) 0,["self","part","size","ahead","behind"]),
  ("Within","__init__","Within.__init__",false,L2.inClass (top 71) 0,["self","part","size","inner","number"]),
  ("Where","__init__","Where.__init__",false,L2.inClass (top 70) 0,["self","asked","left","right"]),
  ("Weaver","tree_named","Weaver.tree_named",false,L2.inClass (top 87) 1,["self","at","way"]),
  ("Weaver","tree_made","Weaver.tree_made",false,L2.inClass (top 87) 3,["self","at","way"]),
  ("Weaver","tree_viewed","Weaver.tree_viewed",false,L2.inClass (top 87) 4,["self","line","way"]),
  ("Weaver","tree_spread","Weaver.tree_spread",false,L2.inClass (top 87) 5,["self","at","way"]),
  ("Weaver","tree_shifted","Weaver.tree_shifted",false,L2.inClass (top 87) 6,["self","at","side","by","number","way"]),
  ("Weaver","tree_joined","Weaver.tree_joined",false,L2.inClass (top 87) 7,["self","ahead","behind","side","way"])]:List VS.Cr)
 k:=["Table","Plan","Loop","Fill","Fold","Load","Pick","Through","Weaver","Both","Even","One","Read","Joined","Within","Where"]
 f:=([("ahead",pX),
  ("asked",pY),
  ("behind",mK),
  ("cells",fF),
  ("deed",tI),
  ("inner",ll),
  ("kept",zQ),
  ("left",lq),
  ("lengths",pZ),
  ("line",g8),
  ("loops",vL),
  ("many",zR),
  ("number",Q1Q),
  ("part",HE),
  ("places",rT),
  ("program",p7),
  ("right",jd),
  ("row_of",rU),
  ("side",oU),
  ("sides",bp),
  ("size",zS),
  ("source",rV),
  ("source_sides",iH),
  ("start",DX)]:List (Str×List Str)) ++
  ([("steps",DY),
  ("table",vM),
  ("tree",jF)]:List (Str×List Str))
 a:=["Both","Even","Joined","One","Read","Where","Within","Fill","Fold","Load","Pick","Through"]
 i:=[("Both",ji),("Joined",kJ),("Load",qi),("Pick",qj),("Read",fH),("Where",jK)]
 j:=[("One","Within",br)]
def tc(s:PySem.Stmt)(N:TY)(ds:List VS.aA:=[])(ow:TY:=[])(ms:List (Str×VS.aA):=[])(ks:List VS.aA:=[])(fz:IK:=[])(dc:TY:=[]):VS.Tc:=⟨N,L2.aw s,ow,dc,fz,ds,ms,ks,L,VS.Vg nm names VS.nums,s⟩
def pM:=ai (F0 0 ["BadLine"] "at"<|aa 1) (ai (F0 0 ["BadLine"] "why"<|aa 2) aJ)
def aL:Fn:=defn 3 [true,false,false] pM
def CT:VS.Tc:=tc (top 30) ["sides","many","side"]
@[reducible] def ew:M Fl:=by refine' (?k:VS.yZ CT 0) _ rfl;exactλf _=>f
def KA:M Fl:=by refine' (?k:VS.aH CT) _ rfl;exactλf _=>f
def rO:Fn:=defn 3 [false] KA
def wz:VS.aA:=("cells_in",[false],rO)
def LZ:VS.Tc:=tc (top 14) ["number"]
def KO:M Fl:=by refine' (?k:VS.aH LZ) _ rfl;exactλf _=>f
def zF:Fn:=defn 1 [false] KO
def FK:VS.aA:=("is_rest",[false],zF)
def Mt:VS.Tc:=tc (top 29) ["sides"] [wz]
@[reducible] def fT:M D:=(IC EG EG (cI 0) (aa 1)<|cI 64)
def Lj:M Fl:=by refine' (?k:VS.aH Mt) _ rfl;exactλf _=>f
def rS:Fn:=defn 1 [false] Lj
def Oh:VS.aA:=("sides_can_be",[false],rS)
def UR:VS.Tc:=tc (L2.inClass (top 95) 0) ["self","sides","cells"] [FK] ["self"]
def eK:=au zF [.val<|aa 3]
def Kx:=ai (bY 0 bp "sides"<|m1 iM<|aa 1) (ai (bY 0 fF "cells"<|m1 eX<|aa 2)<|ai (eC (lZ<|tB<|au rS [.val<|m1 (bq bp "sides")<|xg 0]) (ai qG aJ) aJ)<|ai (eC (tB<|m2 jo (m1 cw<|m1 (bq fF "cells")<|xg 0)<|au rO [.val<|m1 (bq bp "sides")<|xg 0]) (ai qG aJ) aJ)<|ai (eC (lZ<|tB<|m1 (oC true)<|aC 1 (cG<|m1 (bq fF "cells")<|xg 0) (ao 3) (VP.ret true) eK) (ai qG aJ) aJ) aJ)
def vr:Fn:=defn 3 [true,false,false] Kx
def NA:VS.aA:=("Table",[false,false],vr)
def CY:VS.Tc:=tc (top 111) ["_law_sides","_law_found","_law_size"]
@[reducible] def lH:M Fl:=by refine' (?k:VS.yZ CY 0) _ rfl;exactλf _=>f
def KR:M Fl:=by refine' (?k:VS.aH CY) _ rfl;exactλf _=>f
def vx:Fn:=defn 3 [false] KR
def Aw:VS.aA:=("_law_cells",[false],vx)
def Mc:VS.Tc:=tc (top 109) ["_law_row","_law_many","_law_at"] [] ["_law_row"]
def KY:M Fl:=by refine' (?k:VS.aH Mc) _ rfl;exactλf _=>f
def bN:Fn:=defn 3 [true,false] KY
def qC:VS.aA:=("_law_taken",[true,false],bN)
def zi:VS.Tc:=tc (top 118) ["_law_row","_law_sides","_law_index","_law_found","_law_k","_law_seed","_law_number","_law_cells_here","_law_p"] [qC,Aw] ["_law_found","_law_cells_here"] [] [] [(704,7),(705,7),(706,3)]
@[reducible] def e8:M Fl:=by refine' (?k:VS.yZ zi 1) _ rfl;exactλf _=>f
@[reducible] def kX:M D:=(m2 fM (m2 rW (aa 9)<|cI 7)<|cI 4)
@[reducible] def dH:M Fl:=by refine' (?k:VS.yZ zi 0) _ rfl;exactλf _=>f
def KU:M Fl:=by refine' (?k:VS.aH zi) _ rfl;exactλf _=>f
def vA:Fn:=defn 9 [true,false,false] KU
def XH:VS.aA:=("_law_drawn",[true,false,false],vA)
def L8:VS.Tc:=tc (top 113) ["_law_sides","_law_side","_law_size"]
def KS:M Fl:=by refine' (?k:VS.aH L8) _ rfl;exactλf _=>f
def vz:Fn:=defn 3 [false,false,false] KS
def FL:VS.aA:=("_law_changed",[false,false,false],vz)
def UY:VS.Tc:=tc (top 112) ["_law_one","_law_other","_law_many","_law_left","_law_right","_law_found","_law_k"]
def hW:=ai (eC (uL (tB<|m2 jo (m2 aj (aa 3)<|aa 6)<|m2 aj (aa 4)<|aa 6)<|uL (tB<|m2 jo (m2 aj (aa 3)<|aa 6)<|cI 1)<|tB<|m2 jo (m2 aj (aa 4)<|aa 6)<|cI 1) (ai (a8<|mC .aQ) aJ) aJ) (ai (aO 5<|m2 aV (aa 5)<|bR [(m2 aj (gB [(m2 aj (aa 3)<|aa 6),(m2 aj (aa 4)<|aa 6)])<|mF intD [(m2 eh (m2 aj (aa 3)<|aa 6)<|cI 1)])]) aJ)
def CH:=ai (aO 2<|mF maxD [(m1 cw<|aa 0),(m1 cw<|aa 1)]) (ai (aO 3<|m2 aV (m2 yf (bR [(cI 1)])<|m2 jv (aa 2)<|m1 cw<|aa 0)<|aa 0)<|ai (aO 4<|m2 aV (m2 yf (bR [(cI 1)])<|m2 jv (aa 2)<|m1 cw<|aa 1)<|aa 1)<|ai (aO 5<|bR [])<|ai (iQ (bO [(aa 2)]) (ao 6) hW)<|ai (a8<|aa 5) aJ)
def rQ:Fn:=defn 7 [false,false] CH
def NR:VS.aA:=("_law_met",[false,false],rQ)
def L9:VS.Tc:=tc (top 116) ["_law_row","_law_a","_law_sides","_law_way","_law_index","_law_own","_law_b","_law_deed","_law_c","_law_found","_law_side"] [qC,NR,FL] ["_law_sides"]
@[reducible] def nR:M D:=(m2 aV (cI 1)<|au bN [.io 0,.val<|cI 3])
def nP:M Fl:=by refine' (?k:VS.aH L9) _ rfl;exactλf _=>f
def dU:Fn:=defn 11 [true,false,true,false,false] nP
def NS:VS.aA:=("_law_more",[true,false,true,false,false],dU)
def Ma:VS.Tc:=tc (top 115) ["_law_row","_law_a","_law_own","_law_way","_law_side","_law_size","_law_folds","_law_by","_law_deed","_law_begin","_law_step","_law_room","_law_many"] [qC,FL]
def KW:M Fl:=by refine' (?k:VS.aH Ma) _ rfl;exactλf _=>f
def vB:Fn:=defn 13 [true,false,false,false] KW
def NU:VS.aA:=("_law_sided",[true,false,false,false],vB)
def bi5:VS.Tc:=tc (top 114) ["_law_row","_law_a","_law_own","_law_way","_law_many","_law_turn","_law_order","_law_at","_law_sides","_law_cells_here"] [qC,Aw]
def i9:=m2 fM (m2 aV (aa 10)<|aa 5) (aa 4)
def ja:=m2 aj (aa 2) (aa 10)
def jb:=m2 aj (gB [(aa 10),(au bN [.io 0,.val<|cI 4])]) (mF intD [(m2 eh (aa 10)<|cI 1)])
def pO:=ai (aO 4<|m1 cw<|aa 2) (ai (eC (tB<|m2 eh (aa 3)<|cI 0) (ai (aO 5<|au bN [.io 0,.val<|mF maxD [(cI 1),(aa 4)]])<|ai (aO 6<|aC 1 (bO [(aa 4)]) (ao 10) (VP.ret true) i9)<|ai (eC (tB<|m2 eh (au bN [.io 0,.val<|cI 2])<|cI 1) (ai (aO 6<|m1 JA<|aa 6) aJ) aJ)<|ai (a8<|bR [(bR [(cS 2),(aa 1),(m1 iM<|aa 6)]),(m1 iM<|aC 1 (cG<|aa 6) (ao 10) (VP.ret true) ja)]) aJ) aJ)<|ai (eC (tB<|m2 eh (aa 3)<|cI 1) (ai (aO 7<|au bN [.io 0,.val<|m2 aV (aa 4)<|cI 1])<|ai (a8<|bR [(bR [(cS 5),(aa 1),(aa 7)]),(m2 aV (m2 aV (EY g6 (aa 2) none<|some<|aa 7)<|bR [(cI 1)])<|EY g6 (aa 2) (some<|aa 7) none)]) aJ) aJ)<|ai (eC (tB<|m2 eh (aa 3)<|cI 2) (ai (aO 8<|m1 iM<|aC 1 (cG<|aa 2) (ao 10) (VP.ret true) jb)<|ai (eC (tB<|m2 eh (au bN [.io 0,.val<|cI 2])<|cI 1) (ai (aO 8<|m2 aV (bR [(au bN [.io 0,.val<|cI 4])])<|aa 8) aJ) aJ)<|ai (a8<|bR [(bR [(cS 6),(aa 1),(aa 8)]),(aa 8)]) aJ) aJ)<|ai (aO 9<|au vx [.val<|aa 2])<|ai (aO 8<|m2 aj (gB [(m1 wC<|aa 2),(bR [(aa 9)]),(bR [(cI 1),(aa 9)]),(bR [(aa 9),(cI 1)])])<|au bN [.io 0,.val<|cI 4])<|ai (a8<|bR [(bR [(cS 7),(aa 1),(aa 8)]),(aa 8)]) aJ)
def fW:Fn:=defn 10 [true,false,false,false] pO
def NW:VS.aA:=("_law_view",[true,false,false,false],fW)
def UZ:VS.Tc:=tc (top 117) ["_law_row","_law_given","_law_k","_law_many","_law_count","_law_turn","_law_program_here","_law_sides","_law_index","_law_a","_law_way","_law_found"] [qC,NW,NU,NS,Aw] ["_law_given","_law_program_here","_law_sides"] [] [] [(693,6)]
def fD:=m2 aj (gB [(cI 2),(cI 3),(cI 1),(cI 2),(cI 3),(cI 1),(cI 2),(cI 0)]) (au bN [.io 0,.val<|cI 8])
def dI:=ai (aO 3<|au bN [.io 0,.val<|cI 4]) (ai (nv 1<|m1 iM<|aC 1 (bO [(aa 3)]) (ao 12) (VP.ret true) fD) aJ)
def dj:=bR [(cS 0),(m2 fM (m2 aV (aa 12)<|aa 5)<|aa 4)]
def dq:=m2 aj (aa 1) (m2 aj (aa 12)<|cI 1)
def dJ:=ai (aO 9<|m2 jv (m2 jv (m1 cw<|xg 6)<|cI 1)<|au bN [.io 0,.val<|m1 cw<|xg 6]) (ai (aO 10<|au bN [.io 0,.val<|cI 16])<|ai (eC (tB<|m2 ltI (aa 10)<|cI 4) (ai (aO 11<|au fW [.io 0,.val<|aa 9,.val<|jm 7<|aa 9,.val<|aa 10]) aJ)<|ai (eC (uL (tB<|m2 ltI (aa 10)<|cI 9)<|tB<|m2 jo (jm 7<|aa 9)<|bR []) (ai (aO 11<|au vB [.io 0,.val<|aa 9,.val<|jm 7<|aa 9,.val<|aa 10]) aJ)<|ai (eC (tB<|m2 eh (aa 10)<|cI 15) (ai (aO 11<|bR [(bR [(cS 0),(m2 fM (aa 9)<|aa 4)]),(jm 1<|m2 fM (aa 9)<|aa 4)]) aJ)<|ai (aO 11<|au dU [.io 0,.val<|aa 9,.io 7,.val<|aa 10,.val<|aa 8]) aJ) aJ) aJ)<|ai (eC (Gg (tB<|m2 HK (au vx [.val<|m2 aj (aa 11)<|cI 1])<|cI 27)<|Gg (tB<|m2 HK (m1 cw<|m2 aj (aa 11)<|cI 1)<|cI 4)<|tB<|m2 HK (m2 mZ (m2 aj (aa 11)<|cI 1)<|cI 0)<|cI 24) (ai (aO 11<|bR [(bR [(cS 9),(cS 16),(aa 9)]),(jm 7<|aa 9)]) aJ) aJ)<|ai (nv 6<|m2 aj (aa 11)<|cI 0)<|ai (nv 7<|m2 aj (aa 11)<|cI 1) aJ)
def KV:=ai (gU 1<|gB []) (ai (iQ (bO [(m2 aV (cI 1)<|au bN [.io 0,.val<|cI 2])]) (ao 2) dI)<|ai (nv 1<|bR [(m2 aj (gB [(cI 2),(cI 3),(cI 1),(cI 4)])<|au bN [.io 0,.val<|cI 4])])<|ai (aO 4<|m1 cw<|xg 1)<|ai (aO 5<|au bN [.io 0,.val<|aa 4])<|ai (gU 6<|aC 1 (bO [(aa 4)]) (ao 12) (VP.ret true) dj)<|ai (gU 7<|jn<|aC 1 (cG<|aa 6) (ao 12) (VP.ret true) dq)<|ai (aO 8<|m2 fM (m2 jv (m2 jv (aa 4)<|cI 1)<|aa 5)<|aa 4)<|ai (iQ (bO [(m2 aV (cI 1)<|au bN [.io 0,.val<|cI 10])]) (ao 2) dJ)<|ai (BW 1<|BW 7<|BW 6<|a8<|bR [(aa 6),(aa 7),(aa 4),(aa 1)]) aJ)
def zI:Fn:=defn 12 [true] KV
def NT:VS.aA:=("_law_program",[true],zI)
def Mb:VS.Tc:=tc (top 119) ["_law_at","_law_way","_law_cell","_law_far"]
def rB:M Fl:=by refine' (?k:VS.aH Mb) _ rfl;exactλf _=>f
def nV:Fn:=defn 4 [false,false,false] rB
def NV:VS.aA:=("_law_spoilt",[false,false,false],nV)
def Q0A:=ai (a8<|sk (m1 (Eo "int")<|aa 0)<|WV<|lZ<|tB<|m1 (Eo "bool")<|aa 0) aJ
def MT:Fn:=defn 1 [false] Q0A
def UU:VS.Tc:=tc (top 4) ["line"]
def kz:=m2 (inD false) (aa 2) (m1 (B4 nH)<|aa 1)
def kC:=tB (m1 (uN false nH rA)<|aa 1)
def UJ:=ai (a8<|m1 (oC true)<|aC 2 (ui [(m1 (B4 nI)<|m2 aj (aa 0)<|cI 0),(EY g6 (aa 0) (some<|cI 1) none)]) (b8 [1,2]) kC kz) aJ
def zB:Fn:=defn 1 [false] UJ
def NG:VS.aA:=("deed_is_known",[false],zB)
def Mg:VS.Tc:=tc (top 45) ["line"] [FK]
def za:M Fl:=by refine' (?k:VS.aH Mg) _ rfl;exactλf _=>f
def kj:Fn:=defn 1 [false] za
def N5:VS.aA:=("number_is_cell",[false],kj)
def Q1R:VS.Tc:=tc (top 3) ["line"]
def Q24:=aa 2
def q7:=tB (m2 eh (aa 1)<|cS 26)
def UL:=ai (a8<|aC 2 (ui [(m1 (B4 nI)<|m2 aj (aa 0)<|cI 0),(EY g6 (aa 0) (some<|cI 1) none)]) (b8 [1,2]) q7 Q24) aJ
def lh:Fn:=defn 1 [false] UL
def Ay:VS.aA:=("named_by",[false],lh)
def Mo:VS.Tc:=tc (top 44) ["line","lines_ahead","tables"] [Ay]
@[reducible] def bw:M D:=(IC EG ltI (cI 0) (aa 3)<|aa 1)
def rE:M Fl:=by refine' (?k:VS.aH Mo) _ rfl;exactλf _=>f
def gM:Fn:=defn 3 [false,false,false] rE
def Oa:VS.aA:=("places_are_there",[false,false,false],gM)
def LV:VS.Tc:=tc (top 48) ["sides","side"]
def y9:M Fl:=by refine' (?k:VS.aH LV) _ rfl;exactλf _=>f
def rP:Fn:=defn 2 [false,false] y9
def qB:VS.aA:=("has_side",[false,false],rP)
def CS:VS.Tc:=tc (top 37) ["row","side"]
def CA:M Fl:=by refine' (?k:VS.aH CS) _ rfl;exactλf _=>f
def tH:Fn:=defn 2 [false,false] CA
def qz:VS.aA:=("without",[false,false],tH)
def LS:VS.Tc:=tc (top 54) ["deed","sides","side"] [qB,qz]
def CF:M Fl:=by refine' (?k:VS.aH LS) _ rfl;exactλf _=>f
def vt:Fn:=defn 3 [false,false,false] CF
def NL:VS.aA:=("folded_sides",[false,false,false],vt)
def Mr:VS.Tc:=tc (top 39) ["row","side","number"]
def Lf:M Fl:=by refine' (?k:VS.aH Mr) _ rfl;exactλf _=>f
def vF:Fn:=defn 3 [false,false,false] Lf
def oy:VS.aA:=("replaced",[false,false,false],vF)
def L7:VS.Tc:=tc (top 56) ["one","other","side"] [qB,qz,oy]
def KP:M Fl:=by refine' (?k:VS.aH L7) _ rfl;exactλf _=>f
def DG:Fn:=defn 3 [false,false,false] KP
def NP:VS.aA:=("joined_sides",[false,false,false],DG)
def Mm:VS.Tc:=tc (top 55) ["sides","side","places"] [qB,oy]
def K9:M Fl:=by refine' (?k:VS.aH Mm) _ rfl;exactλf _=>f
def DL:Fn:=defn 3 [false,false,false] K9
def N9:VS.aA:=("picked_sides",[false,false,false],DL)
def CR:VS.Tc:=tc (top 36) ["sides","many"]
@[reducible] def jc:M D:=(cI 1)
def Cz:M Fl:=by refine' (?k:VS.aH CR) _ rfl;exactλf _=>f
def xI:Fn:=defn 2 [false,false] Cz
def FH:VS.aA:=("with_ones_ahead",[false,false],xI)
def C4:VS.Tc:=tc (top 35) ["one","other","many","met","left","right"] [FH] ["met"]
@[reducible] def fL:M Fl:=by refine' (?k:VS.yZ C4 0) _ rfl;exactλf _=>f
def CK:M Fl:=by refine' (?k:VS.aH C4) _ rfl;exactλf _=>f
def vI:Fn:=defn 6 [false,false] CK
def AB:VS.aA:=("sides_met",[false,false],vI)
def LU:VS.Tc:=tc (top 49) ["sides","side","place"] [qB]
def KI:M Fl:=by refine' (?k:VS.aH LU) _ rfl;exactλf _=>f
def DE:Fn:=defn 3 [false,false,false] KI
def FI:VS.aA:=("has_place",[false,false,false],DE)
def LP:VS.Tc:=tc (top 51) ["sides","side","begin","step","many"] [qB,FI,oy]
def KC:M Fl:=by refine' (?k:VS.aH LP) _ rfl;exactλf _=>f
def Dz:Fn:=defn 5 [false,false,false,false,false] KC
def NF:VS.aA:=("cut_sides",[false,false,false,false,false],Dz)
def LQ:VS.Tc:=tc (top 52) ["sides","side","place"] [FI,qz]
def KD:M Fl:=by refine' (?k:VS.aH LQ) _ rfl;exactλf _=>f
def DA:Fn:=defn 3 [false,false,false] KD
def NH:VS.aA:=("dropped_sides",[false,false,false],DA)
def Mq:VS.Tc:=tc (top 38) ["row","side","number"]
def Lb:M Fl:=by refine' (?k:VS.aH Mq) _ rfl;exactλf _=>f
def vE:Fn:=defn 3 [false,false,false] Lb
def AA:VS.aA:=("put_in",[false,false,false],vE)
def Vd:VS.Tc:=tc (top 50) ["sides","order"]
def dA:=m2 aj (aa 0) (aa 2)
def Lr:=ai (eC (tB<|m2 jo (m1 sG<|aa 1)<|mF EM [(m1 cw<|aa 0)]) (ai (a8<|mC .aQ) aJ) aJ) (ai (a8<|m1 iM<|aC 1 (cG<|aa 1) (ao 2) (VP.ret true) dA) aJ)
def DS:Fn:=defn 2 [false,false] Lr
def Ou:VS.aA:=("turned_sides",[false,false],DS)
def Mv:VS.Tc:=tc (top 47) ["line","sides","kind"] [Ou,NF,NH,AA,AB,wz]
def pP:M Fl:=by refine' (?k:VS.aH Mv) _ rfl;exactλf _=>f
def gN:Fn:=defn 3 [false,false] pP
def Ol:VS.aA:=("sides_viewed",[false,false],gN)
def MA:VS.Tc:=tc (top 53) ["one","other","third","met"] [AB]
def Lq:M Fl:=by refine' (?k:VS.aH MA) _ rfl;exactλf _=>f
def DR:Fn:=defn 4 [false,false,false] Lq
def Ot:VS.aA:=("three_met",[false,false,false],DR)
def Mu:VS.Tc:=tc (top 46) ["line","ahead","given","kind"] [AB,Ot,NL,qB,N9,NP,Ol] ["ahead"]
def dS:M Fl:=by refine' (?k:VS.aH Mu) _ rfl;exactλf _=>f
def cK:Fn:=defn 4 [false,true,false] dS
def Oj:VS.aA:=("sides_told",[false,true,false],cK)
def Va:VS.Tc:=tc (top 43) ["at","line","ahead","given","sides"] [Oa,N5,NG,Oj,Oh] ["ahead"]
def ve:=ai (eC (lZ<|tB<|au gM [.val<|aa 1,.val<|m1 cw<|xg 2,.val<|m1 cw<|aa 3]) (ai (fZ "BadLine" aL [(aa 0),(cS 29)]) aJ) aJ) (ai (eC (lZ<|tB<|au kj [.val<|aa 1]) (ai (fZ "BadLine" aL [(aa 0),(cS 27)]) aJ) aJ)<|ai (aO 4<|Nr (tB<|au zB [.val<|aa 1]) (au cK [.val<|aa 1,.io 2,.val<|aa 3])<|mC .aQ)<|ai (eC (Gg (tB<|m2 isND (aa 4)<|mC .aQ)<|lZ<|tB<|au rS [.val<|aa 4]) (ai (fZ "BadLine" aL [(aa 0),(cS 30)]) aJ) aJ)<|ai (a8<|aa 4) aJ)
def vH:Fn:=defn 5 [false,false,true,false] ve
def Oi:VS.aA:=("sides_looked_over",[false,false,true,false],vH)
def OkM:VS.Tc:=tc (top 42) ["program","given","ahead","at","line"] [Oi] ["ahead"] [] [] [(146,2)]
def b7:=ai (nv 2<|au vH [.val<|aa 3,.val<|aa 4,.io 2,.val<|aa 1]) aJ
def CL:=ai (eC (tB<|m2 eh (m1 cw<|aa 0)<|cI 0) (ai (fZ "BadLine" aL [(cI 0),(cS 31)]) aJ) aJ) (ai (eC (tB<|m2 HK (m1 cw<|aa 0)<|cI 40) (ai (fZ "BadLine" aL [(cI 40),(cS 31)]) aJ) aJ)<|ai (gU 2<|gB [])<|ai (iQ (qp [(aa 0)]) (b8 [3,4]) b7)<|ai (BW 2<|a8<|aa 2) aJ)
def pW:Fn:=defn 5 [false,false] CL
def AD:VS.aA:=("sides_of",[false,false],pW)
def Vc:VS.Tc:=tc (top 31) ["sides","backwards","stride","side"] [] ["backwards"]
def cO:=ai (nv 1<|aa 2) (ai (aO 2<|m2 um (aa 2)<|aa 3) aJ)
def Lo:=ai (gU 1<|gB []) (ai (aO 2<|cI 1)<|ai (iQ (EV<|aa 0) (ao 3) cO)<|ai (a8<|m1 wC<|xg 1) aJ)
def vK:Fn:=defn 4 [false] Lo
def wA:VS.aA:=("strides_of",[false],vK)
def Mn:VS.Tc:=tc (top 32) ["sides","at"] [wA]
@[reducible] def ki:M D:=(m2 um (aa 2)<|aa 3)
def La:M Fl:=by refine' (?k:VS.aH Mn) _ rfl;exactλf _=>f
def DN:Fn:=defn 2 [false,false] La
def FO:VS.aA:=("place_at",[false,false],DN)
def LB:VS.Tc:=tc (L2.inClass (top 95) 1) ["self","at"] [FO]
def Kw:M Fl:=by refine' (?k:VS.aH LB) _ rfl;exactλf _=>f
def gL:Fn:=defn 2 [false,false] Kw
def qA:Str×VS.aA:=("cell","Table",[false],gL)
def Mi:VS.Tc:=tc (top 19) ["holds"]
def K6:M Fl:=by refine' (?k:VS.aH Mi) _ rfl;exactλf _=>f
def vC:Fn:=defn 1 [false] K6
def FN:VS.aA:=("one_if",[false],vC)
def UT:VS.Tc:=tc (top 16) ["deed","one","other"] [FN]
def Kz:=ai (eC (tB<|m2 eh (aa 0)<|cS 19) (ai (a8<|m2 fM (m2 aV (aa 1)<|aa 2)<|cI 1000003) aJ) aJ) (ai (eC (tB<|m2 eh (aa 0)<|cS 20) (ai (a8<|m2 fM (m2 jv (aa 1)<|aa 2)<|cI 1000003) aJ) aJ)<|ai (eC (tB<|m2 eh (aa 0)<|cS 21) (ai (a8<|m2 fM (m2 um (aa 1)<|aa 2)<|cI 1000003) aJ) aJ)<|ai (eC (tB<|m2 eh (aa 0)<|cS 22) (ai (a8<|mF minD [(aa 1),(aa 2)]) aJ) aJ)<|ai (eC (tB<|m2 eh (aa 0)<|cS 23) (ai (a8<|mF maxD [(aa 1),(aa 2)]) aJ) aJ)<|ai (eC (tB<|m2 eh (aa 0)<|cS 24) (ai (a8<|au vC [.val<|m2 ltI (aa 1)<|aa 2]) aJ) aJ)<|ai (a8<|au vC [.val<|m2 eh (aa 1)<|aa 2]) aJ)
def Dy:Fn:=defn 3 [false,false,false] Kz
def Av:VS.aA:=("both_deed",[false,false,false],Dy)
def UW:VS.Tc:=tc (top 17) ["deed"]
def KH:=ai (a8<|m1 (B4 eU)<|aa 0) aJ
def DC:Fn:=defn 1 [false] KH
def NK:VS.aA:=("folded_none",[false],DC)
def CU:VS.Tc:=tc (top 18) ["deed","numbers","number","other"] [NK,Av]
@[reducible] def jj:M Fl:=by refine' (?k:VS.yZ CU 0) _ rfl;exactλf _=>f
def CE:M Fl:=by refine' (?k:VS.aH CU) _ rfl;exactλf _=>f
def zC:Fn:=defn 4 [false,false] CE
def NJ:VS.aA:=("folded",[false,false],zC)
def LR:VS.Tc:=tc (top 104) ["deed","source","side","at"] [NJ,AA] [] [qA]
@[reducible] def i8:M D:=(gR "Table" "cell" gL (aa 1) [.val<|au vE [.val<|aa 3,.val<|aa 2,.val<|aa 4]])
def KG:M Fl:=by refine' (?k:VS.aH LR) _ rfl;exactλf _=>f
def DB:Fn:=defn 4 [false,false,false,false] KG
def NI:VS.aA:=("fold_cell",[false,false,false,false],DB)
def L6:VS.Tc:=tc (top 106) ["ahead","behind","side","at","place","size"] [oy] [] [qA]
def CG:M Fl:=by refine' (?k:VS.aH L6) _ rfl;exactλf _=>f
def zG:Fn:=defn 6 [false,false,false,false] CG
def NO:VS.aA:=("join_cell",[false,false,false,false],zG)
def Mh:VS.Tc:=tc (top 15) ["deed","number"] [FN]
def K5:M Fl:=by refine' (?k:VS.aH Mh) _ rfl;exactλf _=>f
def DK:Fn:=defn 2 [false,false] K5
def N6:VS.aA:=("one_deed",[false,false],DK)
def Q14:VS.Tc:=tc (top 105) ["source","side","numbers","at","place"] [oy] [] [qA]
def K8:=ai (aO 4<|gR "Table" "cell" gL (aa 2) [.val<|bR [(m2 aj (aa 3)<|aa 1)]]) (ai (eC (tB<|m2 TM (aa 4)<|m2 aj (m1 (bq bp "sides")<|aa 0)<|aa 1) (ai (uH "NoCell" [(cS 32)]) aJ) aJ)<|ai (a8<|gR "Table" "cell" gL (aa 0) [.val<|au vF [.val<|aa 3,.val<|aa 1,.val<|aa 4]]) aJ)
def zM:Fn:=defn 5 [false,false,false,false] K8
def N8:VS.aA:=("pick_cell",[false,false,false,false],zM)
def Ms:VS.Tc:=tc (top 107) ["source","side","by","number","at","place"] [oy] [] [qA]
def ze:M Fl:=by refine' (?k:VS.aH Ms) _ rfl;exactλf _=>f
def vG:Fn:=defn 6 [false,false,false,false,false] ze
def Og:VS.aA:=("shift_cell",[false,false,false,false,false],vG)
def Mw:VS.Tc:=tc (top 102) ["source","at","last"] [] [] [qA]
@[reducible] def gI:M D:=(Nr (tB<|m2 eh (aa 3)<|cI 1) (cI 0)<|aa 4)
def Lk:M Fl:=by refine' (?k:VS.aH Mw) _ rfl;exactλf _=>f
def vJ:Fn:=defn 3 [false,false] Lk
def AE:VS.aA:=("spread_cell",[false,false],vJ)
def Ve:VS.Tc:=tc (top 101) ["line","source","at","kind"] [oy,AA,qz,AE] [] [qA]
def dB:=m2 aj (aa 2) (vY (m2 aj (aa 0)<|cI 2)<|aa 4)
def rF:=ai (aO 3<|m2 aj (aa 0)<|cI 0) (ai (eC (tB<|m2 eh (aa 3)<|cS 2) (ai (a8<|gR "Table" "cell" gL (aa 1) [.val<|m1 iM<|aC 1 (bO [(m1 cw<|aa 2)]) (ao 4) (VP.ret true) dB]) aJ) aJ)<|ai (eC (tB<|m2 eh (aa 3)<|cS 3) (ai (a8<|gR "Table" "cell" gL (aa 1) [.val<|au vF [.val<|aa 2,.val<|m2 aj (aa 0)<|cI 2,.val<|m2 aV (m2 aj (aa 0)<|cI 3)<|m2 um (m2 aj (aa 0)<|cI 4)<|m2 aj (aa 2)<|m2 aj (aa 0)<|cI 2]]) aJ) aJ)<|ai (eC (tB<|m2 eh (aa 3)<|cS 4) (ai (a8<|gR "Table" "cell" gL (aa 1) [.val<|au vE [.val<|aa 2,.val<|m2 aj (aa 0)<|cI 2,.val<|m2 aj (aa 0)<|cI 3]]) aJ) aJ)<|ai (eC (tB<|m2 eh (aa 3)<|cS 5) (ai (a8<|gR "Table" "cell" gL (aa 1) [.val<|au tH [.val<|aa 2,.val<|m2 aj (aa 0)<|cI 2]]) aJ) aJ)<|ai (a8<|au vJ [.val<|aa 1,.val<|aa 2]) aJ)
def iG:Fn:=defn 4 [false,false,false] rF
def Ov:VS.aA:=("view_cell",[false,false,false],iG)
def CQ:VS.Tc:=tc (top 103) ["asked","left","right","at"] [AE]
def xu:M Fl:=by refine' (?k:VS.aH CQ) _ rfl;exactλf _=>f
def tD:Fn:=defn 4 [false,false,false,false] xu
def FG:VS.aA:=("where_cell",[false,false,false,false],tD)
def LO:VS.Tc:=tc (top 100) ["line","sides","made","at","kind"] [N6,Av,AE,FG,NI,N8,NO,Og,FO,Ov] ["made"] [qA]
def iA:M Fl:=by refine' (?k:VS.aH LO) _ rfl;exactλf _=>f
def cg:Fn:=defn 5 [false,false,true,false] iA
def ND:VS.aA:=("cell_made",[false,false,true,false],cg)
def CV:VS.Tc:=tc (top 33) ["sides","place","at","rest","stride","step"] [wA] ["at"]
@[reducible] def gA:M Fl:=by refine' (?k:VS.yZ CV 0) _ rfl;exactλf _=>f
def KJ:M Fl:=by refine' (?k:VS.aH CV) _ rfl;exactλf _=>f
def zD:Fn:=defn 6 [false,false] KJ
def FJ:VS.aA:=("index_of",[false,false],zD)
def LX:VS.Tc:=tc (top 34) ["sides"] [wz,FJ]
@[reducible] def iB:M D:=(au zD [.val<|aa 0,.val<|aa 1])
def KL:M Fl:=by refine' (?k:VS.aH LX) _ rfl;exactλf _=>f
def zE:Fn:=defn 1 [false] KL
def NM:VS.aA:=("indexes_of",[false],zE)
def C3:VS.Tc:=tc (top 99) ["deed","source","side","stride","cells","place","number","begins"] [wA,FJ,Av] ["cells"] [] [] [(517,4)]
@[reducible] def cy:M Fl:=by refine' (?k:VS.yZ C3 0) _ rfl;exactλf _=>f
def Lh:M Fl:=by refine' (?k:VS.aH C3) _ rfl;exactλf _=>f
def DQ:Fn:=defn 8 [false,false,false] Lh
def Of:VS.aA:=("run_cells",[false,false,false],DQ)
def Mz:VS.Tc:=tc (top 98) ["line","sides","made","tables"] [Of,NM,ND] ["made"] [] [NA]
@[reducible] def cM:M D:=(au cg [.val<|aa 0,.val<|aa 1,.io 2,.val<|aa 4])
def vf:M Fl:=by refine' (?k:VS.aH Mz) _ rfl;exactλf _=>f
def nW:Fn:=defn 4 [false,false,true,false] vf
def Oq:VS.aA:=("table_made",[false,false,true,false],nW)
def Q29:VS.Tc:=tc (top 6) ["program","wanted","at","named"] [Ay] ["wanted"] [] [] [(16,1)]
def dD:M D:=cF
def dM:=ai (jr 1 (aa 3) cT) aJ
def a7:=ai (eC (tB<|jm 1<|aa 2) (ai (iQ (cG<|au lh [.val<|m2 aj (aa 0)<|aa 2]) (ao 3) dM) aJ) aJ) aJ
def Ls:=ai (gU 1<|aC 1 (cG<|aa 0) (ao 4) (VP.ret true) dD) (ai (jr 1 (m2 jv (m1 cw<|aa 0)<|cI 1) cT)<|ai (iQ (Ai [(m2 jv (m1 cw<|aa 0)<|cI 1),(m1 yi<|cI 1),(m1 yi<|cI 1)]) (ao 2) a7)<|ai (BW 1<|a8<|aa 1) aJ)
def zP:Fn:=defn 4 [false] Ls
def FP:VS.aA:=("wanted_lines",[false],zP)
def CZ:VS.Tc:=tc (top 97) ["program","tables","sides","wanted","made","at","line"] [AD,FP,Oq] ["made"]
@[reducible] def dy:M D:=(m1 (bq bp "sides")<|aa 7)
@[reducible] def aZ:M Fl:=by refine' (?k:VS.yZ CZ 0) _ rfl;exactλf _=>f
def zd:M Fl:=by refine' (?k:VS.aH CZ) _ rfl;exactλf _=>f
def lj:Fn:=defn 7 [false,false] zd
def Ob:VS.aA:=("plain_answer",[false,false],lj)
def aak:VS.Tc:=tc (L2.inClass (top 84) 0) ["self","loops","row_of","lengths"]
def aab:=ai (bY 0 vL "loops"<|m1 eX<|aa 1) (ai (bY 0 rU "row_of"<|m1 De<|aa 2)<|ai (bY 0 pZ "lengths"<|m1 eX<|aa 3) aJ)
def Po:Fn:=defn 4 [true,false,false,false] aab
def abK:VS.aA:=("Plan",[false,false,false],Po)
def Mx:VS.Tc:=tc (top 10) ["program","sides","number","at"]
def CM:M Fl:=by refine' (?k:VS.aH Mx) _ rfl;exactλf _=>f
def zN:Fn:=defn 4 [false,false,false,false] CM
def Om:VS.aA:=("spreads",[false,false,false,false],zN)
def LY:VS.Tc:=tc (top 9) ["program","sides","at","naming","kind"] [Om]
@[reducible] def kU:M D:=(m2 (inD false) (m2 aj (m2 aj (aa 0)<|aa 5)<|cI 0)<|bR [(cS 7),(cS 14)])
@[reducible] def kW:M D:=(au zN [.val<|aa 0,.val<|aa 1,.val<|aa 5,.val<|aa 2])
def KN:M Fl:=by refine' (?k:VS.aH LY) _ rfl;exactλf _=>f
def DF:Fn:=defn 5 [false,false,false,false] KN
def NN:VS.aA:=("is_kept",[false,false,false,false],DF)
def U6:VS.Tc:=tc (top 8) ["program","wanted","at","naming","number","line"] [Ay] ["naming"] [] [] [(28,3)]
def du:=aa 4
def dE:=tB (m2 eh (aa 6)<|aa 2)
def cq:=ai (eC (tB<|m2 aj (aa 1)<|aa 4) (ai (FX 3<|aC 1 (cG<|au lh [.val<|aa 5]) (ao 6) dE du) aJ) aJ) aJ
def K3:=ai (gU 3<|gB []) (ai (iQ (qp [(aa 0)]) (b8 [4,5]) cq)<|ai (BW 3<|a8<|aa 3) aJ)
def DJ:Fn:=defn 6 [false,false,false] K3
def N4:VS.aA:=("naming_lines",[false,false,false],DJ)
def CW:VS.Tc:=tc (top 7) ["program","sides","wanted","kept","at","line"] [FP,NN,N4] ["kept"] [] [] [(22,3)]
@[reducible] def eO:M Fl:=by refine' (?k:VS.yZ CW 0) _ rfl;exactλf _=>f
def KQ:M Fl:=by refine' (?k:VS.aH CW) _ rfl;exactλf _=>f
def zH:Fn:=defn 6 [false,false] KQ
def NQ:VS.aA:=("kept_lines",[false,false],zH)
def U2:VS.Tc:=tc (top 93) ["loops","row_of","lengths","loop","row"] [wz] ["lengths"] [] [] [(481,2)] ["last","row_of"]
def eL:=cI 0
def cN:=ai (aO 4<|m2 Bk (aa 1)<|m1 (bq g8 "line")<|aa 3) (ai (jr 2 (aa 4)<|mF maxD [(jm 2<|aa 4),(au rO [.val<|m1 (bq bp "sides")<|aa 3])]) aJ)
def K0:=ai (gU 2<|aC 1 (bO [(m2 aV (m1 sr<|aa 1)<|cI 1)]) (ao 5) (VP.ret true) eL) (ai (iQ (cG<|aa 0) (ao 3) cN)<|ai (BW 2<|a8<|aa 2) aJ)
def DI:Fn:=defn 5 [false,false] K0
def NZ:VS.aA:=("lengths_of",[false,false],DI)
def U4:VS.Tc:=tc (L2.inClass (top 58) 0) ["self","line","sides"]
def Z8:M Fl:=by refine' (?k:VS.aH U4) _ rfl;exactλf _=>f
def Bm:Fn:=defn 3 [true,false,false] Z8
def aag:VS.Tc:=tc (L2.inClass (top 60) 0) ["self","line","sides","tree"]
def Z4:=ai (iL<|au Bm [.io 0,.val<|aa 1,.val<|aa 2]) (ai (bY 0 jF "tree"<|aa 3) aJ)
def Vr:Fn:=defn 4 [true,false,false,false] Z4
def abE:VS.aA:=("Fill",[false,false,false],Vr)
def aah:VS.Tc:=tc (L2.inClass (top 61) 0) ["self","line","sides","side","size","deed","tree"]
def Z5:=ai (iL<|au Bm [.io 0,.val<|aa 1,.val<|aa 2]) (ai (bY 0 oU "side"<|aa 3)<|ai (bY 0 zS "size"<|aa 4)<|ai (bY 0 tI "deed"<|aa 5)<|ai (bY 0 jF "tree"<|aa 6) aJ)
def Vs:Fn:=defn 7 [true,false,false,false,false,false,false] Z5
def abF:VS.aA:=("Fold",[false,false,false,false,false,false],Vs)
def aai:VS.Tc:=tc (L2.inClass (top 59) 0) ["self","line","sides","table"]
def Q2q:=ai (iL<|au Bm [.io 0,.val<|aa 1,.val<|aa 2]) (ai (bY 0 vM "table"<|aa 3) aJ)
def Vu:Fn:=defn 4 [true,false,false,false] Q2q
def abH:VS.aA:=("Load",[false,false,false],Vu)
def aaj:VS.Tc:=tc (L2.inClass (top 63) 0) ["self","line","sides","side","source","places","source_sides"]
def aaa:=ai (iL<|au Bm [.io 0,.val<|aa 1,.val<|aa 2]) (ai (bY 0 oU "side"<|aa 3)<|ai (bY 0 rV "source"<|aa 4)<|ai (bY 0 rT "places"<|aa 5)<|ai (bY 0 iH "source_sides"<|aa 6) aJ)
def Vw:Fn:=defn 7 [true,false,false,false,false,false,false] aaa
def abJ:VS.aA:=("Pick",[false,false,false,false,false,false],Vw)
def US:VS.Tc:=tc (L2.inClass (top 62) 0) ["self","line","sides","side","deed","tree"]
def UE:=ai (iL<|au Bm [.io 0,.val<|aa 1,.val<|aa 2]) (ai (bY 0 oU "side"<|aa 3)<|ai (bY 0 tI "deed"<|aa 4)<|ai (bY 0 jF "tree"<|aa 5) aJ)
def MQ:Fn:=defn 6 [true,false,false,false,false,false] UE
def Q13:VS.aA:=("Through",[false,false,false,false,false],MQ)
def LD:VS.Tc:=tc (L2.inClass (top 87) 0) ["self","program","sides","kept","many"]
def UG:M Fl:=by refine' (?k:VS.aH LD) _ rfl;exactλf _=>f
def Dv:Fn:=defn 5 [true,false,false,false,false] UG
def Q0E:VS.aA:=("Weaver",[false,false,false,false],Dv)
def UP:VS.Tc:=tc (L2.inClass (top 69) 0) ["self","deed","left","right"]
def Z2:M Fl:=by refine' (?k:VS.aH UP) _ rfl;exactλf _=>f
def Vp:Fn:=defn 4 [true,false,false,false] Z2
def abC:VS.aA:=("Both",[false,false,false],Vp)
def UQ:VS.Tc:=tc (L2.inClass (top 66) 0) ["self","number"]
def Z3:M Fl:=by refine' (?k:VS.aH UQ) _ rfl;exactλf _=>f
def Vq:Fn:=defn 2 [true,false] Z3
def abD:VS.aA:=("Even",[false],Vq)
def U8:VS.Tc:=tc (L2.inClass (top 68) 0) ["self","deed","inner"]
def Z9:M Fl:=by refine' (?k:VS.aH U8) _ rfl;exactλf _=>f
def Vv:Fn:=defn 3 [true,false,false] Z9
def abI:VS.aA:=("One",[false,false],Vv)
def LA:VS.Tc:=tc (L2.inClass (top 67) 0) ["self","line","start","steps"]
def Q1M:M Fl:=by refine' (?k:VS.aH LA) _ rfl;exactλf _=>f
def MP:Fn:=defn 4 [true,false,false,false] Q1M
def Xz:VS.aA:=("Read",[false,false,false],MP)
def C0:VS.Tc:=tc (top 82) ["way","strides","many","start","steps","part","stride"] [] ["steps"]
@[reducible] def iC:M D:=(cI 0)
@[reducible] def bX:M Fl:=by refine' (?k:VS.yZ C0 0) _ rfl;exactλf _=>f
def Ld:M Fl:=by refine' (?k:VS.aH C0) _ rfl;exactλf _=>f
def DO:Fn:=defn 7 [false,false,false] Ld
def Od:VS.aA:=("reading_by",[false,false,false],DO)
def LF:VS.Tc:=tc (L2.inClass (top 87) 2) ["self","at","way","sides","reading"] [Od,wA] [] [] [Xz]
def Ky:M Fl:=by refine' (?k:VS.aH LF) _ rfl;exactλf _=>f
def zA:Fn:=defn 5 [false,false,false,false] Ky
def NB:Str×VS.aA:=("row_read","Weaver",[false,false,false],zA)
def UX:VS.Tc:=tc (L2.inClass (top 72) 0) ["self","part","size","ahead","behind"]
def Z6:M Fl:=by refine' (?k:VS.aH UX) _ rfl;exactλf _=>f
def Vt:Fn:=defn 5 [true,false,false,false,false] Z6
def abG:VS.aA:=("Joined",[false,false,false,false],Vt)
def Ml:VS.Tc:=tc (top 75) ["number"]
def K7:M Fl:=by refine' (?k:VS.aH Ml) _ rfl;exactλf _=>f
def zL:Fn:=defn 1 [false] K7
def Az:VS.aA:=("part_standing",[false],zL)
def Mj:VS.Tc:=tc (top 78) ["part","begin","step","first"] [Az]
def CI:M Fl:=by refine' (?k:VS.aH Mj) _ rfl;exactλf _=>f
def vD:Fn:=defn 4 [false,false,false] CI
def N7:VS.aA:=("part_moved",[false,false,false],vD)
def MC:VS.Tc:=tc (top 77) ["way","side","begin","step","moved"] [N7] ["moved"] [] [] [(331,4)]
def Lv:M Fl:=by refine' (?k:VS.aH MC) _ rfl;exactλf _=>f
def DU:Fn:=defn 5 [false,false,false,false] Lv
def AF:VS.aA:=("way_moved",[false,false,false,false],DU)
def LN:VS.Tc:=tc (L2.inClass (top 71) 0) ["self","part","size","inner","number"]
def UI:M Fl:=by refine' (?k:VS.aH LN) _ rfl;exactλf _=>f
def MS:Fn:=defn 5 [true,false,false,false,false] UI
def XG:VS.aA:=("Within",[false,false,false,false],MS)
def MD:VS.Tc:=tc (top 81) ["way","own","last"] [Az]
@[reducible] def iD:M D:=(Nr (tB<|m2 eh (aa 3)<|cI 1) (au zL [.val<|cI 0])<|aa 4)
def Lw:M Fl:=by refine' (?k:VS.aH MD) _ rfl;exactλf _=>f
def DV:Fn:=defn 3 [false,false] Lw
def Ox:VS.aA:=("way_spread",[false,false],DV)
def MB:VS.Tc:=tc (top 79) ["way","side","place"] [Az]
def Lu:M Fl:=by refine' (?k:VS.aH MB) _ rfl;exactλf _=>f
def DT:Fn:=defn 3 [false,false,false] Lu
def Ow:VS.aA:=("way_dropped",[false,false,false],DT)
def C5:VS.Tc:=tc (top 76) ["way","order","turned","side","part"] [] ["turned"] [] [] [(327,2)]
@[reducible] def eP:M Fl:=by refine' (?k:VS.yZ C5 0) _ rfl;exactλf _=>f
def Lx:M Fl:=by refine' (?k:VS.aH C5) _ rfl;exactλf _=>f
def DW:Fn:=defn 5 [false,false] Lx
def Oy:VS.aA:=("way_turned",[false,false],DW)
def CP:VS.Tc:=tc (top 80) ["way","side"]
def Cy:M Fl:=by refine' (?k:VS.aH CP) _ rfl;exactλf _=>f
def xH:Fn:=defn 2 [false,false] Cy
def FF:VS.aA:=("way_widened",[false,false],xH)
def LM:VS.Tc:=tc (L2.inClass (top 70) 0) ["self","asked","left","right"]
def UH:M Fl:=by refine' (?k:VS.aH LM) _ rfl;exactλf _=>f
def MR:Fn:=defn 4 [true,false,false,false] UH
def XF:VS.aA:=("Where",[false,false,false],MR)
def LI(w:Nat->Fn):VS.Tc:=tc (L2.inClass (top 87) 1) ["self","at","way"] [] [] [NB,("tree_made","Weaver",[false,false],(w 1))]
def y8(w:Nat->Fn):M Fl:=by refine' (?k:VS.aH (LI w)) _ rfl;exactλf _=>f
def LH(w:Nat->Fn):VS.Tc:=tc (L2.inClass (top 87) 3) ["self","at","way","line","kind"] [] [] [("tree_named","Weaver",[false,false],(w 0)),("tree_spread","Weaver",[false,false],(w 3)),("tree_shifted","Weaver",[false,false,false,false,false],(w 4)),("tree_joined","Weaver",[false,false,false,false],(w 5)),NB,("tree_viewed","Weaver",[false,false],(w 2))] [abD,abI,abC,XF]
def iX(w:Nat->Fn):M Fl:=by refine' (?k:VS.aH (LH w)) _ rfl;exactλf _=>f
def LL(w:Nat->Fn):VS.Tc:=tc (L2.inClass (top 87) 4) ["self","line","way","kind"] [Oy,AF,Ow,FF] [] [("tree_named","Weaver",[false,false],(w 0)),("tree_spread","Weaver",[false,false],(w 3))]
def iY(w:Nat->Fn):M Fl:=by refine' (?k:VS.aH (LL w)) _ rfl;exactλf _=>f
def LK(w:Nat->Fn):VS.Tc:=tc (L2.inClass (top 87) 5) ["self","at","way"] [Ox] [] [("tree_named","Weaver",[false,false],(w 0))]
def CD(w:Nat->Fn):M Fl:=by refine' (?k:VS.aH (LK w)) _ rfl;exactλf _=>f
def LJ(w:Nat->Fn):VS.Tc:=tc (L2.inClass (top 87) 6) ["self","at","side","by","number","way","moved"] [AF] [] [("tree_named","Weaver",[false,false],(w 0))] [XG]
def CC(w:Nat->Fn):M Fl:=by refine' (?k:VS.aH (LJ w)) _ rfl;exactλf _=>f
def LG(w:Nat->Fn):VS.Tc:=tc (L2.inClass (top 87) 7) ["self","ahead","behind","side","way","size","moved"] [AF] [] [("tree_named","Weaver",[false,false],(w 0))] [abG]
def CB(w:Nat->Fn):M Fl:=by refine' (?k:VS.aH (LG w)) _ rfl;exactλf _=>f
def gF:Nat->Nat->Fn|0=>λ_ _=>.no|n+1=>λi=>match i with|0=>defn 3 [false,false,false] (y8<|gF n)|1=>defn 5 [false,false,false] (iX<|gF n)|2=>defn 4 [false,false,false] (iY<|gF n)|3=>defn 3 [false,false,false] (CD<|gF n)|4=>defn 7 [false,false,false,false,false,false] (CC<|gF n)|5=>defn 7 [false,false,false,false,false] (CB<|gF n)|_=>λ_=>.no
def Dx:Fn:=gF 64 0
def XD:Str×VS.aA:=("tree_named","Weaver",[false,false],Dx)
def Dw:Fn:=gF 64 1
def XC:Str×VS.aA:=("tree_made","Weaver",[false,false],Dw)
def My:VS.Tc:=tc (top 74) ["many"]
@[reducible] def dz:M D:=(bR [(cI 0),(aa 1),(cI 1)])
def Ll:M Fl:=by refine' (?k:VS.aH My) _ rfl;exactλf _=>f
def zO:Fn:=defn 1 [false] Ll
def Oo:VS.aA:=("straight_way",[false],zO)
def Me:VS.Tc:=tc (top 86) ["program","sides","kept","at","line","own","kind","inner","tree","weaver"] [Oo] [] [XD,XC] [abH,abJ,Q0E,abF,Q13,abE]
def rD:M Fl:=by refine' (?k:VS.aH Me) _ rfl;exactλf _=>f
def lg:Fn:=defn 10 [false,false,false,false] rD
def N2:VS.aA:=("loop_of",[false,false,false,false],lg)
def U3(w:Nat->Fn):VS.Tc:=tc (top 88) ["tree"] [("lines_read_in",[false],(w 0))]
def iZ(w:Nat->Fn):=ai (eC (tB<|m1 (dg fH)<|aa 0) (ai (a8<|gB [(m1 (bq g8 "line")<|aa 0)]) aJ) aJ) (ai (eC (tB<|m1 (dg br)<|aa 0) (ai (a8<|au (w 0) [.val<|m1 (bq ll "inner")<|aa 0]) aJ) aJ)<|ai (eC (tB<|m1 (dg ji)<|aa 0) (ai (a8<|m2 aV (au (w 0) [.val<|m1 (bq lq "left")<|aa 0])<|au (w 0) [.val<|m1 (bq jd "right")<|aa 0]) aJ) aJ)<|ai (eC (tB<|m1 (dg jK)<|aa 0) (ai (a8<|m2 aV (m2 aV (au (w 0) [.val<|m1 (bq pY "asked")<|aa 0])<|au (w 0) [.val<|m1 (bq lq "left")<|aa 0])<|au (w 0) [.val<|m1 (bq jd "right")<|aa 0]) aJ) aJ)<|ai (eC (tB<|m1 (dg kJ)<|aa 0) (ai (a8<|m2 aV (au (w 0) [.val<|m1 (bq pX "ahead")<|aa 0])<|au (w 0) [.val<|m1 (bq mK "behind")<|aa 0]) aJ) aJ)<|ai (a8<|gB []) aJ)
def xi:Nat->Nat->Fn|0=>λ_ _=>.no|n+1=>λi=>match i with|0=>defn 1 [false] (iZ<|xi n)|_=>λ_=>.no
def MU:Fn:=xi 64 0
def N1:VS.aA:=("lines_read_in",[false],MU)
def Md:VS.Tc:=tc (top 89) ["loop"] [N1]
def K1:M Fl:=by refine' (?k:VS.aH Md) _ rfl;exactλf _=>f
def rR:Fn:=defn 1 [false] K1
def N0:VS.aA:=("lines_read_by",[false],rR)
def zj:VS.Tc:=tc (top 90) ["loops","last","at","loop","line"] [N0] ["last"] [] [] [(463,1)] ["last","row_of"]
@[reducible] def cR:M Fl:=by refine' (?k:VS.yZ zj 1) _ rfl;exactλf _=>f
@[reducible] def cU:M Fl:=by refine' (?k:VS.yZ zj 0) _ rfl;exactλf _=>f
def KZ:M Fl:=by refine' (?k:VS.aH zj) _ rfl;exactλf _=>f
def zJ:Fn:=defn 5 [false] KZ
def NY:VS.aA:=("last_readings",[false],zJ)
def Mf:VS.Tc:=tc (top 92) ["rows","row"]
@[reducible] def bW:M Bool:=(tB<|m2 (inD false) (aa 1)<|aa 0)
@[reducible] def cX:M Fl:=(ai (aO 1<|m2 aV (aa 1)<|cI 1) aJ)
def K2:M Fl:=by refine' (?k:VS.aH Mf) _ rfl;exactλf _=>f
def zK:Fn:=defn 2 [false] K2
def N3:VS.aA:=("lowest_beside",[false],zK)
def U9:VS.Tc:=tc (top 91) ["loops","last","row_of","at","loop","needed"] [NY,N3] ["row_of"] [] [] [(470,2)] ["last","row_of"]
def eZ:=m2 Bk (aa 2) (aa 6)
def e7:=tB (m2 TM (m2 Bk (aa 1)<|aa 6)<|aa 3)
def fg:=ai (aO 5<|jn<|aC 1 (vZ<|aa 2) (ao 6) e7 eZ) (ai (AK 2 (m1 (bq g8 "line")<|aa 4)<|au zK [.val<|aa 5]) aJ)
def Lg:=ai (aO 1<|au zJ [.val<|aa 0]) (ai (gU 2<|mC<|.gp [] [])<|ai (iQ (qp [(aa 0)]) (b8 [3,4]) fg)<|ai (BW 2<|a8<|aa 2) aJ)
def DP:Fn:=defn 6 [false] Lg
def Oe:VS.aA:=("rows_of",[false],DP)
def Mp:VS.Tc:=tc (top 85) ["program","given","sides","kept","loops","row_of"] [AD,NQ,N2,Oe,NZ] [] [] [abK]
@[reducible] def kY:M D:=(au lg [.val<|aa 0,.val<|aa 2,.val<|aa 3,.val<|aa 6])
@[reducible] def k8:M Bool:=(tB<|m2 aj (aa 3)<|aa 6)
def CJ:M Fl:=by refine' (?k:VS.aH Mp) _ rfl;exactλf _=>f
def pV:Fn:=defn 6 [false,false] CJ
def Oc:VS.aA:=("plan_of",[false,false],pV)
def a9:=ai (eC (tB<|m2 eh (aa 3)<|cI 0) (ai (iL<|au pW [.val<|aa 0,.val<|aa 1]) aJ) aJ) (ai (eC (tB<|m2 eh (aa 3)<|cI 1) (ai (iL<|au pV [.val<|aa 0,.val<|aa 1]) aJ) aJ)<|ai (eC (tB<|m2 eh (aa 3)<|cI 2) (ai (iL<|au lj [.val<|aa 0,.val<|aa 2]) aJ) aJ) aJ)
def cW:=ai (eC (Gg (lZ<|tB<|m1 (Ie gr)<|aa 4)<|Gg (lZ<|tB<|au MT [.val<|m1 (vN A1 "at")<|aa 4])<|lZ<|tB<|m1 (Eo "str")<|m1 (vN uT "why")<|aa 4) (ai (a8<|mC .aQ) aJ) aJ) (ai (a8<|bR [(m1 (vN A1 "at")<|aa 4),(m1 (vN uT "why")<|aa 4)]) aJ)
def iu:=ai (a8<|bR []) aJ
def U1:VS.Tc:=tc (top 120) ["_law_program_here","_law_given","_law_tables","_law_which","e"] [AD,Oc,Ob]
def rC:=ai (lT a9 [(eF,some 4,cW),(fE,none,iu)]) (ai (a8<|bR []) aJ)
def iF:Fn:=defn 5 [false,false,false,false] rC
def NX:VS.aA:=("_law_why",[false,false,false,false],iF)
def Q2U:VS.Tc:=tc (top 121) ["_law_script","_law_row","_law_seeds","_law_drawn_here","_law_program_here","_law_sides","_law_given","_law_cells_here","_law_tables","_law_at","_law_bad","_law_wrong","_law_which"] [qC,NT,NV,NX] ["_law_row"] [] [NA]
def pR:=n6 "Table" vr [.val<|m2 aj (aa 6)<|aa 13,.val<|m2 aj (aa 7)<|aa 13]
def lI:=ai (eC (tB<|m2 jo (au iF [.val<|m1 eX<|aa 4,.val<|m1 eX<|aa 6,.val<|aa 8,.val<|aa 12])<|bR []) (ai (a8 cF) aJ) aJ) (ai (eC (tB<|m2 jo (au iF [.val<|m1 eX<|aa 11,.val<|m1 eX<|aa 6,.val<|aa 8,.val<|aa 12])<|bR [(aa 9),(m2 aj (aa 10)<|cI 1)]) (ai (a8 cF) aJ) aJ) aJ)
def Kv:=ai (gU 1<|gB [(aa 0),(cI 0)]) (ai (aO 2<|gB [(au bN [.io 1,.val<|cI 1000003]),(au bN [.io 1,.val<|cI 1000003]),(au bN [.io 1,.val<|cI 1000003])])<|ai (aO 3<|au zI [.io 1])<|ai (aO 4<|m2 aj (aa 3)<|cI 0)<|ai (aO 5<|m2 aj (aa 3)<|cI 1)<|ai (aO 6<|m2 aj (aa 3)<|cI 3)<|ai (aO 7<|lJ vA (gB [(aa 2),(cI 0)]) [(aa 6),(m2 aj (aa 3)<|cI 2)])<|ai (aO 8<|aC 1 (bO [(m2 aj (aa 3)<|cI 2)]) (ao 13) (VP.ret true) pR)<|ai (aO 9<|m2 aV (m2 aj (aa 3)<|cI 2)<|m2 fM (m2 aj (aa 2)<|cI 0)<|m2 jv (m1 cw<|aa 4)<|m2 aj (aa 3)<|cI 2)<|ai (aO 10<|au nV [.val<|aa 9,.val<|m2 fM (m2 aj (aa 2)<|cI 1)<|cI 5,.val<|m2 aj (aa 2)<|cI 2])<|ai (aO 11<|m2 aV (m2 aV (EY g6 (aa 4) none<|some<|aa 9)<|gB [(m2 aj (aa 10)<|cI 0)])<|EY g6 (aa 4) (some<|m2 aV (aa 9)<|cI 1) none)<|ai (iQ (bO [(cI 3)]) (ao 12) lI)<|ai (a8 cT) aJ)
def vq:Fn:=defn 13 [false] Kv
end LW
end
section
set_option maxRecDepth 100000
set_option linter.all false
namespace LW
open PySem VP
def cell(ns:Zw)(k:Nat):Int:=ns.getD k 0
def Row(ns:Zw)(p:Nat):D:=.lst [Z ns,.int p]
theorem wN(ns:Zw)(p:Nat)(m:Int)(h:0<m):bN [Row ns p,.int m]=.ok (.int<|cell ns p % m) [Row ns<|p+1]:=by rw[bN,ef _ _ _ _ rfl];unfold KY cell Row;have i0:∀(j:Int),Ac [Z ns,.int j] 0=some (Z ns):=λ_=>rfl;have i1:∀(j:Int),Ac [Z ns,.int j] 1=some (.int j):=λ_=>rfl;have st:∀(i j:Int),setAt (.int 1) (.int j) (.lst [Z ns,.int i])=some (.lst [Z ns,.int j]):=λ_ _=>rfl;by_cases hp:p<ns.length;have e:=cA ns p WR WR;simp[i0,i1,st,hp,e,bP _ _ h];have hp':¬(p:Int)<ns.length:=WR;have g:ns[p]?=none:=By WR;simp[i0,i1,st,hp,g]
theorem lM:names.all jW=true/\names.Nodup:=⟨by decide +kernel,by decide +kernel⟩
theorem m7{i:Nat}(h:i<names.length):nm i=names[i]:=by simp[nm,h]
theorem Q05(i j:Nat)(hi:i<names.length)(hj:j<names.length):eh (.str<|nm i) (.str<|nm j)=some (.bl<|decide<|i=j):=by
 have f:∀k,k<names.length->jW (nm k)=true:=λk h=>by rw[m7 h];exact List.all_eq_true.mp lM.1 _ (Vz h)
 have e:(nm i == nm j)=decide (i=j):=by rw[m7 hi,m7 hj];by_cases h:i=j;subst h;simp;have:names[i]≠names[j]:=λz=>h<|(QU lM.2).mp z;simp[h,this]
 simp[eh,VP.plain,f i hi,f j hj,Dn,e]
theorem W0:32<=names.length:=by decide
theorem Dq(i j:Nat)(hi:i<32)(hj:j<32):eh (.str<|nm i) (.str<|nm j)=some (.bl<|decide<|i=j):=Q05 i j (Sq hi W0) (Sq hj W0)
abbrev TyD(x y:Res D):Prop:=x=y
abbrev TyO(x y:Y1):Prop:=x=y
abbrev TyF(x y:Res Fl):Prop:=x=y
abbrev TyA(x y:Res (List AV)):Prop:=x=y
abbrev TyB(x y:Res Bool):Prop:=x=y
abbrev TyL(x y:Res (List D)):Prop:=x=y
theorem ah{α:Type}{x y:α}(h:x=y:=by
  repeat' first
    |with_reducible assumption
    | (with_reducible refine(?_:TyD _ _)
       first
         | ((with_reducible apply S2);exact rfl)
         |with_reducible first|exact ZO|apply WN|apply WQ|apply Hu|exact BP|apply E1|apply Q1w|apply Q0U|apply Qj|apply Hm|apply RR|apply Q2E|apply Qa|apply Y6|apply UN|apply IM|apply Q22
         | ((with_reducible apply XM);exact rfl))
    | (with_reducible refine(?_:TyO _ _)
       with_reducible first|exact Dq _ _ (by decide) (by decide)|exact u5 _ _|exact AR _ _|exact fV _ _|exact cu _ _|exact hZ _ _|exact gy _ _|exact xM _ _|exact Q1Y _|exact Qh _|exact EH _|exact J3 _|exact J0 _|exact IA _|exact Q1E _)
    | (with_reducible refine(?_:TyF _ _)
       first
         |with_reducible first|apply Q2K|apply Q1m|apply bi7|apply RX|apply vU|apply Si|exact W6|exact JJ|apply Hy|exact BP|apply bi1|apply OZ|apply aar|apply Sz|apply JK|apply VD|apply Jo
        )
    | (with_reducible refine(?_:TyA _ _)
       with_reducible first|exact u9|apply va|apply xq|exact BP)
    | (with_reducible refine(?_:TyB _ _)
       first
         |with_reducible first|apply Ya|apply Q1Z|apply OX|apply Q0l|exact BP
        )
    | (with_reducible refine(?_:TyL _ _)
       with_reducible first|exact BB|apply Q1s|apply Sw|apply Sn|apply Tu|apply Q0a|apply Sk|apply Q20|exact BP)
    | ((with_reducible apply Lz);refine Pj ?_;with_reducible assumption)|((with_reducible apply Ly);refine Zq ?_;with_reducible assumption)|((with_reducible apply Lz);exact rfl)|((with_reducible apply Ly);exact rfl)
    |with_reducible first|apply Xr|exact tBv|apply Gv|exact uI _|exact Su _|exact BP
    | ((dsimp only[List.set,putAll,dh,bJ,List.getElem?_cons_zero,List.getElem?_cons_succ,gj,own,Option.map_some]);first|done|with_reducible exact rfl)
    |exact rfl|(refine HI rfl ?_;with_reducible assumption)):x=y:=h
theorem XT(n:Nat)(bs:Qg)(d:D)(ds:Y5):aR (n+1) (false::bs) (d::ds)=.sh d::aR n bs ds:=rfl
theorem XW(n:Nat)(bs:Qg)(d:D)(ds:Y5):aR (n+1) (true::bs) (d::ds)=.io d::aR n bs ds:=rfl
theorem XU(n:Nat):aR n [] []=List.replicate n .no:=rfl
theorem XQ(n:Nat):List.replicate (n+1) Sl.no=.no::List.replicate n .no:=rfl
theorem XO:List.replicate 0 Sl.no=[]:=rfl
theorem rn{n:Nat}{fl:Qg}{b:M Fl}{ds ios:Y5}{r r0:ay}{d:D}(hl:decide (ds.length=fl.length)=true:=by exact rfl)(h0:aR n fl ds=r0:=by((dsimp only[XT,XW,XU,XQ,XO]);first|done|with_reducible exact rfl))(h:b r0=.ok (.rt d) r:=by exact ah)(hi:bz fl r=some ios:=by exact rfl):defn n fl b ds=.ok d ios:=tTs hl (h0 ▸ h) hi
theorem rnN{n:Nat}{fl:Qg}{b:M Fl}{ds ios:Y5}{r r0:ay}(hl:decide (ds.length=fl.length)=true:=by exact rfl)(h0:aR n fl ds=r0:=by((dsimp only[XT,XW,XU,XQ,XO]);first|done|with_reducible exact rfl))(h:b r0=.ok .nx r:=by exact ah)(hi:bz fl r=some ios:=by exact rfl):defn n fl b ds=.ok .aQ ios:=Q1X hl (h0 ▸ h) hi
theorem Q1G(i j:Nat)(hi:i<32)(hj:j<32):(nm i == nm j)=decide (i=j):=by have h1:=Sq hi W0;have h2:=Sq hj W0;rw[m7 h1,m7 h2];by_cases h:i=j;subst h;simp;have:names[i]≠names[j]:=λz=>h<|(QU lM.2).mp z;simp[h,this]
theorem neS(i j:Nat)(hi:i<32)(hj:j<32):jo (.str<|nm i) (.str<|nm j)=some (.bl<|!decide (i=j)):=by
 have e:=Dq i j hi hj;unfold eh at e;unfold jo;split at e;rename_i hp;rw[Zh hp];have e':eqB (D.str<|nm i) (.str<|nm j)=decide (i=j):=by simpa using e
 rw[e'];cases e
theorem d2_(i:Int):rW (.int i) (.int 2)=some (.int<|i / 2):=jG _ _ WR WR
theorem Zm(i:Int):fM (.int i) (.int 1000003)=some (.int<|i % 1000003):=bP _ _ WR
theorem Ab(k:Bool):intD [.bl k]=some (.int<|if k=true then 1 else 0):=rfl
def Rt(a:Int):Prop:=0<=a/\a<1000003
def ak:Zw->Int|[]=>1|x::r=>x*ak r
def cL:Zw->List Int|[]=>[]|_::r=>ak r::cL r
def idx:Zw->Int->List Int|[],_=>[]|_::r,p=>p / max (ak r) 1::idx r (p % max (ak r) 1)
def dot:Zw->Zw->Int|x::xs,y::ys=>x*y+dot xs ys|_,_=>0
structure Sd(xs:Zw):Prop where
 len:xs.length<=4
 bd:∀x∈xs,0<=x/\x<=64
theorem uA:∀(xs:Zw),(∀x∈xs,0<=x/\x<=64)->0<=ak xs/\ak xs<=64 ^ xs.length|[],_=>by simp[ak]|x::r,h=>by have hx:=h x TL;have hr:=uA r λy hy=>h y<|SY _ hy;simp only[ak,List.length_cons];refine⟨R1 hx.1 hr.1,?_⟩;have:x*ak r<=64*64 ^ r.length:=Int.mul_le_mul hx.2 hr.2 hr.1 WR;rw[Int.pow_succ];lia
theorem wq:∀{n:Nat},n<=4->(64:Int) ^ n<=16777216|0,_=>by decide|1,_=>by decide|2,_=>by decide|3,_=>by decide|4,_=>by decide
theorem Sd.prod{xs:Zw}(h:Sd xs):0<=ak xs/\ak xs<=16777216:=by
 have:=uA xs h.bd;have:=wq h.len
 lia
theorem Sd.tail{x:Int}{r:Zw}(h:Sd (x::r)):Sd r:=⟨by have:=h.len;simp at this;lia,λy hy=>h.bd y<|SY _ hy⟩
theorem Sd.drop{xs:Zw}(h:Sd xs)(k:Nat):Sd (xs.drop k):=⟨by have:=h.len;simp;lia,λy hy=>h.bd y<|O5 hy⟩
theorem kO:∀(xs:Zw)(a:Int),xs.foldl (λp x=>p*x) a=a*ak xs|[],a=>by simp[ak]|x::r,a=>by simp only[List.foldl_cons,ak];rw[kO r];rw[Int.mul_assoc]
def back(xs:Zw)(k:Nat):Int:=if k<xs.length then xs.getD (xs.length-1-k) 1 else 1
def qu(x y:Int):Bool:=decide (x=1\/y=1\/x=y)
def pk(x y:Int):Int:=if x=1 then y else x
def OE(acc:Zw)(p:Int×Int):D ⊕ List Int:=if qu p.1 p.2 then .inr (acc++[pk p.1 p.2]) else .inl .aQ
theorem rX(ps:List (Int×Int)):∀acc,jf OE ps acc=if ps.all (λp=>qu p.1 p.2) then .inr (acc++ps.map λp=>pk p.1 p.2) else .inl .aQ:=by induction ps with|nil=>intro acc;simp[jf]|cons p ps ih=>intro acc;simp only[jf,OE,List.all_cons];by_cases q:qu p.1 p.2=true;simp only[q,if_true,ih,Bool.true_and];simp;simp[q]
def BJ:Option (List Int)->D|some xs=>T xs|none=>.aQ
def pairs(one other:Zw):List (Int×Int):=(List.range<|max one.length other.length).map λk=>(back one k,back other k)
def meet(one other:Zw):Option (List Int):=if (pairs one other).all (λp=>qu p.1 p.2) then some ((pairs one other).map λp=>pk p.1 p.2).reverse else none
def ahead(xs:Zw)(n:Nat):Zw:=List.replicate (n-xs.length) 1++xs
theorem jZ(one other:Zw):(ahead one<|max one.length other.length).zip (ahead other<|max one.length other.length)=(pairs one other).reverse:=by
 have len:∀(xs:Zw)(n:Nat),xs.length<=n->(ahead xs n).length=n:=λxs n h=>by simp[ahead];omega
 have get:∀(xs:Zw)(n i:Nat),xs.length<=n->i<n->(ahead xs n)[i]?=some (back xs<|n-1-i):=λxs n i h hi=>by unfold ahead back;by_cases c:i<n-xs.length;rw[IV (by simpa using c),Y4 Ry];simp[c];rw[Jn (by simp;omega),Zh Ry];have e:xs.length-1-(n-1-i)=i-(n-xs.length):=Ry;have hl:i-(n-xs.length)<xs.length:=Ry;simp[e,hl]
 refine List.ext_getElem? λi=>?_;by_cases hi:i<max one.length other.length;rw[show (List.zip (ahead one<|max one.length other.length)<|ahead other<|max one.length other.length)[i]?=some (back one<|max one.length other.length-1-i,back other<|max one.length other.length-1-i) from List.getElem?_zip_eq_some.mpr ⟨get one _ _ Ry hi,get other _ _ Ry hi⟩];rw[JH (by simp[pairs];omega)];simp only[pairs,List.length_map,List.length_range,List.getElem?_map];rw[Il Ry];rfl;rw[By (by rw[List.length_zip,len _ _ Ry,len _ _ Ry];omega),By (by simp[pairs];omega)]
theorem my(xs:Zw)(n:Nat)(h:xs.length<=n):(ahead xs n).length=n:=by simp[ahead];lia
theorem qk(one other:Zw)(h1:one.length<=4)(h2:other.length<=4):rQ [T one,T other]=.ok (BJ<|meet one other) []:=by
 obtain⟨n,hn⟩:∃n,max one.length other.length=n:=⟨_,rfl⟩;have o1:one.length<=n:=hn ▸ Xv ..;have o2:other.length<=n:=hn ▸ IU ..;have mx:maxD [.int (one.length:Int),.int (other.length:Int)]=some (.int (n:Int)):=by rw[oY,show max (one.length:Int) other.length=n by lia]
 have er:rk [.int (n:Int)]=some ((List.range n).map λ(k:Nat)=>.int k):=qF _ _ WR WR WR;have mu:∀(xs:Zw),xs.length<=n->yf (.tup [.int 1]) (.int<|(n:Int)-xs.length)=some (T<|List.replicate (n-xs.length) 1):=λxs hx=>by
  have e:((n:Int)-xs.length).toNat=n-xs.length:=WR;have d:yf (.tup [.int 1]) (.int<|(n:Int)-xs.length)=if -(iz:Int)<=(n:Int)-xs.length/\(n:Int)-xs.length<=iz/\[D.int 1].length*((n:Int)-xs.length).toNat<=iz then some (.tup (List.replicate ((n:Int)-xs.length).toNat [D.int 1]).flatten) else none:=rfl
  rw[d,Zh (by simp[iz];lia),e];simp[T,List.map_replicate]
 have ad:∀(xs:Zw),xs.length<=n->aV (T<|List.replicate (n-xs.length) 1) (T xs)=some (T<|ahead xs n):=λxs hx=>by rw[dX _ _ (by simp[iz];lia)];rfl
 have l1:=my one n WR;have l2:=my other n WR;have zp:=jZ one other;rw[hn] at zp;have L:=kL (g:=ao 6) (body:=hW) (λ(k:Nat)=>D.int k) (λ(s:Zw)(t:Sl)=>[.sh<|T one,.sh<|T other,.sh<|.int (n:Int),.sh<|T<|ahead one n,.sh<|T<|ahead other n,.sh<|T s,t]) p9 (λacc k=>OE acc ((ahead one n).getD k 0,(ahead other n).getD k 0)) (List.range n) (λk s=>s.length=k) [] .no rfl rfl ?_;have e:jf (λacc k=>OE acc ((ahead one n).getD k 0,(ahead other n).getD k 0)) (List.range n) []=jf OE (pairs one other).reverse []:=by
  have em:(pairs one other).reverse=(List.range n).map λk=>((ahead one n).getD k 0,(ahead other n).getD k 0):=by
   rw[<-zp];refine WT (by simp[l1,l2]) λk a b=>?_;have hk:k<n:=by simpa using b
   simp[l1,l2,hk]
  rw[em];generalize (List.range n)=ks;generalize ([]:Zw)=acc;induction ks generalizing acc with|nil=>rfl|cons k ks ih=>simp only[jf,List.map_cons];split<;>simp_all
 rw[e,rX,Ji] at L;unfold meet;have m1':=mu one o1;have m2':=mu other o2;have a1':=ad one o1;have a2':=ad other o2;by_cases q:(pairs one other).all (λp=>qu p.1 p.2)=true;rw[Zh q] at L;obtain⟨_,t,_,L⟩:=L;simp only[List.nil_append] at L;rw[Zh q];rw[show T []=D.tup [] from rfl,Xx] at L;unfold rQ CH BJ;exact rn;rw[Y4 q] at L;obtain⟨s',t,L⟩:=L;rw[Y4 q];rw[show T []=D.tup [] from rfl] at L;unfold rQ CH BJ;exact rn;intro i k hk acc t ht hP;obtain⟨rfl,hk⟩:=bF hk;have hf:free (some t)=true:=ht;have e1:∀x:Int,aV (T acc) (.tup [.int x])=some (T<|acc++[x]):=λx=>dX acc [x] (by simp[iz];lia);have i1:aj (T<|ahead one n) (.int (k:Int))=_:=cA (ahead one n) k WR WR;have i2:aj (T<|ahead other n) (.int (k:Int))=_:=cA (ahead other n) k WR WR;simp only[IZ] at i1 i2;generalize (ahead one n).getD k 0=x at *;generalize (ahead other n).getD k 0=y at *;clear er mu ad zp mx;generalize T (ahead one n)=A at *;generalize T (ahead other n)=B at *;generalize T one=O1 at *;generalize T other=O2 at *;have x1:aE (ao 6) hW (.int k) [.sh O1,.sh O2,.sh<|.int n,.sh A,.sh B,.sh<|T acc,t]=if qu x y then .ok .nx [.sh O1,.sh O2,.sh<|.int n,.sh A,.sh B,.sh<|T<|acc++[pk x y],.sh<|.int k] else .ok (.rt .aQ) [.sh O1,.sh O2,.sh<|.int n,.sh A,.sh B,.sh<|T acc,.sh<|.int k]:=by have n1:=cu x y;have n2:=cu x 1;have n3:=cu y 1;have n4:=fV x 1;have e1x:=e1 x;have e1y:=e1 y;rw[show qu x y=(decide (x=1)||decide (y=1)||decide (x=y)) by simp[qu,Bool.or_assoc],show pk x y=if decide (x=1)=true then y else x by simp[pk],aE,show ao 6 (.int k) _=.ok () [.sh O1,.sh O2,.sh<|.int n,.sh A,.sh B,.sh<|T acc,.sh<|.int k] by simp[hf],ag];generalize decide (x=1)=b1 at *;generalize decide (y=1)=b2 at *;generalize decide (x=y)=b3 at *;unfold hW;cases b1<;>cases b2<;>cases b3<;>exact ah
 unfold OE;dsimp only;rw[x1];by_cases q:qu x y=true;rw[Zh q,Zh q];exact⟨by simp[hP],.sh<|.int k,rfl,rfl⟩;rw[Y4 q,Y4 q];exact⟨acc,.sh<|.int k,rfl⟩
def Sm(xs:Zw):Prop:=∀x∈xs,-100000<=x/\x<=100000
theorem Ph(i j:Nat)(hi:i<32)(hj:j<32):eqB (.str<|nm i) (.str<|nm j)=decide (i=j):=by rw[Dn];exact Q1G i j hi hj
theorem pw(n k:Nat)(d:Nat)(h:k<=n):j9 n d (some (k:Int))=k:=by unfold j9;dsimp only;rw[if_neg WR];lia
@[simp] theorem lS(n d:Nat):j9 n d none=d:=WB
def wo(s:Zw)(k:Nat):Zw:=s.take k++s.drop (k+1)
def pin(s:Zw)(k:Nat)(x:Int):Zw:=s.take k++x::s.drop k
def rep(s:Zw)(k:Nat)(x:Int):Zw:=s.take k++x::s.drop (k+1)
theorem wt:∀(a b:Zw),ak (a++b)=ak a*ak b|[],b=>by simp[ak]|x::a,b=>by simp only[List.cons_append,ak,wt a b];rw[Int.mul_assoc]
def aG(ss:T1):D:=.lst (ss.map T)
theorem Wn(ss:T1)(i:Nat)(s:Zw)(h:ss[i]?=some s):Ac (ss.map T) (i:Int)=some (T s):=by refine mU _ _ _ WR ?_;simp[h]
theorem bK(ss:T1):cw (aG ss)=some (.int ss.length):=by simp[aG]
theorem Ii(ss:T1)(i:Nat)(s:Zw)(h:ss[i]?=some s):aj (aG ss) (.int i)=some (T s):=Wn ss i s h
theorem cz{s t m:Zw}(h:meet s t=some m):m.length=max s.length t.length:=by unfold meet at h;split at h;cases h;simp[pairs];cases h
theorem Q2F(n:Nat)(s:Zw):VP.plain (n+1) (T s)=true:=by unfold T;rw[VP.plain];exact fX n s
theorem HF(k:Nat)(h:k<32):jW (nm k)=true:=by have h':=Sq h W0;rw[m7 h'];exact List.all_eq_true.mp lM.1 _ (Vz h')
inductive PL where
 |given (j:Int)|j5 (s:Zw) (x:Int)|turn (a:Nat) (o:Zw)|cut (a:Nat) (k b st m:Int)|drop (a:Nat) (k p:Int)|wide (a:Nat) (k:Int)|spread (a:Nat) (t:Zw)|shape (a:Nat) (t:Zw)|shift (a:Nat) (k n x:Int)|one (d a:Nat)|both (d a b:Nat)|eJ (a b c:Nat)|fold (d a:Nat) (k:Int)|run (d a:Nat) (k:Int)|pick (a:Nat) (k:Int) (b:Nat)|join (a b:Nat) (k:Int)
abbrev Uc:=List PL
instance:Inhabited PL:=⟨.given 0⟩
def PL.k:PL->Nat|.given _=>0|.j5 _ _=>1|.turn _ _=>2|.cut _ _ _ _ _=>3|.drop _ _ _=>4|.wide _ _=>5|.spread _ _=>6|.shape _ _=>7|.shift _ _ _ _=>8|.one _ _=>9|.both _ _ _=>10|.eJ _ _ _=>11|.fold _ _ _=>12|.run _ _ _=>13|.pick _ _ _=>14|.join _ _ _=>15
def PL.ps:PL->List D|.given j=>[.int j]|.j5 s x=>[T s,.int x]|.turn a o=>[.int a,T o]|.cut a k b st m=>[.int a,.int k,.int b,.int st,.int m]|.drop a k p=>[.int a,.int k,.int p]|.wide a k=>[.int a,.int k]|.spread a t=>[.int a,T t]|.shape a t=>[.int a,T t]|.shift a k n x=>[.int a,.int k,.int n,.int x]|.one d a=>[.str<|nm d,.int a]|.both d a b=>[.str<|nm d,.int a,.int b]|.eJ a b c=>[.int a,.int b,.int c]|.fold d a k=>[.str<|nm d,.int a,.int k]|.run d a k=>[.str<|nm d,.int a,.int k]|.pick a k b=>[.int a,.int k,.int b]|.join a b k=>[.int a,.int b,.int k]
def PL.d(l:PL):D:=.tup (.str (nm l.k)::l.ps)
def PL.ns:PL->List Nat|.given _=>[]|.j5 _ _=>[]|.turn a _=>[a]|.cut a _ _ _ _=>[a]|.drop a _ _=>[a]|.wide a _=>[a]|.spread a _=>[a]|.shape a _=>[a]|.shift a _ _ _=>[a]|.one _ a=>[a]|.both _ a b=>[a,b]|.eJ a b c=>[a,b,c]|.fold _ a _=>[a]|.run _ a _=>[a]|.pick a _ b=>[a,b]|.join a b _=>[a,b]
def PL.oH:PL->Prop|.one d _=>d<32|.both d _ _=>d<32|.fold d _ _=>d<32|.run d _ _=>d<32|_=>True
theorem PL.Wq(l:PL):l.k<16:=by cases l<;>simp[PL.k]
theorem PL.lr(l:PL):l.ns.length<=3:=by cases l<;>simp[PL.ns]
theorem PL.kind(l:PL):aj l.d (.int 0)=some (.str<|nm l.k):=by unfold PL.d;simp
theorem PL.named(l:PL):lh [l.d]=.ok (.lst<|l.ns.map λa=>D.int (a:Nat)) []:=by cases l<;>kernel_rfl!
def PL.ok(l:PL):Prop:=l.oH
theorem PL.plain(l:PL)(h:l.oH)(n:Nat):VP.plain (n+2) l.d=true:=by have f:∀k,k<32->jW (nm k)=true:=HF;have p:∀s:Zw,VP.plain (n+1) (T s)=true:=Q2F n;cases l<;>simp[PL.d,PL.k,PL.ps,PL.oH,VP.plain,eS,p,f] at h ⊢<;>exact f _ h
def Pg(ls:Uc):D:=.lst (ls.map PL.d)
theorem Nh(ls:Uc)(i:Nat)(l:PL)(h:ls[i]?=some l):aj (Pg ls) (.int (i:Int))=some l.d:=by unfold Pg;rw[mS];exact mU _ _ _ WR (by simp[h])
theorem jM(ls:Uc):cw (Pg ls)=some (.int ls.length):=by simp[Pg]
theorem F3(ls:Uc):b9 (Pg ls)=some (ls.map PL.d):=rfl
theorem bg{S Tm A:Type}{g:D->M Unit}{body:M Fl}(mk:A->D)(R:S->Tm->ay)(ok:Tm->Prop):∀(as:List A)(P:Nat->S->Prop)(s:S)(t:Tm),ok t->P 0 s ->
  (∀(i:Nat)(a:A),as[i]?=some a->∀s t,ok t->P i s->∃s' t',P (i+1) s'/\ok t'/\cont (aE g body (mk a)<|R s t)=some (R s' t')) ->
  ∃s' t',P as.length s'/\ok t'/\loop g body (as.map mk) (R s t)=.ok .nx (R s' t'):=by
 intro as;induction as with|nil=>intro P s t ht hs _;exact⟨s,t,hs,ht,rfl⟩|cons a as ih=>intro P s t ht hs h;obtain⟨s1,t1,p1,o1,e1⟩:=h 0 a rfl s t ht hs;obtain⟨s2,t2,p2,o2,e2⟩:=ih (λk=>P<|k+1) s1 t1 o1 p1 λi a' ha=>h (i+1) a' (by simpa using ha);exact⟨s2,t2,by simpa using p2,o2,by rw[List.map_cons,jP e1];exact e2⟩
def Wf(ls:Uc):Prop:=∀(i:Nat)(l:PL),ls[i]?=some l->∀r∈l.ns,r<i
inductive qX(ls:Uc):Nat->Prop where
 |last:qX ls (ls.length-1)|step {i r:Nat} {l:PL}:qX ls i->ls[i]?=some l->r∈l.ns->qX ls r
theorem qX.lt{ls:Uc}(wf:Wf ls)(h0:ls≠[]){i:Nat}(h:qX ls i):i<ls.length:=by induction h with|last=>have:=List.length_pos_iff.mpr h0;lia|step h e hr ih=>have:=wf _ _ e _ hr;lia
def fC(w:Qg):D:=.lst (w.map .bl)
def fj(ks:WC):D:=.lst (ks.map λk=>.int (k:Nat))
theorem v9:∀(ns:WC)(w:Qg)(i:Nat),(ns.foldl (λw r=>w.set r true) w).length=w.length/\((ns.foldl (λw r=>w.set r true) w)[i]?=some true<->i<w.length/\(w[i]?=some true\/i∈ns))
|[],w,i=>by refine⟨rfl,⟨λh=>⟨(List.getElem?_eq_some_iff.mp h).1,.inl h⟩,λ⟨h1,h⟩=>?_⟩⟩;rcases h with h|h;exact h;simp at h
|r::ns,w,i=>by obtain⟨h1,h2⟩:=v9 ns (w.set r true) i;simp only[List.foldl_cons];refine⟨by rw[h1];simp,?_⟩;rw[h2];simp only[List.length_set,List.mem_cons];constructor;rintro⟨a,b⟩;refine⟨a,?_⟩;rcases b with b|b;by_cases e:r=i;exact .inr<|.inl e.symm;rw[Jj e] at b;exact .inl b;exact .inr<|.inr b;rintro⟨a,b⟩;refine⟨a,?_⟩;by_cases e:r=i;subst e;exact .inl (by rw[Xh a]);rw[Jj e];rcases b with b|b|b;exact .inl b;exact absurd b.symm e;exact .inr b
theorem CO(w:Qg)(r:Nat)(b:Bool)(h:r<w.length):setAt (.int (r:Int)) (.bl b) (fC w)=some (fC<|w.set r b):=by unfold fC;rw[nz _ _ _ WR (by simp;lia),IZ,List.map_set]
theorem jB(w:Qg)(i:Nat)(b:Bool)(h:w[i]?=some b):aj (fC w) (.int (i:Int))=some (.bl b):=by unfold fC;rw[mS];exact mU _ _ _ WR (by simp[h])
theorem so(P:D)(s:Sl):∀(ns:WC)(w:Qg),(∀r∈ns,r<w.length)->∀t,free (some t)=true->∃t',free (some t')=true/\loop (ao 3) dM (ns.map λk=>D.int (k:Nat)) [.sh P,.ow<|fC w,s,t]=.ok .nx [.sh P,.ow<|fC<|ns.foldl (λw r=>w.set r true) w,s,t']|[],w,_,t,ht=>⟨t,ht,rfl⟩|r::ns,w,h,t,ht=>by have hr:=h r TL;obtain⟨t',h1,h2⟩:=so P s ns (w.set r true) (λx hx=>by simpa using h x<|SY _ hx) (.sh<|.int r) rfl;refine⟨t',h1,?_⟩;have il:isLst (some<|fC w)=true:=rfl;rw[BE,jP (r':=[.sh P,.ow<|fC<|w.set r true,s,.sh<|.int r]) (by simp[aE,dM,ht,il,CO w r true hr]),h2];rfl
theorem sJ(ls:Uc)(wf:Wf ls)(h0:ls≠[])(hl:ls.length<=100):∃w,zP [Pg ls]=.ok (fC w) []/\w.length=ls.length/\∀i,w[i]?=some true<->qX ls i:=by
 have hn:=List.length_pos_iff.mpr h0;have c:aC 1 (cG<|aa 0) (ao 4) (VP.ret true) dD [.sh<|Pg ls,.no,.no,.no]=.ok (fC<|List.replicate ls.length false) [.sh<|Pg ls,.no,.no,.no]:=by refine cJ PL.d (λ_=>D.bl false) ls (by simp[F3]) WR (by simp[fC,List.map_const']) λl hl acc=>?_;simp[dD]
 have ln:=jM ls;have st:=CO (List.replicate ls.length false) (ls.length-1) true (by simp;lia);rw[show (((ls.length-1:Nat)):Int)=(ls.length:Int)-1 by lia] at st;have dn:FW [.int<|(ls.length:Int)-1,.int<|-1,.int<|-1]=some ((List.range ls.length).map λ(k:Nat)=>.int<|(ls.length:Int)-1-k):=by
  have d:FW [.int<|(ls.length:Int)-1,.int<|-1,.int<|-1]=if (-1:Int)=-1/\(-(2 ^ 62)<=(ls.length:Int)-1/\(ls.length:Int)-1<2 ^ 62)/\-(2 ^ 62)<=(-1:Int)/\(-1:Int)<2 ^ 62 then some ((List.range ((ls.length:Int)-1 - -1).toNat).map λ(k:Nat)=>.int<|(ls.length:Int)-1-k) else none:=rfl
  rw[d,Zh ⟨rfl,⟨WR,WR⟩,by decide,by decide⟩];rw[show ((ls.length:Int)-1 - -1).toNat=ls.length by lia]
 obtain⟨w,t,⟨hw,h1,h2,h3⟩,ht,L⟩:=bg (g:=ao 2) (body:=a7) (λ(k:Nat)=>D.int<|(ls.length:Int)-1-k) (λ(w:Qg)(t:Sl×Sl)=>[.sh<|Pg ls,.ow<|fC w,t.1,t.2]) iJ (List.range ls.length)
  (λj w=>w.length=ls.length/\(∀i,w[i]?=some true->qX ls i)/\w[ls.length-1]?=some true/\∀i,ls.length-j<=i->w[i]?=some true->∀l,ls[i]?=some l->∀r∈l.ns,w[r]?=some true)
  ((List.replicate ls.length false).set (ls.length-1) true) (.no,.no) ⟨rfl,rfl⟩ ⟨T2,λi h=>by
   by_cases e:ls.length-1=i;subst e;exact .last;rw[Jj e,IS] at h;split at h<;>simp at h,by rw[List.getElem?_set_self (by simp;lia)],λi hi h l hl=>by
   have:=(List.getElem?_eq_some_iff.mp hl).1;lia⟩ (by
  intro j k hk w t ht hP;obtain⟨rfl,hj⟩:=bF hk;obtain⟨t2,t3⟩:=t;obtain⟨f2,f3⟩:=ht;obtain⟨hw,p1,p2,p3⟩:=hP;dsimp only at f2 f3;have nY:ls.length-1-k<ls.length:=WR;have ei:((ls.length:Int)-1-k)=((ls.length-1-k:Nat):Int):=WR;rw[ei];obtain⟨l,hl⟩:∃l,ls[ls.length-1-k]?=some l:=⟨_,UK nY⟩;have ix:=Nh ls _ l hl;generalize hi:ls.length-1-k=i at *;obtain⟨b,hb⟩:∃b,w[i]?=some b:=⟨_,UK WR⟩;have bi:=jB w i b hb;cases b with
  |false=>refine⟨w,(.sh<|.int i,t3),⟨hw,p1,p2,λm hm h x hx=>?_⟩,⟨rfl,f3⟩,?_⟩;by_cases e:m=i;subst e;rw[hb] at h;cases h;exact p3 m WR h x hx;dsimp only;rw[aE,show ao 2 (.int (i:Int)) _=.ok () [.sh<|Pg ls,.ow<|fC w,.sh<|.int (i:Int),t3] by simp[f2],ag,show a7 _=.ok .nx _ by unfold a7;exact ah];rfl|true=>
   have nb:=λr hr=>wf i l hl r hr;obtain⟨t',ht',L⟩:=so (Pg ls) (.sh<|.int i) l.ns w (λr hr=>by have:=nb r hr;lia) t3 f3;have mg:=v9 l.ns w;refine⟨l.ns.foldl (λw r=>w.set r true) w,(.sh<|.int i,t'),⟨by rw[(mg 0).1];exact hw,λm h=>?_,?_,λm hm h x hx r hr=>?_⟩,⟨rfl,ht'⟩,?_⟩;rcases ((mg m).2.mp h).2 with q|q;exact p1 m q;exact .step (p1 i hb) hl q;exact(mg _).2.mpr ⟨WR,.inl p2⟩;rcases ((mg m).2.mp h).2 with q|q;by_cases e:m=i;subst e;rw[hl] at hx;cases hx;exact(mg r).2.mpr ⟨by have:=nb r hr;lia,.inr hr⟩;have:=p3 m WR q x hx r hr;exact(mg r).2.mpr ⟨(List.getElem?_eq_some_iff.mp this).1,.inl this⟩;have:=nb m q;by_cases e:m=i
   lia
   lia
   have nd:=l.named;dsimp only;rw[aE,show ao 2 (.int (i:Int)) _=.ok () [.sh<|Pg ls,.ow<|fC w,.sh<|.int (i:Int),t3] by simp[f2],ag,show a7 _=.ok .nx _ by unfold a7;exact ah];rfl)
 obtain⟨t2,t3⟩:=t;simp only[List.length_range] at h3;refine⟨w,?_,hw,λi=>⟨h1 i,λh=>?_⟩⟩;have dw:Ai [(m2 jv (m1 cw<|aa 0)<|cI 1),(m1 yi<|cI 1),(m1 yi<|cI 1)] [.sh<|Pg ls,.ow<|fC<|(List.replicate ls.length false).set (ls.length-1) true,.no,.no]=.ok ((List.range ls.length).map λ(k:Nat)=>.int<|(ls.length:Int)-1-k) [.sh<|Pg ls,.ow<|fC<|(List.replicate ls.length false).set (ls.length-1) true,.no,.no]:=by simp[ln,dn]
 unfold zP Ls;exact rn;induction h with|last=>exact h2|step h e hr ih=>exact h3 _ WR ih _ e _ hr
theorem inK(k:Nat)(hk:k<32)(js:WC)(hj:∀j∈js,j<32):((js.map λj=>D.str<|nm j).any λy=>eqB y<|.str<|nm k)=decide (k∈js)/\(js.map λj=>D.str<|nm j).all iI=true:=by induction js with|nil=>simp|cons j js ih=>obtain⟨h1,h2⟩:=ih λx hx=>hj x<|SY _ hx;refine⟨?_,?_⟩;rw[BE,yU,h1,Ph _ _ (hj j TL) hk];by_cases e:j=k;simp[e];have e':¬k=j:=λz=>e z.symm;simp[e,e'];rw[BE,JI,h2];rfl
theorem P5(k:Nat)(hk:k<32)(js:WC)(hj:∀j∈js,j<32):inD false (.str<|nm k) (.tup<|js.map λj=>D.str<|nm j)=some (.bl<|decide<|k∈js):=by obtain⟨h1,h2⟩:=inK k hk js hj;unfold inD;rw[Q1U];dsimp only;rw[h2,h1];rfl
def cE(ls:Uc)(i:Nat):PL:=ls.getD i default
def kd(ls:Uc)(i:Nat):Nat:=(cE ls i).k
def sd(ss:T1)(i:Nat):Zw:=ss.getD i []
def fN(ls:Uc)(i:Nat):WC:=(cE ls i).ns
theorem Ez(ls:Uc)(i:Nat):kd ls i<32:=by have:=(cE ls i).Wq;unfold kd;lia
theorem vW(ls:Uc)(i:Nat)(h:i<ls.length):aj (Pg ls) (.int (i:Int))=some (cE ls i).d:=Nh ls i _ (by simp[cE,h])
theorem bu(ss:T1)(i:Nat)(h:i<ss.length):aj (aG ss) (.int (i:Int))=some (T<|sd ss i):=Ii ss i _ (by simp[sd,h])
def eR(ls:Uc)(w:Qg)(p:Nat):WC:=(List.range ls.length).flatMap λi=>if w.getD i false then((fN ls i).filter (λr=>decide<|r=p)).map λ_=>i else []
theorem opD(ls:Uc)(l:PL)(P W:D)(p i:Nat)(acc:D)(t:Sl):aC 1 (cG<|au lh [.val<|aa 5]) (ao 6) dE du [.sh P,.sh W,.sh<|.int p,.ow acc,.sh<|.int i,.sh l.d]=.ok (fj<|(l.ns.filter λr=>decide<|r=p).map λ_=>i) [.sh P,.sh W,.sh<|.int p,.ow acc,.sh<|.int i,.sh l.d]:=by
 have n:=l.named;have fw:=l.lr;generalize l.ns=ns at n fw ⊢;generalize l.d=ld at n ⊢;refine xC (λ(a:Nat)=>D.int (a:Nat)) (λr=>decide<|r=p) (λ_=>D.int i) ns ah WR (by rw[fj,QF];rfl) (λa _ acc=>?_) λa _ _ acc=>?_;have e:eh (.int (a:Int)) (.int (p:Int))=some (.bl<|decide<|a=p):=by rw[fV];congr 3;exact propext Int.ofNat_inj
 dsimp only[List.cons_append,List.nil_append];unfold dE;exact ah;dsimp only[List.cons_append,List.nil_append];unfold du;exact ah
theorem oT(ls:Uc):iE (ls.map PL.d)=(List.range ls.length).map λ(i:Nat)=>D.tup [.int i,(cE ls i).d]:=by
 rw[jE];refine WT T2 λi h1 h2=>?_;have h:i<ls.length:=by simpa using h2
 simp[h,cE]
theorem Q01(ls:Uc)(w:Qg)(p:Nat)(hw:w.length=ls.length)(hl:ls.length<=100):DJ [Pg ls,fC w,.int p]=.ok (fj<|eR ls w p) []:=by
 rw[DJ,ef _ _ _ _ rfl];have en:gK [Pg ls]=some ((List.range ls.length).map λ(i:Nat)=>D.tup [.int i,(cE ls i).d]):=by unfold Pg;rw[rN,oT]
 let f:=λ(i:Nat)=>if w.getD i false then((fN ls i).filter (λr=>decide<|r=p)).map λ_=>i else []
 obtain⟨_,t,_,L⟩:=hV (g:=b8 [4,5]) (body:=cq) (λ(i:Nat)=>D.tup [.int i,(cE ls i).d]) (λ(s:WC)(t:Sl×Sl)=>[.sh<|Pg ls,.sh<|fC w,.sh<|.int p,.ow<|fj s,t.1,t.2]) iJ
  (λk s=>s.length<=3*k) (λs i=>s++f i) (List.range ls.length) [] (.no,.no) ⟨rfl,rfl⟩ T2 (by
  intro j i hi s t ht hP;obtain⟨t4,t5⟩:=t;obtain⟨f4,f5⟩:=ht;dsimp only at f4 f5;obtain⟨rfl,hi⟩:=bF hi;obtain⟨b,hb⟩:∃b,w[i]?=some b:=⟨_,UK WR⟩;have bi:=jB w i b hb;have il:isLst (some<|fj s)=true:=rfl;have fw:=(cE ls i).lr;cases b with
  |false=>
   have e:f i=[]:=by simp[f,hb]
   refine⟨by rw[e];simp;lia,(.sh<|.int i,.sh (cE ls i).d),⟨rfl,rfl⟩,?_⟩;rw[e];generalize (cE ls i).d=ld;simp[aE,cq,f4,f5,bi]
  |true=>
   have e:f i=(((cE ls i).ns.filter (λr=>decide<|r=p)).map λ_=>i):=by simp[f,hb,fN]
   have pc:=opD ls (cE ls i) (Pg ls) (fC w) p i (fj s) .no;rw[<-e] at pc;have le:(f i).length<=3:=by rw[e,SS];exact HJ (Q8 _ _) fw
   have ex:Du (fj<|f i) (fj s)=some (fj<|s++f i):=by unfold fj;rw[HD _ _ (by simp[iz];lia),S6]
   refine⟨by simp;lia,(.sh<|.int i,.sh (cE ls i).d),⟨rfl,rfl⟩,?_⟩;generalize (cE ls i).d=ld at *;generalize f i=fi at *;simp[aE,cq,f4,f5,bi,pc,il,ex])
 have e:(List.range ls.length).foldl (λs i=>s++f i) []=eR ls w p:=by
  have g:∀(xs:WC)(a:WC),xs.foldl (λs i=>s++f i) a=a++xs.flatMap f:=by intro xs;induction xs with|nil=>intro a;simp|cons x xs ih=>intro a;simp[ih]
  rw[g];rfl
 rw[e] at L;have l0:D.lst []=fj []:=rfl;simp[K3,l0,en,L]
def K4:WC:=[0,12,13,14]
def S3:WC:=[6,10,11]
def H2:WC:=[7,14]
def OD(ls:Uc)(ss:T1)(i p:Nat):Bool:=decide (kd ls i∈S3)&&!decide (sd ss i=sd ss p)
def lF(ls:Uc)(ss:T1)(p:Nat)(ms:WC):Bool:=decide (p=ls.length-1)||decide (kd ls p∈K4)||ms.any (λi=>decide<|kd ls i∈H2)||(!decide (kd ls p=1)&&(decide (1<ms.length)||ms.any λi=>OD ls ss i p))
theorem Q2Q(ls:Uc)(ss:T1)(i p:Nat)(hi:i<ls.length)(hp:p<ls.length)(hs:ss.length=ls.length):zN [Pg ls,aG ss,.int i,.int p]=.ok (.bl<|OD ls ss i p) []:=by rw[zN,ef _ _ _ _ rfl];have ix:=vW ls i hi;have kk:=PL.kind<|cE ls i;have kl:=Ez ls i;have ik:inD false (.str<|nm<|kd ls i) (.tup [.str<|nm 6,.str<|nm 10,.str<|nm 11])=some (.bl<|decide<|kd ls i∈S3):=P5 (kd ls i) kl S3 (by simp[S3]);have s1:=bu ss i WR;have s2:=bu ss p WR;have e:(cE ls i).k=kd ls i:=rfl;rw[e] at kk;generalize (cE ls i).d=ld at *;unfold OD;by_cases h:kd ls i∈S3;rw[Pj h] at ik;simp[CM,ix,kk,ik,s1,s2,h];rw[Zq h] at ik;simp[CM,ix,kk,ik,h]
theorem xU(ls:Uc)(ss:T1)(p:Nat)(ms:WC)(hp:p<ls.length)(hs:ss.length=ls.length)(hm:∀i∈ms,i<ls.length)(hl:ms.length<=1000):DF [Pg ls,aG ss,.int p,fj ms]=.ok (.bl<|lF ls ss p ms) []:=by
 have ix:=vW ls p hp;have kk:=PL.kind<|cE ls p;have kl:=Ez ls p;have e:(cE ls p).k=kd ls p:=rfl;rw[e] at kk;have i4:inD false (.str<|nm<|kd ls p) (.tup [.str<|nm 0,.str<|nm 12,.str<|nm 13,.str<|nm 14])=some (.bl<|decide<|kd ls p∈K4):=P5 (kd ls p) kl K4 (by simp[K4]);have ln:=jM ls;have c1:aC 1 (cG<|aa 3) (ao 5) (VP.ret true) kU [.sh<|Pg ls,.sh<|aG ss,.sh<|.int p,.sh<|fj ms,.sh<|.str<|nm<|kd ls p]=.ok (.lst<|ms.map λi=>D.bl<|decide<|kd ls i∈H2) [.sh<|Pg ls,.sh<|aG ss,.sh<|.int p,.sh<|fj ms,.sh<|.str<|nm<|kd ls p]:=by refine cJ (λ(i:Nat)=>D.int i) (λi=>D.bl<|decide<|kd ls i∈H2) ms rfl WR rfl λi hi acc=>?_;have ixi:=vW ls i<|hm i hi;have kki:=PL.kind<|cE ls i;have ei:(cE ls i).k=kd ls i:=rfl;rw[ei] at kki;have ik:inD false (.str<|nm<|kd ls i) (.tup [.str<|nm 7,.str<|nm 14])=some (.bl<|decide<|kd ls i∈H2):=P5 (kd ls i) (Ez ls i) H2 (by simp[H2]);generalize (cE ls i).d=ld at *;dsimp only[List.cons_append,List.nil_append];unfold kU;exact ah
 have c2:aC 1 (cG<|aa 3) (ao 5) (VP.ret true) kW [.sh<|Pg ls,.sh<|aG ss,.sh<|.int p,.sh<|fj ms,.sh<|.str<|nm<|kd ls p]=.ok (.lst<|ms.map λi=>D.bl<|OD ls ss i p) [.sh<|Pg ls,.sh<|aG ss,.sh<|.int p,.sh<|fj ms,.sh<|.str<|nm<|kd ls p]:=by refine cJ (λ(i:Nat)=>D.int i) (λi=>D.bl<|OD ls ss i p) ms rfl WR rfl λi hi acc=>?_;have:=Q2Q ls ss i p (hm i hi) hp hs;dsimp only[List.cons_append,List.nil_append];unfold kW;exact ah
 have a1:=Cv (λi=>decide<|kd ls i∈H2) ms;have a2:=Cv (λi=>OD ls ss i p) ms;have e1:=Dq (kd ls p) 1 kl WR;have lm:cw (fj ms)=some (.int ms.length):=by simp[fj]
 generalize (cE ls p).d=ld at *;generalize D.lst (ms.map λi=>D.bl<|decide<|kd ls i∈H2)=L1 at *;generalize D.lst (ms.map λi=>D.bl<|OD ls ss i p)=L2 at *;generalize fj ms=N at *;generalize Pg ls=Pl at *;generalize aG ss=Sl at *;have g1:HK (.int (ms.length:Int)) (.int 1)=some (.bl<|decide<|1<ms.length):=by rw[xM];congr 3;exact propext WR
 have g2:eh (.int (p:Int)) (.int<|(ls.length:Int)-1)=some (.bl<|decide<|p=ls.length-1):=by rw[fV];congr 3;exact propext WR
 unfold lF DF KN;generalize decide (p=ls.length-1)=b1 at *;generalize decide (kd ls p∈K4)=b2 at *;generalize decide (kd ls p=1)=b3 at *;generalize decide (1<ms.length)=b4 at *;generalize ms.any (λi=>decide<|kd ls i∈H2)=b5 at *;generalize ms.any (λi=>OD ls ss i p)=b6 at *;cases b1;cases b2;cases b5;cases b3;cases b4;cases b6<;>exact rn;exact rn;exact rn;exact rn;exact rn;exact rn
def sf(ls:Uc)(ss:T1)(w:Qg):Qg:=(List.range ls.length).map λp=>w.getD p false&&lF ls ss p (eR ls w p)
theorem qq(ls:Uc)(w:Qg)(p i:Nat):i∈eR ls w p<->i<ls.length/\w.getD i false=true/\p∈fN ls i:=by
 unfold eR;rw[List.mem_flatMap];constructor;rintro⟨j,hj,h⟩;rw[List.mem_range] at hj;by_cases q:w.getD j false=true;rw[Zh q] at h;obtain⟨r,hr,e⟩:=List.mem_map.mp h;subst e;rw[List.mem_filter] at hr;have:r=p:=by simpa using hr.2
 subst this;exact⟨hj,q,hr.1⟩;rw[Y4 q] at h;simp at h;rintro⟨h1,h2,h3⟩;refine⟨i,List.mem_range.mpr h1,?_⟩;rw[Zh h2];exact List.mem_map.mpr ⟨p,List.mem_filter.mpr ⟨h3,T2⟩,rfl⟩
theorem yg(ls:Uc)(w:Qg)(p:Nat):(eR ls w p).length<=3*ls.length:=by
 unfold eR;generalize ls.length=n;induction n with
 |zero=>simp|succ n ih=>
  rw[List.range_succ,List.flatMap_append,RH];have:([n].flatMap λi=>if w.getD i false then((fN ls i).filter (λr=>decide<|r=p)).map λ_=>i else []).length<=3:=by rw[List.flatMap_cons,List.flatMap_nil,JS];split;rw[SS];exact HJ (Q8 _ _) (cE ls n).lr;simp
  lia
theorem Q1F(ls:Uc)(ss:T1)(wf:Wf ls)(h0:ls≠[])(hl:ls.length<=100)(hs:ss.length=ls.length):∃w,zP [Pg ls]=.ok (fC w) []/\w.length=ls.length/\(∀i,w[i]?=some true<->qX ls i)/\zH [Pg ls,aG ss]=.ok (fC<|sf ls ss w) []:=by
 obtain⟨w,h1,h2,h3⟩:=sJ ls wf h0 hl;refine⟨w,h1,h2,h3,?_⟩;rw[zH,ef _ _ _ _ rfl];have en:gK [Pg ls]=some ((List.range ls.length).map λ(i:Nat)=>D.tup [.int i,(cE ls i).d]):=by unfold Pg;rw[rN,oT]
 let f:=λp=>w.getD p false&&lF ls ss p (eR ls w p);obtain⟨_,t,_,L⟩:=hV (g:=b8 [4,5]) (body:=eO) (λ(i:Nat)=>D.tup [.int i,(cE ls i).d]) (λ(s:Qg)(t:Sl×Sl)=>[.sh<|Pg ls,.sh<|aG ss,.sh<|fC w,.ow<|fC s,t.1,t.2]) iJ
  (λk s=>s.length=k) (λs i=>s++[f i]) (List.range ls.length) [] (.no,.no) ⟨rfl,rfl⟩ rfl (by
  intro j i hi s t ht hP;obtain⟨t4,t5⟩:=t;obtain⟨f4,f5⟩:=ht;dsimp only at f4 f5;obtain⟨rfl,hi⟩:=bF hi;obtain⟨b,hb⟩:∃b,w[i]?=some b:=⟨_,UK WR⟩;have hg:w.getD i false=b:=by simp[hb]
  have bi:=jB w i b hb;have il:isLst (some<|fC s)=true:=rfl;have nl:=yg ls w i;have na:=Q01 ls w i h2 hl;have ik:=xU ls ss i (eR ls w i) hi hs (λm hm=>((qq ls w i m).mp hm).1) WR;have ap:fQ (.bl<|f i) (fC s)=some (fC<|s++[f i]):=by unfold fC;rw[fS _ _ (by simp;lia),S6];rfl
  refine⟨by simp[hP],(.sh<|.int i,.sh (cE ls i).d),⟨rfl,rfl⟩,?_⟩;generalize (cE ls i).d=ld at *;cases b with
  |false=>
   have e:f i=false:=by simp only[f,hg,Bool.false_and]
   rw[e] at ap ⊢;simp[aE,eO,f4,f5,bi,il,ap]
  |true=>
   have e:f i=lF ls ss i (eR ls w i):=by simp only[f,hg,Bool.true_and]
   rw[e] at ap ⊢;simp[aE,eO,f4,f5,bi,na,ik,il,ap])
 have e:(List.range ls.length).foldl (λs i=>s++[f i]) []=sf ls ss w:=by
  have g:∀(xs:WC)(a:Qg),xs.foldl (λs i=>s++[f i]) a=a++xs.map f:=by intro xs;induction xs with|nil=>intro a;simp|cons x xs ih=>intro a;simp[ih]
  rw[g];rfl
 rw[e] at L;have l0:D.lst []=fC []:=rfl;obtain⟨t4,t5⟩:=t;unfold KQ;simp only[wL,yK,FU,XN,if_neg (show ¬(false=true) by decide)];rw[jU,show aO 2 _ _=.ok .nx [.sh<|Pg ls,.sh<|aG ss,.sh<|fC w,.no,.no,.no] by simp[h1],yI];rw[jU,show gU 3 _ _=.ok .nx [.sh<|Pg ls,.sh<|aG ss,.sh<|fC w,.ow<|fC [],.no,.no] by simp[l0],yI];rw[jU,show iQ _ _ _ _=.ok .nx [.sh<|Pg ls,.sh<|aG ss,.sh<|fC w,.ow<|fC<|sf ls ss w,t4,t5] by simp[en,L,-List.map_map],yI];simp
theorem meet_comm(one other:Zw):meet one other=meet other one:=by
 have e:pairs other one=(pairs one other).map λp=>(p.2,p.1):=by unfold pairs;rw[Nat.max_comm];simp
 unfold meet;rw[e];have h1:∀x y,qu y x=qu x y:=λx y=>by unfold qu;grind
 have h2:∀x y,qu x y=true->pk y x=pk x y:=λx y=>by unfold qu pk;grind
 simp only[List.all_map,List.map_map,Function.comp_def,h1];split;rename_i q;congr 2;refine List.map_congr_left λp hp=>(h2 _ _ ?_).symm;exact List.all_eq_true.mp q p hp;rfl
theorem meet_self(S:Zw):meet S S=some S:=by
 have z:=jZ S S;rw[Nat.max_self] at z;have e:ahead S S.length=S:=by simp[ahead]
 rw[e] at z;have a:(pairs S S).all (λp=>qu p.1 p.2)=true:=by
  rw[<-Ji,<-z];refine List.all_eq_true.mpr λp hp=>?_;have:p.1=p.2:=by obtain⟨i,hi,rfl⟩:=List.mem_iff_getElem.mp hp;simp
  simp[qu,this]
 unfold meet;rw[Zh a,<-Xx,<-z];congr 1;refine WT T2 λi h1 h2=>?_;simp[pk]
theorem zT:∀(a t:Zw),a.length=t.length->(((a.zip t).all (λp=>qu p.1 p.2)=true/\(a.zip t).map (λp=>pk p.1 p.2)=t)<->∀i<t.length,a.getD i 0=1\/a.getD i 0=t.getD i 0)
|[],[],_=>T2|x::a,y::t,h=>by
 have ih:=zT a t (by simpa using h);simp only[List.zip_cons_cons,List.all_cons,List.map_cons,Bool.and_eq_true,List.cons.injEq];constructor;rintro⟨⟨h1,h2⟩,h3,h4⟩ i hi;cases i with|zero=>simp only[List.getD_cons_zero];unfold pk at h3;split at h3;exact .inl ‹_›;exact .inr h3|succ i=>simp only[List.getD_cons_succ];exact ih.mp ⟨h2,h4⟩ i (by simpa using hi)
 intro k;have k0:=k 0 T2;simp only[List.getD_cons_zero] at k0;have:=ih.mpr λi hi=>by have:=k (i+1) (by simpa using hi);simpa only[List.getD_cons_succ] using this
 refine⟨⟨?_,this.1⟩,?_,this.2⟩;unfold qu;rcases k0 with h|h<;>simp[h];unfold pk;split;rfl;rcases k0 with h|h;contradiction;exact h
theorem Bb(s:Zw)(n i:Nat)(h:s.length<=n)(hi:i<n):(ahead s n).getD i 0=if i<n-s.length then 1 else s.getD (i-(n-s.length)) 0:=by unfold ahead;by_cases c:i<n-s.length;rw[Zh c,Vh,IV (by simpa using c)];simp[c];rw[Y4 c,Vh,Jn (by simp;lia),Vh];simp
theorem oh(s t:Zw)(h:s.length<=t.length)(k:∀k<s.length,s.getD k 0=1\/s.getD k 0=t.getD (t.length-s.length+k) 0):meet s t=some t:=by
 have z:=jZ s t;have e:max s.length t.length=t.length:=WR;rw[e] at z;have ht:ahead t t.length=t:=by simp[ahead]
 rw[ht] at z;have f:=zT (ahead s t.length) t (by rw[my _ _ h]);rw[z,Ji,Xx] at f;obtain⟨q1,q2⟩:=f.mpr λi hi=>by rw[Bb s _ _ h hi];split;exact .inl rfl;have:=k (i-(t.length-s.length)) WR;rwa [show t.length-s.length+(i-(t.length-s.length))=i by lia] at this
 unfold meet;rw[Zh q1,q2]
def gb(n tn:Nat):Zw:=(List.range n).map λ(k:Nat)=>((k:Int)+tn) % n
def uv(n:Nat)(o:Zw):Bool:=(decide ((mj n).Pairwise (·<=·))&&(mj n).isPerm o)&&(decide (o.length=n)&&(List.range n).all λ(j:Nat)=>o.contains (j:Int))
theorem Gu:(List.range 5).all (λn=>(List.range 4).all λtn=>decide (max 1 n<=tn)||(uv n (gb n tn)&&uv n (gb n tn).reverse))=true:=by decide +kernel
theorem AY(n tn:Nat)(hn:n<=4)(ht:tn<max 1 n)(b:Bool):sortI (if b then(gb n tn).reverse else gb n tn)=mj n/\(if b then(gb n tn).reverse else gb n tn).length=n/\∀j:Nat,j<n->(j:Int)∈(if b then(gb n tn).reverse else gb n tn):=by
 have h:=List.all_eq_true.mp (List.all_eq_true.mp Gu n (by simp;lia)) tn (by simp;lia);have h2:decide (max 1 n<=tn)=false:=by simp;lia
 rw[h2,Bool.false_or,Ss] at h;have key:∀o:Zw,uv n o=true->sortI o=mj n/\o.length=n/\∀j:Nat,j<n->(j:Int)∈o:=λo q=>by simp only[uv,Bool.and_eq_true,decide_eq_true_eq,List.all_eq_true] at q;exact⟨(wI (List.isPerm_iff.mp q.1.2) q.1.1).symm,q.2.1,λj hj=>by simpa using q.2.2 j (by simpa using hj)⟩
 cases b;exact key _ h.1;exact key _ h.2
theorem Q19(s:Zw):ak s.reverse=ak s:=by induction s with|nil=>rfl|cons x s ih=>rw[JC,wt,ih];simp only[ak];rw[Int.mul_one,Int.mul_comm]
def Told(n:Nat)(G S:Nat->Zw):PL->Zw->Prop|.given j,t=>∃k:Nat,j=k/\k<n/\t=G k|.j5 s x,t=>t=s/\Rt x|.turn a o,t=>sortI o=mj (S a).length/\o.length=(S a).length/\t=o.map λx=>(S a).getD x.toNat 0|.cut a k b st m,t=>∃j:Nat,k=j/\j<(S a).length/\(st≠0/\-3<=st/\st<=3)/\0<=m/\(0<m->(0<=b/\b<(S a).getD j 0)/\0<=b+st*(m-1)/\b+st*(m-1)<(S a).getD j 0)/\t=rep (S a) j m|.drop a k p,t=>∃j:Nat,k=j/\j<(S a).length/\(0<=p/\p<(S a).getD j 0)/\t=wo (S a) j|.wide a k,t=>∃j:Nat,k=j/\j<=(S a).length/\t=pin (S a) j 1|.spread a u,t=>meet (S a) u=some u/\t=u|.shape a u,t=>ak (S a)=ak u/\t=u|.shift a k _ x,t=>∃j:Nat,k=j/\j<(S a).length/\Rt x/\t=S a|.one d a,t=>(16<=d/\d<=18)/\t=S a|.both d a b,t=>(19<=d/\d<=25)/\meet (S a) (S b)=some t|.eJ a b c,t=>∃u,meet (S a) (S b)=some u/\meet u (S c)=some t|.fold d a k,t=>∃j:Nat,k=j/\j<(S a).length/\d∈[19,21,22,23]/\((S a).getD j 0=0->d≠22/\d≠23)/\t=wo (S a) j|.run d a k,t=>∃j:Nat,k=j/\j<(S a).length/\d∈[19,21,22,23]/\t=S a|.pick a k b,t=>∃(j:Nat)(y:Int),k=j/\j<(S a).length/\S b=[y]/\t=rep (S a) j y|.join a b k,t=>∃j:Nat,k=j/\j<(S a).length/\(S a).length=(S b).length/\wo (S a) j=wo (S b) j/\t=rep (S a) j ((S a).getD j 0+(S b).getD j 0)
theorem Told.mono{n:Nat}{G S S':Nat->Zw}{l:PL}{t:Zw}(h:Told n G S l t)(e:∀a∈l.ns,S' a=S a):Told n G S' l t:=by cases l<;>simp only[PL.ns,List.mem_cons,List.not_mem_nil,or_false,forall_eq_or_imp,forall_eq] at e<;>simp only[Told] at h ⊢<;>first|exact h|simpa only[e] using h
theorem Told.oH{n:Nat}{G S:Nat->Zw}{l:PL}{t:Zw}(h:Told n G S l t):l.oH:=by
 cases l<;>simp only[Told,PL.oH] at h ⊢
 lia
 lia
 obtain⟨_,_,_,h,_⟩:=h;simp at h;lia;obtain⟨_,_,_,h,_⟩:=h;simp at h;lia
def SI(s:Zw):Prop:=s.length<=4/\(∀x∈s,0<=x/\x<=24)/\ak s<=27
def Pre(s:Zw):Prop:=s.length<=9/\∀x∈s,0<=x/\x<=100
theorem SI.pre{s:Zw}(h:SI s):Pre s:=⟨by have:=h.1;lia,λx hx=>by have:=h.2.1 x hx;lia⟩
theorem SI.get{s:Zw}(h:SI s)(k:Nat):0<=s.getD k 0/\s.getD k 0<=24:=by by_cases hk:k<s.length;have:=h.2.1 s[k]<|Vz hk;simpa[hk] using this;rw[Vh,By WR];simp
theorem SI.Fv{s:Zw}(h:SI s):0<=ak s:=(uA s λx hx=>by have:=h.2.1 x hx;lia).1
theorem rM(s:Zw)(k:Nat)(hk:k<=s.length):g6 (T s) none (some (k:Int))=some (T<|s.take k):=by have:g6 (T s) none (some (k:Int))=some (.tup<|cutD (s.map .int) none<|some (k:Int)):=rfl;rw[this,cutD,SS,pw _ _ _ hk,lS];simp[T]
theorem pU(s:Zw)(k:Nat)(hk:k<=s.length):g6 (T s) (some (k:Int)) none=some (T<|s.drop k):=by have:g6 (T s) (some (k:Int)) none=some (.tup<|cutD (s.map .int) (some (k:Int)) none):=rfl;rw[this,cutD,SS,pw _ _ _ hk,lS,Ic T2];simp[T]
theorem xy(s:Zw)(h:Pre s):vx [T s]=.ok (.int<|ak s) []:=by rw[vx,ef _ _ _ _ rfl];obtain⟨_,t,_,L⟩:=hV (g:=ao 2) (body:=lH) D.int (λ(p:Int)(t:Sl)=>[.sh<|T s,.sh<|.int p,t]) p9 (λ_ _=>True) (λp x=>p*x) s 1 .no rfl trivial (by intro i x hx p t ht _;have hm:=h.2 x<|Ct hx;have hf:free (some t)=true:=ht;refine⟨trivial,.sh<|.int x,rfl,?_⟩;simp[aE,lH,hf,cV p x WR WR]);rw[kO,Int.one_mul] at L;simp[KR,L]
inductive iT{A B:Type}(P:A->B->Prop):List A->List B->Prop where
 |nil:iT P [] []|cons {a:A} {b:B} {as:List A} {bs:List B} (h:P a b) (t:iT P as bs):iT P (a::as) (b::bs)
theorem iT.len{A B:Type}{P:A->B->Prop}{as:List A}{bs:List B}(h:iT P as bs):as.length=bs.length:=by induction h with|nil=>rfl|cons _ _ ih=>exact congrArg Nat.succ ih
theorem iT.right{A B:Type}{P:A->B->Prop}{as:List A}{bs:List B}(e:iT P as bs):∀b∈bs,∃a∈as,P a b:=by induction e with|nil=>intro b hb;cases hb|@cons a _ _ _ h _ ih=>intro b hb;rcases List.mem_cons.mp hb with rfl|hb;exact⟨a,TL,h⟩;obtain⟨a',h1,h2⟩:=ih b hb;exact⟨a',SY _ h1,h2⟩
theorem mH{A:Type}{it:M (List D)}{elt:M D}{k:Nat}{r0:ay}(mk:A->D)(R:Nat->ay)(P:A->Int->Prop)(as:List A)(p:Nat)(BX:∀q,(R q).length=k)(mM:it r0=.ok (as.map mk) (R p))(hL:as.length<=1000)
  (he:∀a∈as,∀q,∃q' b,P a b/\∀acc,elt (R q++[.sh<|mk a,.ow acc])=.ok (.int b) (R q'++[.sh<|mk a,.ow acc])) :
  ∃q' bs,aC 1 it (ao k) (ret true) elt r0=.ok (Z bs) (R q')/\iT P as bs:=by
 have ch:∀(a:A)(q:Nat),∃z:Nat×Int,a∈as->P a z.2/\∀acc,elt (R q++[.sh<|mk a,.ow acc])=.ok (.int z.2) (R z.1++[.sh<|mk a,.ow acc]):=λa q=>by by_cases h:a∈as;obtain⟨q',b,h1,h2⟩:=he a h q;exact⟨(q',b),λ_=>⟨h1,h2⟩⟩;exact⟨(0,0),λz=>absurd z h⟩
 let F:=λa q=>Classical.choose<|ch a q;have hF:∀a q,a∈as->P a (F a q).2/\∀acc,elt (R q++[.sh<|mk a,.ow acc])=.ok (.int (F a q).2) (R (F a q).1++[.sh<|mk a,.ow acc]):=λa q=>Classical.choose_spec<|ch a q;have h:=(MF (elt:=elt) mk R (λ_ _=>True) (λq a=>(F a q).1) (λq a=>.int (F a q).2) as p BX mM WR trivial (λi a ha q acc _=>⟨trivial,(hF a q<|Ct ha).2 acc⟩)).1;have em:∀(as:List A)(s:Nat),outs (λq a=>(F a q).1) (λq a=>D.int (F a q).2) s as=(outs (λq a=>(F a q).1) (λq a=>(F a q).2) s as).map D.int:=by intro as;induction as with|nil=>intro s;rfl|cons a as ih=>intro s;simp[outs,ih]
 have ea:∀(bs:List A)(s:Nat),(∀a∈bs,a∈as)->iT P bs (outs (λq a=>(F a q).1) (λq a=>(F a q).2) s bs):=by intro bs;induction bs with|nil=>intro s _;exact .nil|cons a bs ih=>intro s hb;exact .cons (hF a s<|hb a TL).1 (ih _ λx hx=>hb x<|SY _ hx)
 rw[em] at h;exact⟨_,_,h,ea as p λa h=>h⟩
theorem iT.aax{P:Int->Int->Prop}{as bs:Zw}(e:iT P as bs):∀k<as.length,P (as.getD k 0) (bs.getD k 0):=by induction e with|nil=>intro k hk;cases hk|cons h _ ih=>intro k hk;cases k with|zero=>exact h|succ k=>exact ih k (Nat.lt_of_succ_lt_succ hk)
theorem drawn(ns:Zw)(q n:Nat)(h:0<n):∃b:Nat,bN [Row ns q,.int n]=.ok (.int b) [Row ns<|q+1]/\b<n:=by have t:=wN ns q n WR;have r1:0<=cell ns q % (n:Int):=Int.emod_nonneg _ WR;have r2:cell ns q % (n:Int)<n:=wY _ WR;refine⟨(cell ns q % (n:Int)).toNat,?_,WR⟩;rwa [show ((cell ns q % (n:Int)).toNat:Int)=cell ns q % (n:Int) by lia]
theorem aP(ns:Zw)(q:Nat)(n:Int)(h:0<n):∃b:Int,bN [Row ns q,.int n]=.ok (.int b) [Row ns<|q+1]/\0<=b/\b<n:=⟨_,wN ns q n h,Int.emod_nonneg _ WR,wY _ h⟩
theorem j8(n:Nat)(h:n<=1000):rk [.int (n:Int)]=some ((List.range n).map λ(k:Nat)=>.int k):=qF _ _ WR WR WR
theorem Yo(ns:Zw)(q a:Nat)(s:Zw)(hs:SI s):∃(o:Zw)(q':Nat),fW [Row ns q,.int a,T s,.int 0]=.ok (.tup [.tup [.str<|nm 2,.int a,T o],T<|o.map λx=>s.getD x.toNat 0]) [Row ns q']/\sortI o=mj s.length/\o.length=s.length:=by
 have hl:=hs.1;obtain⟨N,hN⟩:∃N:Nat,N=max 1 s.length:=⟨_,rfl⟩;obtain⟨tn,tm,htn⟩:=drawn ns q N WR;have mx:maxD [.int 1,.int (s.length:Int)]=some (.int (N:Int)):=by rw[oY];congr 2;lia
 have er:=j8 s.length WR;have hc:aC 1 (bO [(aa 4)]) (ao 10) (VP.ret true) i9 [.io<|Row ns<|q+1,.sh<|.int a,.sh<|T s,.sh<|.int 0,.sh<|.int s.length,.sh<|.int tn,.no,.no,.no,.no]=.ok (Z<|gb s.length tn) [.io<|Row ns<|q+1,.sh<|.int a,.sh<|T s,.sh<|.int 0,.sh<|.int s.length,.sh<|.int tn,.no,.no,.no,.no]:=by refine cJ (λ(k:Nat)=>D.int k) (λk=>D.int<|((k:Int)+tn) % s.length) (List.range s.length) ah (by simp;lia) (by simp[Z,gb,Function.comp_def]) λk hk acc=>?_;have Ei:=List.mem_range.mp hk;have md:=bP ((k:Int)+tn) s.length WR;unfold i9;exact ah
 have Eb:∀o:Zw,sortI o=mj s.length->o.length=s.length->aC 1 (cG<|aa 6) (ao 10) (VP.ret true) ja [.io<|Row ns<|q+2,.sh<|.int a,.sh<|T s,.sh<|.int 0,.sh<|.int s.length,.sh<|.int tn,.sh<|Z o,.no,.no,.no]=.ok (Z<|o.map λx=>s.getD x.toNat 0) [.io<|Row ns<|q+2,.sh<|.int a,.sh<|T s,.sh<|.int 0,.sh<|.int s.length,.sh<|.int tn,.sh<|Z o,.no,.no,.no]:=λo ho Za=>by refine cJ D.int (λx=>D.int<|s.getD x.toNat 0) o ah WR (by simp[Z,Function.comp_def]) λx hx acc=>?_;obtain⟨j,rfl,hj⟩:=nB ho hx;have ix:aj (T s) (.int j)=some (.int<|s.getD (j:Int).toNat 0):=cA s j WR WR;unfold ja;exact ah
 obtain⟨b,t2,_,_⟩:=aP ns (q+1) 2 WR;by_cases c:b=1;obtain⟨o1,o2,_⟩:=AY s.length tn hl WR true;simp only[if_true] at o1 o2;have h2:=Eb _ o1 o2;have rv:JA (Z<|gb s.length tn)=some (Z (gb s.length tn).reverse):=by simp[Z,JA]
 generalize gb s.length tn=o at *;refine⟨o.reverse,q+2,?_,o1,o2⟩;unfold fW pO;exact rn;obtain⟨o1,o2,_⟩:=AY s.length tn hl WR false;simp only[Bool.false_eq_true,if_false] at o1 o2;have h2:=Eb _ o1 o2;generalize gb s.length tn=o at *;refine⟨o,q+2,?_,o1,o2⟩;unfold fW pO;exact rn
theorem Yp(ns:Zw)(q a:Nat)(s:Zw)(hs:SI s):∃(k q':Nat),fW [Row ns q,.int a,T s,.int 1]=.ok (.tup [.tup [.str<|nm 5,.int a,.int k],T<|pin s k 1]) [Row ns q']/\k<=s.length:=by have hl:=hs.1;obtain⟨k,tm,hk⟩:=drawn ns q (s.length+1) WR;rw[show ((s.length+1:Nat):Int)=(s.length:Int)+1 by lia] at tm;have c1:=rM s k WR;have c2:=pU s k WR;have a1:aV (T<|s.take k) (.tup [.int 1])=_:=dX (s.take k) [1] (by simp[iz];lia);have a2:=dX (s.take k++[1]) (s.drop k) (by simp[iz];lia);rw[show s.take k++[1]++s.drop k=pin s k 1 by simp[pin]] at a2;exact⟨k,q+1,by unfold fW pO;exact rn,WR⟩
theorem Yq(ns:Zw)(q a:Nat)(s:Zw)(hs:SI s):∃(u:Zw)(q':Nat),fW [Row ns q,.int a,T s,.int 2]=.ok (.tup [.tup [.str<|nm 6,.int a,T u],T u]) [Row ns q']/\meet s u=some u/\Pre u:=by
 have hl:=hs.1;obtain⟨q1,ys,hc,he⟩:=mH (it:=cG<|aa 2) (elt:=jb) (k:=10) (r0:=[.io<|Row ns q,.sh<|.int a,.sh<|T s,.sh<|.int 2,.sh<|.int s.length,.no,.no,.no,.no,.no]) D.int (λq=>[.io<|Row ns q,.sh<|.int a,.sh<|T s,.sh<|.int 2,.sh<|.int s.length,.no,.no,.no,.no,.no]) (λx y=>(0<=y/\y<=24)/\(x=1\/x=y)) s q (λ_=>rfl) ah WR (λx hx q'=>by
  obtain⟨y,tt,_,_⟩:=aP ns q' 4 WR;have hb:=hs.2.1 x hx;have i0:aj (.lst [.int x,.int y]) (.int<|if x=1 then 1 else 0)=some (.int<|if x=1 then y else x):=by split<;>rfl
  have ii:intD [.bl<|decide<|x=1]=some (.int<|if x=1 then 1 else 0):=by rw[Ab];simp
  refine⟨q'+1,if x=1 then y else x,by split<;>lia,λacc=>?_⟩;unfold jb;exact ah)
 have hy:∀y∈ys,0<=y/\y<=24:=λy hy=>by obtain⟨_,_,h⟩:=he.right y hy;exact h.1
 have yl:=he.len;have hg:=λk (hk:k<s.length)=>(he.aax k hk).2;obtain⟨b,tt,_,_⟩:=aP ns q1 2 WR;by_cases c:b=1;obtain⟨v,t5,v0,v4⟩:=aP ns (q1+1) 4 WR;have ad:aV (.tup [.int v]) (T ys)=some (T (v::ys)):=dX [v] ys (by simp[iz];lia);refine⟨v::ys,q1+2,by unfold fW pO;exact rn,oh _ _ (by simp;lia) λk hk=>?_,by simp;lia,λx hx=>?_⟩;rw[show (v::ys).length-s.length+k=k+1 by simp;lia,List.getD_cons_succ];exact hg k hk;rcases List.mem_cons.mp hx with rfl|hx
 lia
 have:=hy x hx;lia;refine⟨ys,q1+1,by unfold fW pO;exact rn,oh _ _ WR λk hk=>?_,WR,λx hx=>by have:=hy x hx;lia⟩;rw[show ys.length-s.length+k=k by lia];exact hg k hk
theorem Yr(ns:Zw)(q a:Nat)(s:Zw)(hs:SI s):∃(u:Zw)(q':Nat),fW [Row ns q,.int a,T s,.int 3]=.ok (.tup [.tup [.str<|nm 7,.int a,T u],T u]) [Row ns q']/\ak s=ak u/\Pre u:=by
 have hl:=hs.1;have cl:=xy s hs.pre;have h0:=hs.Fv;have hpr:=hs.2.2;obtain⟨c,tt,_,_⟩:=aP ns q 4 WR;have rv:wC (T s)=some (T s.reverse):=by simp[T,wC]
 obtain⟨t,ht,hpt,hq⟩:∃t,aj (.lst [T s.reverse,.tup [.int<|ak s],.tup [.int 1,.int<|ak s],.tup [.int<|ak s,.int 1]]) (.int c)=some (T t)/\ak s=ak t/\Pre t:=by have c4:c=0\/c=1\/c=2\/c=3:=WR;rcases c4 with c|c|c|c<;>rw[c];exact⟨s.reverse,rfl,(Q19 s).symm,by simp;lia,λx hx=>by have:=hs.2.1 x (by simpa using hx);lia⟩;exact⟨[ak s],rfl,by simp[ak],T2,λx hx=>by simp at hx;subst hx;lia⟩;exact⟨[1,ak s],rfl,by simp[ak],T2,λx hx=>by simp at hx;lia⟩;exact⟨[ak s,1],rfl,by simp[ak],T2,λx hx=>by simp at hx;lia⟩
 refine⟨t,q+1,?_,hpt,hq⟩;unfold fW pO;exact rn
theorem J8(n:Nat)(G S:Nat->Zw)(ns:Zw)(q a:Nat)(hs:SI (S a))(w:Int)(w0:0<=w)(w4:w<4):∃(l:PL)(t:Zw)(q':Nat),fW [Row ns q,.int a,T<|S a,.int w]=.ok (.tup [l.d,T t]) [Row ns q']/\Told n G S l t/\l.ns=[a]/\Pre t:=by
 have ww:w=0\/w=1\/w=2\/w=3:=WR;rcases ww with rfl|rfl|rfl|rfl;obtain⟨o,q',e,h1,h2⟩:=Yo ns q a _ hs;exact⟨.turn a o,_,q',e,⟨h1,h2,rfl⟩,rfl,by have:=hs.1;simp;lia,λx hx=>by obtain⟨y,_,rfl⟩:=List.mem_map.mp hx;have:=hs.get y.toNat;lia⟩;obtain⟨k,q',e,h⟩:=Yp ns q a _ hs;refine⟨.wide a k,_,q',e,⟨k,rfl,h,rfl⟩,rfl,by have:=hs.1;simp[pin];lia,λx hx=>?_⟩;simp only[pin] at hx;rcases List.mem_append.mp hx with hx|hx;have:=hs.2.1 x<|Bn hx;lia;rcases List.mem_cons.mp hx with rfl|hx
 lia
 have:=hs.2.1 x<|O5 hx;lia;obtain⟨u,q',e,h,h2⟩:=Yq ns q a _ hs;exact⟨.spread a u,_,q',e,⟨h,rfl⟩,rfl,h2⟩;obtain⟨u,q',e,h,h2⟩:=Yr ns q a _ hs;exact⟨.shape a u,_,q',e,⟨h,rfl⟩,rfl,h2⟩
theorem gJ(s:Zw)(k:Nat)(x:Int)(hk:k<s.length)(hl:s.length<=100):vz [T s,.int k,.int x]=.ok (T<|rep s k x) []:=by have a1:aV (T<|s.take k) (.tup [.int x])=_:=dX (s.take k) [x] (by simp[iz];lia);have a2:=dX (s.take k++[x]) (s.drop<|k+1) (by simp[iz];lia);have c1:=rM s k WR;have c2:=pU s (k+1) WR;rw[show (((k+1:Nat)):Int)=(k:Int)+1 by lia] at c2;rw[show s.take k++[x]++s.drop (k+1)=rep s k x by simp[rep]] at a2;unfold vz KS;exact rn
theorem uD{s:Zw}{k:Nat}{x:Int}(h:Pre s)(hx:0<=x/\x<=100)(hk:k<s.length):Pre (rep s k x):=by refine⟨by have:=h.1;simp[rep];lia,λy hy=>?_⟩;simp only[rep] at hy;rcases List.mem_append.mp hy with hy|hy;exact h.2 y<|Bn hy;rcases List.mem_cons.mp hy with rfl|hy;exact hx;exact h.2 y (O5 hy)
theorem OP{s:Zw}{k:Nat}(h:Pre s):Pre (wo s k):=by refine⟨by have:=h.1;simp[wo];omega,λy hy=>?_⟩;simp only[wo] at hy;rcases List.mem_append.mp hy with hy|hy;exact h.2 y<|Bn hy;exact h.2 y (O5 hy)
theorem Ny(m:Int)(h0:0<=m)(h4:m<4):∃d,(d∈[19,21,22,23]/\(m<2->d≠22/\d≠23))/\aj (.lst [.str<|nm 19,.str<|nm 21,.str<|nm 22,.str<|nm 23]) (.int m)=some (.str<|nm d):=by have:m=0\/m=1\/m=2\/m=3:=WR;rcases this with rfl|rfl|rfl|rfl;exact⟨19,by decide,rfl⟩;exact⟨21,by decide,rfl⟩;exact⟨22,by decide,rfl⟩;exact⟨23,by decide,rfl⟩
theorem Q0x(n:Nat)(G S:Nat->Zw)(ns:Zw)(q a:Nat)(hs:SI (S a))(GY:S a≠[])(w:Int)(w0:4<=w)(w9:w<9):∃(l:PL)(t:Zw)(q':Nat),vB [Row ns q,.int a,T<|S a,.int w]=.ok (.tup [l.d,T t]) [Row ns q']/\Told n G S l t/\l.ns=[a]/\Pre t:=by
 unfold vB KW;obtain⟨s,hS⟩:∃s,s=S a:=⟨_,rfl⟩;rw[<-hS] at hs GY ⊢;have hl:=hs.1;have hp:=hs.pre;have hn:=List.length_pos_iff.mpr GY;obtain⟨j,ts,hj⟩:=drawn ns q s.length hn;obtain⟨z,hz⟩:∃z,s.getD j 0=z:=⟨_,rfl⟩;have ix:aj (T s) (.int j)=some (.int z):=by have:=cA s j WR WR;rw[IZ,hz] at this;exact this
 have sb:=hs.get j;rw[hz] at sb;have c1:=rM s j WR;have c2:=pU s (j+1) WR;rw[show (((j+1:Nat)):Int)=(j:Int)+1 by lia] at c2;have a1:aV (T<|s.take j) (T<|s.drop<|j+1)=some (T<|wo s j):=dX (s.take j) (s.drop<|j+1) (by simp[iz];lia);by_cases c4:w=4;obtain⟨x,t9,_,_⟩:=aP ns (q+1) 9 WR;obtain⟨y,tR,y0,y1⟩:=aP ns (q+2) 1000003 WR;exact⟨.shift a j (x-4) y,s,q+3,rn,⟨j,rfl,by rw[<-hS];exact hj,⟨y0,y1⟩,hS⟩,rfl,hp⟩;by_cases c5:w=5;obtain⟨x,t4,x0,x4⟩:=aP ns (q+1) 4 WR;have ii:intD [.bl<|decide<|0<z]=some (.int<|if 0<z then 1 else 0):=by rw[Ab];simp
 obtain⟨m,hm⟩:∃m:Int,m=if 0<z then 4 else 2:=⟨_,rfl⟩
 have i2:aj (.lst [.int 2,.int 4]) (.int<|if 0<z then 1 else 0)=some (.int m):=by rw[hm];split<;>rfl
 have md:=bP x m WR;obtain⟨d,hd,id⟩:=Ny (x % m) (Int.emod_nonneg _ WR) (by have:=wY x (show 0<m by lia);lia);refine⟨.fold d a j,wo s j,q+2,rn,⟨j,rfl,by rw[<-hS];exact hj,hd.1,λh=>hd.2 ?_,by rw[hS]⟩,rfl,OP hp⟩;rw[<-hS,hz] at h;have:=wY x (show 0<m by lia)
 lia
 by_cases c6:w=6;obtain⟨x,t4,x0,x4⟩:=aP ns (q+1) 4 WR;obtain⟨d,hd,id⟩:=Ny x x0 x4;exact⟨.run d a j,s,q+2,rn,⟨j,rfl,by rw[<-hS];exact hj,hd.1,hS⟩,rfl,hp⟩;by_cases z0:z=0;exact⟨.one 18 a,s,q+1,rn,⟨WR,hS⟩,rfl,hp⟩;obtain⟨b,tz,b0,b1⟩:=aP ns (q+1) z WR;by_cases c7:w=7;exact⟨.drop a j b,wo s j,q+2,rn,⟨j,rfl,by rw[<-hS];exact hj,⟨b0,by rw[<-hS,hz];exact b1⟩,by rw[hS]⟩,rfl,OP hp⟩;obtain⟨x,t3,x0,x3⟩:=aP ns (q+2) 3 WR;obtain⟨v,t2,v0,v2⟩:=aP ns (q+3) 2 WR;have f1:=jG (z-1-b) (1+x) WR WR;have f2:=jG b (1+x) WR WR;have k1:0<=(z-1-b) / (1+x):=Int.ediv_nonneg WR WR;have k2:(z-1-b) / (1+x)*(1+x)<=z-1-b:=Int.ediv_mul_le _ WR;have k3:0<=b / (1+x):=Int.ediv_nonneg WR WR;have k4:b / (1+x)*(1+x)<=b:=Int.ediv_mul_le _ WR;have k5:(z-1-b) / (1+x)<=z-1-b:=Int.ediv_le_self _ WR;have k6:b / (1+x)<=b:=Int.ediv_le_self _ WR;have key:∀(u m:Int),0<=m->0<=u->m<=u+1->0<m->(1+x)*(m-1)<=u*(1+x):=λu m _ _ h3 h4=>by rw[Int.mul_comm];exact Int.mul_le_mul_of_nonneg_right WR WR
 have Wt:∀m:Int,0<m->0<=(1+x)*(m-1):=λm h=>R1 WR WR;by_cases c:v=1;generalize b / (1+x)=u at *;obtain⟨m,tm,m0,m1⟩:=aP ns (q+4) (u+2) WR;have ch:=gJ s j (u+1-m) hj WR;refine⟨.cut a j b (0-(1+x))<|u+1-m,rep s j<|u+1-m,q+5,rn,⟨j,rfl,by rw[<-hS];exact hj,WR,WR,λh=>?_,by rw[hS]⟩,rfl,uD hp WR hj⟩;rw[<-hS,hz];have e:(0-(1+x))*(u+1-m-1)=-((1+x)*(u+1-m-1)):=by rw[Int.zero_sub,Int.neg_mul]
 have:=key u (u+1-m) WR k3 WR h;have:=Wt (u+1-m) h;rw[e];lia;generalize (z-1-b) / (1+x)=u at *;obtain⟨m,tm,m0,m1⟩:=aP ns (q+4) (u+2) WR;have ch:=gJ s j (u+1-m) hj WR;refine⟨.cut a j b (1+x)<|u+1-m,rep s j<|u+1-m,q+5,rn,⟨j,rfl,by rw[<-hS];exact hj,WR,WR,λh=>?_,by rw[hS]⟩,rfl,uD hp WR hj⟩;rw[<-hS,hz];have:=key u (u+1-m) WR k1 WR h;have:=Wt (u+1-m) h
 lia
theorem zf(s:Zw)(h:∀x∈s,0<=x/\x<=24)(k:Nat):0<=back s k/\back s k<=24:=by unfold back;split;rename_i hk;have h2:s.length-1-k<s.length:=Ry;have:=h s[s.length-1-k]<|Vz h2;simpa[h2] using this;omega
theorem Al{s t m:Zw}(h1:∀x∈s,0<=x/\x<=24)(h2:∀x∈t,0<=x/\x<=24)(h:meet s t=some m):∀x∈m,0<=x/\x<=24:=λx hx=>by unfold meet at h;split at h;cases h;rw[List.mem_reverse] at hx;obtain⟨p,hp,rfl⟩:=List.mem_map.mp hx;unfold pairs at hp;obtain⟨k,_,rfl⟩:=List.mem_map.mp hp;have:=zf s h1 k;have:=zf t h2 k;unfold pk;dsimp only;split<;>lia;cases h
def A7(ss:T1):Prop:=∀s∈ss,SI s
theorem A7.at{ss:T1}(h:A7 ss){i:Nat}(hi:i<ss.length):SI (sd ss i):=by
 have:sd ss i=ss[i]:=by simp[sd,hi]
 rw[this];exact h _ (Vz hi)
theorem Xo(m:Int)(h0:0<=m)(h3:m<3):∃d,(16<=d/\d<=18)/\aj (.lst [.str<|nm 16,.str<|nm 17,.str<|nm 18]) (.int m)=some (.str<|nm d):=by have:m=0\/m=1\/m=2:=WR;rcases this with rfl|rfl|rfl;exact⟨16,WR,rfl⟩;exact⟨17,WR,rfl⟩;exact⟨18,WR,rfl⟩
theorem Q0q(m:Int)(h0:0<=m)(h7:m<7):∃d,(19<=d/\d<=25)/\aj (.lst [.str<|nm 19,.str<|nm 20,.str<|nm 21,.str<|nm 22,.str<|nm 23,.str<|nm 24,.str<|nm 25]) (.int m)=some (.str<|nm d):=by have:m=0\/m=1\/m=2\/m=3\/m=4\/m=5\/m=6:=WR;rcases this with rfl|rfl|rfl|rfl|rfl|rfl|rfl;exact⟨19,WR,rfl⟩;exact⟨20,WR,rfl⟩;exact⟨21,WR,rfl⟩;exact⟨22,WR,rfl⟩;exact⟨23,WR,rfl⟩;exact⟨24,WR,rfl⟩;exact⟨25,WR,rfl⟩
theorem uj{s t m:Zw}(hs:SI s)(ht:SI t)(e:meet s t=some m):rQ [T s,T t]=.ok (T m) []/\(m.length<=4/\∀x∈m,0<=x/\x<=24):=by have:=qk s t hs.1 ht.1;rw[e] at this;exact⟨this,by have:=cz e;have:=hs.1;have:=ht.1;lia,Al hs.2.1 ht.2.1 e⟩
theorem Am{s t:Zw}(hs:SI s)(ht:SI t)(e:meet s t=none):rQ [T s,T t]=.ok .aQ []:=by have:=qk s t hs.1 ht.1;rwa [e] at this
theorem pre_of{m:Zw}(h:m.length<=4/\∀x∈m,0<=x/\x<=24):Pre m:=⟨WR,λx hx=>by have:=h.2 x hx;lia⟩
theorem abq:isND .aQ .aQ=some (.bl true):=rfl
theorem hJ(s:Zw)(j:Nat)(h:j<s.length):aj (T s) (.int (j:Int))=some (.int<|s.getD j 0):=by have:=cA s j WR WR;rwa [IZ] at this
theorem Q0k{s t:Zw}{j:Nat}(h:s.length=t.length)(e:rep s j 0=rep t j 0):wo s j=wo t j:=by unfold rep at e;have h1:=List.append_inj e (by simp[h]);unfold wo;rw[h1.1,(List.cons.inj h1.2).2]
section
variable(N:Nat)(G:Nat->Zw)(ns:Zw)(q a ix_:Nat)(ss:T1)(lD:A7 ss)(ha:a<ss.length)(hi:ix_<ss.length)(h1:(sd ss ix_).length=1)
include lD ha hi h1
theorem WZ:∃(l:PL)(t:Zw)(q':Nat),dU [Row ns q,.int a,aG ss,.int 9,.int ix_]=.ok (.tup [l.d,T t]) [Row ns q',aG ss]/\Told N G (sd ss) l t/\(∀r∈l.ns,r<ss.length)/\Pre t:=by unfold dU nP;have ia:=bu ss a ha;have ln:=bK ss;obtain⟨b,tb,hb⟩:=drawn ns q ss.length WR;obtain⟨x,t3,x0,x3⟩:=aP ns (q+1) 3 WR;obtain⟨d,hd,id⟩:=Xo x x0 x3;exact⟨.one d a,sd ss a,q+2,rn,⟨hd,rfl⟩,λr hr=>by simp[PL.ns] at hr;lia,(lD.at ha).pre⟩
theorem Qu:∃(l:PL)(t:Zw)(q':Nat),dU [Row ns q,.int a,aG ss,.int 10,.int ix_]=.ok (.tup [l.d,T t]) [Row ns q',aG ss]/\Told N G (sd ss) l t/\(∀r∈l.ns,r<ss.length)/\Pre t:=by unfold dU nP;have ia:=bu ss a ha;have ln:=bK ss;obtain⟨b,tb,hb⟩:=drawn ns q ss.length WR;have ib:=bu ss b hb;obtain⟨x,t7,x0,x7⟩:=aP ns (q+1) 7 WR;obtain⟨d,hd,id⟩:=Q0q x x0 x7;cases e:meet (sd ss a) (sd ss b) with|none=>have m1:=Am (lD.at ha) (lD.at hb) e;obtain⟨m2,mp⟩:=uj (lD.at ha) (lD.at ha)<|meet_self _;exact⟨.both d a a,sd ss a,q+2,rn,⟨hd,meet_self _⟩,λr hr=>by simp[PL.ns] at hr;lia,pre_of mp⟩|some m=>obtain⟨m1,mp⟩:=uj (lD.at ha) (lD.at hb) e;exact⟨.both d a b,m,q+2,rn,⟨hd,e⟩,λr hr=>by simp[PL.ns] at hr;lia,pre_of mp⟩
theorem Qv:∃(l:PL)(t:Zw)(q':Nat),dU [Row ns q,.int a,aG ss,.int 11,.int ix_]=.ok (.tup [l.d,T t]) [Row ns q',aG ss]/\Told N G (sd ss) l t/\(∀r∈l.ns,r<ss.length)/\Pre t:=by unfold dU nP;have ia:=bu ss a ha;have ln:=bK ss;obtain⟨b,tb,hb⟩:=drawn ns q ss.length WR;have ib:=bu ss b hb;obtain⟨c,tc,hc⟩:=drawn ns (q+1) ss.length WR;have ic:=bu ss c hc;cases e:meet (sd ss a) (sd ss b) with|none=>have m1:=Am (lD.at ha) (lD.at hb) e;exact⟨.eJ a a a,sd ss a,q+2,rn,⟨_,meet_self _,meet_self _⟩,λr hr=>by simp[PL.ns] at hr;lia,(lD.at ha).pre⟩|some m=>obtain⟨m1,mp⟩:=uj (lD.at ha) (lD.at hb) e;have m2:=qk m (sd ss c) mp.1 (lD.at hc).1;cases e2:meet m (sd ss c) with|none=>rw[e2] at m2;exact⟨.eJ a a a,sd ss a,q+2,rn,⟨_,meet_self _,meet_self _⟩,λr hr=>by simp[PL.ns] at hr;lia,(lD.at ha).pre⟩|some n=>rw[e2] at m2;have nl:=cz e2;have Px:=(lD.at hc).1;exact⟨.eJ b a c,n,q+2,rn,⟨_,(meet_comm _ _).trans e,e2⟩,λr hr=>by simp[PL.ns] at hr;lia,pre_of ⟨WR,Al mp.2 (lD.at hc).2.1 e2⟩⟩
theorem Qw:∃(l:PL)(t:Zw)(q':Nat),dU [Row ns q,.int a,aG ss,.int 12,.int ix_]=.ok (.tup [l.d,T t]) [Row ns q',aG ss]/\Told N G (sd ss) l t/\(∀r∈l.ns,r<ss.length)/\Pre t:=by
 unfold dU nP;have ia:=bu ss a ha;have ln:=bK ss;obtain⟨b,tb,hb⟩:=drawn ns q ss.length WR;obtain⟨n,t3,hn⟩:=drawn ns (q+1) 3 WR;have t3:bN [Row ns<|q+1,.int 3]=.ok (.int n) [Row ns<|q+1+1]:=t3;have er:=j8 n WR;obtain⟨q1,ys,hc,he⟩:=mH (it:=bO [(au bN [.io 0,.val<|mC<|.int 3])]) (elt:=nR) (k:=11) (r0:=[.io<|Row ns<|q+1,.sh<|.int a,.io<|aG ss,.sh<|.int 12,.sh<|.int ix_,.sh<|T<|sd ss a,.sh<|.int b,.no,.no,.no,.no]) (λ(k:Nat)=>D.int k) (λq=>[.io<|Row ns q,.sh<|.int a,.io<|aG ss,.sh<|.int 12,.sh<|.int ix_,.sh<|T<|sd ss a,.sh<|.int b,.no,.no,.no,.no]) (λ_ y=>0<=y/\y<=24) (List.range n) (q+1+1) (λ_=>rfl) ah (by simp;lia) (λk _ q'=>by obtain⟨y,tt,_,_⟩:=aP ns q' 3 WR;exact⟨q'+1,1+y,WR,λacc=>by unfold nR;exact ah⟩);have hy:∀y∈ys,0<=y/\y<=24:=λy hy=>by obtain⟨_,_,h⟩:=he.right y hy;exact h
 have yl:=he.len;simp only[List.length_range] at yl;obtain⟨y,tR,y0,y1⟩:=aP ns q1 1000003 WR;exact⟨.j5 ys y,ys,q1+1,rn,⟨rfl,y0,y1⟩,λr hr=>by simp[PL.ns] at hr,pre_of ⟨WR,hy⟩⟩
theorem WY(w:Int)(c9:¬w=9)(c10:¬w=10)(c11:¬w=11)(c12:¬w=12)(c0:sd ss a=[]):∃(l:PL)(t:Zw)(q':Nat),dU [Row ns q,.int a,aG ss,.int w,.int ix_]=.ok (.tup [l.d,T t]) [Row ns q',aG ss]/\Told N G (sd ss) l t/\(∀r∈l.ns,r<ss.length)/\Pre t:=by unfold dU nP;have ia:=bu ss a ha;rw[c0] at ia;have ln:=bK ss;obtain⟨b,tb,hb⟩:=drawn ns q ss.length WR;exact⟨.one 16 a,[],q+1,rn,⟨WR,c0.symm⟩,λr hr=>by simp[PL.ns] at hr;lia,T2,T2⟩
theorem Qx(c0:sd ss a≠[]):∃(l:PL)(t:Zw)(q':Nat),dU [Row ns q,.int a,aG ss,.int 13,.int ix_]=.ok (.tup [l.d,T t]) [Row ns q',aG ss]/\Told N G (sd ss) l t/\(∀r∈l.ns,r<ss.length)/\Pre t:=by
 unfold dU nP;have ia:=bu ss a ha;have ln:=bK ss;obtain⟨b,tb,hb⟩:=drawn ns q ss.length WR;have ib:=bu ss b hb;have ii:=bu ss ix_ hi;have hs:=lD.at ha;have e0:eh (T<|sd ss a) (.tup [])=some (.bl false):=by rw[SW,Dp];simp[c0]
 obtain⟨j,tj,hj⟩:=drawn ns (q+1) (sd ss a).length<|List.length_pos_iff.mpr c0;obtain⟨x,t5,_,_⟩:=aP ns (q+2) 5 WR;have fin:∀e:Nat,e<ss.length->(sd ss e).length=1->∃y,sd ss e=[y]/\aj (T<|sd ss e) (.int 0)=some (.int y)/\vz [T<|sd ss a,.int j,.int y]=.ok (T<|rep (sd ss a) j y) []/\Pre (rep (sd ss a) j y):=λe he TS=>by have g:=(lD.at he).get 0;have:=hs.1;obtain⟨y,hy⟩:∃y,sd ss e=[y]:=List.length_eq_one_iff.mp TS;rw[hy] at g ⊢;exact⟨y,rfl,rfl,gJ _ _ _ hj WR,uD hs.pre (by simp at g;lia) hj⟩
 obtain⟨y,hy,f1,f2,f3⟩:=fin ix_ hi h1;by_cases k5:x<4;exact⟨.pick a j ix_,_,q+3,rn,⟨j,y,rfl,hj,hy,rfl⟩,λr hr=>by simp[PL.ns] at hr;lia,f3⟩;have ne:jo (.int ((sd ss b).length:Int)) (.int 1)=some (.bl<|!decide ((sd ss b).length=1)):=by rw[cu,decide_eq_decide.mpr (show ((sd ss b).length:Int)=1<->(sd ss b).length=1 by lia)]
 by_cases kb:(sd ss b).length=1;obtain⟨y,hy,g1,g2,g3⟩:=fin b hb kb;rw[Pj kb] at ne;exact⟨.pick a j b,_,q+3,rn,⟨j,y,rfl,hj,hy,rfl⟩,λr hr=>by simp[PL.ns] at hr;lia,g3⟩;rw[Zq kb] at ne;exact⟨.pick a j ix_,_,q+3,rn,⟨j,y,rfl,hj,hy,rfl⟩,λr hr=>by simp[PL.ns] at hr;lia,f3⟩
theorem Qy(c0:sd ss a≠[]):∃(l:PL)(t:Zw)(q':Nat),dU [Row ns q,.int a,aG ss,.int 14,.int ix_]=.ok (.tup [l.d,T t]) [Row ns q',aG ss]/\Told N G (sd ss) l t/\(∀r∈l.ns,r<ss.length)/\Pre t:=by
 unfold dU nP;have ia:=bu ss a ha;have ln:=bK ss;obtain⟨b,tb,hb⟩:=drawn ns q ss.length WR;have ib:=bu ss b hb;have hs:=lD.at ha;have hl:=hs.1;have e0:eh (T<|sd ss a) (.tup [])=some (.bl false):=by rw[SW,Dp];simp[c0]
 obtain⟨j,tj,hj⟩:=drawn ns (q+1) (sd ss a).length<|List.length_pos_iff.mpr c0;have i1:=hJ (sd ss a) j hj;have fin:∀e:Nat,e<ss.length->vz [T<|sd ss a,.int j,.int<|(sd ss a).getD j 0+(sd ss e).getD j 0]=.ok (T<|rep (sd ss a) j<|(sd ss a).getD j 0+(sd ss e).getD j 0) []/\Pre (rep (sd ss a) j<|(sd ss a).getD j 0+(sd ss e).getD j 0):=λe he=>by have g:=(lD.at he).get j;have g2:=hs.get j;exact⟨gJ _ _ _ hj WR,uD hs.pre WR hj⟩
 have ch0:=gJ (sd ss a) j 0 hj WR;obtain⟨f2,f3⟩:=fin a ha;have ne:jo (.int ((sd ss b).length:Int)) (.int ((sd ss a).length:Int))=some (.bl<|!decide ((sd ss b).length=(sd ss a).length)):=by rw[cu,decide_eq_decide.mpr (show ((sd ss b).length:Int)=(sd ss a).length<->(sd ss b).length=(sd ss a).length by lia)]
 by_cases kl:(sd ss b).length=(sd ss a).length;have ch1:=gJ (sd ss b) j 0 WR (by have:=(lD.at hb).1;lia);rw[Pj kl] at ne;have nr:jo (T<|rep (sd ss a) j 0) (T<|rep (sd ss b) j 0)=some (.bl<|!decide (rep (sd ss a) j 0=rep (sd ss b) j 0)):=E3 _ _;by_cases kr:rep (sd ss a) j 0=rep (sd ss b) j 0;have i2:=hJ (sd ss b) j WR;obtain⟨g2,g3⟩:=fin b hb;rw[Pj kr] at nr;exact⟨.join a b j,_,q+2,rn,⟨j,rfl,hj,kl.symm,Q0k kl.symm kr,rfl⟩,λr hr=>by simp[PL.ns] at hr;lia,g3⟩;rw[Zq kr] at nr;exact⟨.join a a j,_,q+2,rn,⟨j,rfl,hj,rfl,rfl,rfl⟩,λr hr=>by simp[PL.ns] at hr;lia,f3⟩;rw[Zq kl] at ne;exact⟨.join a a j,_,q+2,rn,⟨j,rfl,hj,rfl,rfl,rfl⟩,λr hr=>by simp[PL.ns] at hr;lia,f3⟩
theorem IQ(w:Int)(w4:4<=w)(w15:w<15)(hw:w<9->sd ss a=[]) : ∃(l:PL)(t:Zw)(q':Nat),dU [Row ns q,.int a,aG ss,.int w,.int ix_]=.ok (.tup [l.d,T t]) [Row ns q',aG ss]/\Told N G (sd ss) l t/\(∀r∈l.ns,r<ss.length)/\Pre t:=by
 by_cases c9:w=9;subst c9;exact WZ N G ns q a ix_ ss lD ha hi h1;by_cases c10:w=10;subst c10;exact Qu N G ns q a ix_ ss lD ha hi h1;by_cases c11:w=11;subst c11;exact Qv N G ns q a ix_ ss lD ha hi h1;by_cases c12:w=12;subst c12;exact Qw N G ns q a ix_ ss lD ha hi h1;by_cases c0:sd ss a=[];exact WY N G ns q a ix_ ss lD ha hi h1 w c9 c10 c11 c12 c0;have:w=13\/w=14:=by
  have:¬w<9:=λz=>c0 (hw z)
  lia
 rcases this with rfl|rfl;exact Qx N G ns q a ix_ ss lD ha hi h1 c0;exact Qy N G ns q a ix_ ss lD ha hi h1 c0
end
def QA:Zw->Int|[]=>0|i::is=>is.foldl (λa b=>if a<b then b else a) i
theorem tJ:∀(is:Zw)(a:Int),a<=is.foldl (λa b=>if a<b then b else a) a/\∀x∈is,x<=is.foldl (λa b=>if a<b then b else a) a|[],a=>⟨T2,λx hx=>by simp at hx⟩|i::is,a=>by obtain⟨h1,h2⟩:=tJ is<|if a<i then i else a;simp only[List.foldl_cons];generalize is.foldl (λa b=>if a<b then b else a) (if a<i then i else a)=z at *;refine⟨by split at h1<;>lia,λx hx=>?_⟩;rcases List.mem_cons.mp hx with rfl|hx;split at h1<;>lia;exact h2 x hx
theorem Q2T{t:Zw}(h:QA t<=24):∀x∈t,x<=24:=λx hx=>by
 cases t with
 |nil=>simp at hx|cons i is=>
  obtain⟨h1,h2⟩:=tJ is i;have e:QA (i::is)=is.foldl (λa b=>if a<b then b else a) i:=rfl;rcases List.mem_cons.mp hx with rfl|hx
  lia
  have:=h2 x hx;lia
theorem Q1u(t:Zw):mZ (T t) (.int 0)=some (.int<|QA t):=by rw[E0];cases t<;>rfl
def Fp(ns:Zw)(gs:T1)(c tn ix_:Int)(ls:Uc)(ss:T1)(q:Nat)(s2 s3 s9 JE BV:Sl):ay:=[.io<|Row ns q,.ow<|aG gs,s2,s3,.sh<|.int c,.sh<|.int tn,.ow<|Pg ls,.ow<|aG ss,.sh<|.int ix_,s9,JE,BV]
structure Gd(gs:T1)(ls:Uc)(ss:T1)(ix_:Nat):Prop where
 len:ss.length=ls.length
 wf:Wf ls
 told:∀i l,ls[i]?=some l->Told gs.length (sd gs) (sd ss) l (sd ss i)
 si:A7 ss
 ix:ix_<ss.length
 one:(sd ss ix_).length=1
 ne:ls≠[]
theorem pz{ss:T1}{t:Zw}{i:Nat}(h:i<ss.length):sd (ss++[t]) i=sd ss i:=by unfold sd;rw[Vh,IV h,Vh]
theorem Gd.more{gs:T1}{ls:Uc}{ss:T1}{ix_:Nat}(g:Gd gs ls ss ix_){l:PL}{t:Zw}(hl:∀r∈l.ns,r<ss.length)(hf:Told gs.length (sd gs) (sd ss) l t)(ht:SI t):Gd gs (ls++[l]) (ss++[t]) ix_:=by
 have hx:∀i x,(ls++[l])[i]?=some x->ls[i]?=some x\/(i=ss.length/\x=l):=λi x hx=>by
  by_cases h:i<ls.length;rw[IV h] at hx;exact .inl hx;rw[Jn WR] at hx;have:=(List.getElem?_eq_some_iff.mp hx).1;have e:i-ls.length=0:=by simp at this;lia
  rw[e] at hx;exact .inr ⟨by have:=g.len;lia,by simpa using hx.symm⟩
 refine⟨by simp[g.len],λi x h r hr=>?_,λi x h=>?_,λx h=>?_,by simp;have:=g.ix;lia,by rw[pz g.ix];exact g.one,T2⟩;rcases hx i x h with h|⟨rfl,rfl⟩;exact g.wf i x h r hr;exact hl r hr;rcases hx i x h with h|⟨rfl,rfl⟩;have hi:=(List.getElem?_eq_some_iff.mp h).1;have BX:=g.len;rw[pz WR];exact(g.told i x h).mono λr hr=>pz (by have:=g.wf i x h r hr;lia);rw[show sd (ss++[t]) ss.length=t by simp[sd]];exact hf.mono λr hr=>pz<|hl r hr;rcases List.mem_append.mp h with h|h;exact g.si x h;have:x=t:=by simpa using h
 subst this;exact ht
theorem isL(ns:Zw)(gs:T1)(GX:A7 gs)(tn:Int)(ix_:Nat)(ls:Uc)(ss:T1)(g:Gd gs ls ss ix_)(q:Nat)(s2 s3 BV:Sl)(h11:free (some BV)=true)(a:Nat)(ha:a<ss.length)(w:Int)(w0:0<=w)(w16:w<16)(hg:0<gs.length)(G:M Fl)
  (hG:G=(eC (tB<|m2 ltI (aa 10)<|mC<|.int 4) (ai (aO 11<|au fW [.io 0,.val<|aa 9,.val<|jm 7<|aa 9,.val<|aa 10])
  aJ) (ai (eC (uL (tB<|m2 ltI (aa 10)<|mC<|.int 9)<|tB<|m2 jo (jm 7<|aa 9)<|bR []) (ai (aO 11<|au vB [.io 0,.val<|aa 9,.val<|jm 7<|aa 9,.val<|aa 10])
  aJ) (ai (eC (tB<|m2 eh (aa 10)<|mC<|.int 15) (ai (aO 11<|bR [(bR [(mC<|.str<|nm 0),(m2 fM (aa 9)<|aa 4)]),(jm 1<|m2 fM (aa 9)<|aa 4)])
  aJ) (ai (aO 11<|au dU [.io 0,.val<|aa 9,.io 7,.val<|aa 10,.val<|aa 8])
  aJ))
  aJ))
  aJ))):∃(l:PL)(t:Zw)(q':Nat),G (Fp ns gs gs.length tn ix_ ls ss q s2 s3 (.sh<|.int a) (.sh<|.int w) BV)=.ok .nx (Fp ns gs gs.length tn ix_ ls ss q' s2 s3 (.sh<|.int a) (.sh<|.int w)<|.sh<|.tup [l.d,T t])/\Told gs.length (sd gs) (sd ss) l t/\(∀r∈l.ns,r<ss.length)/\Pre t:=by
 subst hG;unfold Fp;have ia:=bu ss a ha;have hs:=g.si.at ha;by_cases c1:w<4;obtain⟨l,t,q',e,h1,h2,h3⟩:=J8 gs.length (sd gs) (sd ss) ns q a hs w w0 c1;refine⟨l,t,q',?_,h1,λr hr=>by rw[h2] at hr;simp at hr;lia,h3⟩;generalize l.d=ld at *;exact ah;by_cases c2:w<9/\sd ss a≠[];obtain⟨l,t,q',e,h1,h2,h3⟩:=Q0x gs.length (sd gs) (sd ss) ns q a hs c2.2 w WR c2.1;refine⟨l,t,q',?_,h1,λr hr=>by rw[h2] at hr;simp at hr;lia,h3⟩;generalize l.d=ld at *;obtain⟨c21,c22⟩:=c2;have ne:jo (T<|sd ss a) (.tup [])=some (.bl true):=by rw[SW,E3,Zq c22];rfl
 exact ah;by_cases c3:w=15;have md:=bP a gs.length WR;obtain⟨b,hb⟩:∃b,b=a % gs.length:=⟨_,rfl⟩;have hbn:b<gs.length:=by rw[hb];exact Nat.mod_lt _ hg
 have eb:((a:Int) % (gs.length:Int))=(b:Int):=by rw[hb];simp
 rw[eb] at md;have ib:=bu gs b hbn;refine⟨.given b,sd gs b,q,?_,⟨b,rfl,hbn,rfl⟩,λr hr=>by simp[PL.ns] at hr,(GX.at hbn).pre⟩;have c4:¬w<9:=WR;simp only[PL.d,PL.k,PL.ps];exact ah;obtain⟨l,t,q',e,h1,h2,h3⟩:=IQ gs.length (sd gs) ns q a ix_ ss g.si ha g.ix g.one w WR WR (λz=>by cases e:sd ss a with|nil=>rfl|cons x r=>exact absurd ⟨z,by rw[e];simp⟩ c2);refine⟨l,t,q',?_,h1,h2,h3⟩;generalize l.d=ld at *;by_cases c4:w<9;have c5:sd ss a=[]:=by cases e:sd ss a with|nil=>rfl|cons x r=>exact absurd ⟨c4,by rw[e];simp⟩ c2
 have ne:jo (T<|sd ss a) (.tup [])=some (.bl false):=by rw[c5];rfl
 exact ah;exact ah
theorem Ym(ns:Zw)(gs:T1)(GX:A7 gs)(hg:0<gs.length)(tn:Int)(ix_:Nat)(ls:Uc)(ss:T1)(g:Gd gs ls ss ix_)(hl:ls.length<=40)(q:Nat)(s2 s3 s9 JE BV:Sl)(h9:free (some s9)=true)(Y7:free (some JE)=true)(h11:free (some BV)=true) : ∃(l:PL)(t:Zw)(q':Nat)(Zu JF JG:Sl),dJ (Fp ns gs gs.length tn ix_ ls ss q s2 s3 s9 JE BV)=.ok .nx (Fp ns gs gs.length tn ix_ (ls++[l]) (ss++[t]) q' s2 s3 Zu JF JG)/\Gd gs (ls++[l]) (ss++[t]) ix_/\free (some Zu)=true/\free (some JF)=true/\free (some JG)=true:=by
 have ln:=jM ls;have hn:=List.length_pos_iff.mpr g.ne;have BX:=g.len;obtain⟨b,tl,hb⟩:=drawn ns q ls.length hn;obtain⟨a,hae,ha⟩:∃a:Nat,jv (.int<|(ls.length:Int)-1) (.int b)=some (.int (a:Int))/\a<ss.length:=⟨ls.length-1-b,by rw[AR];congr 2;lia,WR⟩;obtain⟨w,t16,w0,w16⟩:=aP ns (q+1) 16 WR;obtain⟨l,t,q',e,h1,h2,h3⟩:=isL ns gs GX tn ix_ ls ss g (q+2) s2 s3 BV h11 a ha w w0 w16 hg _ rfl;have cl:=xy t h3;have mx:=Q1u t;have ia:=bu ss a ha;have apP:∀l:PL,fQ l.d (Pg ls)=some (Pg<|ls++[l]):=λl=>by unfold Pg;rw[fS _ _ (by simp;lia),S6];rfl
 have apS:∀t,fQ (T t) (aG ss)=some (aG<|ss++[t]):=λt=>by unfold aG;rw[fS _ _ (by simp;lia),S6];rfl
 unfold Fp at e ⊢;unfold dJ;by_cases c:ak t<=27/\t.length<=4/\QA t<=24;refine⟨l,t,q',.sh<|.int a,.sh<|.int w,.sh<|.tup [l.d,T t],?_,g.more h2 h1 ⟨c.2.1,λx hx=>⟨(h3.2 x hx).1,Q2T c.2.2 x hx⟩,c.1⟩,rfl,rfl,rfl⟩;have k1:¬27<ak t:=WR;have k2:¬(4:Int)<t.length:=WR;have k3:¬24<QA t:=WR;have a1:=apP l;have a2:=apS t;generalize l.d=ld at *;exact ah;refine⟨.one 16 a,sd ss a,q',.sh<|.int a,.sh<|.int w,.sh<|.tup [.tup [.str<|nm 9,.str<|nm 16,.int a],T<|sd ss a],?_,g.more (λr hr=>by simp[PL.ns] at hr;lia) ⟨WR,rfl⟩<|g.si.at ha,rfl,rfl,rfl⟩;have a1:=apP<|.one 16 a;have a2:=apS<|sd ss a;have a1:fQ (.tup [.str<|nm 9,.str<|nm 16,.int a]) (Pg ls)=some (Pg<|ls++[.one 16 a]):=a1;generalize l.d=ld at *;by_cases k1:27<ak t;exact ah;by_cases k2:(4:Int)<t.length;exact ah;have k3:24<QA t:=by by_cases z:24<QA t;exact z;exact absurd ⟨WR,WR,WR⟩ c
 exact ah
theorem abY(m:Int)(h0:0<=m)(h8:m<8):∃v:Int,0<=v/\v<=3/\aj (.lst [.int 2,.int 3,.int 1,.int 2,.int 3,.int 1,.int 2,.int 0]) (.int m)=some (.int v):=by have:m=0\/m=1\/m=2\/m=3\/m=4\/m=5\/m=6\/m=7:=WR;rcases this with rfl|rfl|rfl|rfl|rfl|rfl|rfl|rfl;exact⟨2,WR,WR,rfl⟩;exact⟨3,WR,WR,rfl⟩;exact⟨1,WR,WR,rfl⟩;exact⟨2,WR,WR,rfl⟩;exact⟨3,WR,WR,rfl⟩;exact⟨1,WR,WR,rfl⟩;exact⟨2,WR,WR,rfl⟩;exact⟨0,WR,WR,rfl⟩
theorem abX(m:Int)(h0:0<=m)(h8:m<4):∃v:Int,0<=v/\v<=4/\aj (.lst [.int 2,.int 3,.int 1,.int 4]) (.int m)=some (.int v):=by have:m=0\/m=1\/m=2\/m=3:=WR;rcases this with rfl|rfl|rfl|rfl;exact⟨2,WR,WR,rfl⟩;exact⟨3,WR,WR,rfl⟩;exact⟨1,WR,WR,rfl⟩;exact⟨4,WR,WR,rfl⟩
theorem Nz:∀(xs:Zw),(∀x∈xs,0<=x/\x<=3)->0<=ak xs/\ak xs<=3 ^ xs.length|[],_=>by simp[ak]|x::r,h=>by have hx:=h x TL;have hr:=Nz r λy hy=>h y<|SY _ hy;simp only[ak,List.length_cons];refine⟨R1 hx.1 hr.1,?_⟩;have:x*ak r<=3*3 ^ r.length:=Int.mul_le_mul hx.2 hr.2 hr.1 WR;rw[Int.pow_succ];lia
theorem si3(xs:Zw)(hl:xs.length<=3)(h:∀x∈xs,0<=x/\x<=3):SI xs:=by
 refine⟨WR,λx hx=>by have:=h x hx;lia,?_⟩;have p:=(Nz xs h).2;have:(3:Int) ^ xs.length<=27:=by
  generalize xs.length=n at *
  match n,hl with|0,_=>decide|1,_=>decide|2,_=>decide|3,_=>decide
 lia
theorem noLs_T:∀ss:T1,noLs (ss.map T)=true
|[]=>rfl|s::ss=>by
 have:RO (T s)=true:=by unfold T;rw[RO];induction s with|nil=>rfl|cons x s ih=>rw[BE,noLs,RO,ih];rfl
 rw[BE,noLs,this,noLs_T ss];rfl
def zV(t:Sl×Sl×Sl):Prop:=free (some t.1)=true/\free (some t.2.1)=true/\free (some t.2.2)=true
def Q2c(t:Sl×Sl×Sl×Sl):Prop:=free (some t.1)=true/\free (some t.2.1)=true/\free (some t.2.2.1)=true/\free (some t.2.2.2)=true
theorem OY(gs:T1)(t:Zw)(h:gs.length<=100):fQ (T t) (aG gs)=some (aG<|gs++[t]):=by unfold aG;rw[fS _ _ (by simp;lia),S6];rfl
theorem Q2J(ns:Zw)(p:Nat):∃(ls:Uc)(ss gs:T1)(ix_ q:Nat),zI [Row ns p]=.ok (.tup [Pg ls,aG ss,.int gs.length,aG gs]) [Row ns q]/\Gd gs ls ss ix_/\A7 gs/\ls.length<=14/\gs.length<=3/\0<gs.length/\gs.length<ls.length:=by
 obtain⟨z,t2,z0,z2⟩:=aP ns p 2 WR;obtain⟨n,hn,TU⟩:∃n:Nat,aV (.int 1) (.int z)=some (.int (n:Int))/\1<=n/\n<=2:=⟨(1+z).toNat,congrArg (λz=>some<|D.int z) WR,WR,WR⟩;have er:=j8 n WR;obtain⟨⟨q1,gs⟩,t,⟨GW,GX⟩,ht,L⟩:=bg (g:=ao 2) (body:=dI) (λ(k:Nat)=>D.int k) (λ(s:Nat×List (List Int))(t:Sl×Sl)=>[.io<|Row ns s.1,.ow<|aG s.2,t.1,t.2,.no,.no,.no,.no,.no,.no,.no,.no]) iJ (List.range n) (λk s=>s.2.length=k/\A7 s.2) (p+1,[]) (.no,.no) ⟨rfl,rfl⟩ ⟨rfl,λs hs=>by simp at hs⟩ (by
  intro i k hk s t ht hP;obtain⟨q,gs⟩:=s;obtain⟨t3,t4⟩:=t;obtain⟨f3,f4⟩:=ht;obtain⟨hl,aM⟩:=hP;dsimp only at f3 f4 hl aM;obtain⟨rfl,hk⟩:=bF hk;obtain⟨m,tk,hm4⟩:=drawn ns q 4 WR;have tk:bN [Row ns q,.int 4]=.ok (.int m) [Row ns<|q+1]:=tk;have er:=j8 m WR;obtain⟨q',ys,hc,he⟩:=mH (it:=bO [(aa 3)]) (elt:=fD) (k:=12) (r0:=[.io<|Row ns<|q+1,.ow<|aG gs,.sh<|.int k,.sh<|.int m,.no,.no,.no,.no,.no,.no,.no,.no]) (λ(k:Nat)=>D.int k) (λq=>[.io<|Row ns q,.ow<|aG gs,.sh<|.int k,.sh<|.int m,.no,.no,.no,.no,.no,.no,.no,.no]) (λ_ y=>0<=y/\y<=3) (List.range m) (q+1) (λ_=>rfl) ah (by simp;lia) (λj _ q'=>by obtain⟨x,t8,x0,x8⟩:=aP ns q' 8 WR;obtain⟨v,v0,v3,iv⟩:=abY x x0 x8;exact⟨q'+1,v,⟨v0,v3⟩,λacc=>by unfold fD;exact ah⟩);have yl:=he.len;simp only[List.length_range] at yl;have hy:SI ys:=si3 ys WR λy hy=>by obtain⟨_,_,h⟩:=he.right y hy;exact h
  have ap:=OY gs ys WR;refine⟨(q',gs++[ys]),(.sh<|.int k,.sh<|.int m),⟨by simp[hl],λx hx=>?_⟩,⟨rfl,rfl⟩,?_⟩;rcases List.mem_append.mp hx with hx|hx;exact aM x hx;have:x=ys:=by simpa using hx
  subst this;exact hy;have e:ao 2 (.int (k:Int)) [.io<|Row ns q,.ow<|aG gs,t3,t4,.no,.no,.no,.no,.no,.no,.no,.no]=.ok () [.io<|Row ns q,.ow<|aG gs,.sh<|.int k,t4,.no,.no,.no,.no,.no,.no,.no,.no]:=by simp[f3]
  dsimp only;rw[aE,e,ag,show dI _=.ok .nx _ by unfold dI;exact ah];rfl)
 obtain⟨t3,t4⟩:=t;obtain⟨f3,f4⟩:=ht;simp only[List.length_range] at GW;dsimp only at GW GX f3 f4 L;obtain⟨x,tv,x0,x4⟩:=aP ns q1 4 WR;obtain⟨v,v0,v4,iv⟩:=abX x x0 x4;have hv:SI [v]:=⟨T2,λx hx=>by simp at hx;lia,by simp[ak];lia⟩;have ap:fQ (.tup [.int v]) (aG gs)=some (aG<|gs++[[v]]):=OY gs [v] WR;have HN:A7 (gs++[[v]]):=λx hx=>by
  rcases List.mem_append.mp hx with hx|hx;exact GX x hx;have:x=[v]:=by simpa using hx
  subst this;exact hv
 have M8:sd (gs++[[v]]) ((gs++[[v]]).length-1)=[v]:=by simp[sd]
 have hg3:2<=(gs++[[v]]).length/\(gs++[[v]]).length<=3:=by simp;lia
 generalize hgz:gs++[[v]]=gz at *;have ln:=bK gz;obtain⟨tn,tt,htn⟩:=drawn ns (q1+1) gz.length WR;have er2:=j8 gz.length WR;let pl:=λ(k:Nat)=>PL.given<|((k+tn) % gz.length:Nat);have c6:aC 1 (bO [(aa 4)]) (ao 12) (VP.ret true) dj [.io<|Row ns<|q1+2,.ow<|aG gz,t3,t4,.sh<|.int gz.length,.sh<|.int tn,.no,.no,.no,.no,.no,.no]=.ok (Pg<|(List.range gz.length).map pl) [.io<|Row ns<|q1+2,.ow<|aG gz,t3,t4,.sh<|.int gz.length,.sh<|.int tn,.no,.no,.no,.no,.no,.no]:=by refine cJ (λ(k:Nat)=>D.int k) (λk=>(pl k).d) (List.range gz.length) ah (by simp;lia) (by simp[Pg,Function.comp_def]) λk hk acc=>?_;have md:=bP ((k:Int)+tn) gz.length WR;rw[show ((k:Int)+tn) % (gz.length:Int)=(((k+tn) % gz.length:Nat):Int) by simp] at md;show dj _=.ok (.tup [.str<|nm 0,.int (((k+tn) % gz.length:Nat):Int)]) _;generalize (k+tn) % gz.length=m at *;unfold dj;exact ah
 let sl:=λ(k:Nat)=>sd gz<|(k+tn) % gz.length;have c7:aC 1 (cG<|aa 6) (ao 12) (VP.ret true) dq [.sh<|Row ns<|q1+2,.sh<|aG gz,eY t3,eY t4,.sh<|.int gz.length,.sh<|.int tn,.sh<|Pg<|(List.range gz.length).map pl,.no,.no,.no,.no,.no]=.ok (.lst<|((List.range gz.length).map sl).map T) [.sh<|Row ns<|q1+2,.sh<|aG gz,eY t3,eY t4,.sh<|.int gz.length,.sh<|.int tn,.sh<|Pg<|(List.range gz.length).map pl,.no,.no,.no,.no,.no]:=by refine cJ (λ(k:Nat)=>(pl k).d) (λk=>T<|sl k) (List.range gz.length) (by simp[F3,Function.comp_def]) (by simp;lia) (by simp[Function.comp_def]) λk hk acc=>?_;have ib:=bu gz ((k+tn) % gz.length)<|Nat.mod_lt _ WR;have i1:aj (pl k).d (.int 1)=some (.int<|((k+tn) % gz.length:Nat)):=rfl;generalize (pl k).d=ld at *;rw[show sl k=sd gz ((k+tn) % gz.length) from rfl];generalize (k+tn) % gz.length=j at ib i1 ⊢;unfold dq;exact ah
 have nl:=noLs_T<|(List.range gz.length).map sl;have v7:jn (aC 1 (cG<|aa 6) (ao 12) (VP.ret true) dq) [.io<|Row ns<|q1+2,.ow<|aG gz,t3,t4,.sh<|.int gz.length,.sh<|.int tn,.ow<|Pg<|(List.range gz.length).map pl,.no,.no,.no,.no,.no]=.ok (aG<|(List.range gz.length).map sl) [.io<|Row ns<|q1+2,.ow<|aG gz,t3,t4,.sh<|.int gz.length,.sh<|.int tn,.ow<|Pg<|(List.range gz.length).map pl,.no,.no,.no,.no,.no]:=by rw[v8];simp only[List.map_cons,List.map_nil,Gy,wV,wW,Gz];rw[c7,wU _ _ _ nl];rfl
 obtain⟨ix_,hix⟩:∃ix_:Nat,ix_=gz.length-1-tn:=⟨_,rfl⟩;have mi:fM (.int<|(gz.length:Int)-1-tn) (.int gz.length)=some (.int (ix_:Int)):=by rw[bP _ _ WR,Int.emod_eq_of_lt WR WR];exact congrArg (λz=>some<|D.int z) WR
 have G0:Gd gz ((List.range gz.length).map pl) ((List.range gz.length).map sl) ix_:=by
  have es:∀i,i<gz.length->sd ((List.range gz.length).map sl) i=sl i:=λi hi=>by simp[sd,hi]
  refine⟨T2,λi l hl r hr=>?_,λi l hl=>?_,λs hs=>?_,by simp;lia,?_,λz=>?_⟩;obtain⟨k,_,rfl⟩:=List.mem_map.mp<|Ct hl;simp[pl,PL.ns] at hr;have hi:=(List.getElem?_eq_some_iff.mp hl).1;simp only[List.length_map,List.length_range] at hi;have:l=pl i:=by simpa[hi] using hl.symm
  subst this;rw[es i hi];exact⟨(i+tn) % gz.length,rfl,Nat.mod_lt _ WR,rfl⟩;obtain⟨k,hk,rfl⟩:=List.mem_map.mp hs;exact HN.at<|Nat.mod_lt _ WR;rw[es _ WR];show (sd gz<|(ix_+tn) % gz.length).length=1;rw[show ix_+tn=gz.length-1 by lia,Nat.mod_eq_of_lt WR,M8];rfl;have:=congrArg List.length z;rw[SS,Xm,List.length_nil] at this;lia
 have acO:((List.range gz.length).map pl).length=gz.length:=T2;generalize ((List.range gz.length).map pl)=ls0 at *;generalize ((List.range gz.length).map sl)=ss0 at *;obtain⟨y,t10,y0,y10⟩:=aP ns (q1+2) 10 WR;obtain⟨Zn,aeC,acQ⟩:∃n:Nat,aV (.int 1) (.int y)=some (.int (n:Int))/\n<=10/\1<=n:=⟨(1+y).toNat,congrArg (λz=>some<|D.int z) WR,WR,WR⟩;have adU:=j8 Zn WR;obtain⟨⟨q3,ls,ss⟩,t,⟨hll,hG⟩,ht,L5⟩:=bg (g:=ao 2) (body:=dJ) (λ(k:Nat)=>D.int k) (λ(s:Nat×List PL×List (List Int))(t:Sl×Sl×Sl×Sl)=>Fp ns gz gz.length tn ix_ s.2.1 s.2.2 s.1 t.1 t4 t.2.1 t.2.2.1 t.2.2.2) Q2c (List.range Zn) (λk s=>s.2.1.length=gz.length+k/\Gd gz s.2.1 s.2.2 ix_) (q1+3,ls0,ss0) (t3,.no,.no,.no) ⟨f3,rfl,rfl,rfl⟩ ⟨WR,G0⟩ (by intro i k hk s t ht hP;obtain⟨q,ls,ss⟩:=s;obtain⟨s2,s9,JE,BV⟩:=t;obtain⟨g2,g9,g10,g11⟩:=ht;obtain⟨hl,hG⟩:=hP;dsimp only at g2 g9 g10 g11 hl hG;obtain⟨rfl,hk⟩:=bF hk;obtain⟨l,t,q',Zu,JF,JG,e,hG',k9,k10,k11⟩:=Ym ns gz HN WR tn ix_ ls ss hG WR q (.sh<|.int k) t4 s9 JE BV g9 g10 g11;refine⟨(q',ls++[l],ss++[t]),(.sh<|.int k,Zu,JF,JG),⟨by simp;lia,hG'⟩,⟨rfl,k9,k10,k11⟩,?_⟩;dsimp only;rw[aE,show ao 2 (.int (k:Int)) (Fp ns gz gz.length tn ix_ ls ss q s2 t4 s9 JE BV)=.ok () (Fp ns gz gz.length tn ix_ ls ss q (.sh<|.int k) t4 s9 JE BV) by simp[Fp,g2],ag,e];rfl);obtain⟨s2,s9,JE,BV⟩:=t;simp only[List.length_range] at hll;dsimp only[Fp] at hll hG L5;have VN:aG []=.lst []:=rfl;rw[VN] at L;refine⟨ls,ss,gz,ix_,q3,?_,hG,HN,WR,hg3.2,WR,WR⟩;clear G0 hG HN GX nl c7 M8;unfold zI KV;exact rn
theorem An(xs:Zw)(n:Nat)(hx:xs.length<=100)(hn:n<=100):xI [T xs,.int n]=.ok (Z<|ahead xs n) []:=by
 rw[xI,ef _ _ _ _ rfl];unfold Cz;have er:rk [.int<|(n:Int)-xs.length]=some ((List.range<|n-xs.length).map λ(k:Nat)=>.int k):=qF _ _ WR WR WR;have hc:aC 1 (bO [m2 jv (aa 1)<|m1 cw<|aa 0]) (ao 2) (VP.ret true) jc [.sh<|T xs,.sh<|.int n]=.ok (Z<|List.replicate (n-xs.length) 1) [.sh<|T xs,.sh<|.int n]:=by rw[O8 (ds:=(List.range<|n-xs.length).map λ(k:Nat)=>.int k) (λ_=>.int 1)];congr 1;simp[Z,Function.comp_def,List.map_const'];simp[er];rfl;simp;lia;intro d _ acc;rfl
 have e2:aV (Z<|List.replicate (n-xs.length) 1) (Z xs)=some (Z<|ahead xs n):=by rw[OW];rfl;simp[iz];lia
 simp[hc,e2]
theorem WX(one other:Zw)(h1:one.length<=100)(h2:other.length<=100):vI [T one,T other]=.ok (BJ<|meet one other) []:=by
 obtain⟨n,hn⟩:∃n,max one.length other.length=n:=⟨_,rfl⟩;have rg:n<=100:=hn ▸ Nat.max_le.mpr ⟨h1,h2⟩;have mx:maxD [.int (one.length:Int),.int (other.length:Int)]=some (.int (n:Int)):=by rw[oY,show max (one.length:Int) other.length=n by lia]
 have ez:nJ [Z<|ahead one n,Z<|ahead other n]=some ((pairs one other).reverse.map λp=>.tup [.int p.1,.int p.2]):=by rw[nK _ _ _ _ rfl rfl,<-hn,jZ]
 have o1:=An one n h1 rg;have o2:=An other n h2 rg;have L:=kL (g:=b8 [4,5]) (body:=fL) (λ(p:Int×Int)=>D.tup [.int p.1,.int p.2]) (λ(s:Zw)(t:Sl×Sl)=>[.sh<|T one,.sh<|T other,.sh<|.int (n:Nat),.ow<|Z s,t.1,t.2]) iJ OE (pairs one other).reverse (λk s=>s.length=k) [] (.no,.no) ⟨rfl,rfl⟩ rfl ?_;rw[rX,Ji] at L;unfold meet;by_cases q:(pairs one other).all (λp=>qu p.1 p.2)=true;rw[Zh q] at L;obtain⟨_,t,_,L⟩:=L;rw[Zh q];simp only[List.nil_append] at L;rw[show Z []=D.lst [] from rfl,show (pairs one other).reverse.map (λp=>pk p.1 p.2)=((pairs one other).map λp=>pk p.1 p.2).reverse from Xx] at L;unfold vI CK BJ;exact rn;rw[Y4 q] at L;obtain⟨s',t,L⟩:=L;rw[Y4 q];rw[show Z []=D.lst [] from rfl] at L;unfold vI CK BJ;exact rn;intro i p hp acc t ht hP;have hi:=(List.getElem?_eq_some_iff.mp hp).1;obtain⟨t4,t5⟩:=t;obtain⟨h4,h5⟩:=ht;dsimp only at h4 h5 hP;have e1:∀x:Int,fQ (.int x) (Z acc)=some (Z<|acc++[x]):=λx=>mz _ _ (by simp[pairs] at hi;omega);generalize T one=O1 at *;generalize T other=O2 at *;have x1:aE (b8 [4,5]) fL (.tup [.int p.1,.int p.2]) [.sh O1,.sh O2,.sh<|.int (n:Nat),.ow<|Z acc,t4,t5]=if qu p.1 p.2 then .ok .nx [.sh O1,.sh O2,.sh<|.int (n:Nat),.ow<|Z<|acc++[pk p.1 p.2],.sh<|.int p.1,.sh<|.int p.2] else .ok (.rt .aQ) [.sh O1,.sh O2,.sh<|.int (n:Nat),.ow<|Z acc,.sh<|.int p.1,.sh<|.int p.2]:=by have n1:=cu p.1 p.2;have n2:=cu p.1 1;have n3:=cu p.2 1;have n4:=fV p.1 1;have e1x:=e1 p.1;have e1y:=e1 p.2;rw[show qu p.1 p.2=(decide (p.1=1)||decide (p.2=1)||decide (p.1=p.2)) by simp[qu,Bool.or_assoc],show pk p.1 p.2=if decide (p.1=1)=true then p.2 else p.1 by simp[pk],aE,show b8 [4,5] (.tup [.int p.1,.int p.2]) _=.ok () [.sh O1,.sh O2,.sh<|.int (n:Nat),.ow<|Z acc,.sh<|.int p.1,.sh<|.int p.2] by simp[h4,h5],ag];clear e1;generalize decide (p.1=1)=b1 at *;generalize decide (p.2=1)=b2 at *;generalize decide (p.1=p.2)=b3 at *;unfold fL;cases b1<;>cases b2<;>cases b3<;>exact ah
 unfold OE;dsimp only;rw[x1];by_cases q:qu p.1 p.2=true;rw[Zh q,Zh q];exact⟨by simp[hP],(_,_),⟨rfl,rfl⟩,rfl⟩;rw[Y4 q,Y4 q];exact⟨acc,(_,_),rfl⟩
theorem uk{s t m:Zw}(h1:s.length<=100)(h2:t.length<=100)(e:meet s t=some m):vI [T s,T t]=.ok (T m) []:=by have:=WX s t h1 h2;rwa [e] at this
theorem jw(s:Zw)(k:Nat)(hk:k<s.length)(hl:s.length<=100):tH [T s,.int k]=.ok (T<|wo s k) []:=by have a2:aV (T<|s.take k) (T<|s.drop<|k+1)=some (T<|wo s k):=dX _ _ (by simp[iz];omega);have c1:=rM s k Ry;have c2:=pU s (k+1) Ry;rw[show (((k+1:Nat)):Int)=(k:Int)+1 by omega] at c2;unfold tH CA;exact rn
theorem ec(s:Zw)(k:Nat)(x:Int)(hk:k<s.length)(hl:s.length<=100):vF [T s,.int k,.int x]=.ok (T<|rep s k x) []:=by have a1:aV (T<|s.take k) (.tup [.int x])=_:=dX (s.take k) [x] (by simp[iz];lia);have a2:=dX (s.take k++[x]) (s.drop<|k+1) (by simp[iz];lia);have c1:=rM s k WR;have c2:=pU s (k+1) WR;rw[show (((k+1:Nat)):Int)=(k:Int)+1 by lia] at c2;rw[show s.take k++[x]++s.drop (k+1)=rep s k x by simp[rep]] at a2;unfold vF Lf;exact rn
theorem uC(s:Zw)(k:Nat)(x:Int)(hk:k<=s.length)(hl:s.length<=100):vE [T s,.int k,.int x]=.ok (T<|pin s k x) []:=by have a1:aV (T<|s.take k) (.tup [.int x])=_:=dX (s.take k) [x] (by simp[iz];lia);have a2:=dX (s.take k++[x]) (s.drop k) (by simp[iz];lia);have c1:=rM s k WR;have c2:=pU s k WR;rw[show s.take k++[x]++s.drop k=pin s k x by simp[pin]] at a2;unfold vE Lb;exact rn
theorem dZ(s:Zw)(k:Nat)(hk:k<s.length):rP [T s,.int k]=.ok (.bl true) []:=by
 have e2:ltI (.int (k:Int)) (.int s.length)=some (.bl true):=by rw[hZ,Pj WR]
 unfold rP y9;exact rn
theorem kD(s:Zw)(k:Nat)(p:Int)(hk:k<s.length)(h0:0<=p)(h1:p<s.getD k 0):DE [T s,.int k,.int p]=.ok (.bl true) []:=by
 have e2:ltI (.int p) (.int<|s.getD k 0)=some (.bl true):=by rw[hZ,Pj h1]
 have hs:=dZ s k hk;have i1:=hJ s k hk;unfold DE KI;exact rn
theorem HH(d:Nat)(s:Zw)(k:Nat)(hk:k<s.length)(hl:s.length<=100)(hd:d∈[19,21,22,23])(h0:s.getD k 0=0->d≠22/\d≠23):vt [.str<|nm d,T s,.int k]=.ok (T<|wo s k) []:=by
 have hs:=dZ s k hk;have i1:=hJ s k hk;have w:=jw s k hk hl;generalize s.getD k 0=z at *;unfold vt CF;by_cases z0:z=0;have h1:=h0 z0;have i2:inD false (.str<|nm d) (.tup [.str<|nm 22,.str<|nm 23])=some (.bl false):=by simp only[List.mem_cons,List.not_mem_nil,or_false] at hd;rcases hd with rfl|rfl|rfl|rfl;kernel_rfl!;kernel_rfl!;exact absurd rfl h1.1;exact absurd rfl h1.2
 exact rn;exact rn
theorem Jh(s:Zw)(k:Nat)(y:Int)(hk:k<s.length)(hl:s.length<=100):DL [T s,.int k,T [y]]=.ok (T<|rep s k y) []:=by have hs:=dZ s k hk;have w:=ec s k y hk hl;unfold DL K9;exact rn
theorem Q1l(s t:Zw)(k:Nat)(hk:k<s.length)(hl:s.length<=100)(h1:s.length=t.length)(h2:wo s k=wo t k):DG [T s,T t,.int k]=.ok (T<|rep s k<|s.getD k 0+t.getD k 0) []:=by
 have hs:=dZ s k hk;have w:=ec s k (s.getD k 0+t.getD k 0) hk hl;have w1:=jw s k hk hl;have w2:=jw t k WR WR;have i1:=hJ s k hk;have i2:=hJ t k WR;have n1:jo (.int (s.length:Int)) (.int t.length)=some (.bl false):=by rw[cu,Pj WR];rfl
 have n2:jo (T<|wo s k) (T<|wo t k)=some (.bl false):=by rw[E3,Pj h2];rfl
 unfold DG KP;exact rn
theorem tLC(s o:Zw)(hl:s.length<=60)(h1:sortI o=mj s.length)(h2:o.length=s.length):DS [T s,T o]=.ok (T<|o.map λx=>s.getD x.toNat 0) []:=by
 have e1:=Q2G o WR;have e2:=Iy s.length WR;have e3:jo (Z<|sortI o) (Z<|mj s.length)=some (.bl false):=by rw[W2,Pj h1];rfl
 have c:aC 1 (cG<|aa 1) (ao 2) (VP.ret true) dA [.sh<|T s,.sh<|T o]=.ok (Z<|o.map λx=>s.getD x.toNat 0) [.sh<|T s,.sh<|T o]:=by refine cJ D.int (λx=>D.int<|s.getD x.toNat 0) o ah WR (by simp[Z,Function.comp_def]) λx hx acc=>?_;obtain⟨j,rfl,hj⟩:=nB h1 hx;have ix:aj (T s) (.int j)=some (.int<|s.getD (j:Int).toNat 0):=cA s j WR WR;unfold dA;exact ah
 unfold DS Lr;exact rn
theorem Vj(s:Zw)(k:Nat)(b st m:Int)(hk:k<s.length)(hl:s.length<=100)(iO:st≠0/\-3<=st/\st<=3)(hm:0<=m)(hp:0<m->(0<=b/\b<s.getD k 0)/\0<=b+st*(m-1)/\b+st*(m-1)<s.getD k 0):Dz [T s,.int k,.int b,.int st,.int m]=.ok (T<|rep s k m) []:=by have hs:=dZ s k hk;have w:=ec s k m hk hl;have c1:¬st=0:=iO.1;have c2:¬m<0:=WR;unfold Dz KC;by_cases c3:0<m;have h:=hp c3;have p1:=kD s k b hk h.1.1 h.1.2;have p2:=kD s k _ hk h.2.1 h.2.2;have mu:=gS st (m-1) WR WR;exact rn;exact rn
theorem Q2M(s:Zw)(k:Nat)(p:Int)(hk:k<s.length)(hl:s.length<=100)(h0:0<=p)(h1:p<s.getD k 0):DA [T s,.int k,.int p]=.ok (T<|wo s k) []:=by have p1:=kD s k p hk h0 h1;have w:=jw s k hk hl;unfold DA KD;exact rn
theorem SV{s t u m n:Zw}(hs:s.length<=4)(ht:t.length<=4)(hu:u.length<=4)(e1:meet s t=some m)(e2:meet m u=some n):DR [T s,T t,T u]=.ok (T n) []:=by have ml:=cz e1;have m1:=uk WR WR e1;have m2:=uk WR WR e2;unfold DR Lq;exact rn
theorem tq(body:M Fl)(hb:body=ew)(xs:Zw)(h:Sm xs)(d:D):∃t,loop (ao 2) body (xs.map .int) [.sh d,.sh<|.int 1,.no]=.ok .nx [.sh d,.sh<|.int<|ak xs,t]:=by subst hb;obtain⟨_,t,_,L⟩:=hV (g:=ao 2) (body:=ew) D.int (λ(s:Int)(t:Sl)=>[.sh d,.sh<|.int s,t]) p9 (λ_ _=>True) (λp x=>p*x) xs 1 .no rfl trivial (by intro i x hx p t ht _;have hm:=h x<|Ct hx;have hf:free (some t)=true:=ht;refine⟨trivial,.sh<|.int x,rfl,?_⟩;simp[aE,ew,hf,cV p x WR WR]);rw[kO,Int.one_mul] at L;exact⟨t,L⟩
theorem dY(xs:Zw)(h:Sm xs):rO [T xs]=.ok (.int<|ak xs) []:=by rw[rO,ef _ _ _ _ rfl];obtain⟨t,L⟩:=tq ew rfl xs h<|T xs;simp[KA,L]
theorem zl(s:Zw)(h:SI s):rS [T s]=.ok (.bl true) []:=by
 have hl:=h.1;have c:aC 1 (cG<|aa 0) (ao 1) (VP.ret true) fT [.sh<|T s]=.ok (.lst<|s.map λx=>D.bl true) [.sh<|T s]:=by
  refine cJ D.int (λx=>D.bl true) s ah Ry rfl λx hx acc=>?_;have hb:=h.2.1 x hx;have e1:EG (.int 0) (.int x)=some (.bl true):=by rw[gy,Pj hb.1]
  have e2:EG (.int x) (.int 64)=some (.bl true):=by rw[gy,Pj Ry]
  unfold fT;exact ah
 have e:oC true (.lst<|s.map λx=>D.bl true)=some (.bl true):=by rw[tf (λ_=>true) s];simp
 have hc:=dY s λx hx=>by have:=h.2.1 x hx;omega
 have l4:¬(4:Int)<s.length:=Ry;have e4:EG (.int<|ak s) (.int 4096)=some (.bl true):=by rw[gy,Pj (by have:=h.2.2;omega)]
 unfold rS Lj;exact rn
theorem PL.T3(l:PL):lh [l.d]=.ok (fj l.ns) []:=l.named
theorem Q28{n:Nat}{G S:Nat->Zw}{l:PL}{t:Zw}(h:Told n G S l t):zB [l.d]=.ok (.bl true) []:=by
 cases l with
 |one d a=>obtain⟨⟨h1,h2⟩,_⟩:=h;have:d=16\/d=17\/d=18:=WR;rcases this with rfl|rfl|rfl<;>kernel_rfl!
 |both d a b=>obtain⟨⟨h1,h2⟩,_⟩:=h;have:d=19\/d=20\/d=21\/d=22\/d=23\/d=24\/d=25:=WR;rcases this with rfl|rfl|rfl|rfl|rfl|rfl|rfl<;>kernel_rfl!
 |fold d a k=>obtain⟨_,_,_,h,_⟩:=h;simp only[List.mem_cons,List.not_mem_nil,or_false] at h;rcases h with rfl|rfl|rfl|rfl<;>kernel_rfl!
 |run d a k=>obtain⟨_,_,_,h,_⟩:=h;simp only[List.mem_cons,List.not_mem_nil,or_false] at h;rcases h with rfl|rfl|rfl|rfl<;>kernel_rfl!
 |_=>kernel_rfl!
theorem FV(x:Int)(h:Rt x):zF [.int x]=.ok (.bl true) []:=by
 have e1:EG (.int 0) (.int x)=some (.bl true):=by rw[gy,Pj h.1]
 have e2:ltI (.int x) (.int 1000003)=some (.bl true):=by rw[hZ,Pj h.2]
 unfold zF KO;exact rn
theorem StL{n:Nat}{G S:Nat->Zw}{l:PL}{t:Zw}(h:Told n G S l t):kj [l.d]=.ok (.bl true) []:=by
 by_cases c1:l.k=1;cases l<;>simp only[PL.k] at c1<;>try lia
 rename_i s x;have r:=FV x h.2;show kj [.tup [.str<|nm 1,T s,.int x]]=_;unfold kj za;exact rn;by_cases c8:l.k=8;cases l<;>simp only[PL.k] at c8<;>try lia
 rename_i a k m x;obtain⟨_,_,_,hr,_⟩:=h;have r:=FV x hr;show kj [.tup [.str<|nm 8,.int a,.int k,.int m,.int x]]=_;unfold kj za;exact rn;have k1:=l.kind;have l16:=l.Wq;have e1:eh (.str<|nm l.k) (.str<|nm 1)=some (.bl false):=by rw[Dq _ _ WR WR,Zq c1]
 have e2:jo (.str<|nm l.k) (.str<|nm 8)=some (.bl true):=by rw[neS _ _ WR WR,Zq c8];rfl
 generalize l.d=ld at *;unfold kj za;exact rn
theorem Gr{n:Nat}{G S:Nat->Zw}{l:PL}{t:Zw}{m:Nat}(h:Told n G S l t)(hl:∀r∈l.ns,r<m):gM [l.d,.int m,.int n]=.ok (.bl true) []:=by
 by_cases c0:l.k=0;cases l<;>simp only[PL.k] at c0<;>try lia
 obtain⟨k,rfl,hk,_⟩:=h;have e2:ltI (.int (k:Int)) (.int n)=some (.bl true):=by rw[hZ,Pj WR]
 show gM [.tup [.str<|nm 0,.int (k:Int)],.int m,.int n]=_;unfold gM rE;exact rn;have k1:=l.kind;have l16:=l.Wq;have lf:=l.lr;have e1:eh (.str<|nm l.k) (.str<|nm 0)=some (.bl false):=by rw[Dq _ _ WR WR,Zq c0]
 have nb:=l.T3;generalize l.d=ld at *;have c:aC 1 (cG<|au lh [.val<|aa 0]) (ao 3) (VP.ret true) bw [.sh ld,.sh<|.int m,.sh<|.int n]=.ok (.lst<|l.ns.map λ_=>D.bl true) [.sh ld,.sh<|.int m,.sh<|.int n]:=by
  refine cJ (λa=>D.int (a:Nat)) (λ_=>D.bl true) l.ns ah WR rfl λa ha acc=>?_;have hb:=hl a ha;have e2:ltI (.int (a:Int)) (.int m)=some (.bl true):=by rw[hZ,Pj WR]
  unfold bw;exact ah
 have e:oC true (.lst<|l.ns.map λ_=>D.bl true)=some (.bl true):=by rw[tf (λ_=>true) l.ns];simp
 unfold gM rE;exact rn
theorem JW{gs ss:T1}{l:PL}{t:Zw}(h:Told gs.length (sd gs) (sd ss) l t)(hl:∀r∈l.ns,r<ss.length)(si:A7 ss)(ht:SI t):cK [l.d,aG ss,aG gs]=.ok (T t) [aG ss]:=by
 have key:∀a,a∈l.ns->aj (aG ss) (.int (a:Int))=some (T<|sd ss a)/\(sd ss a).length<=4/\SI (sd ss a):=λa ha=>⟨bu ss a<|hl a ha,(si.at<|hl a ha).1,si.at<|hl a ha⟩;have sm:∀s,SI s->Sm s:=λs h x hx=>by have:=h.2.1 x hx;lia
 cases l<;>simp only[PL.ns,List.mem_cons,List.not_mem_nil,or_false,forall_eq_or_imp,forall_eq] at key<;>simp only[PL.d,PL.k,PL.ps];rename_i j;obtain⟨k,rfl,hk,rfl⟩:=h;have ib:=bu gs k hk;unfold cK dS;exact rn;rename_i s x;obtain⟨rfl,_⟩:=h;unfold cK dS;exact rn;rename_i a o;obtain⟨h1,h2,rfl⟩:=h;obtain⟨ia,il,_⟩:=key;have w:=tLC _ _ WR h1 h2;have v:gN [.tup [.str<|nm 2,.int a,T o],T<|sd ss a]=.ok (T<|o.map λx=>(sd ss a).getD x.toNat 0) []:=by unfold gN pP;exact rn
 unfold cK dS;exact rn;rename_i a k b st m;obtain⟨j,rfl,hj,h1,h2,h3,rfl⟩:=h;obtain⟨ia,il,_⟩:=key;have w:=Vj _ _ b st m hj WR h1 h2 h3;have v:gN [.tup [.str<|nm 3,.int a,.int (j:Int),.int b,.int st,.int m],T<|sd ss a]=.ok (T<|rep (sd ss a) j m) []:=by unfold gN pP;exact rn
 unfold cK dS;exact rn;rename_i a k p;obtain⟨j,rfl,hj,h1,rfl⟩:=h;obtain⟨ia,il,_⟩:=key;have w:=Q2M _ _ p hj WR h1.1 h1.2;have v:gN [.tup [.str<|nm 4,.int a,.int (j:Int),.int p],T<|sd ss a]=.ok (T<|wo (sd ss a) j) []:=by unfold gN pP;exact rn
 unfold cK dS;exact rn;rename_i a k;obtain⟨j,rfl,hj,rfl⟩:=h;obtain⟨ia,il,_⟩:=key;have w:=uC (sd ss a) j 1 hj WR;have e2:EG (.int (j:Int)) (.int (sd ss a).length)=some (.bl true):=by rw[gy,Pj WR]
 have v:gN [.tup [.str<|nm 5,.int a,.int (j:Int)],T<|sd ss a]=.ok (T<|pin (sd ss a) j 1) []:=by unfold gN pP;exact rn
 unfold cK dS;exact rn;rename_i a u;obtain⟨h1,rfl⟩:=h;obtain⟨ia,il,_⟩:=key;have w:=uk WR (by have:=ht.1;lia) h1;have e1:eh (T t) (T t)=some (.bl true):=by rw[Dp,Pj rfl]
 have v:gN [.tup [.str<|nm 6,.int a,T t],T<|sd ss a]=.ok (T t) []:=by unfold gN pP;exact rn
 unfold cK dS;exact rn;rename_i a u;obtain⟨h1,rfl⟩:=h;obtain⟨ia,il,is⟩:=key;have w1:=dY _<|sm _ is;have w2:=dY _<|sm _ ht;have v:gN [.tup [.str<|nm 7,.int a,T t],T<|sd ss a]=.ok (T t) []:=by unfold gN pP;exact rn
 unfold cK dS;exact rn;rename_i a k m x;obtain⟨j,rfl,hj,h1,rfl⟩:=h;obtain⟨ia,il,_⟩:=key;have w:=dZ _ _ hj;unfold cK dS;exact rn;rename_i d a;obtain⟨_,rfl⟩:=h;obtain⟨ia,il,_⟩:=key;unfold cK dS;exact rn;rename_i d a b;obtain⟨_,h1⟩:=h;obtain⟨⟨ia,il,_⟩,ib,Zf,_⟩:=key;have w:=uk WR WR h1;unfold cK dS;exact rn;rename_i a b c;obtain⟨u,h1,h2⟩:=h;obtain⟨⟨ia,il,_⟩,⟨ib,Zf,_⟩,ic,icl,_⟩:=key;have w:=SV il Zf icl h1 h2;unfold cK dS;exact rn;rename_i d a k;obtain⟨j,rfl,hj,h1,h2,rfl⟩:=h;obtain⟨ia,il,_⟩:=key;have w:=HH _ _ _ hj WR h1 h2;unfold cK dS;exact rn;rename_i d a k;obtain⟨j,rfl,hj,h1,rfl⟩:=h;obtain⟨ia,il,_⟩:=key;have w:=dZ _ _ hj;unfold cK dS;exact rn;rename_i a k b;obtain⟨j,y,rfl,hj,h1,rfl⟩:=h;obtain⟨⟨ia,il,_⟩,ib,Zf,_⟩:=key;rw[h1] at ib;have w:=Jh _ _ y hj WR;unfold cK dS;exact rn;rename_i a b k;obtain⟨j,rfl,hj,h1,h2,rfl⟩:=h;obtain⟨⟨ia,il,_⟩,ib,Zf,_⟩:=key;have w:=Q1l _ _ _ hj WR h1 h2;unfold cK dS;exact rn
theorem Iw{gs ss:T1}{l:PL}{t:Zw}(i:Nat)(h:Told gs.length (sd gs) (sd ss) l t)(hl:∀r∈l.ns,r<ss.length)(si:A7 ss)(ht:SI t):vH [.int i,l.d,aG ss,aG gs]=.ok (T t) [aG ss]:=by have e1:=Gr h hl;have e2:=StL h;have e3:=Q28 h;have e4:=JW h hl si ht;have e5:=zl t ht;have l1:=bK ss;have l2:=bK gs;generalize l.d=ld at *;unfold vH ve;exact rn
theorem qJ{gs:T1}{ls:Uc}{ss:T1}{ix_:Nat}(g:Gd gs ls ss ix_)(iN:ls.length<=14)(p:D){k:Nat}(hk:k<ls.length):b7 [.sh p,.sh<|aG gs,.ow<|aG<|ss.take k,.sh<|.int k,.sh (cE ls k).d]=.ok .nx [.sh p,.sh<|aG gs,.ow<|aG<|ss.take<|k+1,.sh<|.int k,.sh (cE ls k).d]:=by
 have BX:=g.len;have hl:ls[k]?=some (cE ls k):=by simp[cE,hk]
 have tl:(ss.take k).length=k:=by simp;lia
 have es:∀r,r<k->sd (ss.take k) r=sd ss r:=λr hr=>by simp[sd,hr]
 have lk:=Iw (ss:=ss.take k) k ((g.told k _ hl).mono λr hr=>es r<|g.wf k _ hl r hr) (λr hr=>by rw[tl];exact g.wf k _ hl r hr) (λs hs=>g.si s<|Bn hs)<|g.si.at WR;have ap:=OY (ss.take k) (sd ss k) WR;rw[show ss.take k++[sd ss k]=ss.take (k+1) by
  have:sd ss k=ss[k]:=by simp[sd,show k<ss.length by lia]
  rw[this];simp] at ap
 generalize (cE ls k).d=ld at *;unfold b7;exact ah
theorem ju(gs:T1)(ls:Uc)(ss:T1)(ix_:Nat)(g:Gd gs ls ss ix_)(iN:ls.length<=14):pW [Pg ls,aG gs]=.ok (aG ss) []:=by
 have hn:=List.length_pos_iff.mpr g.ne;have BX:=g.len;have ln:=jM ls;have en:gK [Pg ls]=some ((List.range ls.length).map λ(i:Nat)=>D.tup [.int i,(cE ls i).d]):=by rw[<-oT];rfl
 obtain⟨s,t,hs,ht,L⟩:=bg (g:=b8 [3,4]) (body:=b7) (λ(i:Nat)=>D.tup [.int i,(cE ls i).d]) (λ(s:T1)(t:Sl×Sl)=>[.sh<|Pg ls,.sh<|aG gs,.ow<|aG s,t.1,t.2]) iJ (List.range ls.length) (λk s=>s=ss.take k) [] (.no,.no) ⟨rfl,rfl⟩ T2 (by intro i k hk s t ht hP;obtain⟨rfl,hk⟩:=bF hk;obtain⟨t3,t4⟩:=t;obtain⟨f3,f4⟩:=ht;dsimp only at f3 f4;subst hP;have tu:=qJ g iN (Pg ls) hk;generalize (cE ls k).d=ld at *;refine⟨ss.take<|k+1,(.sh<|.int k,.sh ld),rfl,⟨rfl,rfl⟩,?_⟩;dsimp only;rw[aE,show b8 [3,4] (.tup [.int (k:Int),ld]) _=.ok () [.sh<|Pg ls,.sh<|aG gs,.ow<|aG<|ss.take k,.sh<|.int k,.sh ld] by simp[f3,f4],ag,tu];rfl);obtain⟨t3,t4⟩:=t;subst hs;dsimp only at L;rw[Xm,Ic WR] at L;have VN:aG []=.lst []:=rfl;rw[VN] at L;have c1:¬(ls.length:Int)=0:=WR;have c2:¬(40:Int)<ls.length:=WR;unfold pW CL;exact rn
def pD(p:Int×Int×Int):D:=.tup [.int p.1,.int p.2.1,.int p.2.2]
def WD(w:Q6):D:=.lst (w.map pD)
def Ux(m:Nat)(p:Int×Int×Int):Prop:=p.2.1=-1\/0<=p.2.1/\p.2.1<m
def uU(m n:Nat)(w:Q6):Prop:=w.length=n/\∀p∈w,Ux m p
def qN(x:Int):Int×Int×Int:=(x,-1,0)
theorem yL(m:Nat)(x:Int):Ux m (qN x):=.inl rfl
theorem abd(w:Q6):cw (WD w)=some (.int w.length):=by simp[WD]
theorem Sv(w:Q6):b9 (WD w)=some (w.map pD):=rfl
theorem WM(w:Q6):eX (WD w)=some (WD w):=rfl
theorem SG(w:Q6)(k:Nat)(p:Int×Int×Int)(h:w[k]?=some p):aj (WD w) (.int (k:Int))=some (pD p):=by unfold WD;rw[mS];exact mU _ _ _ WR (by simp[h])
theorem XY(w:Q6)(k:Nat)(p:Int×Int×Int)(h:k<w.length):setAt (.int (k:Int)) (pD p) (WD w)=some (WD<|w.set k p):=by unfold WD;rw[nz _ _ _ WR (by simp;lia),IZ,List.map_set]
theorem addW(v w:Q6)(h:v.length+w.length<=1000):aV (WD v) (WD w)=some (WD<|v++w):=by unfold WD;rw[iW _ _ (by simp[iz];lia),S6]
theorem MJ(w:Q6)(k:Nat)(h:k<=w.length):g6 (WD w) none (some (k:Int))=some (WD<|w.take k):=by unfold WD;rw[pS,cutD,SS,pw _ _ _ h,lS];simp
theorem C9(w:Q6)(k:Nat)(h:k<=w.length):g6 (WD w) (some (k:Int)) none=some (WD<|w.drop k):=by unfold WD;rw[pS,cutD,SS,pw _ _ _ h,lS,Ic T2];simp
theorem wM(n:Nat)(h:n<=100):∃w,zO [.int n]=.ok (WD w) []/\uU n n w:=by
 have er:=j8 n WR;have c:aC 1 (bO [(aa 0)]) (ao 1) (VP.ret true) dz [.sh<|.int n]=.ok (WD<|(List.range n).map λ(k:Nat)=>((0:Int),(k:Int),(1:Int))) [.sh<|.int n]:=by refine cJ (λ(k:Nat)=>D.int k) (λk=>pD (0,(k:Int),1)) (List.range n) ah (by simp;lia) (by simp[WD,Function.comp_def]) λk hk acc=>?_;show dz _=.ok (.tup [.int 0,.int (k:Int),.int 1]) _;unfold dz;exact ah
 refine⟨(List.range n).map λ(k:Nat)=>((0:Int),(k:Int),(1:Int)),?_,T2,λp hp=>?_⟩;generalize (List.range n).map (λ(k:Nat)=>((0:Int),(k:Int),(1:Int)))=w at c;unfold zO Ll;exact rn;obtain⟨k,hk,rfl⟩:=List.mem_map.mp hp;have:=List.mem_range.mp hk;exact .inr ⟨T2,by simp;lia⟩
theorem tC1(x:Int):zL [.int x]=.ok (pD<|qN x) []:=by show _=FR.ok (.tup [.int x,.int<|-1,.int 0]) _;unfold zL K7;exact rn
theorem Qz(m:Nat)(p:Int×Int×Int)(b st:Int)(h:-(2 ^ 64)<st)(h2:st<2 ^ 64)(hp:Ux m p):∃p',vD [pD p,.int b,.int st]=.ok (pD p') []/\Ux m p':=by obtain⟨x,y,z⟩:=p;have m1:=gS st x h h2;have m2:=gS st z h h2;show ∃p',vD [.tup [.int x,.int y,.int z],.int b,.int st]=_/\_;by_cases c:st*z=0;exact⟨qN<|b+st*x,by unfold vD CI;exact rn,yL _ _⟩;refine⟨(b+st*x,y,st*z),?_,hp⟩;show _=FR.ok (.tup [.int<|b+st*x,.int y,.int<|st*z]) _;unfold vD CI;exact rn
theorem moved(m n:Nat)(w:Q6)(k:Nat)(b st:Int)(h:-(2 ^ 64)<st)(h2:st<2 ^ 64)(hk:k<n)(hw:uU m n w):∃w',DU [WD w,.int k,.int b,.int st]=.ok (WD w') []/\uU m n w':=by obtain⟨hl,hp⟩:=hw;obtain⟨p,hpk⟩:∃p,w[k]?=some p:=⟨_,UK WR⟩;obtain⟨p',e,ok⟩:=Qz m p b st h h2<|hp p<|Ct hpk;have i1:=SG w k p hpk;have l1:=WM w;have s1:=XY w k p' WR;refine⟨w.set k p',by unfold DU Lv;exact rn,by simp[hl],λx hx=>?_⟩;rcases List.mem_or_eq_of_mem_set hx with hx|rfl;exact hp x hx;exact ok
theorem turned(m n:Nat)(w:Q6)(o:Zw)(hw:uU m n w)(ho:∀x∈o,∃j:Nat,x=j/\j<n):∃w',DW [WD w,T o]=.ok (WD w') []/\uU m n w':=by
 have l1:=WM w;have ez:nJ [T o,WD w]=some ((o.zip w).map λq=>.tup [.int q.1,pD q.2]):=by
  have h:∀(o:Zw)(w:Q6),List.zipWith (λx y=>D.tup [x,y]) (o.map D.int) (w.map pD)=(o.zip w).map λq=>.tup [.int q.1,pD q.2]:=by intro o;induction o with|nil=>intro w;rfl|cons x o ih=>intro w;cases w with|nil=>rfl|cons p w=>simp[ih]
  simp only[nJ,uI,Sv,h]
 obtain⟨w',t,hP,ht,L⟩:=bg (g:=b8 [3,4]) (body:=eP) (λ(q:Int×Int×Int×Int)=>D.tup [.int q.1,pD q.2]) (λ(v:Q6)(t:Sl×Sl)=>[.sh<|WD w,.sh<|T o,.ow<|WD v,t.1,t.2]) iJ (o.zip w) (λ_ v=>uU m n v) w (.no,.no) ⟨rfl,rfl⟩ hw (by intro i q hq v t ht hP;obtain⟨t3,t4⟩:=t;obtain⟨f3,f4⟩:=ht;dsimp only at f3 f4;have hm:=Ct hq;obtain⟨x,p⟩:=q;obtain⟨j,rfl,hj⟩:=ho x (ug hm).1;have s1:=XY v j p (by rw[hP.1];exact hj);refine⟨v.set j p,(.sh<|.int j,.sh<|pD p),⟨by simp[hP.1],λy hy=>?_⟩,⟨rfl,rfl⟩,?_⟩;rcases List.mem_or_eq_of_mem_set hy with hy|rfl;exact hP.2 y hy;exact hw.2 _ (ug hm).2;dsimp only;rw[aE,show b8 [3,4] (.tup [.int (j:Int),pD p]) _=.ok () [.sh<|WD w,.sh<|T o,.ow<|WD v,.sh<|.int j,.sh<|pD p] by simp[f3,f4],ag,show eP _=.ok .nx _ by unfold eP;exact ah];rfl);exact⟨w',by unfold DW Lx;exact rn,hP⟩
theorem dropped(m n:Nat)(w:Q6)(k:Nat)(x:Int)(hk:k<=n)(hn:n<=100)(hw:uU m n w):∃w',DT [WD w,.int k,.int x]=.ok (WD w') []/\uU m (n+1) w':=by obtain⟨hl,hp⟩:=hw;have c1:=MJ w k WR;have c2:=C9 w k WR;have s1:=tC1 x;have a1:aV (WD<|w.take k) (.lst [pD<|qN x])=some (WD<|w.take k++[qN x]):=addW (w.take k) [qN x] (by simp;lia);have a2:=addW (w.take k++[qN x]) (w.drop k) (by simp;lia);refine⟨_,by unfold DT Lu;exact rn,by simp;lia,λp h=>?_⟩;rcases List.mem_append.mp h with h|h;rcases List.mem_append.mp h with h|h;exact hp p<|Bn h;rw[List.mem_singleton.mp h];exact yL _ _;exact hp p (O5 h)
theorem Kj(m n:Nat)(w:Q6)(k:Nat)(hk:k<n)(hn:n<=100)(hw:uU m n w):∃w',xH [WD w,.int k]=.ok (WD w') []/\uU m (n-1) w':=by obtain⟨hl,hp⟩:=hw;have c1:=MJ w k WR;have c2:=C9 w (k+1) WR;rw[show (((k+1:Nat)):Int)=(k:Int)+1 by lia] at c2;have a2:=addW (w.take k) (w.drop<|k+1) (by simp;lia);refine⟨_,by unfold xH Cy;exact rn,by simp;lia,λp h=>?_⟩;rcases List.mem_append.mp h with h|h;exact hp p<|Bn h;exact hp p (O5 h)
theorem pbn(m n:Nat)(w:Q6)(s:Zw)(hk:s.length<=n)(hn:n<=100)(hw:uU m n w):∃w',DV [WD w,T s]=.ok (WD w') []/\uU m s.length w':=by
 obtain⟨hl,hp⟩:=hw;have c1:=C9 w (w.length-s.length) Ry;rw[show (((w.length-s.length:Nat)):Int)=(w.length:Int)-s.length by omega] at c1;have l1:=abd w;have dl:(w.drop<|w.length-s.length).length=s.length:=by simp;omega
 have dp:∀p∈w.drop (w.length-s.length),Ux m p:=λp h=>hp p<|O5 h;generalize w.drop (w.length-s.length)=v at *;have ez:nJ [T s,WD v]=some ((s.zip v).map λq=>.tup [.int q.1,pD q.2]):=by
  have h:∀(o:Zw)(w:Q6),List.zipWith (λx y=>D.tup [x,y]) (o.map D.int) (w.map pD)=(o.zip w).map λq=>.tup [.int q.1,pD q.2]:=by intro o;induction o with|nil=>intro w;rfl|cons x o ih=>intro w;cases w with|nil=>rfl|cons p w=>simp[ih]
  simp only[nJ,uI,Sv,h]
 have c:aC 2 (ui [(aa 1),(aa 2)]) (b8 [3,4]) (VP.ret true) iD [.sh<|WD w,.sh<|T s,.sh<|WD v]=.ok (WD<|(s.zip v).map λq=>if q.1=1 then qN 0 else q.2) [.sh<|WD w,.sh<|T s,.sh<|WD v]:=by refine xD (λq:Int×Int×Int×Int=>D.int q.1) (λq=>pD q.2) (λq=>pD<|if q.1=1 then qN 0 else q.2) (s.zip v) ah (by simp;omega) (by simp[WD,Function.comp_def]) λq hq acc=>?_;obtain⟨x,p⟩:=q;dsimp only;unfold iD;by_cases h:x=1;rw[Zh h];exact ah;rw[Y4 h];exact ah
 refine⟨(s.zip v).map λq=>if q.1=1 then qN 0 else q.2,?_,by simp;omega,λp h=>?_⟩;generalize ((s.zip v).map λq=>if q.1=1 then qN 0 else q.2)=u at c;unfold DV Lw;exact rn;obtain⟨q,hq,rfl⟩:=List.mem_map.mp h;split;exact yL _ _;exact dp _ (ug hq).2
theorem fO:∀s:Zw,(cL s).length=s.length|[]=>rfl|_::s=>congrArg (·+1) (fO s)
theorem strides(s:Zw)(h:SI s):vK [T s]=.ok (T<|cL s) []:=by
 have hl:=h.1;have hd:Sd s:=⟨hl,λx hx=>by have:=h.2.1 x hx;lia⟩;obtain⟨⟨xs,st⟩,t,⟨h1,h2⟩,ht,L⟩:=bg (g:=ao 3) (body:=cO) D.int (λ(s':List Int×Int)(t:Sl)=>[.sh<|T s,.ow<|Z s'.1,.sh<|.int s'.2,t]) p9 s.reverse (λk s'=>s'.1.reverse=cL (s.drop<|s.length-k)/\s'.2=ak (s.drop<|s.length-k)) ([],1) .no rfl (by simp[cL,ak]) (by
  intro i y hy s' t ht hP;obtain⟨xs,st⟩:=s';obtain⟨p1,p2⟩:=hP;dsimp only at p1 p2;have hm:=h.2.1 y<|List.mem_reverse.mp<|Ct hy;have hi:=(List.getElem?_eq_some_iff.mp hy).1;rw[List.length_reverse] at hi;have hf:free (some t)=true:=ht;have e:s.drop (s.length-(i+1))=y::s.drop (s.length-i):=by rw[JH hi] at hy;have:=Yd (l:=s) (i:=s.length-(i+1)) WR;rw[this,show s.length-(i+1)+1=s.length-i by lia];rw[UK WR] at hy;simp only[show s.length-(i+1)=s.length-1-i by lia,Option.some.inj hy]
  have xl:xs.length<=4:=by have:=congrArg List.length p1;rw[List.length_reverse] at this;rw[this,fO];simp;lia
  have ap:=mz xs st WR;have mu:=cV st y WR WR;refine⟨(xs++[st],st*y),.sh<|.int y,⟨?_,?_⟩,rfl,?_⟩;show (xs++[st]).reverse=_;rw[e,List.reverse_append,p1,p2];rfl;show st*y=_;rw[e,p2,Int.mul_comm];rfl;dsimp only;rw[aE,show ao 3 (.int y) _=.ok () [.sh<|T s,.ow<|Z xs,.sh<|.int st,.sh<|.int y] by simp[hf],ag,show cO _=.ok .nx _ by unfold cO;exact ah];rfl)
 dsimp only at L h1;rw[List.length_reverse,Nat.sub_self,List.drop_zero] at h1;have e1:(b9<|T s).map List.reverse=some (s.reverse.map D.int):=T2;have e2:wC (Z xs)=some (T<|cL s):=h1 ▸ Sj xs;have z0:Z []=.lst []:=rfl;rw[z0] at L;unfold vK Lo;exact rn
theorem SI.sd{s:Zw}(h:SI s):Sd s:=⟨h.1,λx hx=>by have:=h.2.1 x hx;lia⟩
theorem AQ:∀{s:Zw},Sd s->∀y∈cL s,0<=y/\y<=16777216|[],_,_,h=>by cases h|a::s,h,y,hy=>by have k:Sd s:=h.drop 1;rcases List.mem_cons.mp hy with rfl|hy;exact k.prod;exact AQ k y hy
theorem F7(s:Zw)(h:SI s):∃xs,vK [T s]=.ok (T xs) []/\∀y∈xs,0<=y/\y<=16777216:=⟨_,strides s h,AQ h.sd⟩
theorem FT(m n:Nat)(w:Q6)(xs:Zw)(hw:uU m n w)(hm:m<=100)(hx:∀y∈xs,0<=y/\y<=16777216):∃(a:Int)(ys:Zw),DO [WD w,T xs,.int m]=.ok (.tup [.int a,T ys]) []:=by
 have er:=j8 m WR;have c:aC 1 (bO [(aa 2)]) (ao 7) (VP.ret true) iC [.sh<|WD w,.sh<|T xs,.sh<|.int m,.sh<|.int 0,.no,.no,.no]=.ok (Z<|List.replicate m 0) [.sh<|WD w,.sh<|T xs,.sh<|.int m,.sh<|.int 0,.no,.no,.no]:=by refine cJ (λ(k:Nat)=>D.int k) (λ_=>D.int 0) (List.range m) ah (by simp;lia) (by simp[Z,List.map_const']) λk hk acc=>?_;unfold iC;exact ah
 have ez:nJ [WD w,T xs]=some ((w.zip xs).map λq=>.tup [pD q.1,.int q.2]):=by
  have h:∀(w:Q6)(o:Zw),List.zipWith (λx y=>D.tup [x,y]) (w.map pD) (o.map D.int)=(w.zip o).map λq=>.tup [pD q.1,.int q.2]:=by intro w;induction w with|nil=>intro o;rfl|cons x o ih=>intro w;cases w with|nil=>rfl|cons p w=>simp[ih]
  simp only[nJ,uI,Sv,h]
 obtain⟨⟨a,ys⟩,t,hP,ht,L⟩:=bg (g:=b8 [5,6]) (body:=bX) (λ(q:(Int×Int×Int)×Int)=>D.tup [pD q.1,.int q.2]) (λ(s:Int×List Int)(t:Sl×Sl)=>[.sh<|WD w,.sh<|T xs,.sh<|.int m,.sh<|.int s.1,.ow<|Z s.2,t.1,t.2]) iJ (w.zip xs) (λ_ s=>s.2.length=m) (0,List.replicate m 0) (.no,.no) ⟨rfl,rfl⟩ T2 (by
  intro i q hq s t ht hP;obtain⟨t3,t4⟩:=t;obtain⟨f3,f4⟩:=ht;obtain⟨a,ys⟩:=s;dsimp only at f3 f4 hP;have Ej:=Ct hq;obtain⟨⟨x,y,z⟩,v⟩:=q;have hv:=hx v (ug Ej).2;have hp:=hw.2 _ (ug Ej).1;have m1:=cV x v WR WR;have m2:=cV z v WR WR;have e:b8 [5,6] (.tup [pD (x,y,z),.int v]) [.sh<|WD w,.sh<|T xs,.sh<|.int m,.sh<|.int a,.ow<|Z ys,t3,t4]=.ok () [.sh<|WD w,.sh<|T xs,.sh<|.int m,.sh<|.int a,.ow<|Z ys,.sh<|.tup [.int x,.int y,.int z],.sh<|.int v]:=by simp[f3,f4,pD]
  by_cases h:y=-1;have ne:jo (.int y) (.int<|-1)=some (.bl false):=by rw[cu,Pj h];rfl
  refine⟨(a+x*v,ys),(.sh<|.tup [.int x,.int y,.int z],.sh<|.int v),hP,⟨rfl,rfl⟩,?_⟩;dsimp only;rw[aE,e,ag,show bX _=.ok .nx _ by unfold bX;exact ah];rfl;have ne:jo (.int y) (.int<|-1)=some (.bl true):=by rw[cu,Zq h];rfl
  have hy:0<=y/\y<m:=by rcases hp with hp|hp;exact absurd hp h;exact hp
  have ix:aj (Z ys) (.int y)=some (.int<|ys.getD y.toNat 0):=cA ys y hy.1 WR;have st:=AN ys y (ys.getD y.toNat 0+z*v) hy.1 WR;refine⟨(a+x*v,ys.set y.toNat<|ys.getD y.toNat 0+z*v),(.sh<|.tup [.int x,.int y,.int z],.sh<|.int v),by simp[hP],⟨rfl,rfl⟩,?_⟩;dsimp only;rw[aE,e,ag,show bX _=.ok .nx _ by unfold bX;exact ah];rfl)
 exact⟨a,ys,by unfold DO Ld;exact rn⟩
inductive Tr where
 |j5 (x:Int)|read (at_:Nat) (a:Int) (ys:Zw)|one (d:Nat) (t:Tr)|both (d:Nat) (l r:Tr)|eJ (a l r:Tr)|within (p:Int×Int×Int) (z:Int) (t:Tr) (x:Int)|joined (p:Int×Int×Int) (z:Int) (l r:Tr)
def Tr.d:Tr->D|.j5 x=>.ins "Even" ["number"] [.int x]|.read n a ys=>.ins "Read" ["line","start","steps"] [.int n,.int a,T ys]|.one d t=>.ins "One" ["deed","inner"] [.str<|nm d,t.d]|.both d l r=>.ins "Both" ["deed","left","right"] [.str<|nm d,l.d,r.d]|.eJ a l r=>.ins "Where" ["asked","left","right"] [a.d,l.d,r.d]|.within p z t x=>.ins "Within" ["part","size","inner","number"] [pD p,.int z,t.d,.int x]|.joined p z l r=>.ins "Joined" ["part","size","ahead","behind"] [pD p,.int z,l.d,r.d]
def Tr.rs:Tr->List Nat|.j5 _=>[]|.read n _ _=>[n]|.one _ t=>t.rs|.both _ l r=>l.rs++r.rs|.eJ a l r=>a.rs++l.rs++r.rs|.within _ _ t _=>t.rs|.joined _ _ l r=>l.rs++r.rs
def Tr.dep:Tr->Nat|.j5 _=>1|.read _ _ _=>1|.one _ t=>t.dep+1|.both _ l r=>max l.dep r.dep+1|.eJ a l r=>max a.dep (max l.dep r.dep)+1|.within _ _ t _=>t.dep+1|.joined _ _ l r=>max l.dep r.dep+1
def Wv(ls:Uc)(ss:T1)(kp:Qg)(m:Nat):D:=.ins "Weaver" ["program","sides","kept","many"] [Pg ls,aG ss,fC kp,.int m]
section
variable(ls:Uc)(ss:T1)(kp:Qg)(m:Nat)
theorem ab9:bq p7 "program" (Wv ls ss kp m)=some (Pg ls):=Yh
theorem Tj:bq bp "sides" (Wv ls ss kp m)=some (aG ss):=Yh
theorem ab7:bq zQ "kept" (Wv ls ss kp m)=some (fC kp):=Yh
theorem ab8:bq zR "many" (Wv ls ss kp m)=some (.int m):=Yh
theorem YA:gP "Weaver" "row_read" (Wv ls ss kp m)=true:=Yh
theorem YB:gP "Weaver" "tree_made" (Wv ls ss kp m)=true:=Yh
theorem GO:gP "Weaver" "tree_named" (Wv ls ss kp m)=true:=Yh
theorem YC:gP "Weaver" "tree_spread" (Wv ls ss kp m)=true:=Yh
theorem ab4:gP "Weaver" "tree_shifted" (Wv ls ss kp m)=true:=Yh
theorem ab5:gP "Weaver" "tree_joined" (Wv ls ss kp m)=true:=Yh
theorem ab6:gP "Weaver" "tree_viewed" (Wv ls ss kp m)=true:=Yh
theorem Ti:Dv [.ins "Weaver" [] [],Pg ls,aG ss,fC kp,.int m]=.ok .aQ [Wv ls ss kp m]:=Yh
theorem row_read(at_ n:Nat)(w:Q6)(s:Zw)(hs:SI s)(hw:uU m n w)(hm:m<=100):∃a ys,zA [Wv ls ss kp m,.int at_,WD w,T s]=.ok (Tr.read at_ a ys).d []:=by obtain⟨xs,e1,hx⟩:=F7 s hs;obtain⟨a,ys,e2⟩:=FT m n w xs hw hm hx;have e3:=ab8 ls ss kp m;refine⟨a,ys,?_⟩;unfold Tr.d zA Ky;generalize Wv ls ss kp m=W at *;exact rn
inductive sW(ls:Uc)(kp:Qg):Nat->Nat->Prop where
 |self {a:Nat} (h:kp[a]?=some true):sW ls kp a a|step {a b r:Nat} (h:kp[a]?=some false) (hb:b∈fN ls a) (hr:sW ls kp b r):sW ls kp a r
theorem sW.kept{ls:Uc}{kp:Qg}{a r:Nat}(h:kp[a]?=some true):sW ls kp a r<->r=a:=by
 constructor;intro z;cases z with|self _=>rfl|step h2=>rw[h] at h2;cases h2
 rintro rfl;exact .self h
def GS(ls:Uc)(kp:Qg)(a r:Nat):Prop:=∃b∈fN ls a,sW ls kp b r
structure Kp(ls:Uc)(kp:Qg):Prop where
 len:kp.length=ls.length
 k4:∀i,qX ls i->kd ls i∈[0,12,13,14]->kp[i]?=some true
 k2:∀i,qX ls i->kd ls i∈[7,14]->∀a∈fN ls i,kp[a]?=some true
 last:kp[ls.length-1]?=some true
 want:∀i,kp[i]?=some true->qX ls i
def oP(n at_:Nat):Prop:=∀(m:Nat)(w:Q6),uU m (sd ss at_).length w->m<=100->∃t:Tr,gF n 0 [Wv ls ss kp m,.int at_,WD w]=.ok t.d []/\t.dep<=at_+1/\∀r,r∈t.rs<->sW ls kp at_ r
end
theorem W5{P:Nat->Prop}{xs:WC}{r a:Nat}(h:r∈xs<->P a):r∈xs<->∃b∈[a],P b:=h.trans ⟨λp=>⟨a,TL,p⟩,λ⟨b,hb,p⟩=>List.mem_singleton.mp hb ▸ p⟩
theorem HZ{P:Nat->Prop}{xs ys:WC}{r a:Nat}{as:WC}(h:r∈xs<->P a)(h2:r∈ys<->∃b∈as,P b):r∈xs++ys<->∃b∈a::as,P b:=List.mem_append.trans ⟨λz=>z.elim (λz=>⟨a,TL,h.mp z⟩) λz=>let ⟨b,hb,p⟩:=h2.mp z;⟨b,SY _ hb,p⟩,λ⟨b,hb,p⟩=>(List.mem_cons.mp hb).elim (λe=>.inl<|h.mpr<|e ▸ p) λhb=>.inr<|h2.mpr ⟨b,hb,p⟩⟩
section
variable{gs:T1}{ls:Uc}{ss:T1}{ix_:Nat}(g:Gd gs ls ss ix_){kp:Qg}(K:Kp ls kp)
theorem jN{i:Nat}(h:i<ls.length):ls[i]?=some (cE ls i):=by simp[cE,h]
include g
theorem pA{i:Nat}(h:i<ls.length):Told gs.length (sd gs) (sd ss) (cE ls i) (sd ss i):=g.told i _ (jN h)
theorem lU{i:Nat}(h:i<ls.length):SI (sd ss i):=g.si.at (by have:=g.len;lia)
theorem ou{i b:Nat}(h:i<ls.length)(hb:b∈fN ls i):b<i:=g.wf i _ (jN h) b hb
theorem fB{n a k:Nat}(ha:a<ls.length)(N:oP ls ss kp n a)(m:Nat)(w:Q6)(hw:uU m k w)(hk:(sd ss a).length<=k)(hk1:k<=100)(hm:m<=100):∃t:Tr,gF (n+1) 3 [Wv ls ss kp m,.int a,WD w]=.ok t.d []/\t.dep<=a+1/\∀r,r∈t.rs<->sW ls kp a r:=by obtain⟨w',e,vT⟩:=pbn m k w (sd ss a) hk hk1 hw;obtain⟨t,et,h1,h2⟩:=N m w' vT hm;refine⟨t,?_,h1,h2⟩;have f1:=Tj ls ss kp m;have f2:=GO ls ss kp m;have ia:=bu ss a (by have:=g.len;lia);show defn 3 [false,false,false] (CD<|gF n) _=_;unfold CD;exact rn
def OT(ls:Uc)(ss:T1)(kp:Qg)(n at_:Nat):Prop:=∀(m:Nat)(w:Q6),uU m (sd ss at_).length w->m<=100->∃t:Tr,gF n 1 [Wv ls ss kp m,.int at_,WD w]=.ok t.d []/\t.dep<=at_+1/\∀r,r∈t.rs<->GS ls kp at_ r
theorem J9{n at_ a:Nat}(l:PL)(hl:cE ls at_=l)(nY:at_<ls.length)(hk:l.k=2\/l.k=3\/l.k=4\/l.k=5\/l.k=6)(ha:l.ns=[a])(N:∀n',n<=n'->oP ls ss kp n' a)(m:Nat)(w:Q6)(hw:uU m (sd ss at_).length w)(hm:m<=100):∃t:Tr,gF (n+2) 2 [Wv ls ss kp m,l.d,WD w]=.ok t.d []/\t.dep<=a+1/\∀r,r∈t.rs<->sW ls kp a r:=by
 have hT:=pA g nY;rw[hl] at hT;have hA:a<ls.length:=by have:=ou g nY (b:=a) (by unfold fN;rw[hl,ha];simp);lia
 have sl:=(lU g nY).1;have sa:=(lU g hA).1;have f2:=GO ls ss kp m;have f4:=YC ls ss kp m;cases l with|turn a' o=>simp only[PL.ns,List.cons.injEq,and_true] at ha;subst ha;obtain⟨h1,h2,h3⟩:=hT;rw[h3] at hw;simp only[List.length_map,h2] at hw;obtain⟨w',e,vT⟩:=turned m _ w o hw λx hx=>nB h1 hx;obtain⟨t,et,t1,t2⟩:=N (n+1) WR m w' vT hm;refine⟨t,?_,t1,t2⟩;show defn 4 [false,false,false] (iY<|gF<|n+1) [_,.tup [.str<|nm 2,.int a',T o],_]=_;unfold iY;exact rn|cut a' k b st mm=>simp only[PL.ns,List.cons.injEq,and_true] at ha;subst ha;obtain⟨j,rfl,hj,h1,_,_,h3⟩:=hT;rw[h3] at hw;rw[show (rep (sd ss a') j mm).length=(sd ss a').length by simp[rep];lia] at hw;obtain⟨w',e,vT⟩:=moved m _ w j b st WR WR hj hw;obtain⟨t,et,t1,t2⟩:=N (n+1) WR m w' vT hm;refine⟨t,?_,t1,t2⟩;show defn 4 [false,false,false] (iY<|gF<|n+1) [_,.tup [.str<|nm 3,.int a',.int j,.int b,.int st,.int mm],_]=_;unfold iY;exact rn|drop a' k p=>simp only[PL.ns,List.cons.injEq,and_true] at ha;subst ha;obtain⟨j,rfl,hj,_,h3⟩:=hT;rw[h3] at hw;obtain⟨w',e,vT⟩:=dropped m _ w j p (by simp[wo];lia) (by simp[wo];lia) hw;rw[show (wo (sd ss a') j).length+1=(sd ss a').length by simp[wo];lia] at vT;obtain⟨t,et,t1,t2⟩:=N (n+1) WR m w' vT hm;refine⟨t,?_,t1,t2⟩;show defn 4 [false,false,false] (iY<|gF<|n+1) [_,.tup [.str<|nm 4,.int a',.int j,.int p],_]=_;unfold iY;exact rn|wide a' k=>simp only[PL.ns,List.cons.injEq,and_true] at ha;subst ha;obtain⟨j,rfl,hj,h3⟩:=hT;rw[h3] at hw;obtain⟨w',e,vT⟩:=Kj m _ w j (by simp[pin];lia) (by simp[pin];lia) hw;rw[show (pin (sd ss a') j 1).length-1=(sd ss a').length by simp[pin];lia] at vT;obtain⟨t,et,t1,t2⟩:=N (n+1) WR m w' vT hm;refine⟨t,?_,t1,t2⟩;show defn 4 [false,false,false] (iY<|gF<|n+1) [_,.tup [.str<|nm 5,.int a',.int j],_]=_;unfold iY;exact rn|spread a' u=>simp only[PL.ns,List.cons.injEq,and_true] at ha;subst ha;obtain⟨h1,h3⟩:=hT;have ml:=cz h1;rw[h3] at hw;obtain⟨t,et,t1,t2⟩:=fB g hA (N n WR) m w hw WR (by rw[<-h3];lia) hm;refine⟨t,?_,t1,t2⟩;show defn 4 [false,false,false] (iY<|gF<|n+1) [_,.tup [.str<|nm 6,.int a',T u],_]=_;unfold iY;exact rn|_=>simp[PL.k] at hk
theorem Ak{n at_:Nat}(nY:at_<ls.length)(hk:kd ls at_∉[0,12,13,14])(h7:kd ls at_=7->∀a∈fN ls at_,kp[a]?=some true)(N:∀a∈fN ls at_,∀n',n<=n'->oP ls ss kp n' a):OT ls ss kp (n+3) at_:=by
 intro m w hw hm;have hT:=pA g nY;have dQ:=λb hb=>ou g nY (b:=b) hb;have hi:=vW ls at_ nY;have hs:=bu ss at_ (by have:=g.len;lia);have sl:=(lU g nY).1;have sL:=lU g nY;have f0:=ab9 ls ss kp m;have f1:=Tj ls ss kp m;have f2:=GO ls ss kp m;have f4:=YC ls ss kp m;have f5:=ab4 ls ss kp m;have f6:=ab5 ls ss kp m;have f7:=ab6 ls ss kp m;have f8:=YA ls ss kp m;unfold kd at hk h7;unfold fN at N dQ h7;unfold GS fN;obtain⟨l,hl⟩:∃l,cE ls at_=l:=⟨_,rfl⟩;rw[hl] at hk N hT hi dQ h7 ⊢;have vw:∀a,(l.k=2\/l.k=3\/l.k=4\/l.k=5\/l.k=6)->l.ns=[a]->∃t:Tr,defn 5 [false,false,false] (iX<|gF<|n+2) [Wv ls ss kp m,.int at_,WD w]=.ok t.d []/\t.dep<=at_+1/\∀r,r∈t.rs<->∃b∈l.ns,sW ls kp b r:=λa h2 h3=>by
  have ha:=dQ a (by rw[h3];simp);obtain⟨t,et,t1,t2⟩:=J9 g l hl nY h2 h3 (N a (by rw[h3];simp)) m w hw hm;refine⟨t,?_,WR,λr=>by rw[h3];exact W5<|t2 r⟩;have k1:=l.kind;have ne:∀j,j<32->l.k≠j->eh (.str<|nm l.k) (.str<|nm j)=some (.bl false):=λj hj h=>by rw[Dq _ _ WR hj,Zq h]
  have n1:=ne 1 WR WR;have n9:=ne 9 WR WR;have Zn:=ne 10 WR WR;have n11:=ne 11 WR WR;have n8:=ne 8 WR WR;have n15:=ne 15 WR WR;have n7:=ne 7 WR WR;unfold iX;exact rn
 have rd:∀a,a∈l.ns->a<ls.length:=λa ha=>by have:=dQ a ha;lia
 have sa:∀a,a∈l.ns->aj (aG ss) (.int (a:Int))=some (T<|sd ss a):=λa ha=>bu ss a (by have:=rd a ha;have:=g.len;lia);show ∃t:Tr,defn 5 [false,false,false] (iX<|gF<|n+2) _=_/\_/\_;have Ei:l.k≠0/\l.k≠12/\l.k≠13/\l.k≠14:=by simpa using hk
 cases l with
 |given j=>exact absurd rfl Ei.1|fold d a k=>exact absurd rfl Ei.2.1|run d a k=>exact absurd rfl Ei.2.2.1|pick a k b=>exact absurd rfl Ei.2.2.2|j5 s x=>refine⟨.j5 x,?_,by simp[Tr.dep],λr=>by simp[Tr.rs,PL.ns]⟩;unfold Tr.d;unfold iX;exact rn|turn a o=>exact vw _ (by simp[PL.k]) rfl|cut a k b st mm=>exact vw _ (by simp[PL.k]) rfl|drop a k p=>exact vw _ (by simp[PL.k]) rfl|wide a k=>exact vw _ (by simp[PL.k]) rfl|spread a u=>exact vw _ (by simp[PL.k]) rfl|shape a u=>have ka:=h7 rfl a (by simp[PL.ns]);obtain⟨x,ys,e⟩:=row_read ls ss kp m a _ w (sd ss at_) sL hw hm;refine⟨.read a x ys,?_,by simp[Tr.dep],λr=>by simp[Tr.rs,PL.ns,sW.kept ka]⟩;unfold iX;exact rn|shift a k by_ x=>
  have ha:=dQ a (by simp[PL.ns]);have ia:=sa a (by simp[PL.ns]);obtain⟨j,rfl,hj,_,h3⟩:=hT;rw[h3] at hw;obtain⟨w',e,vT⟩:=moved m _ w j (-by_) 1 WR WR hj hw;obtain⟨t,et,t1,t2⟩:=N a (by simp[PL.ns]) (n+1) WR m w' vT hm;obtain⟨p,hp⟩:∃p,w'[j]?=some p:=⟨_,UK (by rw[vT.1];exact hj)⟩;have i1:=SG w' j p hp;have i2:=hJ (sd ss a) j hj;have sh:gF (n+2) 4 [Wv ls ss kp m,.int a,.int j,.int by_,.int x,WD w]=.ok (Tr.within p ((sd ss a).getD j 0) t x).d []:=by show defn 7 [false,false,false,false,false,false] (CC<|gF<|n+1) _=.ok (.ins "Within" ["part","size","inner","number"] [pD p,.int<|(sd ss a).getD j 0,t.d,.int x]) _;unfold CC;exact rn
  refine⟨.within p ((sd ss a).getD j 0) t x,?_,by simp only[Tr.dep];lia,λr=>W5<|t2 r⟩;unfold iX;exact rn
 |one d a=>have ha:=dQ a (by simp[PL.ns]);obtain⟨_,h3⟩:=hT;rw[h3] at hw;obtain⟨t,et,t1,t2⟩:=N a (by simp[PL.ns]) (n+2) WR m w hw hm;refine⟨.one d t,?_,by simp only[Tr.dep];lia,λr=>W5<|t2 r⟩;unfold Tr.d;unfold iX;exact rn|both d a b=>have ha:=dQ a (by simp[PL.ns]);have hb:=dQ b (by simp[PL.ns]);obtain⟨_,h3⟩:=hT;have ml:=cz h3;obtain⟨t,et,t1,t2⟩:=fB g WR (N a (by simp[PL.ns]) (n+1) WR) m w hw WR WR hm;obtain⟨u,eu,u1,u2⟩:=fB g WR (N b (by simp[PL.ns]) (n+1) WR) m w hw WR WR hm;refine⟨.both d t u,?_,by simp only[Tr.dep];lia,λr=>HZ (t2 r)<|W5<|u2 r⟩;unfold Tr.d;generalize u.d=ud at *;unfold iX;exact rn|eJ a b c=>have ha:=dQ a (by simp[PL.ns]);have hb:=dQ b (by simp[PL.ns]);have hc:=dQ c (by simp[PL.ns]);obtain⟨v,h2,h3⟩:=hT;have ml:=cz h3;have ml2:=cz h2;obtain⟨t,et,t1,t2⟩:=fB g WR (N a (by simp[PL.ns]) (n+1) WR) m w hw WR WR hm;obtain⟨u,eu,u1,u2⟩:=fB g WR (N b (by simp[PL.ns]) (n+1) WR) m w hw WR WR hm;obtain⟨x,ex,x1,x2⟩:=fB g WR (N c (by simp[PL.ns]) (n+1) WR) m w hw WR WR hm;refine⟨.eJ t u x,?_,by simp only[Tr.dep];lia,λr=>by simp[Tr.rs,PL.ns,t2,u2,x2]⟩;unfold Tr.d;generalize u.d=ud at *;generalize x.d=xd at *;unfold iX;exact rn|join a b k=>
  have ha:=dQ a (by simp[PL.ns]);have hb:=dQ b (by simp[PL.ns]);have ia:=sa a (by simp[PL.ns]);obtain⟨j,rfl,hj,h2,_,h3⟩:=hT;rw[h3,show (rep (sd ss a) j<|(sd ss a).getD j 0+(sd ss b).getD j 0).length=(sd ss a).length by simp[rep];lia] at hw;obtain⟨w',e,vT⟩:=moved m _ w j (-(sd ss a).getD j 0) 1 WR WR hj hw;obtain⟨t,et,t1,t2⟩:=N a (by simp[PL.ns]) (n+1) WR m w hw hm;rw[h2] at vT;obtain⟨u,eu,u1,u2⟩:=N b (by simp[PL.ns]) (n+1) WR m w' vT hm;obtain⟨p,hp⟩:∃p,w[j]?=some p:=⟨_,UK (by rw[hw.1];exact hj)⟩;have i1:=SG w j p hp;have i2:=hJ (sd ss a) j hj;generalize (sd ss a).getD j 0=z at *;have sh:gF (n+2) 5 [Wv ls ss kp m,.int a,.int b,.int j,WD w]=.ok (Tr.joined p z t u).d []:=by show defn 7 [false,false,false,false,false] (CB<|gF<|n+1) _=.ok (.ins "Joined" ["part","size","ahead","behind"] [pD p,.int z,t.d,u.d]) _;generalize u.d=ud at *;unfold CB;exact rn
  refine⟨.joined p z t u,?_,by simp only[Tr.dep];lia,λr=>HZ (t2 r)<|W5<|u2 r⟩;unfold iX;exact rn
include K
theorem wc:∀(at_:Nat),at_<ls.length->qX ls at_->∀n,4*at_+4<=n->oP ls ss kp n at_:=by intro at_;induction at_ using Nat.strongRecOn with|_ at_ ih=>intro nY hr n hn m w hw hm;obtain⟨n,rfl⟩:∃n',n=n'+1:=⟨n-1,WR⟩;obtain⟨b,hb⟩:∃b,kp[at_]?=some b:=⟨_,UK (by rw[K.len];exact nY)⟩;have ib:=jB kp at_ b hb;have hs:=bu ss at_ (by have:=g.len;lia);have f1:=Tj ls ss kp m;have f3:=ab7 ls ss kp m;have f4:=YA ls ss kp m;have f5:=YB ls ss kp m;show ∃t:Tr,defn 3 [false,false,false] (y8<|gF n) _=_/\_/\_;cases b with|true=>obtain⟨x,ys,e⟩:=row_read ls ss kp m at_ _ w (sd ss at_) (lU g nY) hw hm;refine⟨.read at_ x ys,?_,by simp[Tr.dep],λr=>by simp[Tr.rs,sW.kept hb]⟩;unfold y8;exact rn|false=>obtain⟨n,rfl⟩:∃n',n=n'+3:=⟨n-3,WR⟩;obtain⟨t,e,t1,t2⟩:=Ak g nY (λh=>by have:=K.k4 at_ hr h;rw[hb] at this;cases this) (λh=>K.k2 at_ hr (by rw[h];simp)) (n:=n) (λa ha n' rg=>by have dQ:=ou g nY ha;exact ih a dQ WR (.step hr (jN nY) ha) n' WR) m w hw hm;refine⟨t,?_,t1,λr=>?_⟩;generalize t.d=td at *;unfold y8;exact rn;rw[t2];exact⟨λ⟨b,h1,h2⟩=>.step hb h1 h2,λz=>by cases z with|self h=>rw[hb] at h;cases h|step _ h1 h2=>exact⟨_,h1,h2⟩⟩
end
theorem Tr.lr:∀t:Tr,t.rs.length<=3 ^ t.dep|.j5 _=>by simp[Tr.rs]|.read _ _ _=>by simp[Tr.rs,Tr.dep]|.one _ t=>by have:=t.lr;simp only[Tr.rs,Tr.dep,Nat.pow_succ];lia|.within _ _ t _=>by have:=t.lr;simp only[Tr.rs,Tr.dep,Nat.pow_succ];lia|.both _ l r=>by have h1:=l.lr;have h2:=r.lr;have k1:=C6 (n:=3) WR<|Xv l.dep r.dep;have k2:=C6 (n:=3) WR<|IU l.dep r.dep;simp only[Tr.rs,Tr.dep,Nat.pow_succ,List.length_append];lia|.joined _ _ l r=>by have h1:=l.lr;have h2:=r.lr;have k1:=C6 (n:=3) WR<|Xv l.dep r.dep;have k2:=C6 (n:=3) WR<|IU l.dep r.dep;simp only[Tr.rs,Tr.dep,Nat.pow_succ,List.length_append];lia|.eJ a l r=>by have h0:=a.lr;have h1:=l.lr;have h2:=r.lr;have k0:=C6 (n:=3) WR<|Xv a.dep<|max l.dep r.dep;have k1:=C6 (n:=3) WR<|HJ (Xv l.dep r.dep)<|IU a.dep<|max l.dep r.dep;have k2:=C6 (n:=3) WR<|HJ (IU l.dep r.dep)<|IU a.dep<|max l.dep r.dep;simp only[Tr.rs,Tr.dep,Nat.pow_succ,List.length_append];lia
theorem Hl(xs ys:WC)(h:xs.length+ys.length<=16777216):aV (fj xs) (fj ys)=some (fj<|xs++ys):=by unfold fj;rw[iW _ _ (by simpa[iz] using h),S6]
theorem qw{n:Nat}(h:n<=14):3 ^ n<=4782969:=C6 (n:=3) WR h
theorem Jz:∀(t:Tr)(n:Nat),t.dep<=n->t.dep<=14->xi n 0 [t.d]=.ok (fj t.rs) []:=by intro t;induction t with|j5 x=>intro n hn _;obtain⟨n,rfl⟩:∃k,n=k+1:=⟨n-1,by simp only[Tr.dep] at hn;lia⟩;kernel_rfl!|read a x ys=>intro n hn _;obtain⟨n,rfl⟩:∃k,n=k+1:=⟨n-1,by simp only[Tr.dep] at hn;lia⟩;kernel_rfl!|one d t ih=>intro n hn iN;simp only[Tr.dep] at hn iN;obtain⟨n,rfl⟩:∃k,n=k+1:=⟨n-1,WR⟩;have e:=ih n WR WR;have i1:dg fH (Tr.one d t).d=some (.bl false):=Yh;have i2:dg br (Tr.one d t).d=some (.bl true):=Yh;have f1:bq ll "inner" (Tr.one d t).d=some t.d:=Yh;show defn 1 [false] (iZ<|xi n) _=.ok (fj t.rs) _;generalize (Tr.one d t).d=x at *;generalize t.d=td at *;generalize xi n=wf at *;unfold iZ;exact rn|within p z t y ih=>intro n hn iN;simp only[Tr.dep] at hn iN;obtain⟨n,rfl⟩:∃k,n=k+1:=⟨n-1,WR⟩;have e:=ih n WR WR;have i1:dg fH (Tr.within p z t y).d=some (.bl false):=Yh;have i2:dg br (Tr.within p z t y).d=some (.bl true):=Yh;have f1:bq ll "inner" (Tr.within p z t y).d=some t.d:=Yh;show defn 1 [false] (iZ<|xi n) _=.ok (fj t.rs) _;generalize (Tr.within p z t y).d=x at *;generalize t.d=td at *;generalize xi n=wf at *;unfold iZ;exact rn|both d l r Wj Ia=>intro n hn iN;simp only[Tr.dep] at hn iN;obtain⟨n,rfl⟩:∃k,n=k+1:=⟨n-1,WR⟩;have e1:=Wj n WR WR;have e2:=Ia n WR WR;have i1:dg fH (Tr.both d l r).d=some (.bl false):=Yh;have i2:dg br (Tr.both d l r).d=some (.bl false):=Yh;have i3:dg ji (Tr.both d l r).d=some (.bl true):=Yh;have f1:bq lq "left" (Tr.both d l r).d=some l.d:=Yh;have f2:bq jd "right" (Tr.both d l r).d=some r.d:=Yh;have k1:=l.lr;have k2:=r.lr;have p1:=qw (n:=l.dep) WR;have p2:=qw (n:=r.dep) WR;have ad:=Hl l.rs r.rs WR;show defn 1 [false] (iZ<|xi n) _=.ok (fj<|l.rs++r.rs) _;generalize (Tr.both d l r).d=x at *;generalize l.d=ld at *;generalize r.d=rd at *;generalize xi n=wf at *;unfold iZ;exact rn|eJ a l r ih0 Wj Ia=>intro n hn iN;simp only[Tr.dep] at hn iN;obtain⟨n,rfl⟩:∃k,n=k+1:=⟨n-1,WR⟩;have e0:=ih0 n WR WR;have e1:=Wj n WR WR;have e2:=Ia n WR WR;have i1:dg fH (Tr.eJ a l r).d=some (.bl false):=Yh;have i2:dg br (Tr.eJ a l r).d=some (.bl false):=Yh;have i3:dg ji (Tr.eJ a l r).d=some (.bl false):=Yh;have i4:dg jK (Tr.eJ a l r).d=some (.bl true):=Yh;have f0:bq pY "asked" (Tr.eJ a l r).d=some a.d:=Yh;have f1:bq lq "left" (Tr.eJ a l r).d=some l.d:=Yh;have f2:bq jd "right" (Tr.eJ a l r).d=some r.d:=Yh;have k0:=a.lr;have k1:=l.lr;have k2:=r.lr;have p0:=qw (n:=a.dep) WR;have p1:=qw (n:=l.dep) WR;have p2:=qw (n:=r.dep) WR;have ad:=Hl a.rs l.rs WR;have ad2:=Hl (a.rs++l.rs) r.rs (by simp;lia);show defn 1 [false] (iZ<|xi n) _=.ok (fj<|a.rs++l.rs++r.rs) _;generalize (Tr.eJ a l r).d=x at *;generalize a.d=ad at *;generalize l.d=ld at *;generalize r.d=rd at *;generalize xi n=wf at *;unfold iZ;exact rn|joined p z l r Wj Ia=>intro n hn iN;simp only[Tr.dep] at hn iN;obtain⟨n,rfl⟩:∃k,n=k+1:=⟨n-1,WR⟩;have e1:=Wj n WR WR;have e2:=Ia n WR WR;have i1:dg fH (Tr.joined p z l r).d=some (.bl false):=Yh;have i2:dg br (Tr.joined p z l r).d=some (.bl false):=Yh;have i3:dg ji (Tr.joined p z l r).d=some (.bl false):=Yh;have i4:dg jK (Tr.joined p z l r).d=some (.bl false):=Yh;have i5:dg kJ (Tr.joined p z l r).d=some (.bl true):=Yh;have f1:bq pX "ahead" (Tr.joined p z l r).d=some l.d:=Yh;have f2:bq mK "behind" (Tr.joined p z l r).d=some r.d:=Yh;have k1:=l.lr;have k2:=r.lr;have p1:=qw (n:=l.dep) WR;have p2:=qw (n:=r.dep) WR;have ad:=Hl l.rs r.rs WR;show defn 1 [false] (iZ<|xi n) _=.ok (fj<|l.rs++r.rs) _;generalize (Tr.joined p z l r).d=x at *;generalize l.d=ld at *;generalize r.d=rd at *;generalize xi n=wf at *;unfold iZ;exact rn
theorem BK(x:D)(t:Tr)(h1:dg qi x=some (.bl false))(h2:dg qj x=some (.bl false))(h3:bq jF "tree" x=some t.d)(hd:t.dep<=14):rR [x]=.ok (fj t.rs) []:=by have e:MU [t.d]=.ok (fj t.rs) []:=Jz t 64 WR hd;generalize t.d=td at *;unfold rR K1;exact rn
structure sU(ls:Uc)(ss:T1)(kp:Qg)(a:Nat)(x:D):Prop where
 line:bq g8 "line" x=some (.int a)
 X2:bq bp "sides" x=some (T<|sd ss a)
 own:∃rs,rR [x]=.ok (fj rs) []/\∀r,r∈rs<->GS ls kp a r
theorem mX{ls:Uc}{ss:T1}{kp:Qg}{a:Nat}{x:D}(t:Tr)(h0:bq g8 "line" x=some (.int a))(hs:bq bp "sides" x=some (T<|sd ss a))(h1:dg qi x=some (.bl false))(h2:dg qj x=some (.bl false))(h3:bq jF "tree" x=some t.d)(hd:t.dep<=14)(hr:∀r,r∈t.rs<->GS ls kp a r):sU ls ss kp a x:=by exact⟨h0,hs,_,BK x t h1 h2 h3 hd,hr⟩
section
variable{gs:T1}{ls:Uc}{ss:T1}{ix_:Nat}(g:Gd gs ls ss ix_){kp:Qg}(K:Kp ls kp)(iN:ls.length<=14)
include g K iN
theorem x9(a:Nat)(ha:kp[a]?=some true):∃x,lg [Pg ls,aG ss,fC kp,.int a]=.ok x []/\sU ls ss kp a x:=by
 have hr:=K.want a ha;have nY:=hr.lt g.wf g.ne;have hT:=pA g nY;have hi:=vW ls a nY;have hs:=bu ss a (by have:=g.len;lia);have sl:=(lU g nY).1;have Ni:∀b∈fN ls a,b<ls.length/\qX ls b/\aj (aG ss) (.int (b:Int))=some (T<|sd ss b):=λb hb=>by have:=ou g nY hb;exact⟨WR,.step hr (jN nY) hb,bu ss b (by have:=g.len;lia)⟩
 have T3:∀b∈fN ls a,∃(w:Q6)(t:Tr),zO [.int ((sd ss b).length:Nat)]=.ok (WD w) []/\Dx [Wv ls ss kp (sd ss b).length,.int b,WD w]=.ok t.d []/\t.dep<=14/\∀r,r∈t.rs<->sW ls kp b r:=λb hb=>by obtain⟨h1,h2,_⟩:=Ni b hb;have h4:=(lU g h1).1;obtain⟨w,e1,hw⟩:=wM (sd ss b).length WR;obtain⟨t,e,d1,d2⟩:=wc g K b h1 h2 64 WR (sd ss b).length w hw WR;exact⟨w,t,e1,e,WR,d2⟩
 by_cases hk:kd ls a∈[0,12,13,14];unfold kd at hk;unfold fN at Ni T3;obtain⟨l,hl⟩:∃l,cE ls a=l:=⟨_,rfl⟩;have Zr:∀r,GS ls kp a r<->∃b∈l.ns,sW ls kp b r:=λr=>by unfold GS fN;rw[hl]
 have TR:=K.k2 a hr;unfold kd fN at TR;rw[hl] at hk hT hi Ni T3 TR;cases l with
 |given j=>refine⟨.ins "Load" ["line","sides","table"] [.int a,T<|sd ss a,.int j],?_,Yh,Yh,[],Yh,λr=>by rw[Zr];simp[PL.ns]⟩;unfold lg rD;exact rn|fold d b k=>obtain⟨j,rfl,hj,_⟩:=hT;obtain⟨h1,h2,h3⟩:=Ni b (by simp[PL.ns]);obtain⟨w,t,e1,e2,d1,d2⟩:=T3 b (by simp[PL.ns]);have i2:=hJ (sd ss b) j hj;generalize (sd ss b).getD j 0=z at *;have wi:=Ti ls ss kp (sd ss b).length;have w3:=GO ls ss kp (sd ss b).length;refine⟨_,?_,mX t (x:=.ins "Fold" ["line","sides","side","size","deed","tree"] [.int a,T<|sd ss a,.int j,.int z,.str<|nm d,t.d]) Yh Yh Yh Yh Yh d1 λr=>by rw[Zr,d2];simp[PL.ns]⟩;generalize Wv ls ss kp (sd ss b).length=W at *;generalize t.d=td at *;unfold lg rD;exact rn|run d b k=>obtain⟨j,rfl,hj,_,hS⟩:=hT;obtain⟨h1,h2,h3⟩:=Ni b (by simp[PL.ns]);obtain⟨w,t,e1,e2,d1,d2⟩:=T3 b (by simp[PL.ns]);rw[<-hS] at e1 e2;have wi:=Ti ls ss kp (sd ss a).length;have w3:=GO ls ss kp (sd ss a).length;refine⟨_,?_,mX t (x:=.ins "Through" ["line","sides","side","deed","tree"] [.int a,T<|sd ss a,.int j,.str<|nm d,t.d]) Yh Yh Yh Yh Yh d1 λr=>by rw[Zr,d2];simp[PL.ns]⟩;generalize Wv ls ss kp (sd ss a).length=W at *;generalize t.d=td at *;unfold lg rD;exact rn|pick b k c=>
  have kb:=TR (by simp[PL.k]) b (by simp[PL.ns]);have kc:=TR (by simp[PL.k]) c (by simp[PL.ns]);obtain⟨h1,h2,h3⟩:=Ni b (by simp[PL.ns]);have rr:∀r,GS ls kp a r<->r∈[b,c]:=λr=>by rw[Zr];simp[PL.ns,sW.kept kb,sW.kept kc]
  refine⟨.ins "Pick" ["line","sides","side","source","places","source_sides"] [.int a,T<|sd ss a,.int k,.int b,.int c,T<|sd ss b],?_,Yh,Yh,[b,c],Yh,λr=>(rr r).symm⟩;unfold lg rD;exact rn
 |_=>simp[PL.k] at hk
 have w0:=Ti ls ss kp (sd ss a).length;obtain⟨w,e1,hw⟩:=wM (sd ss a).length WR;obtain⟨t,e2,d1,d2⟩:=Ak g nY hk (λh=>K.k2 a hr (by rw[h];simp)) (n:=61) (λb hb n' rg=>wc g K b (Ni b hb).1 (Ni b hb).2.1 n' (by have:=ou g nY hb;lia)) (sd ss a).length w hw WR;have e2:Dw [Wv ls ss kp (sd ss a).length,.int a,WD w]=.ok t.d []:=e2;have w2:=YB ls ss kp (sd ss a).length;refine⟨_,?_,mX t (x:=.ins "Fill" ["line","sides","tree"] [.int a,T<|sd ss a,t.d]) Yh Yh Yh Yh Yh WR d2⟩;have k1:=(cE ls a).kind;have l16:=(cE ls a).Wq;have Ei:kd ls a≠0/\kd ls a≠12/\kd ls a≠13/\kd ls a≠14:=by simpa using hk
 unfold kd at Ei;have ne:∀j,j<32->(cE ls a).k≠j->eh (.str<|nm (cE ls a).k) (.str<|nm j)=some (.bl false):=λj hj h=>by rw[Dq _ _ WR hj,Zq h]
 have n0:=ne 0 WR Ei.1;have n12:=ne 12 WR Ei.2.1;have n13:=ne 13 WR Ei.2.2.1;have n14:=ne 14 WR Ei.2.2.2;generalize Wv ls ss kp (sd ss a).length=W at *;generalize t.d=td at *;generalize (cE ls a).d=ld at *;generalize nm (cE ls a).k=kn at *;unfold lg rD;exact rn
end
theorem Bp(ks:WC):(ks.map λk=>D.int (k:Nat)).all iI=true:=by rw[List.all_eq_true];intro d hd;obtain⟨k,_,rfl⟩:=List.mem_map.mp hd;rfl
theorem Q2C(k:Nat)(ks:WC):((ks.map λk=>D.int (k:Nat)).any λy=>eqB y<|.int (k:Nat))=decide (k∈ks):=by induction ks with|nil=>simp|cons x ks ih=>rw[BE,yU,ih,vp];by_cases h:x=k;simp[h];have:¬(x:Int)=(k:Int):=WR;have h':¬k=x:=λz=>h z.symm;simp[this,h']
theorem P4(neg:Bool)(k:Nat)(ks:WC):inD neg (.int (k:Int)) (fj ks)=some (.bl<|if neg then !decide (k∈ks) else decide (k∈ks)):=by unfold inD fj;rw[F1];dsimp only;rw[Bp,Q2C];rfl
theorem uy{A B:Type}[Inhabited B]{P:A->B->Prop}{as:List A}(h:∀a∈as,∃b,P a b):∃f:A->B,∀a∈as,P a (f a):=by
 classical
 refine⟨λa=>if h':∃b,P a b then h'.choose else default,λa ha=>?_⟩;have h':=h a ha;dsimp only;rw[dif_pos h'];exact h'.choose_spec
def Dc(m:IK):D:=.gp (m.map λp=>.inl (p.1:Int)) (m.map λp=>.int (p.2:Int))
def kh:IK->Nat->Option Nat|[],_=>none|p::m,k=>if p.1=k then some p.2 else kh m k
def xp(k v:Nat):IK->List (Nat×Nat)|[]=>[(k,v)]|p::m=>if p.1=k then(p.1,v)::m else p::xp k v m
theorem tZ(a b:Nat):((.inl (a:Int):Sum Int Str)=.inl (b:Int))<->a=b:=⟨λh=>by cases h;rfl,λh=>by rw[h]⟩
theorem tP:∀(m:IK)(k v:Nat),kh m k=some v->Bk (Dc m) (.int (k:Int))=some (.int (v:Int))|[],_,_,h=>by cases h|p::m,k,v,h=>by have ih:=tP m k v;unfold kh at h;show (if _ then _ else TH _ _ _)=_;by_cases c:p.1=k;rw[Zh c] at h;cases h;rw[Zh<|(tZ _ _).mpr c];rw[Y4 c] at h;rw[Y4 λz=>c<|(tZ _ _).mp z];exact ih h
theorem Df(k v:Nat):∀m:IK,Bl (.inl (k:Int)) (.int (v:Int)) (m.map λp=>.inl (p.1:Int)) (m.map λp=>D.int (p.2:Int))=((xp k v m).map λp=>.inl (p.1:Int),(xp k v m).map λp=>D.int (p.2:Int))|[]=>rfl|p::m=>by have ih:=Df k v m;rw[BE,BE,Bl,ih,xp];by_cases c:p.1=k;rw[Zh<|(tZ _ _).mpr c,Zh c];rfl;rw[Y4 λz=>c<|(tZ _ _).mp z,Y4 c];rfl
theorem Fx(m:IK)(k v:Nat)(h:m.length<1000):putD (.int (k:Int)) (.int (v:Int)) (Dc m)=some (Dc<|xp k v m):=by show (if _ then _ else _)=_;rw[Zh (by simpa using h),Df];rfl
theorem sZ(k v:Nat):∀(m:IK)(j:Nat),kh (xp k v m) j=if k=j then some v else kh m j|[],j=>by simp[xp,kh]|p::m,j=>by have ih:=sZ k v m j;unfold xp;by_cases c:p.1=k;rw[Zh c,kh,kh];dsimp only;rw[c];split<;>rfl;rw[Y4 c,kh,ih,kh];by_cases c2:p.1=j;rw[Zh c2,Y4 WR,Zh c2];rw[Y4 c2,Y4 c2]
theorem oR(k v:Nat):∀m:IK,kh m k=none->xp k v m=m++[(k,v)]|[],_=>rfl|p::m,h=>by unfold kh at h;unfold xp;by_cases c:p.1=k;rw[Zh c] at h;cases h;rw[Y4 c] at h;rw[Y4 c,oR k v m h];rfl
theorem te:∀(m:IK)(k v:Nat),kh m k=some v->(k,v)∈m|[],_,_,h=>by cases h|p::m,k,v,h=>by unfold kh at h;by_cases c:p.1=k;rw[Zh c] at h;cases h;subst c;exact TL;rw[Y4 c] at h;exact SY _ (te m k v h)
theorem yh{α:Type}[DecidableEq α]:∀(l l':List α),l.Nodup->(∀x∈l,x∈l')->l.length<=l'.length|[],_,_,_=>T2|x::l,l',hn,h=>by have hx:=h x TL;have rg:=List.nodup_cons.mp hn;have ih:=yh l (l'.erase x) rg.2 λy hy=>(List.mem_erase_of_ne (λz:y=x=>rg.1 (by rw[<-z];exact hy))).mpr<|h y<|SY _ hy;have e:=List.length_erase_of_mem hx;have:=List.length_pos_of_mem hx;simp only[List.length_cons];lia
theorem cxN(rows:WC)(hl:rows.length<=100):∃r:Nat,zK [fj rows]=.ok (.int r) []/\r∉rows/\r<=100:=by
 have inn:∀k:Nat,inD false (.int (k:Int)) (fj rows)=some (.bl<|decide<|k∈rows):=λk=>by rw[P4,Y4 (by decide)]
 have key:∀(n k:Nat),n+k=101->(∀j<k,j∈rows)->∃r:Nat,gG bW cX (n+9899) [.sh<|fj rows,.sh<|.int k]=.ok .nx [.sh<|fj rows,.sh<|.int r]/\r∉rows/\r<=100:=by
  intro n;induction n with
  |zero=>intro k hk hj;have:=yh (List.range k) rows List.nodup_range λx hx=>hj x<|List.mem_range.mp hx;simp at this;lia|succ n ih=>
   intro k hk hj;have ik:=inn k;by_cases c:k∈rows;rw[Pj c] at ik;obtain⟨r,e,h1,h2⟩:=ih (k+1) WR λj hj'=>by by_cases z:j=k;rw[z];exact c;exact hj j WR
   refine⟨r,?_,h1,h2⟩;rw[show n+1+9899=(n+9899)+1 by lia,B8 (r1:=[.sh<|fj rows,.sh<|.int k]) (r2:=[.sh<|fj rows,.sh<|.int ((k+1:Nat):Int)])];exact e;unfold bW;exact ah;rw[show (((k+1:Nat)):Int)=(k:Int)+1 by lia];unfold cX;exact ah;rw[Zq c] at ik;refine⟨k,?_,c,WR⟩;rw[show n+1+9899=(n+9899)+1 by lia];refine wX ?_;unfold bW;exact ah
 obtain⟨r,e,h1,h2⟩:=key 101 0 rfl λj hj=>WR;refine⟨r,?_,h1,h2⟩;have e:yH bW cX [.sh<|fj rows,.sh<|.int 0]=.ok .nx [.sh<|fj rows,.sh<|.int r]:=e;unfold zK K2;exact rn
theorem u7(k v:Nat):∀(m:IK)(w:Nat),kh m k=some w->(xp k v m).map (·.1)=m.map (·.1)|[],_,h=>by cases h|p::m,w,h=>by unfold kh at h;unfold xp;by_cases c:p.1=k;rw[Zh c];rfl;rw[Y4 c] at h;rw[Y4 c,BE,BE,u7 k v m w h]
theorem y5:∀(m:IK)(k:Nat),kh m k=none->k∉m.map (·.1)|[],_,_=>T2|p::m,k,h=>by unfold kh at h;by_cases c:p.1=k;rw[Zh c] at h;cases h;rw[Y4 c] at h;have:=y5 m k h;simp only[List.map_cons,List.mem_cons,not_or];exact⟨λz=>c z.symm,this⟩
def Kd(m:IK):Prop:=(m.map (·.1)).Nodup/\∀k∈m.map (·.1),k<14
theorem Kd.lr{m:IK}(h:Kd m):m.length<=14:=by have:=yh (m.map (·.1)) (List.range 14) h.1 λx hx=>List.mem_range.mpr<|h.2 x hx;simpa using this
theorem Kd.put{m:IK}(h:Kd m){k:Nat}(v:Nat)(hk:k<14):Kd (xp k v m):=by cases e:kh m k with|some w=>unfold Kd;rw[u7 k v m w e];exact h|none=>rw[oR k v m e];have hn:=y5 m k e;unfold Kd;rw[S6];refine⟨List.nodup_append.mpr ⟨h.1,T2,λa ha b hb z=>?_⟩,λx hx=>?_⟩;simp at hb;rw[<-z] at hb;subst hb;exact hn ha;rcases List.mem_append.mp hx with hx|hx;exact h.2 x hx;simp at hx;lia
theorem Kd.nil:Kd []:=⟨T2,T2⟩
structure YR(n:Nat)(as:WC)(X:Nat->D)(rd:Nat->WC)(ss:T1):Prop where
 some:as≠[]
 ord:as.Pairwise (· < ·)
 lr:as.length<=14
 small:∀a∈as,a<14
 line:∀a∈as,bq g8 "line" (X a)=Option.some (.int (a:Int))
 side:∀a∈as,bq bp "sides" (X a)=Option.some (T<|sd ss a)/\SI (sd ss a)
 read:∀a∈as,rR [X a]=.ok (fj<|rd a) []
 own:∀a∈as,∀r∈rd a,r∈as/\r<a
 all:∀i,i+1<as.length->∃a∈as,as.getD i 0∈rd a
section
variable{n:Nat}{as:WC}{X:Nat->D}{rd:Nat->WC}{ss:T1}(L:YR n as X rd ss)
def mq(as:WC)(X:Nat->D):D:=.lst (as.map X)
theorem xt{as:WC}{i:Nat}(h:i<as.length):as.getD i 0∈as:=by rw[Vh,UK h];exact Vz h
theorem Dj(as:WC)(X:Nat->D):gK [mq as X]=some ((List.range as.length).map λ(i:Nat)=>D.tup [.int i,X<|as.getD i 0]):=by
 show some (iE<|as.map X)=_;rw[jE];congr 1;refine WT T2 λi h1 h2=>?_;have hi:i<as.length:=by simpa using h2
 simp[hi]
include L
theorem Fi{i j:Nat}(hi:i<as.length)(hj:j<as.length):as.getD i 0<as.getD j 0<->i<j:=by
 have e:∀k (h:k<as.length),as.getD k 0=as[k]:=λk h=>by simp[h]
 rw[e i hi,e j hj];have p:=List.pairwise_iff_getElem.mp L.ord;constructor;intro h;rcases Nat.lt_trichotomy i j with z|z|z;exact z;subst z;lia;have:=p j i hj hi z;lia;intro z;exact p i j hi hj z
theorem at_of{a:Nat}(h:a∈as):∃i,i<as.length/\as.getD i 0=a:=by obtain⟨i,hi,e⟩:=List.mem_iff_getElem.mp h;exact⟨i,hi,by simp[hi,e]⟩
theorem O3{i j:Nat}(hi:i<as.length)(hj:j<as.length)(e:as.getD i 0=as.getD j 0):i=j:=by rcases Nat.lt_trichotomy i j with z|z|z;have:=(Fi L hi hj).mpr z;lia;exact z;have:=(Fi L hj hi).mpr z;lia
def Kr(as:WC)(rd:Nat->WC)(i:Nat)(m:IK):Prop:=Kd m/\∀j<i,∀k∈rd (as.getD j 0),∃v,kh m k=some v
theorem Iu:∃m,zJ [mq as X]=.ok (Dc m) []/\Kr as rd as.length m:=by
 have en:=Dj as X;obtain⟨m,t,hP,ht,Lp⟩:=bg (g:=b8 [2,3]) (body:=cU) (λ(i:Nat)=>D.tup [.int i,X<|as.getD i 0]) (λ(m:IK)(t:Sl×Sl×Sl)=>[.sh<|mq as X,.ow<|Dc m,t.1,t.2.1,t.2.2]) zV (List.range as.length) (Kr as rd) [] (.no,.no,.no) ⟨rfl,rfl,rfl⟩ ⟨Kd.nil,λj hj=>absurd hj<|Nat.not_lt_zero j⟩ (by
  intro i k hk m t ht hP;obtain⟨rfl,hk⟩:=bF hk;obtain⟨t2,t3,t4⟩:=t;obtain⟨f2,f3,f4⟩:=ht;dsimp only at f2 f3 f4;have ha:=xt hk;have rb:=L.read _ ha;have ow:=L.own _ ha;obtain⟨hK,hP⟩:=hP;generalize hag:as.getD k 0=a at *;obtain⟨m',s,⟨hK',hq⟩,hs,Li⟩:=bg (g:=ao 4) (body:=cR) (λ(r:Nat)=>D.int r) (λ(m:IK)(t:Sl)=>[.sh<|mq as X,.ow<|Dc m,.sh<|.int k,.sh<|X a,t]) p9 (rd a) (λc m'=>Kd m'/\∀j,(∃v,kh m j=some v)\/j∈(rd a).take c->∃v,kh m' j=some v) m t4 f4 ⟨hK,λj h=>h.elim id λz=>by cases z⟩ (by
   intro c r hr m' t ht TN;obtain⟨q1,q2⟩:=TN;have hf:free (some t)=true:=ht;have pt:=Fx m' r k<|Nat.lt_of_le_of_lt q1.lr (by decide);refine⟨xp r k m',.sh<|.int r,⟨q1.put k (L.small r (ow r<|Ct hr).1),λj hj=>?_⟩,rfl,?_⟩;rw[sZ];by_cases z:r=j;rw[Zh z];exact⟨k,rfl⟩;rw[Y4 z];refine q2 j<|hj.imp id λh=>?_;rw[List.take_succ,hr] at h;exact(List.mem_append.mp h).resolve_right λw=>z (List.mem_singleton.mp w).symm;have e:ao 4 (.int (r:Int)) [.sh<|mq as X,.ow<|Dc m',.sh<|.int k,.sh<|X a,t]=.ok () [.sh<|mq as X,.ow<|Dc m',.sh<|.int k,.sh<|X a,.sh<|.int r]:=by simp[hf]
   generalize X a=xa at *;generalize mq as X=xs at *;rw[aE,e,ag,show cR _=.ok .nx _ by unfold cR;exact ah];rfl)
  have hSq:b9 (fj<|rd a)=some ((rd a).map λ(r:Nat)=>D.int (r:Int)):=rfl;refine⟨m',(.sh<|.int k,.sh<|X a,s),⟨hK',λj hj r hr=>?_⟩,⟨rfl,rfl,hs⟩,?_⟩;by_cases z:j=k;rw[z,hag] at hr;exact hq r<|.inr (by rw[List.take_length];exact hr);exact hq r<|.inl<|hP j (Nat.lt_of_le_of_ne (Nat.le_of_lt_succ hj) z) r hr;have e:b8 [2,3] (.tup [.int (k:Int),X a]) [.sh<|mq as X,.ow<|Dc m,t2,t3,t4]=.ok () [.sh<|mq as X,.ow<|Dc m,.sh<|.int k,.sh<|X a,t4]:=by simp[f2,f3]
  dsimp only;generalize X a=xa at *;generalize mq as X=xs at *;generalize (rd a).map (λ(r:Nat)=>D.int (r:Int))=rs at *;rw[aE,e,ag,show cU _=.ok .nx _ by unfold cU;exact ah];rfl)
 obtain⟨t2,t3,t4⟩:=t;simp only[List.length_range] at hP;refine⟨m,?_,hP⟩;have hD:Dc []=.gp [] []:=rfl;rw[hD] at Lp;dsimp only at Lp;generalize mq as X=xs at *;unfold zJ KZ;exact rn
end
section
variable{n:Nat}{as:WC}{X:Nat->D}{rd:Nat->WC}{ss:T1}(L:YR n as X rd ss)
theorem noLs_N:∀ks:WC,noLs (ks.map λk=>D.int (k:Nat))=true|[]=>rfl|k::ks=>by rw[BE,noLs,noLs_N ks];rfl
theorem Ip(m:IK):EC (Dc m)=some ((m.map (·.1)).map λ(k:Nat)=>D.int (k:Int)):=by show some ((m.map λp=>(.inl (p.1:Int):Sum Int Str)).map EA)=_;rw[QF,QF];rfl
def Cs(as:WC)(i:Nat)(R:IK):Prop:=R.map (·.1)=as.take i/\(∀p∈R,p.2<=100)/\∀j<i,∃v,kh R (as.getD j 0)=some v
theorem qR{as:WC}{i k:Nat}(hi:i<=as.length)(h:k∈as.take i):∃j,j<i/\as.getD j 0=k:=by obtain⟨j,hj,e⟩:=List.mem_iff_getElem.mp h;simp only[List.length_take] at hj;have h2:j<as.length:=WR;exact⟨j,WR,by rw[<-e];simp[h2]⟩
theorem zU:∀(is:Zw)(a B:Int),a<=B->(∀x∈is,x<=B)->is.foldl (λa b=>if a<b then b else a) a<=B|[],a,B,h,_=>h|i::is,a,B,h,h2=>by rw[List.foldl_cons];refine zU is _ B ?_ λx hx=>h2 x<|SY _ hx;split;exact h2 i TL;exact h
theorem Qt(R:IK)(h:R≠[])(VJ:∀p∈R,p.2<=100):∃mx:Nat,sr (Dc R)=some (.int (mx:Int))/\mx<=100/\∀p∈R,p.2<=mx:=by
 cases R with
 |nil=>exact absurd rfl h|cons p R=>
  have e:bT ((p::R).map λp=>D.int (p.2:Int))=some ((p.2:Int)::R.map λp=>(p.2:Int)):=by have:=d6<|(p::R).map λp=>(p.2:Int);rw[QF] at this;exact this
  obtain⟨h1,h2⟩:=tJ (R.map λp=>(p.2:Int)) (p.2:Int);have h3:=zU (R.map λp=>(p.2:Int)) (p.2:Int) 100 (by have:=VJ p TL;lia) λx hx=>by obtain⟨q,hq,rfl⟩:=List.mem_map.mp hx;have:=VJ q<|SY _ hq;lia
  have ev:sr (Dc (p::R))=some (.int<|(R.map λp=>(p.2:Int)).foldl (λa b=>if a<b then b else a) (p.2:Int)):=by show (match bT ((p::R).map λp=>D.int (p.2:Int)) with|some (i::is)=>some (D.int<|is.foldl (λa b=>if a<b then b else a) i)|_=>none)=_;rw[e]
  generalize (R.map λp=>(p.2:Int)).foldl (λa b=>if a<b then b else a) (p.2:Int)=z at *;refine⟨z.toNat,by rw[ev,show ((z.toNat:Nat):Int)=z by lia],WR,λq hq=>?_⟩;rcases List.mem_cons.mp hq with rfl|hq
  lia
  have:=h2 (q.2:Int)<|XB (f:=λp=>(p.2:Int)) hq;lia
include L
theorem Q2A:∃R,DP [mq as X]=.ok (Dc R) []/\Cs as as.length R:=by
 obtain⟨m,em,hK,hm⟩:=Iu L;have en:=Dj as X;have Ww:∀i,i+1<as.length->∃v,kh m (as.getD i 0)=some v:=λi hi=>by obtain⟨a,ha,hr⟩:=L.all i hi;obtain⟨q,hq,e⟩:=at_of L ha;rw[<-e] at hr;exact hm q hq _ hr
 obtain⟨R,t,hP,ht,Lp⟩:=bg (g:=b8 [3,4]) (body:=fg) (λ(i:Nat)=>D.tup [.int i,X<|as.getD i 0]) (λ(R:IK)(t:Sl×Sl×Sl)=>[.sh<|mq as X,.sh<|Dc m,.ow<|Dc R,t.1,t.2.1,t.2.2]) zV (List.range as.length) (Cs as) [] (.no,.no,.no) ⟨rfl,rfl,rfl⟩ ⟨T2,T2,λj hj=>absurd hj<|Nat.not_lt_zero j⟩ (by
  intro i k hk R t ht hP;obtain⟨rfl,hk⟩:=bF hk;obtain⟨t3,t4,t5⟩:=t;obtain⟨f3,f4,f5⟩:=ht;dsimp only at f3 f4 f5;obtain⟨p1,p2,p3⟩:=hP;have ha:=xt hk;have li:=L.line _ ha;let lv:=λj:Nat=>(kh m j).getD 0;let rv:=λj:Nat=>(kh R j).getD 0;have hlv:∀j∈as.take k,kh m j=some (lv j):=λj hj=>by obtain⟨q,hq,e⟩:=qR WR hj;obtain⟨v,h⟩:=Ww q WR;rw[e] at h;show _=some ((kh m j).getD 0);rw[h];rfl
  have hrv:∀j∈as.take k,kh R j=some (rv j):=λj hj=>by obtain⟨q,hq,e⟩:=qR WR hj;obtain⟨v,h⟩:=p3 q hq;rw[e] at h;show _=some ((kh R j).getD 0);rw[h];rfl
  obtain⟨nd,Y9⟩:∃nd:WC,nd=((as.take k).filter λj=>decide<|k<=lv j).map rv:=⟨_,rfl⟩;have ks:=Ip R;rw[p1] at ks;obtain⟨xa,hxa⟩:∃xa,xa=X (as.getD k 0):=⟨_,rfl⟩;obtain⟨xs,Zc⟩:∃xs,xs=mq as X:=⟨_,rfl⟩;rw[<-hxa] at li ⊢;rw[<-Zc];have c:aC 1 (vZ<|aa 2) (ao 6) e7 eZ [.sh xs,.sh<|Dc m,.sh<|Dc R,.sh<|.int k,.sh xa,eY t5]=.ok (.lst<|nd.map λj=>D.int (j:Nat)) [.sh xs,.sh<|Dc m,.sh<|Dc R,.sh<|.int k,.sh xa,eY t5]:=by
   refine xC (λ(j:Nat)=>D.int (j:Int)) (λj=>decide<|k<=lv j) (λj=>D.int (rv j:Nat)) (as.take k) ah (by have:=L.lr;simp;lia) (by rw[Y9,QF];rfl) (λj hj acc=>?_) λj hj _ acc=>?_;have g1:=tP m j (lv j)<|hlv j hj;have ge:TM (.int (lv j:Int)) (.int (k:Int))=some (.bl<|decide<|k<=lv j):=by rw[D6,decide_eq_decide.mpr (show (k:Int)<=lv j<->k<=lv j by lia)]
   generalize lv j=v at *;unfold e7;exact ah;have g1:=tP R j (rv j)<|hrv j hj;generalize rv j=v at *;unfold eZ;exact ah
  have vw:jn (aC 1 (vZ<|aa 2) (ao 6) e7 eZ) [.sh xs,.sh<|Dc m,.ow<|Dc R,.sh<|.int k,.sh xa,t5]=.ok (fj nd) [.sh xs,.sh<|Dc m,.ow<|Dc R,.sh<|.int k,.sh xa,t5]:=by rw[v8];simp only[List.map_cons,List.map_nil,wV,wW];rw[c,wU _ _ _<|noLs_N nd];rfl
  have ndl:nd.length<=100:=by
   rw[Y9,SS];have:=Q8 (λj=>decide<|k<=lv j)<|as.take k;have h3:=L.lr;have h5:=Q1 (i:=k) (l:=as)
   lia
  obtain⟨r,lo,_,hr1⟩:=cxN nd ndl;have Rl:R.length<=14:=by have:=congrArg List.length p1;simp only[List.length_map,List.length_take] at this;have:=L.lr;lia
  have pt:=Fx R (as.getD k 0) r WR;have M9:kh R (as.getD k 0)=none:=by
   cases e:kh R (as.getD k 0) with
   |none=>rfl|some v=>
    have Ej:=XB (f:=(·.1))<|te R _ v e;rw[p1] at Ej;obtain⟨j,hj,e2⟩:=qR WR Ej;have:=O3 L (i:=j) (j:=k) WR hk e2
    lia
  have tk:as.take k++[as.getD k 0]=as.take (k+1):=by
   have:as.getD k 0=as[k]:=by simp[hk]
   rw[this];simp
  refine⟨xp (as.getD k 0) r R,(.sh<|.int k,.sh xa,.sh<|fj nd),⟨?_,λp hp=>?_,λj hj=>?_⟩,⟨rfl,rfl,rfl⟩,?_⟩;rw[oR _ _ _ M9,S6,p1];exact tk;rw[oR _ _ _ M9] at hp;rcases List.mem_append.mp hp with hp|hp;exact p2 p hp;rw[List.mem_singleton.mp hp];exact hr1;rw[sZ];split;exact⟨_,rfl⟩;by_cases z:j=k;subst z;contradiction;exact p3 j WR;dsimp only;clear c;rw[aE,show b8 [3,4] (.tup [.int (k:Int),xa]) _=.ok () [.sh xs,.sh<|Dc m,.ow<|Dc R,.sh<|.int k,.sh xa,t5] by simp[f3,f4],ag,show fg _=.ok .nx _ by unfold fg;exact ah];rfl)
 obtain⟨t3,t4,t5⟩:=t;simp only[List.length_range] at hP;refine⟨R,?_,hP⟩;have hD:Dc []=.gp [] []:=rfl;rw[hD] at Lp;dsimp only at Lp;generalize mq as X=xs at *;unfold DP Lg;exact rn
theorem Q2h(R:IK)(hR:Cs as as.length R):∃ys,DI [mq as X,Dc R]=.ok (Z ys) []:=by
 obtain⟨p1,p2,p3⟩:=hR;obtain⟨mx,em,hmx,hle⟩:=Qt R (λz=>by rw[z] at p1;have:=congrArg List.length p1;have:=List.length_pos_iff.mpr L.some;simp at *;lia) p2;have ad:aV (.int (mx:Int)) (.int 1)=some (.int ((mx+1:Nat):Int)):=rfl;have er:=j8 (mx+1) WR;have c:aC 1 (bO [(m2 aV (m1 sr<|aa 1)<|mC<|.int 1)]) (ao 5) (VP.ret true) eL [.sh<|mq as X,.sh<|Dc R,.no,.no,.no]=.ok (Z<|List.replicate (mx+1) 0) [.sh<|mq as X,.sh<|Dc R,.no,.no,.no]:=by refine cJ (λ(k:Nat)=>D.int k) (λ_=>D.int 0) (List.range<|mx+1) ah (by simp;lia) (by simp[Z,List.map_const']) λk hk acc=>?_;unfold eL;exact ah
 obtain⟨ys,t,hP,ht,Lp⟩:=bg (g:=ao 3) (body:=cN) X (λ(ys:Zw)(t:Sl×Sl)=>[.sh<|mq as X,.sh<|Dc R,.ow<|Z ys,t.1,t.2]) iJ as (λ_ ys=>ys.length=mx+1) (List.replicate (mx+1) 0) (.no,.no) ⟨rfl,rfl⟩ T2 (by
  intro i a ha ys t ht hP;obtain⟨t3,t4⟩:=t;obtain⟨f3,f4⟩:=ht;dsimp only at f3 f4;have ha:=Ct ha;have li:=L.line a ha;obtain⟨si,sS⟩:=L.side a ha;obtain⟨j,hj,ej⟩:=at_of L ha;obtain⟨v,hv⟩:=p3 j hj;rw[ej] at hv;have gv:=tP R a v hv;have hvl:=hle _<|te R a v hv;have ci:=dY (sd ss a) λx hx=>by have:=sS.2.1 x hx;lia
  have ix:aj (Z ys) (.int (v:Int))=some (.int<|ys.getD v 0):=by have:=cA ys v WR (by dsimp only at hvl;lia);rwa [IZ] at this
  have mxx:=oY (ys.getD v 0)<|ak<|sd ss a;generalize max (ys.getD v 0) (ak<|sd ss a)=z at *;have st:=AN ys v z WR (by dsimp only at hvl;lia);rw[IZ] at st;refine⟨ys.set v z,(.sh<|X a,.sh<|.int v),by simp[hP],⟨rfl,rfl⟩,?_⟩;have e:ao 3 (X a) [.sh<|mq as X,.sh<|Dc R,.ow<|Z ys,t3,t4]=.ok () [.sh<|mq as X,.sh<|Dc R,.ow<|Z ys,.sh<|X a,t4]:=by simp[f3]
  dsimp only;generalize X a=xa at *;generalize mq as X=xs at *;generalize ys.getD v 0=y0 at *;rw[aE,e,ag,show cN _=.ok .nx _ by unfold cN;exact ah];rfl)
 obtain⟨t3,t4⟩:=t;refine⟨ys,?_⟩;have sq:b9 (mq as X)=some (as.map X):=rfl;dsimp only at Lp;generalize mq as X=xs at *;generalize as.map X=ds at *;unfold DI K0;exact rn
end
theorem Im(gs:T1)(ls:Uc)(ss:T1)(ix_:Nat)(g:Gd gs ls ss ix_)(iN:ls.length<=14):∃kp,zH [Pg ls,aG ss]=.ok (fC kp) []/\Kp ls kp:=by
 obtain⟨w,_,wl,hw,e⟩:=Q1F ls ss g.wf g.ne WR g.len;have hn:=List.length_pos_iff.mpr g.ne;have gw:∀i,w.getD i false=true<->qX ls i:=λi=>by rw[<-hw i,Vh];cases h:w[i]? with|none=>simp|some b=>simp
 have gk:∀i,(sf ls ss w)[i]?=some true<->i<ls.length/\qX ls i/\lF ls ss i (eR ls w i)=true:=λi=>by unfold sf;by_cases hi:i<ls.length;rw[FC,Il hi];simp only[Option.map_some,Option.some.injEq,Bool.and_eq_true,gw];exact⟨λh=>⟨hi,h⟩,λh=>h.2⟩;rw[By (by simp;lia)];exact⟨λh=>(by cases h),λh=>absurd h.1 hi⟩
 refine⟨_,e,by simp[sf],λi hr h=>(gk i).mpr ⟨hr.lt g.wf g.ne,hr,?_⟩,λi hr h a ha=>(gk a).mpr ?_,(gk _).mpr ⟨WR,.last,?_⟩,λi h=>((gk i).mp h).2.1⟩;have:kd ls i∈K4:=h;simp[lF,this];have hi:=hr.lt g.wf g.ne;have ra:qX ls a:=.step hr (jN hi) ha;refine⟨ra.lt g.wf g.ne,ra,?_⟩;have hm:=(qq ls w a i).mpr ⟨hi,(gw i).mpr hr,ha⟩;have h2:kd ls i∈H2:=h;have:(eR ls w a).any (λi=>decide<|kd ls i∈H2)=true:=List.any_eq_true.mpr ⟨i,hm,by simp[h2]⟩;simp[lF,this];simp[lF]
section
variable{gs:T1}{ls:Uc}{ss:T1}{ix_:Nat}(g:Gd gs ls ss ix_){kp:Qg}(K:Kp ls kp)(iN:ls.length<=14)
include g K
theorem sW.low{b r:Nat}(h:sW ls kp b r):b<ls.length->kp[r]?=some true/\r<=b:=by induction h with|self h=>exactλ_=>⟨h,WR⟩|step h hb _ ih=>intro ha;have:=ou g ha hb;have:=ih WR;exact⟨this.1,WR⟩
theorem Cu{y:Nat}(h:qX ls y):∀r,GS ls kp y r->∃a,kp[a]?=some true/\GS ls kp a r:=by
 induction h with
 |last=>exactλr hr=>⟨_,K.last,hr⟩|@step i y l hi e hy ih=>
  intro r hr;have Cc:=hi.lt g.wf g.ne;have hyl:y<ls.length:=by have:=g.wf i l e y hy;lia
  have hyn:y∈fN ls i:=by unfold fN;rw[show cE ls i=l by simp[cE,e]];exact hy
  obtain⟨b,hb⟩:∃b,kp[y]?=some b:=⟨_,UK (by rw[K.len];exact hyl)⟩;cases b with|true=>exact⟨y,hb,hr⟩|false=>obtain⟨c,hc,hcr⟩:=hr;exact ih r ⟨y,hyn,.step hb hc hcr⟩
include iN
theorem EL:∃(as:WC)(X:Nat->D)(rd:Nat->WC),aC 1 (bO [(m1 cw<|aa 0)]) (ao 6) k8 kY [.sh<|Pg ls,.sh<|aG gs,.sh<|aG ss,.sh<|fC kp,.no,.no]=.ok (mq as X) [.sh<|Pg ls,.sh<|aG gs,.sh<|aG ss,.sh<|fC kp,.no,.no]/\YR ls.length as X rd ss/\(∀a∈as,sU ls ss kp a<|X a)/\∀a,a∈as<->kp[a]?=some true:=by
 obtain⟨as,has⟩:∃as,as=(List.range ls.length).filter λa=>kp.getD a false:=⟨_,rfl⟩;have hm:∀a,a∈as<->kp[a]?=some true:=λa=>by rw[has,List.mem_filter,List.mem_range,Vh];cases h:kp[a]? with|none=>simp|some b=>have:=(List.getElem?_eq_some_iff.mp h).1;have:=K.len;simp;lia
 obtain⟨X,hX⟩:=uy (as:=as) (P:=λ(a:Nat) x=>lg [Pg ls,aG ss,fC kp,.int a]=.ok x []/\sU ls ss kp a x) λa ha=>x9 g K iN a<|(hm a).mp ha;obtain⟨rd,Zb⟩:=uy (as:=as) (P:=λ(a:Nat)(rs:WC)=>rR [X a]=.ok (fj rs) []/\∀r,r∈rs<->GS ls kp a r) λa ha=>(hX a ha).2.own;have lt:∀a∈as,a<ls.length:=λa ha=>(K.want a<|(hm a).mp ha).lt g.wf g.ne;have ord:as.Pairwise (· < ·):=by rw[has];exact List.Pairwise.filter _ List.pairwise_lt_range
 have lr:as.length<=14:=by rw[has];have:=Q8 (λa=>kp.getD a false)<|List.range ls.length;simp only[List.length_range] at this;lia
 have Nl:ls.length-1∈as:=(hm _).mpr K.last;have abe:∀i,i+1<as.length->as.getD i 0<ls.length-1:=λi hi=>by have p:=List.pairwise_iff_getElem.mp ord i (i+1) WR hi WR;have:=lt _<|Vz hi;simp[show i<as.length by lia];lia
 have Lp:YR ls.length as X rd ss:=by
  refine⟨λz=>(by rw[z] at Nl;cases Nl),ord,lr,λa ha=>(by have:=lt a ha;lia),λa ha=>(hX a ha).2.line,λa ha=>⟨(hX a ha).2.X2,lU g<|lt a ha⟩,λa ha=>(Zb a ha).1,λa ha r hr=>?_,λi hi=>?_⟩;obtain⟨b,hb,hbr⟩:=((Zb a ha).2 r).mp hr;have h1:=ou g (lt a ha) hb;have h2:=sW.low g K hbr (by have:=lt a ha;lia);exact⟨(hm r).mpr h2.1,WR⟩;have hx:=xt (as:=as) (i:=i) WR;have GY:=abe i hi;have hk:=(hm _).mp hx;have hR:=K.want _ hk;generalize as.getD i 0=x at *;cases hR with
  |last=>lia|@step j _ l hj e hy=>
   have hyn:x∈fN ls j:=by unfold fN;rw[show cE ls j=l by simp[cE,e]];exact hy
   obtain⟨a,h1,h2⟩:=Cu g K hj x ⟨x,hyn,.self hk⟩;have ha:=(hm a).mpr h1;exact⟨a,ha,((Zb a ha).2 x).mpr h2⟩
 refine⟨as,X,rd,?_,Lp,λa ha=>(hX a ha).2,hm⟩;have ln:=jM ls;have er:=j8 ls.length WR;refine xC (λ(k:Nat)=>D.int k) (λa=>kp.getD a false) X (List.range ls.length) ah (by simp;lia) (by rw[<-has];rfl) (λa ha acc=>?_) λa ha hk acc=>?_;have hb:kp[a]?=some (kp.getD a false):=by have:=List.mem_range.mp ha;have:=K.len;simp[show a<kp.length by lia]
 have bi:=jB kp a _ hb;generalize kp.getD a false=b at *;unfold k8;exact ah;have hx:=(hX a (by rw[has];exact List.mem_filter.mpr ⟨ha,hk⟩)).1;generalize X a=xa at *;unfold kY;exact ah
end
def ZW(as:WC)(X:Nat->D)(R:IK)(ys:Zw):D:=.ins "Plan" ["loops","row_of","lengths"] [mq as X,Dc R,Z ys]
theorem PY(as:WC)(X:Nat->D)(R:IK)(ys:Zw):Po [.ins "Plan" [] [],mq as X,Dc R,Z ys]=.ok .aQ [ZW as X R ys]:=Yh
theorem Jk{gs:T1}{ls:Uc}{ss:T1}{ix_:Nat}(g:Gd gs ls ss ix_)(iN:ls.length<=14):∃x,pV [Pg ls,aG gs]=.ok x []:=by have e1:=ju gs ls ss ix_ g iN;obtain⟨kp,e2,K⟩:=Im gs ls ss ix_ g iN;obtain⟨as,X,rd,e3,L,hl,hm⟩:=EL g K iN;obtain⟨R,e4,hR⟩:=Q2A L;obtain⟨ys,e5⟩:=Q2h L R hR;have e6:=PY as X R ys;refine⟨ZW as X R ys,?_⟩;generalize ZW as X R ys=pl at *;generalize mq as X=xs at *;unfold pV CJ;exact rn
def Ix(s x:Zw):Prop:=x.length=s.length/\∀k,k<s.length->0<=x.getD k 0/\x.getD k 0<s.getD k 0
def qU(s x:Zw):Int:=dot x (cL s)
theorem Ix.tail{y a:Int}{s x:Zw}(h:Ix (y::s) (a::x)):Ix s x:=⟨by have:=h.1;simpa using this,λk hk=>by have:=h.2 (k+1) (by simp;lia);simpa using this⟩
theorem Ix.place:∀{s x:Zw},(∀y∈s,0<=y)->Ix s x->0<=qU s x/\qU s x<ak s
|[],x,_,h=>by have:=List.eq_nil_of_length_eq_zero h.1;subst this;exact⟨Int.le_refl _,by decide⟩|y::s,[],_,h=>by have:=h.1;simp at this|y::s,a::x,hs,h=>by
 have h1:=h.tail.place λz hz=>hs z<|SY _ hz;have h0:=h.2 0 T2;simp only[List.getD_cons_zero] at h0;show 0<=a*ak s+qU s x/\a*ak s+qU s x<y*ak s;have m1:=R1 h0.1 (show 0<=ak s by lia);have m2:=Int.mul_le_mul_of_nonneg_right (show a+1<=y by lia) (show 0<=ak s by lia);rw[Int.add_mul] at m2
 lia
theorem uE(s:Zw)(k:Nat)(x:Int)(h:k<s.length):rep s k x=s.set k x:=(List.set_eq_take_append_cons_drop ..).trans (Zh h) |>.symm
def lW(s x:Zw):Zw:=List.zipWith (λa b=>if a=1 then 0 else b) s (x.drop<|x.length-s.length)
def S1(o x:Zw):Zw:=(List.range o.length).map λ(k:Nat)=>x.getD (o.idxOf (k:Int)) 0
theorem gD(s:Zw)(k:Nat)(h:k<s.length):s.getD k 0=s[k]:=by simp[h]
theorem qD(s:Zw)(k i:Nat)(x:Int)(h:k<s.length):(rep s k x).getD i 0=if i=k then x else s.getD i 0:=by rw[uE _ _ _ h];simp only[Vh,List.getElem?_set];by_cases e:k=i;subst e;simp[h];simp[e,show ¬i=k fromλz=>e z.symm]
theorem fY(s:Zw)(k:Nat)(x:Int)(h:k<s.length):(rep s k x).length=s.length:=by rw[uE _ _ _ h];simp
theorem uz(s:Zw)(k:Nat)(x:Int):(pin s k x).length=s.length+1:=by unfold pin;rw[RH,F4,<-Nat.add_assoc,<-RH,List.take_append_drop]
theorem uS{s:Zw}{k:Nat}(h:k<s.length):(wo s k).length+1=s.length:=by unfold wo;rw[RH,Nat.add_assoc,List.length_drop,Q1,Nat.min_eq_left<|Nat.le_of_lt h,<-Nat.sub_sub,Nat.sub_add_cancel<|Nat.sub_pos_of_lt h,Nat.add_sub_cancel'<|Nat.le_of_lt h]
theorem GN(s:Zw)(k i:Nat):(wo s k).getD i 0=if i<k then s.getD i 0 else s.getD (i+1) 0:=by
 unfold wo;by_cases hk:k<=s.length;by_cases h:i<k;simp[h,IV,Nat.lt_min,Sq h hk];have e:k+1+(i-k)=i+1:=by rw[Nat.add_right_comm,Nat.add_sub_cancel'<|Nat.le_of_not_lt h]
 rw[Y4 h,Vh,Jn (by rw[Q1,Nat.min_eq_left hk];exact Nat.le_of_not_lt h)];simp[List.getElem?_drop,Nat.min_eq_left hk,e];have hk:=Nat.le_of_not_le hk;rw[Ic hk,List.drop_of_length_le<|Nat.le_succ_of_le hk,JS];split;rfl;rename_i h;have h:=HJ hk<|Nat.le_of_not_lt h;simp[By h,By<|Nat.le_succ_of_le h]
theorem yz(s:Zw)(k i:Nat)(x:Int)(hk:k<=s.length):(pin s k x).getD i 0=if i<k then s.getD i 0 else if i=k then x else s.getD (i-1) 0:=by unfold pin;by_cases h:i<k;simp[h,IV,Nat.lt_min,Sq h hk];rw[Y4 h,Vh,Jn (by rw[Q1,Nat.min_eq_left hk];exact Nat.le_of_not_lt h)];by_cases e:i=k;subst e;simp[Nat.min_eq_left hk];obtain⟨j,rfl⟩:=Nat.le.dest<|Nat.lt_of_le_of_ne (Nat.le_of_not_lt h) λz=>e z.symm;rw[Y4 e,Q1,Nat.min_eq_left hk,Nat.succ_add,Nat.succ_sub<|Nat.le_add_right ..,Nat.add_sub_cancel_left];simp
theorem mV{s x:Zw}{k:Nat}{y v:Int}(h:Ix (rep s k y) x)(hk:k<s.length)(h0:0<=v)(h1:v<s.getD k 0):Ix s (rep x k v):=by obtain⟨hl,hx⟩:=h;rw[fY _ _ _ hk] at hl hx;refine⟨by rw[fY _ _ _ WR,hl],λi hi=>?_⟩;have:=hx i hi;rw[qD _ _ _ _ hk] at this;rw[qD _ _ _ _ WR];split;rename_i e;subst e;exact⟨h0,h1⟩;rename_i e;rw[Y4 e] at this;exact this
theorem Ew{s x:Zw}{k:Nat}{v:Int}(h:Ix (wo s k) x)(hk:k<s.length)(h0:0<=v)(h1:v<s.getD k 0):Ix s (pin x k v):=by obtain⟨hl,hx⟩:=h;have l2:x.length+1=s.length:=hl ▸ uS hk;have kx:k<=x.length:=Nat.le_of_lt_succ<|Nat.lt_of_lt_of_eq hk l2.symm;refine⟨(uz ..).trans l2,λi hi=>?_⟩;rw[yz _ _ _ _ kx];rw[<-l2] at hi;by_cases c:i<k;have:=hx i<|hl ▸ Sq c kx;rw[GN,Zh c] at this;rw[Zh c];exact this;rw[Y4 c];by_cases e:i=k;rw[Zh e];subst e;exact⟨h0,h1⟩;cases i with|zero=>exact absurd (Nat.le_zero.mp<|Nat.le_of_not_lt c).symm e|succ i=>have:=hx i<|hl ▸ Nat.lt_of_succ_lt_succ hi;rw[GN,Y4 (λz:i<k=>c<|Nat.lt_of_le_of_ne z e)] at this;rw[Y4 e];exact this
theorem Wo{s x:Zw}{k:Nat}{y:Int}(h:Ix (pin s k y) x)(hk:k<=s.length):Ix s (wo x k):=by obtain⟨hl,hx⟩:=h;rw[uz] at hl hx;refine⟨Nat.succ.inj ((uS<|hl ▸ Nat.lt_succ_of_le hk).trans hl),λi hi=>?_⟩;rw[GN];by_cases c:i<k;have:=hx i<|Vf hi;rw[yz _ _ _ _ hk,Zh c] at this;rw[Zh c];exact this;have:=hx (i+1)<|Nat.succ_lt_succ hi;rw[yz _ _ _ _ hk,Y4 (λz:i+1<k=>c<|Nat.lt_of_succ_lt z),Y4 (λz:i+1=k=>c<|z ▸ Ql i)] at this;rw[Y4 c];exact this
theorem Q1S{s x o:Zw}(h:Ix (o.map λy=>s.getD y.toNat 0) x)(hl:o.length=s.length)(ha:∀j:Nat,j<s.length->(j:Int)∈o):Ix s (S1 o x):=by
 obtain⟨h1,h2⟩:=h;refine⟨by simp[S1,hl],λk hk=>?_⟩;have hi:=List.idxOf_lt_length_of_mem<|ha k hk;have q:=h2 (o.idxOf (k:Int)) (by simpa using hi);have e:(S1 o x).getD k 0=x.getD (o.idxOf (k:Int)) 0:=by simp[S1,hl,hk]
 have e2:(o.map λy=>s.getD y.toNat 0).getD (o.idxOf (k:Int)) 0=s.getD k 0:=by rw[gD _ _ (by simpa using hi),List.getElem_map,List.getElem_idxOf,IZ]
 rw[e2] at q;rw[e];exact q
def Sp(s t:Zw):Prop:=s.length<=t.length/\∀k,k<s.length->s.getD k 0=1\/s.getD k 0=t.getD (t.length-s.length+k) 0
theorem SM{a M k:Nat}(h:a<=M):M-1-(M-a+k)=a-1-k:=by obtain⟨c,rfl⟩:=Nat.le.dest h;rw[Nat.add_sub_cancel_left,Nat.sub_sub,Nat.add_left_comm,Nat.add_comm c,Nat.add_sub_add_right,Nat.add_comm,Nat.sub_sub,Nat.add_comm]
theorem Hq{s:Zw}{k:Nat}(hk:k<s.length):back s (s.length-1-k)=s.getD k 0:=by unfold back;rw[Zh<|Nat.lt_of_le_of_lt (Nat.sub_le _ _)<|Nat.sub_one_lt_of_lt hk,Nat.sub_sub_self<|Nat.le_sub_one_of_lt hk];simp[hk]
theorem f9{s t m:Zw}(h:meet s t=some m):Sp s m:=by
 have hl:=cz h;have hM:s.length<=m.length:=hl ▸ Xv ..;unfold meet at h;split at h;rename_i ok;cases h;refine⟨hM,λk hk=>?_⟩;have lt:s.length-1-k<max s.length t.length:=Sq (Nat.lt_of_le_of_lt (Nat.sub_le _ _)<|Nat.sub_one_lt_of_lt hk)<|Xv ..;have hp:(pairs s t)[s.length-1-k]?=some (back s<|s.length-1-k,back t<|s.length-1-k):=by rw[pairs,FC,Il lt];rfl
 have q:(((pairs s t).map λp=>pk p.1 p.2).reverse)[max s.length t.length-s.length+k]?=some (pk (back s<|s.length-1-k)<|back t<|s.length-1-k):=by rw[List.length_reverse] at hl hM;rw[JH (by rw[hl];exact Sq (Nat.add_lt_add_left hk _)<|Nat.le_of_eq<|Nat.sub_add_cancel<|hl ▸ hM),hl,SM<|hl ▸ hM,FC,hp];rfl
 rw[hl,Vh (l:=List.reverse _),q,<-Hq hk];show _\/_=(if _ then _ else _);split;exact .inl ‹_›;exact .inr rfl;cases h
theorem Sp.trans{s t u:Zw}(h:Sp s t)(k:Sp t u):Sp s u:=by refine⟨HJ h.1 k.1,λi hi=>?_⟩;rcases h.2 i hi with e|e;exact .inl e;rcases k.2 (t.length-s.length+i) (Sq (Nat.add_lt_add_left hi _)<|Nat.le_of_eq<|Nat.sub_add_cancel h.1) with z|z;exact .inl<|e.trans z;refine .inr ?_;obtain⟨c,hc⟩:=Nat.le.dest h.1;obtain⟨d,hd⟩:=Nat.le.dest k.1;rw[e,z,<-Nat.add_assoc,<-hd,Nat.add_sub_cancel_left,<-hc,Nat.add_sub_cancel_left,Nat.add_assoc s.length,Nat.add_sub_cancel_left,Nat.add_comm c]
theorem AO(s x:Zw)(hl:s.length<=x.length)(k:Nat)(hk:k<s.length):(lW s x).getD k 0=if s.getD k 0=1 then 0 else x.getD (x.length-s.length+k) 0:=by unfold lW;rw[gD _ _ (by simp;lia),List.getElem_zipWith,List.getElem_drop,gD s k hk,gD _ _ WR]
theorem wJ(s x:Zw)(hl:s.length<=x.length):(lW s x).length=s.length:=by simp[lW];lia
theorem jL{s t x:Zw}(h:Ix t x)(p:Sp s t):Ix s (lW s x):=by obtain⟨hl,hx⟩:=h;have p1:=p.1;refine⟨wJ _ _ WR,λk hk=>?_⟩;rw[AO _ _ WR k hk];have:=hx (t.length-s.length+k) WR;rw[hl];rcases p.2 k hk with e|e;rw[e,Zh rfl];decide;split;rename_i z;rw[z];decide;rw[e];exact this
theorem Ix.self{s x:Zw}(h:Ix s x):lW s x=x:=by obtain⟨hl,hx⟩:=h;refine WT (by rw[wJ _ _ WR,hl]) λk h1 h2=>?_;rw[<-gD _ _ h1,<-gD _ _ h2,AO _ _ WR k WR,show x.length-s.length+k=k by lia];split;have:=hx k WR;lia;rfl
def BI(d:Nat)(x:Int):Int:=if d=16 then(1000003-x) % 1000003 else if d=17 then(x-x % 2) / 2 else if x=0 then 1 else 0
def eE(d:Nat)(x y:Int):Int:=if d=19 then(x+y) % 1000003 else if d=20 then(x+1000003-y) % 1000003 else if d=21 then x*y % 1000003 else if d=24 then(if x<y then 1 else 0) else if d=25 then(if x=y then 1 else 0) else if decide (d=22)=decide (x<y) then x else y
theorem So(d:Nat){x:Int}(h:Rt x):Rt (BI d x):=by unfold BI Rt at *;split<;>(try split)<;>(try split)<;>lia
theorem pq(d:Nat){x y:Int}(h:Rt x)(k:Rt y):Rt (eE d x y):=by unfold eE Rt at *;split<;>(try split)<;>(try split)<;>(try split)<;>(try split)<;>(try split)<;>lia
theorem Q1H{o:Zw}{n:Nat}(h:sortI o=mj n):(∀j:Nat,j<n->(j:Int)∈o)/\o.Nodup:=by have p:=sortI_perm o;rw[h] at p;refine⟨λj hj=>p.mem_iff.mp<|List.mem_map.mpr ⟨j,by simpa using hj,rfl⟩,p.nodup_iff.mp ?_⟩;unfold mj List.Nodup;rw[List.pairwise_map];exact List.nodup_range.imp λh z=>h WR
theorem qE(s:Zw)(k:Nat)(h:k<s.length):rep s k (s.getD k 0)=s:=by rw[uE _ _ _ h,gD _ _ h];simp
theorem Th{s t:Zw}{j:Nat}(h:s.length=t.length)(hj:j<s.length)(e:wo s j=wo t j)(v:Int):rep s j v=rep t j v:=by unfold wo at e;have:=List.append_inj e (by simp[h]);unfold rep;rw[this.1,this.2]
theorem Pb(st b m y:Int)(hy:0<=y/\y<m){z:Int}(h:0<m->(0<=b/\b<z)/\0<=b+st*(m-1)/\b+st*(m-1)<z):0<=b+st*y/\b+st*y<z:=by
 rcases Int.le_total 0 st with c|c;have:=R1 c hy.1;have:=Int.mul_le_mul_of_nonneg_left (show y<=m-1 by lia) c
 lia
 have:=R1 (show 0<=-st by lia) hy.1;have:=Int.mul_le_mul_of_nonneg_left (show y<=m-1 by lia) (show 0<=-st by lia);rw[Int.neg_mul,Int.neg_mul] at *
 lia
section
variable(ss:T1)(cs:Nat->Zw)
def cv(a:Nat)(x:Zw):Int:=(cs a).getD (qU (sd ss a) x).toNat 0
end
theorem Fs:∀{s:Zw},(∀y∈s,0<=y)->0<ak s->∀y∈s,0<y
|[],_,_,y,hy=>by cases hy|a::s,h0,h,y,hy=>by
 have e:ak (a::s)=a*ak s:=rfl;have a0:=h0 a TL;rcases List.mem_cons.mp hy with rfl|hy
 lia
 exact Fs (λz hz=>h0 z<|SY _ hz) (Int.pos_of_mul_pos_right (e ▸ h) WR) y hy
theorem wu:∀{s:Zw},(∀y∈s,0<y)->0<ak s|[],_=>by decide|a::s,h=>Int.mul_pos (h a TL) (wu λz hz=>h z<|SY _ hz)
theorem Vl(s:Zw)(k:Nat)(h:k<s.length):s.drop k=s.getD k 0::s.drop (k+1):=by rw[Yd h,gD _ _ h]
theorem Ix.get{s x:Zw}(h:Ix s x)(k:Nat)(hk:k<s.length):aj (T x) (.int (k:Int))=some (.int<|x.getD k 0):=hJ x k (by rw[h.1];exact hk)
theorem zr:∀(ys xs:Zw),((ys.zip xs).map λp=>p.1*p.2).sum=dot xs ys|[],[]=>rfl|[],_::_=>rfl|_::_,[]=>rfl|y::ys,x::xs=>by simp[dot,zr ys xs,Int.mul_comm]
theorem wm(s x:Zw)(h:SI s)(hx:∀y∈x,0<=y/\y<=100):DN [T s,T x]=.ok (.int<|qU s x) []:=by
 have st:=strides s h;have hl:=h.1;have c:aC 2 (ui [(au vK [.val<|aa 0]),(aa 1)]) (b8 [2,3]) (VP.ret true) ki [.sh<|T s,.sh<|T x]=.ok (Z<|((cL s).zip x).map λp=>p.1*p.2) [.sh<|T s,.sh<|T x]:=by have ez:=nK (T<|cL s) (T x) (cL s) x rfl rfl;refine xD (λp:Int×Int=>D.int p.1) (λp=>D.int p.2) (λp=>D.int<|p.1*p.2) ((cL s).zip x) ah (by simp[fO];lia) (by simp[Z,Function.comp_def]) λp hp acc=>?_;have hv:=hx p.2 (ug hp).2;have m:=cV p.1 p.2 WR WR;unfold ki;exact ah
 have sm:=SN<|((cL s).zip x).map λp=>p.1*p.2;rw[zr] at sm;generalize Z (((cL s).zip x).map λp=>p.1*p.2)=zz at *;show _=FR.ok (.int<|dot x<|cL s) [];unfold DN La;exact rn
theorem Ix.bd{s x:Zw}(h:SI s)(hi:Ix s x):∀y∈x,0<=y/\y<=100:=λy hy=>by
 obtain⟨k,hk,rfl⟩:=List.mem_iff_getElem.mp hy;have a:=hi.2 k (by rw[<-hi.1];exact hk);have b:=h.get k;rw[gD _ _ hk] at a
 lia
theorem Ft{s:Zw}(hs:∀z∈s,0<=z){a:Int}(ha:0<=a)(h:0<a*ak s):0<ak s:=by
 have:0<=ak s:=by clear h;induction s with|nil=>decide|cons b s ih=>exact R1 (hs b TL) (ih λz hz=>hs z<|SY _ hz)
 have:ak s≠0:=λz=>by rw[z] at h;lia
 lia
theorem AP(s:Zw)(k:Nat)(h:k<s.length):(cL s).drop k=ak (s.drop<|k+1)::(cL s).drop (k+1):=by induction s generalizing k with|nil=>simp at h|cons y s ih=>cases k with|zero=>simp[cL]|succ k=>simpa[cL] using ih k (by simpa using h)
theorem xR:∀(s:Zw)(p:Int),(∀y∈s,0<=y)->0<=p->p<ak s->Ix s (idx s p)/\qU s (idx s p)=p
|[],p,_,h0,h1=>by have h1:p<1:=h1;exact⟨⟨rfl,λk hk=>absurd hk T2⟩,by show (0:Int)=p;lia⟩|y::s,p,hs,h0,h1=>by
 have Wd:∀z∈s,0<=z:=λz hz=>hs z<|SY _ hz;have h1:p<y*ak s:=h1;have P:=Ft Wd (a:=y) (hs y TL) (show 0<y*ak s by lia);have mx:max (ak s) 1=ak s:=WR;have a0:=Int.ediv_nonneg h0<|Int.le_of_lt P;have a1:=Int.ediv_lt_of_lt_mul P h1;obtain⟨i1,i2⟩:=xR s (p % ak s) Wd (Int.emod_nonneg _ WR)<|wY _ P;simp only[idx,mx];refine⟨⟨by simp[i1.1],λk hk=>?_⟩,?_⟩;cases k with|zero=>exact⟨a0,a1⟩|succ k=>simpa using i1.2 k (by simpa using hk)
 show p / ak s*ak s+qU s (idx s<|p % ak s)=p;rw[i2];exact Int.ediv_mul_add_emod p (ak s)
theorem vV(s:Zw)(h:SI s)(p:Int):zD [T s,.int p]=.ok (T<|idx s p) []:=by
 have st:=strides s h;have hl:=h.1;obtain⟨⟨x,v⟩,t,⟨h1,h2⟩,ht,L⟩:=bg (g:=ao 4) (body:=gA) D.int (λ(z:List Int×Int)(t:Sl×Sl)=>[.sh<|T s,.sh<|.int p,.ow<|Z z.1,.sh<|.int z.2,t.1,t.2]) iJ (cL s) (λk z=>z.1.length=k/\z.1++idx (s.drop k) z.2=idx s p) ([],p) (.no,.no) ⟨rfl,rfl⟩ ⟨rfl,rfl⟩ (by
  intro i y hy z t ht hP;obtain⟨x,v⟩:=z;obtain⟨t4,t5⟩:=t;obtain⟨f4,f5⟩:=ht;obtain⟨h1,h2⟩:=hP;dsimp only at f4 f5 h1 h2;have hi:=(List.getElem?_eq_some_iff.mp hy).1;rw[fO] at hi;have ey:y=ak (s.drop<|i+1):=by have a:=AP s i hi;have b:((cL s).drop i)[0]?=(cL s)[i]?:=T2;rw[a,hy] at b;simpa using b.symm
  subst ey;have hq:=(h.sd.drop<|i+1).prod;rw[Vl s i hi] at h2;have ap:=mz x (v / max (ak<|s.drop<|i+1) 1) WR;have mx:maxD [.int<|ak<|s.drop<|i+1,.int 1]=some (.int<|max (ak<|s.drop<|i+1) 1):=by show some (D.int<|if 1 > ak (s.drop<|i+1) then 1 else ak (s.drop<|i+1))=_;congr 2;split<;>lia
  have e:ao 4 (.int<|ak<|s.drop<|i+1) [.sh<|T s,.sh<|.int p,.ow<|Z x,.sh<|.int v,t4,t5]=.ok () [.sh<|T s,.sh<|.int p,.ow<|Z x,.sh<|.int v,.sh<|.int<|ak<|s.drop<|i+1,t5]:=by simp[f4]
  refine⟨(x++[v / max (ak<|s.drop<|i+1) 1],v % max (ak<|s.drop<|i+1) 1),(.sh<|.int<|ak<|s.drop<|i+1,.sh<|.int<|max (ak<|s.drop<|i+1) 1),⟨by simp[h1],by rw[<-h2];simp[idx]⟩,⟨rfl,rfl⟩,?_⟩;have m1:0<max (ak<|s.drop<|i+1) 1:=WR;have d1:=jG v _ m1 WR;have d2:=bP v _ m1;dsimp only;generalize max (ak<|s.drop<|i+1) 1=m at *;generalize ak (s.drop<|i+1)=y at *;rw[aE,e,ag,show gA _=.ok .nx _ by unfold gA;exact ah];rfl)
 rw[fO,List.drop_length] at h2;have h2:x=idx s p:=by simpa[idx] using h2
 subst h2;dsimp only at L;have z0:Z []=.lst []:=rfl;rw[z0] at L;unfold zD KJ;exact rn
theorem SI.sm{s:Zw}(h:SI s):Sm s:=λx hx=>by have:=h.2.1 x hx;lia
theorem indexes(s:Zw)(h:SI s)(n:Nat)(hn:ak s=n):zE [T s]=.ok (.lst<|(List.range n).map λ(p:Nat)=>T<|idx s p) []:=by
 have ci:=dY s h.sm;rw[hn] at ci;have Zp:=h.2.2;have er:=j8 n WR;have c:aC 1 (bO [(au rO [.val<|aa 0])]) (ao 1) (VP.ret true) iB [.sh<|T s]=.ok (.lst<|(List.range n).map λ(p:Nat)=>T<|idx s p) [.sh<|T s]:=by refine cJ (λ(p:Nat)=>D.int p) (λp=>T<|idx s p) (List.range n) ah (by simp;lia) rfl λp hp acc=>?_;have ix:=vV s h p;unfold iB;exact ah
 generalize D.lst ((List.range n).map λ(p:Nat)=>T<|idx s p)=z at *;unfold zE KL;exact rn
def Tb(s c:Zw):D:=.ins "Table" ["sides","cells"] [T s,Z c]
theorem uO(s c:Zw):bq bp "sides" (Tb s c)=some (T s):=Yh
theorem Gm(s c:Zw):bq fF "cells" (Tb s c)=some (Z c):=Yh
theorem oN(s c:Zw):gP "Table" "cell" (Tb s c)=true:=Yh
def Tk(s c:Zw):Prop:=SI s/\(c.length:Int)=ak s/\∀v∈c,Rt v
theorem jX{s c:Zw}(h:Tk s c):vr [.ins "Table" [] [],T s,Z c]=.ok .aQ [Tb s c]:=by
 obtain⟨h1,h2,h3⟩:=h;have Zp:=h1.2.2;have cb:=zl s h1;have ci:=dY s h1.sm;have f1:sD bp "sides" (T s) (.ins "Table" [] [])=some (.ins "Table" ["sides"] [T s]):=Yh;have f2:sD fF "cells" (Z c) (.ins "Table" ["sides"] [T s])=some (Tb s c):=Yh;have b1:=uO s c;have b2:=Gm s c;have ne:jo (.int c.length) (.int<|ak s)=some (.bl false):=by rw[cu,Pj h2];rfl
 have cm:aC 1 (cG<|m1 (bq fF "cells")<|xg 0) (ao 3) (VP.ret true) eK [.io<|Tb s c,.sh<|T s,.sh<|Z c]=.ok (.lst<|c.map λ_=>D.bl true) [.io<|Tb s c,.sh<|T s,.sh<|Z c]:=by refine cJ D.int (λ_=>D.bl true) c ?_ WR rfl λx hx acc=>?_;have sz:b9 (Z c)=some (c.map D.int):=rfl;generalize Tb s c=tb at *;exact ah;have r:=FV x<|h3 x hx;unfold eK;exact ah
 have al:oC true (.lst<|c.map λ_=>D.bl true)=some (.bl true):=by rw[tf (λ_=>true) c];simp
 generalize Tb s c=tb at *;generalize D.lst (c.map λ_=>D.bl true)=bs at *;unfold vr Kx;exact rnN
theorem qQ{s c x:Zw}(h:Tk s c)(hi:Ix s x):gL [Tb s c,T x]=.ok (.int<|c.getD (qU s x).toNat 0) []/\Rt (c.getD (qU s x).toNat 0):=by obtain⟨h1,h2,h3⟩:=h;have pl:=hi.place λy hy=>(h1.2.1 y hy).1;have hl:(qU s x).toNat<c.length:=WR;refine⟨?_,by rw[gD _ _ hl];exact h3 _<|Vz hl⟩;have pa:=wm s x h1<|hi.bd h1;have b1:=uO s c;have b2:=Gm s c;have iv:aj (Z c) (.int<|qU s x)=some (.int<|c.getD (qU s x).toNat 0):=cA _ _ pl.1 WR;generalize c.getD (qU s x).toNat 0=v at *;generalize Tb s c=tb at *;unfold gL Kw;exact rn
theorem wZ(g:Int->Int->Int):∀(s l:Zw),(s.zip l).map (λp=>g p.1 p.2)=List.zipWith g s l|[],_=>T2|_::_,[]=>T2|a::s,b::l=>by simp[wZ g s l]
theorem wK{s c x:Zw}(h:Tk s c)(hn:s.length<=x.length)(hx:x.length<=100)(hi:Ix s (lW s x)):vJ [Tb s c,T x]=.ok (.int<|c.getD (qU s<|lW s x).toNat 0) []/\Rt (c.getD (qU s<|lW s x).toNat 0):=by
 obtain⟨t1,t2⟩:=qQ h hi;refine⟨?_,t2⟩;have b1:=uO s c;have bm:=oN s c;have c2:=pU x (x.length-s.length) WR;rw[show (((x.length-s.length:Nat)):Int)=(x.length:Int)-s.length by lia] at c2;have cm:aC 2 (ui [(m1 (bq bp "sides")<|aa 0),(aa 2)]) (b8 [3,4]) (VP.ret true) gI [.sh<|Tb s c,.sh<|T x,.sh<|T<|x.drop<|x.length-s.length]=.ok (Z<|lW s x) [.sh<|Tb s c,.sh<|T x,.sh<|T<|x.drop<|x.length-s.length]:=by have ez:=nK (T s) (T<|x.drop<|x.length-s.length) s (x.drop<|x.length-s.length) rfl rfl;refine xD (λp:Int×Int=>D.int p.1) (λp=>D.int p.2) (λp=>D.int<|if p.1=1 then 0 else p.2) (s.zip<|x.drop<|x.length-s.length) ?_ (by simp;lia) (by unfold Z lW;rw[<-wZ];simp[Function.comp_def]) λp hp acc=>?_;generalize Tb s c=tb at *;exact ah;obtain⟨a,b⟩:=p;dsimp only;unfold gI;by_cases q:a=1;rw[Zh q];exact ah;rw[Y4 q];exact ah
 generalize c.getD (qU s<|lW s x).toNat 0=v at *;generalize Tb s c=tb at *;generalize x.drop (x.length-s.length)=xd at *;generalize lW s x=sx at *;unfold vJ Lk;exact rn
theorem yv(b:Bool):vC [.bl b]=.ok (.int<|if b then 1 else 0) []:=by unfold vC K6;cases b<;>exact rn
theorem Q0s(d:Nat)(hd:16<=d/\d<=18)(x:Int):DK [.str<|nm d,.int x]=.ok (.int<|BI d x) []:=by
 have h:d=16\/d=17\/d=18:=WR;unfold DK K5;rcases h with rfl|rfl|rfl;have m:fM (.int<|0-x) (.int 1000003)=some (.int<|BI 16 x):=by rw[Zm];show _=some (D.int<|(1000003-x) % 1000003);congr 2;lia
 exact rn;have m:rW (.int x) (.int 2)=some (.int<|BI 17 x):=by rw[d2_];show _=some (D.int<|(x-x % 2) / 2);congr 2;lia
 exact rn;have i:=yv<|decide<|x=0;have e:(if decide (x=0)=true then(1:Int) else 0)=BI 18 x:=by
  show _=if x=0 then(1:Int) else 0
  by_cases c:x=0<;>simp[c]
 rw[e] at i;exact rn
theorem mD(d:Nat)(hd:19<=d/\d<=25)(x y:Int)(hx:Rt x):Dy [.str<|nm d,.int x,.int y]=.ok (.int<|eE d x y) []:=by
 have h:d=19\/d=20\/d=21\/d=22\/d=23\/d=24\/d=25:=WR;have mu:=gS x y (by have:=hx.1;lia) (by have:=hx.2;lia);unfold Dy Kz;rcases h with rfl|rfl|rfl|rfl|rfl|rfl|rfl;have m:fM (.int<|x+y) (.int 1000003)=some (.int<|eE 19 x y):=Zm _;exact rn;have m:fM (.int<|x-y) (.int 1000003)=some (.int<|eE 20 x y):=by rw[Zm];show _=some (D.int<|(x+1000003-y) % 1000003);congr 2;lia
 exact rn;have m:fM (.int<|x*y) (.int 1000003)=some (.int<|eE 21 x y):=Zm _;exact rn;have m:minD [.int x,.int y]=some (.int<|eE 22 x y):=by show some (D.int<|if y<x then y else x)=some (D.int<|if decide (22=22)=decide (x<y) then x else y);congr 2;by_cases c:x<y;rw[Y4 WR,Zh (by simp[c])];simp only[c,decide_false,decide_true,Bool.true_eq_false,if_false];split<;>lia
 exact rn;have m:maxD [.int x,.int y]=some (.int<|eE 23 x y):=by show some (D.int<|if y > x then y else x)=some (D.int<|if decide (23=22)=decide (x<y) then x else y);congr 2;by_cases c:x<y;rw[Zh WR,Y4 (by simp[c])];rw[Y4 WR,Zh (by simp[c])]
 exact rn;have i:=yv<|decide<|x<y;have e:(if decide (x<y)=true then(1:Int) else 0)=eE 24 x y:=by
  show _=if x<y then(1:Int) else 0
  by_cases c:x<y<;>simp[c]
 rw[e] at i;exact rn;have i:=yv<|decide<|x=y;have e:(if decide (x=y)=true then(1:Int) else 0)=eE 25 x y:=by
  show _=if x=y then(1:Int) else 0
  by_cases c:x=y<;>simp[c]
 rw[e] at i;exact rn
def ly(d:Nat):Zw->Int|[]=>if d=21 then 1 else 0|x::xs=>xs.foldl (eE d) x
theorem wF(d:Nat):∀(xs:Zw)(x:Int),Rt x->(∀v∈xs,Rt v)->Rt (xs.foldl (eE d) x)|[],_,h,_=>h|y::xs,x,h,k=>wF d xs _ (pq d h<|k y TL) λv hv=>k v (SY _ hv)
theorem JD(d:Nat){xs:Zw}(h:∀v∈xs,Rt v):Rt (ly d xs):=by cases xs with|nil=>unfold ly Rt;split<;>lia|cons x xs=>exact wF d xs x (h x TL) λv hv=>h v (SY _ hv)
theorem tnR(d:Nat)(hd:d∈[19,21,22,23])(xs:Zw)(hx:∀x∈xs,Rt x)(hl:xs.length<=1000)(h0:xs=[]->d=19\/d=21):zC [.str<|nm d,Z xs]=.ok (.int<|ly d xs) []:=by
 have vR:d<32/\19<=d/\d<=25:=by simp at hd;lia
 cases xs with
 |nil=>
  have fn:DC [.str<|nm d]=.ok (.int<|ly d []) []:=by
   have t:B4 eU (.str<|nm d)=some (.int<|ly d []):=by rcases h0 rfl with rfl|rfl<;>kernel_rfl!
   unfold DC KH;exact rn
  generalize ly d []=v at *;unfold zC CE;exact rn
 |cons x xs=>
  have ln:=EH (x::xs);have ne:¬(((x::xs).length:Nat):Int)=0:=by simp;lia
  have i0:aj (Z (x::xs)) (.int 0)=some (.int x):=cA (x::xs) 0 WR T2;have ct:g6 (Z (x::xs)) (some 1) none=some (Z xs):=by rw[Pa];simp[j9]
  obtain⟨v,t,hP,ht,L⟩:=bg (g:=ao 3) (body:=jj) D.int (λ(v:Int)(t:Sl)=>[.sh<|.str<|nm d,.sh<|Z (x::xs),.sh<|.int v,t]) p9 xs (λk v=>Rt v/\v=(xs.take k).foldl (eE d) x) x .no rfl ⟨hx x TL,rfl⟩ (by
   intro i y hy v t ht hP;have hf:free (some t)=true:=ht;have rv:=hx y<|SY _<|Ct hy;have lb:=mD d vR.2 v y hP.1;have e:ao 3 (.int y) [.sh<|.str<|nm d,.sh<|Z (x::xs),.sh<|.int v,t]=.ok () [.sh<|.str<|nm d,.sh<|Z (x::xs),.sh<|.int v,.sh<|.int y]:=by simp[hf]
   refine⟨eE d v y,.sh<|.int y,⟨pq d hP.1 rv,?_⟩,rfl,?_⟩;rw[List.take_add_one,hy,hP.2];simp;generalize eE d v y=u at *;generalize Z (x::xs)=zx at *;rw[aE,e,ag,show jj _=.ok .nx _ by unfold jj;exact ah];rfl)
  obtain⟨_,hv⟩:=hP;rw[List.take_length] at hv;have hv:v=ly d (x::xs):=hv;subst hv;generalize ly d (x::xs)=v at *;generalize (((x::xs).length:Nat):Int)=n at *;have sz:b9 (Z xs)=some (xs.map D.int):=rfl;generalize Z xs=z1 at *;generalize Z (x::xs)=zx at *;unfold zC CE;exact rn
def NC:Xn:=⟨"NoCell",[],[]⟩
theorem gW{f g:M Fl}{r r1:ay}{x:Xn}(h:f r=.exc x r1):ai f g r=.exc x r1:=by rw[jU,h];rfl
theorem n5{c:M Bool}{A g:M Fl}{R:Res Fl}{r:ay}(h1:c r=.ok false r)(h2:g r=R):ai (eC c A aJ) g r=R:=oz (vU h1 rfl) h2
theorem Oz{f:M D}{r r1:ay}{x:Xn}(h:f r=.exc x r1):a8 f r=.exc x r1:=by rw[AL,h];rfl
theorem Sf{c:Str}{fs:List (M D)}{r r1:ay}{ds:Y5}(h:mL fs r=.ok ds r1)(hl:decide (ds.length<=1000)=true):uH c fs r=.exc ⟨c,[],[]⟩ r1:=by unfold uH;rw[aq,h,ag,Zh<|P7 hl]
theorem gn{f:Fn}{as:List VP.Arg}{r r1 r2:ay}{vs:List AV}{ds ios:Y5}{x:Xn}(h:aW as r=.ok vs r1)(ha:gj vs r1=some ds)(hn:decide (bJ vs).Nodup=true)(hf:f ds=.exc x ios)(hp:putAll (bJ vs) ios r1=r2):au f as r=.exc x r2:=by rw[vX,h,ag,oX,ha,aX,bH,ag,Zh<|P7 hn,hf,Bf,hp]
theorem q8{n:Nat}{fl:Qg}{b:M Fl}{ds ios:Y5}{r r0:ay}{x:Xn}(hl:decide (ds.length=fl.length)=true)(h0:aR n fl ds=r0)(h:b r0=.exc x r)(hi:bz fl r=some ios):defn n fl b ds=.exc x ios:=by rw[ef _ _ _ _<|P7 hl,h0,h];show (match bz fl r with|some ios=>FR.exc x ios|none=>FR.no)=_;rw[hi]
section
variable{ss:T1}{M:D}{t x:Zw}
def Lm(ss:T1)(M:D)(a:Nat):Prop:=∃c,aj M (.int (a:Int))=some (Tb (sd ss a) c)/\Tk (sd ss a) c
def PC(M:D)(t x:Zw)(l:PL):Prop:=(∃v,cg [l.d,T t,M,T x]=.ok (.int v) [M]/\Rt v)\/cg [l.d,T t,M,T x]=.exc NC [M]
theorem T7{s c:Zw}(h:Tk s c){x:Zw}(hn:s.length<=x.length)(hx:x.length<=100)(hi:Ix s (lW s x)):∃v,vJ [Tb s c,T x]=.ok (.int v) []/\Rt v:=⟨_,wK h hn hx hi⟩
theorem Gp{s c:Zw}(h:Tk s c){x:Zw}(hi:Ix s x):∃v,gL [Tb s c,T x]=.ok (.int v) []/\Rt v:=⟨_,qQ h hi⟩
theorem Xj{n:Nat}{G:Nat->Zw}(d a:Nat)(hT:Told n G (sd ss) (.one d a) t)(ha:Lm ss M a)(hx:Ix t x):PC M t x (.one d a):=by obtain⟨h1,rfl⟩:=hT;obtain⟨c,i1,ta⟩:=ha;obtain⟨v,c1,r1⟩:=Gp ta hx;refine .inl ⟨_,?_,So d r1⟩;have o:=Q0s d h1 v;have OJ:=oN (sd ss a) c;show cg [.tup [.str<|nm 9,.str<|nm d,.int a],T<|sd ss a,M,T x]=_;generalize Tb (sd ss a) c=ta at *;unfold cg iA;exact rn
theorem Q00{n:Nat}{G:Nat->Zw}(d a b:Nat)(hT:Told n G (sd ss) (.both d a b) t)(ha:Lm ss M a)(hb:Lm ss M b)(hx:Ix t x):PC M t x (.both d a b):=by obtain⟨h1,h3⟩:=hT;obtain⟨ca,i1,ta⟩:=ha;obtain⟨cb,i2,tb⟩:=hb;have ml:=cz h3;have l1:=ta.1.1;have l2:=tb.1.1;have hl:=hx.1;obtain⟨v1,c1,r1⟩:=T7 ta (x:=x) WR WR<|jL hx<|f9 h3;obtain⟨v2,c2,r2⟩:=T7 tb (x:=x) WR WR<|jL hx<|f9<|meet_comm _ _ ▸ h3;refine .inl ⟨_,?_,pq d r1 r2⟩;have o:=mD d h1 v1 v2 r1;show cg [.tup [.str<|nm 10,.str<|nm d,.int a,.int b],T t,M,T x]=_;generalize Tb (sd ss a) ca=ta at *;generalize Tb (sd ss b) cb=tb at *;unfold cg iA;exact rn
theorem R5{n:Nat}{G:Nat->Zw}(a b c:Nat)(hT:Told n G (sd ss) (.eJ a b c) t)(ha:Lm ss M a)(hb:Lm ss M b)(hc:Lm ss M c)(hx:Ix t x):PC M t x (.eJ a b c):=by
 obtain⟨u,h2,h3⟩:=hT;obtain⟨ca,i1,ta⟩:=ha;obtain⟨cb,i2,tb⟩:=hb;obtain⟨cc,i3,tc⟩:=hc;have ml:=cz h3;have ml2:=cz h2;have l1:=ta.1.1;have l2:=tb.1.1;have l3:=tc.1.1;have hl:=hx.1;obtain⟨v1,c1,r1⟩:=T7 ta (x:=x) WR WR<|jL hx<|(f9 h2).trans<|f9 h3;obtain⟨v2,c2,r2⟩:=T7 tb (x:=x) WR WR<|jL hx<|(f9<|meet_comm _ _ ▸ h2).trans<|f9 h3;obtain⟨v3,c3,r3⟩:=T7 tc (x:=x) WR WR<|jL hx<|f9<|meet_comm _ _ ▸ h3;have e:jo (.int v1) (.int 0)=some (.bl<|!decide (v1=0)):=cu _ _;generalize Tb (sd ss a) ca=ta at *;generalize Tb (sd ss b) cb=tb at *;generalize Tb (sd ss c) cc=tc at *;obtain⟨v,w,r⟩:∃v,tD [ta,tb,tc,T x]=.ok (.int v) []/\Rt v:=by by_cases q:v1=0;rw[Pj q] at e;refine⟨v3,?_,r3⟩;unfold tD xu;exact rn;rw[Zq q] at e;refine⟨v2,?_,r2⟩;unfold tD xu;exact rn
 refine .inl ⟨v,?_,r⟩;show cg [.tup [.str<|nm 11,.int a,.int b,.int c],T t,M,T x]=_;unfold cg iA;exact rn
theorem Jb{n:Nat}{G:Nat->Zw}(a:Nat)(k b y:Int)(hT:Told n G (sd ss) (.shift a k b y) t)(ha:Lm ss M a)(hx:Ix t x):PC M t x (.shift a k b y):=by
 obtain⟨j,rfl,hj,hy,rfl⟩:=hT;obtain⟨ca,i1,ta⟩:=ha;have hl:=hx.1;have l1:=ta.1.1;have g1:=hx.get j hj;have g3:=hJ (sd ss a) j hj;have p1:=uO (sd ss a) ca;have OJ:=oN (sd ss a) ca;have ch:=ec x j (x.getD j 0-b) WR WR;have l1:=gy 0<|x.getD j 0-b;have l2:=hZ (x.getD j 0-b)<|(sd ss a).getD j 0;obtain⟨v,key,r⟩:∃v,vG [Tb (sd ss a) ca,.int j,.int b,.int y,T x]=.ok (.int v) []/\Rt v:=by by_cases q:0<=x.getD j 0-b/\x.getD j 0-b<(sd ss a).getD j 0;obtain⟨v,c1,r1⟩:=Gp ta<|mV (by rw[qE _ _ hj];exact hx) hj q.1 q.2;refine⟨v,?_,r1⟩;rw[Pj q.1] at l1;rw[Pj q.2] at l2;generalize Tb (sd ss a) ca=ta at *;generalize T (rep x j<|x.getD j 0-b)=x' at *;generalize T (sd ss a)=sa at *;unfold vG ze;exact rn;refine⟨y,?_,hy⟩;generalize Tb (sd ss a) ca=ta at *;generalize T (rep x j<|x.getD j 0-b)=x' at *;generalize T (sd ss a)=sa at *;by_cases q1:0<=x.getD j 0-b;rw[Pj q1] at l1;rw[Zq λz=>q ⟨q1,z⟩] at l2;unfold vG ze;exact rn;rw[Zq q1] at l1;unfold vG ze;exact rn
 refine .inl ⟨v,?_,r⟩;show cg [.tup [.str<|nm 8,.int a,.int j,.int b,.int y],T<|sd ss a,M,T x]=_;generalize Tb (sd ss a) ca=ta at *;unfold cg iA;exact rn
theorem Q0R{n:Nat}{G:Nat->Zw}(a b:Nat)(k:Int)(hT:Told n G (sd ss) (.join a b k) t)(ha:Lm ss M a)(hb:Lm ss M b)(hx:Ix t x):PC M t x (.join a b k):=by
 obtain⟨j,rfl,hj,h2,h4,rfl⟩:=hT;obtain⟨ca,i1,ta⟩:=ha;obtain⟨cb,i2,tb⟩:=hb;have hl:x.length=(sd ss a).length:=by rw[hx.1,fY _ _ _ hj]
 have l1:=ta.1.1;have g1:=hJ x j WR;have g3:=hJ (sd ss a) j hj;have p1:=uO (sd ss a) ca;have OJ:=oN (sd ss a) ca;have tm2:=oN (sd ss b) cb;have b0:=hx.2 j (by rw[fY _ _ _ hj];exact hj);rw[qD _ _ _ _ hj,Zh rfl] at b0;obtain⟨v,key,r⟩:∃v,zG [Tb (sd ss a) ca,Tb (sd ss b) cb,.int j,T x]=.ok (.int v) []/\Rt v:=by by_cases q:x.getD j 0<(sd ss a).getD j 0;have i1:=mV hx hj b0.1 q;rw[qE _ _ WR] at i1;obtain⟨v,c1,r1⟩:=Gp ta i1;refine⟨v,?_,r1⟩;generalize Tb (sd ss a) ca=ta at *;generalize Tb (sd ss b) cb=tb at *;generalize T (sd ss a)=sa at *;unfold zG CG;exact rn;obtain⟨v,c1,r1⟩:=Gp tb (x:=rep x j<|x.getD j 0-(sd ss a).getD j 0)<|mV (Th h2 hj h4 _ ▸ hx) WR WR WR;have ch:=ec x j (x.getD j 0-(sd ss a).getD j 0) WR WR;refine⟨v,?_,r1⟩;generalize Tb (sd ss a) ca=ta at *;generalize Tb (sd ss b) cb=tb at *;generalize T (rep x j<|x.getD j 0-(sd ss a).getD j 0)=x' at *;generalize T (sd ss a)=sa at *;unfold zG CG;exact rn
 refine .inl ⟨v,?_,r⟩;show cg [.tup [.str<|nm 15,.int a,.int b,.int j],T _,M,T x]=_;generalize Tb (sd ss a) ca=ta at *;generalize Tb (sd ss b) cb=tb at *;unfold cg iA;exact rn
theorem R3{n:Nat}{G:Nat->Zw}(a b:Nat)(k:Int)(hT:Told n G (sd ss) (.pick a k b) t)(ha:Lm ss M a)(hb:Lm ss M b)(hx:Ix t x):PC M t x (.pick a k b):=by
 obtain⟨j,y,rfl,hj,h2,rfl⟩:=hT;obtain⟨ca,i1,ta⟩:=ha;obtain⟨cb,i2,tb⟩:=hb;have hl:x.length=(sd ss a).length:=by rw[hx.1,fY _ _ _ hj]
 have l1:=ta.1.1;have g1:=hJ x j WR;have g3:=hJ (sd ss a) j hj;have p1:=uO (sd ss a) ca;have OJ:=oN (sd ss a) ca;have tm2:=oN (sd ss b) cb;have b0:=hx.2 j (by rw[fY _ _ _ hj];exact hj);rw[qD _ _ _ _ hj,Zh rfl] at b0;obtain⟨w,c2,r2⟩:=Gp tb (x:=[x.getD j 0]) (by
  rw[h2];refine⟨rfl,λi hi=>?_⟩;have:i=0:=by simpa using hi
  subst this;exact b0)
 have t1:T [x.getD j 0]=.tup [.int<|x.getD j 0]:=rfl;rw[t1] at c2;have ge:=D6 w<|(sd ss a).getD j 0;show (∃v,cg [.tup [.str<|nm 14,.int a,.int j,.int b],T<|rep (sd ss a) j y,M,T x]=.ok (.int v) [M]/\Rt v)\/cg [.tup [.str<|nm 14,.int a,.int j,.int b],T<|rep (sd ss a) j y,M,T x]=.exc NC [M];by_cases q:(sd ss a).getD j 0<=w;rw[Pj q] at ge;generalize Tb (sd ss a) ca=ta at *;generalize Tb (sd ss b) cb=tb at *;generalize T (sd ss a)=sa at *;have key:zM [ta,.int j,tb,T x]=.exc NC []:=by refine q8 rfl (r0:=[.sh ta,.sh<|.int j,.sh tb,.sh<|T x,.no]) rfl (r:=[.sh ta,.sh<|.int j,.sh tb,.sh<|T x,.sh<|.int w]) ?_ rfl;refine oz (r1:=[.sh ta,.sh<|.int j,.sh tb,.sh<|T x,.sh<|.int w]) ah (gW<|vU (t:=true) ah<|gW<|Sf (ds:=[.str<|nm 32]) ah rfl)
 refine .inr ?_;generalize T (rep (sd ss a) j y)=tt at *;refine q8 rfl (r0:=[.sh<|.tup [.str<|nm 14,.int a,.int j,.int b],.sh tt,.io M,.sh<|T x,.no]) rfl (r:=[.sh<|.tup [.str<|nm 14,.int a,.int j,.int b],.sh tt,.io M,.sh<|T x,.sh<|.str<|nm 14]) ?_ rfl;unfold iA;refine oz (r1:=[.sh<|.tup [.str<|nm 14,.int a,.int j,.int b],.sh tt,.io M,.sh<|T x,.sh<|.str<|nm 14]) ah ?_;refine n5 ah<|n5 ah<|n5 ah<|n5 ah<|n5 ah<|gW<|vU (t:=true) ah<|gW<|Oz<|gn ah rfl rfl key rfl;rw[Zq q] at ge;obtain⟨v,c1,r1⟩:=Gp ta<|mV hx hj r2.1 WR;refine .inl ⟨v,?_,r1⟩;have ch:=ec x j w WR WR;generalize Tb (sd ss a) ca=ta at *;generalize Tb (sd ss b) cb=tb at *;generalize T (rep x j w)=x' at *;generalize T (sd ss a)=sa at *;have key:zM [ta,.int j,tb,T x]=.ok (.int v) []:=by unfold zM K8;exact rn
 unfold cg iA;exact rn
end
section
variable{ss:T1}{M:D}{t x:Zw}
theorem Q2S{n:Nat}{G:Nat->Zw}(d a:Nat)(k:Int)(hT:Told n G (sd ss) (.fold d a k) t)(ha:Lm ss M a)(hx:Ix t x):PC M t x (.fold d a k):=by
 obtain⟨j,rfl,hj,hd,h0,rfl⟩:=hT;obtain⟨ca,i1,ta⟩:=ha;have hs:=ta.1.get j;have g3:=hJ (sd ss a) j hj;have p1:=uO (sd ss a) ca;have OJ:=oN (sd ss a) ca;have hl:=hx.1;have l1:=uS hj;have l2:=ta.1.1;obtain⟨m,hm⟩:∃m:Nat,(sd ss a).getD j 0=m:=⟨((sd ss a).getD j 0).toNat,WR⟩;rw[hm] at g3;have er:=j8 m WR;obtain⟨f,hf⟩:=uy (as:=List.range m) (P:=λ(k:Nat)(v:Int)=>gL [Tb (sd ss a) ca,T<|pin x j k]=.ok (.int v) []/\Rt v) λk hk=>Gp ta<|Ew hx hj (show 0<=(k:Int) by lia) (by have:=List.mem_range.mp hk;lia);have cm:aC 1 (bO [(m2 aj (m1 (bq bp "sides")<|aa 1)<|aa 2)]) (ao 4) (VP.ret true) i8 [.sh<|.str<|nm d,.sh<|Tb (sd ss a) ca,.sh<|.int j,.sh<|T x]=.ok (Z<|(List.range m).map f) [.sh<|.str<|nm d,.sh<|Tb (sd ss a) ca,.sh<|.int j,.sh<|T x]:=by refine cJ (λ(k:Nat)=>D.int k) (λk=>D.int<|f k) (List.range m) ?_ (by simp;lia) (by simp[Z,Function.comp_def]) λk hk acc=>?_;generalize Tb (sd ss a) ca=ta at *;generalize T (sd ss a)=sa at *;exact ah;have s1:=(hf k hk).1;have pi:=uC x j (k:Int) WR WR;generalize Tb (sd ss a) ca=ta at *;generalize T (pin x j k)=x' at *;unfold i8;exact ah
 have rr:∀v∈(List.range m).map f,Rt v:=λv hv=>by obtain⟨k,hk,rfl⟩:=List.mem_map.mp hv;exact(hf k hk).2
 have fo:=tnR d hd ((List.range m).map f) rr (by simp;lia) (λz=>by
  have m0:m=0:=by simpa using z
  have:=h0 (by rw[hm,m0];rfl);simp at hd;lia)
 refine .inl ⟨_,?_,JD d rr⟩;show cg [.tup [.str<|nm 12,.str<|nm d,.int a,.int j],_,M,T x]=_;generalize ly d ((List.range m).map f)=v at *;generalize Z ((List.range m).map f)=z at *;generalize Tb (sd ss a) ca=ta at *;generalize T (sd ss a)=sa at *;have key:DB [.str<|nm d,ta,.int j,T x]=.ok (.int v) []:=by unfold DB KG;exact rn
 unfold cg iA;exact rn
theorem qv{a:Nat}{ta:D}{l:PL}(hk:l.k=2\/l.k=3\/l.k=4\/l.k=5\/l.k=6)(i1:aj M (.int (a:Int))=some ta)(h1:aj l.d (.int 1)=some (.int a)){v:Int}(hv:iG [l.d,ta,T x]=.ok (.int v) [])(r:Rt v):PC M t x l:=by
 refine .inl ⟨v,?_,r⟩;have k1:=l.kind;have ne:∀j,j<32->l.k≠j->eh (.str<|nm l.k) (.str<|nm j)=some (.bl false):=λj hj h=>by rw[Dq _ _ WR hj,Zq h]
 have n1:=ne 1 WR WR;have n9:=ne 9 WR WR;have Zn:=ne 10 WR WR;have n11:=ne 11 WR WR;have n12:=ne 12 WR WR;have n14:=ne 14 WR WR;have n15:=ne 15 WR WR;have n8:=ne 8 WR WR;have n7:=ne 7 WR WR;generalize l.d=ld at *;unfold cg iA;exact rn
theorem Q2I{n:Nat}{G:Nat->Zw}(a:Nat)(o:Zw)(hT:Told n G (sd ss) (.turn a o) t)(ha:Lm ss M a)(hx:Ix t x):PC M t x (.turn a o):=by
 obtain⟨h1,h2,rfl⟩:=hT;obtain⟨ca,i1,ta⟩:=ha;have h4:=ta.1.1;obtain⟨hm,hd⟩:=Q1H h1;obtain⟨v,c1,r1⟩:=Gp ta<|Q1S hx h2 hm;refine qv (by simp[PL.k]) i1 rfl ?_ r1;have OJ:=oN (sd ss a) ca;have hl:=hx.1;rw[SS] at hl;have er:=j8 x.length WR;show iG [.tup [.str<|nm 2,.int a,T o],Tb (sd ss a) ca,T x]=.ok (.int v) [];have c:aC 1 (bO [(m1 cw<|aa 2)]) (ao 4) (VP.ret true) dB [.sh<|.tup [.str<|nm 2,.int a,T o],.sh<|Tb (sd ss a) ca,.sh<|T x,.sh<|.str<|nm 2]=.ok (Z<|S1 o x) [.sh<|.tup [.str<|nm 2,.int a,T o],.sh<|Tb (sd ss a) ca,.sh<|T x,.sh<|.str<|nm 2]:=by
  refine cJ (λ(k:Nat)=>D.int k) (λk=>D.int<|x.getD (o.idxOf (k:Int)) 0) (List.range x.length) ah (by simp;lia) (by simp[Z,S1,Function.comp_def,hl]) λk hk acc=>?_;have hk:=List.mem_range.mp hk;have ho:=hm k WR;have hi:=List.idxOf_lt_length_of_mem ho;have g:=hJ x (o.idxOf (k:Int)) WR;have ix:vY (m2 aj (aa 0)<|cI 2) (aa 4) [.sh<|.tup [.str<|nm 2,.int a,T o],.sh<|Tb (sd ss a) ca,.sh<|T x,.sh<|.str<|nm 2,.sh<|.int k,.ow acc]=.ok (.int (o.idxOf (k:Int):Nat)) [.sh<|.tup [.str<|nm 2,.int a,T o],.sh<|Tb (sd ss a) ca,.sh<|T x,.sh<|.str<|nm 2,.sh<|.int k,.ow acc]:=by rw[ER,show m2 aj (aa 0) (cI 2) _=.ok (T o) _ from ah,ag];exact Q0H (aa 4) o k _ _ ah ho
  show dB [.sh<|.tup [.str<|nm 2,.int a,T o],.sh<|Tb (sd ss a) ca,.sh<|T x,.sh<|.str<|nm 2,.sh<|.int k,.ow acc]=.ok _ [.sh<|.tup [.str<|nm 2,.int a,T o],.sh<|Tb (sd ss a) ca,.sh<|T x,.sh<|.str<|nm 2,.sh<|.int k,.ow acc];unfold dB;exact ah
 generalize Tb (sd ss a) ca=ta at *;generalize S1 o x=u at *;unfold iG rF;exact rn
theorem Xi{n:Nat}{G:Nat->Zw}(a:Nat)(k b st m:Int)(hT:Told n G (sd ss) (.cut a k b st m) t)(ha:Lm ss M a)(hx:Ix t x):PC M t x (.cut a k b st m):=by
 obtain⟨j,rfl,hj,h1,_,h2,rfl⟩:=hT;obtain⟨ca,i1,ta⟩:=ha;have hl:x.length=(sd ss a).length:=by rw[hx.1,fY _ _ _ hj]
 have h4:=ta.1.1;have b0:=hx.2 j (by rw[fY _ _ _ hj];exact hj);rw[qD _ _ _ _ hj,Zh rfl] at b0;have c:=Pb st b m (x.getD j 0) b0 h2;rw[Int.mul_comm] at c;obtain⟨v,c1,r1⟩:=Gp ta<|mV hx hj c.1 c.2;refine qv (by simp[PL.k]) i1 rfl ?_ r1;have OJ:=oN (sd ss a) ca;show iG [.tup [.str<|nm 3,.int a,.int j,.int b,.int st,.int m],Tb (sd ss a) ca,T x]=.ok (.int v) [];have g:=hJ x j WR;have mu:=gS st (x.getD j 0) WR WR;rw[Int.mul_comm] at mu;have ch:=ec x j (b+x.getD j 0*st) WR WR;generalize Tb (sd ss a) ca=ta at *;generalize T (rep x j<|b+x.getD j 0*st)=u at *;unfold iG rF;exact rn
theorem RZ{n:Nat}{G:Nat->Zw}(a:Nat)(k p:Int)(hT:Told n G (sd ss) (.drop a k p) t)(ha:Lm ss M a)(hx:Ix t x):PC M t x (.drop a k p):=by obtain⟨j,rfl,hj,h2,rfl⟩:=hT;obtain⟨ca,i1,ta⟩:=ha;have h4:=ta.1.1;have hl:=hx.1;have l1:=uS hj;obtain⟨v,c1,r1⟩:=Gp ta<|Ew hx hj h2.1 h2.2;refine qv (by simp[PL.k]) i1 rfl ?_ r1;have OJ:=oN (sd ss a) ca;show iG [.tup [.str<|nm 4,.int a,.int j,.int p],Tb (sd ss a) ca,T x]=.ok (.int v) [];have ch:=uC x j p WR WR;generalize Tb (sd ss a) ca=ta at *;generalize T (pin x j p)=u at *;unfold iG rF;exact rn
theorem Q2D{n:Nat}{G:Nat->Zw}(a:Nat)(k:Int)(hT:Told n G (sd ss) (.wide a k) t)(ha:Lm ss M a)(hx:Ix t x):PC M t x (.wide a k):=by obtain⟨j,rfl,hj,rfl⟩:=hT;obtain⟨ca,i1,ta⟩:=ha;have h4:=ta.1.1;have hl:=hx.1;have l1:=uz (sd ss a) j 1;obtain⟨v,c1,r1⟩:=Gp ta<|Wo hx hj;refine qv (by simp[PL.k]) i1 rfl ?_ r1;have OJ:=oN (sd ss a) ca;show iG [.tup [.str<|nm 5,.int a,.int j],Tb (sd ss a) ca,T x]=.ok (.int v) [];have ch:=jw x j WR WR;generalize Tb (sd ss a) ca=ta at *;generalize T (wo x j)=u at *;unfold iG rF;exact rn
theorem Q0b{n:Nat}{G:Nat->Zw}(a:Nat)(u:Zw)(hT:Told n G (sd ss) (.spread a u) t)(ha:Lm ss M a)(hx:Ix t x)(h9:x.length<=100):PC M t x (.spread a u):=by obtain⟨h1,rfl⟩:=hT;obtain⟨ca,i1,ta⟩:=ha;have hs:=f9 h1;have hl:=hx.1;obtain⟨v,c1,r1⟩:=T7 ta (x:=x) (by have:=hs.1;lia) h9<|jL hx hs;refine qv (by simp[PL.k]) i1 rfl ?_ r1;show iG [.tup [.str<|nm 6,.int a,T t],Tb (sd ss a) ca,T x]=.ok (.int v) [];generalize Tb (sd ss a) ca=ta at *;unfold iG rF;exact rn
theorem R0{n:Nat}{G:Nat->Zw}(s:Zw)(y:Int)(hT:Told n G (sd ss) (.j5 s y) t):PC M t x (.j5 s y):=by obtain⟨_,hy⟩:=hT;refine .inl ⟨y,?_,hy⟩;show cg [.tup [.str<|nm 1,T s,.int y],T t,M,T x]=_;unfold cg iA;exact rn
theorem Ja{n:Nat}{G:Nat->Zw}(a:Nat)(u:Zw)(hT:Told n G (sd ss) (.shape a u) t)(ha:Lm ss M a)(ht:SI t)(hx:Ix t x):PC M t x (.shape a u):=by
 obtain⟨h1,h3⟩:=hT;obtain⟨ca,i1,ta⟩:=ha;have pl:=hx.place λy hy=>(ht.2.1 y hy).1;have lc:=ta.2.1;have hl:(qU t x).toNat<ca.length:=by rw[h1,<-h3] at lc;lia
 refine .inl ⟨ca.getD (qU t x).toNat 0,?_,by rw[gD _ _ hl];exact ta.2.2 _<|Vz hl⟩;have pa:=wm t x ht<|hx.bd ht;have b2:=Gm (sd ss a) ca;have iv:aj (Z ca) (.int<|qU t x)=some (.int<|ca.getD (qU t x).toNat 0):=cA _ _ pl.1 WR;show cg [.tup [.str<|nm 7,.int a,T u],T t,M,T x]=_;generalize ca.getD (qU t x).toNat 0=v at *;generalize Tb (sd ss a) ca=ta at *;unfold cg iA;exact rn
theorem Q1o{n:Nat}{G:Nat->Zw}{l:PL}(hT:Told n G (sd ss) l t)(h:∀b∈l.ns,Lm ss M b)(ht:SI t)(hx:Ix t x)(h0:l.k≠0/\l.k≠13):PC M t x l:=by
 have h9:x.length<=100:=by have:=hx.1;have:=ht.1;lia
 cases l with|given=>exact absurd rfl h0.1|run=>exact absurd rfl h0.2|j5 s y=>exact R0 s y hT|shape a u=>exact Ja a u hT (h a (by simp[PL.ns])) ht hx|turn a o=>exact Q2I a o hT (h a (by simp[PL.ns])) hx|cut a k b st m=>exact Xi a k b st m hT (h a (by simp[PL.ns])) hx|drop a k p=>exact RZ a k p hT (h a (by simp[PL.ns])) hx|wide a k=>exact Q2D a k hT (h a (by simp[PL.ns])) hx|spread a u=>exact Q0b a u hT (h a (by simp[PL.ns])) hx h9|shift a k b y=>exact Jb a k b y hT (h a (by simp[PL.ns])) hx|one d a=>exact Xj d a hT (h a (by simp[PL.ns])) hx|both d a b=>exact Q00 d a b hT (h a (by simp[PL.ns])) (h b (by simp[PL.ns])) hx|eJ a b c=>exact R5 a b c hT (h a (by simp[PL.ns])) (h b (by simp[PL.ns])) (h c (by simp[PL.ns])) hx|fold d a k=>exact Q2S d a k hT (h a (by simp[PL.ns])) hx|pick a k b=>exact R3 a b k hT (h a (by simp[PL.ns])) (h b (by simp[PL.ns])) hx|join a b k=>exact Q0R a b k hT (h a (by simp[PL.ns])) (h b (by simp[PL.ns])) hx
end
theorem zq:∀(x ys:Zw)(j:Nat)(v:Int),j<x.length->x.length=ys.length->dot (rep x j v) ys=dot x ys+(v-x.getD j 0)*ys.getD j 0
|[],_,_,_,h,_=>by simp at h|_::_,[],_,_,_,h=>by simp at h|a::x,b::ys,0,v,_,_=>by simp[rep,dot];grind|a::x,b::ys,j+1,v,h,e=>by
 have ih:=zq x ys j v (by simpa using h) (by simpa using e);have:rep (a::x) (j+1) v=a::rep x j v:=by simp[rep]
 rw[this];simp only[dot,ih,List.getD_cons_succ]
 lia
theorem Q0I(s:Zw)(k:Nat)(h:k<s.length):(cL s).getD k 0=ak (s.drop<|k+1):=by have a:=AP s k h;have b:((cL s).drop k)[0]?=(cL s)[k]?:=T2;rw[a] at b;rw[Vh,<-b];rfl
theorem BS(d:Nat)(hd:d∈[19,21,22,23]){s c:Zw}(h:Tk s c)(j:Nat)(hj:j<s.length):∃w,DQ [.str<|nm d,Tb s c,.int j]=.ok (Z w) []/\Tk s w:=by
 have vR:19<=d/\d<=25:=by simp at hd;lia
 obtain⟨h1,h2,h3⟩:=h;have s0:∀y∈s,0<=y:=λy hy=>(h1.2.1 y hy).1;have Zp:=h1.2.2;have st:=strides s h1;have gs:=hJ (cL s) j (by rw[fO];exact hj);have b1:=uO s c;have b2:=Gm s c;have en:gK [Z c]=some ((List.range c.length).map λ(i:Nat)=>D.tup [.int i,.int<|c.getD i 0]):=by
  show some (iE<|c.map D.int)=_;rw[jE];congr 1;refine WT T2 λi h1 h2=>?_;have hi:i<c.length:=by simpa using h2
  simp[hi]
 obtain⟨acc,t,⟨hl,ha⟩,ht,L⟩:=bg (g:=b8 [5,6]) (body:=cy) (λ(i:Nat)=>D.tup [.int i,.int<|c.getD i 0]) (λ(acc:Zw)(t:Sl×Sl×Sl)=>[.sh<|.str<|nm d,.sh<|Tb s c,.sh<|.int j,.sh<|.int<|(cL s).getD j 0,.ow<|Z acc,t.1,t.2.1,t.2.2]) zV (List.range c.length) (λk acc=>acc.length=k/\∀v∈acc,Rt v) [] (.no,.no,.no) ⟨rfl,rfl,rfl⟩ ⟨rfl,λv hv=>absurd hv T2⟩ (by
  intro i p hi acc t ht hP;obtain⟨rfl,hp⟩:=bF hi;obtain⟨t5,t6,t7⟩:=t;obtain⟨f5,f6,f7⟩:=ht;dsimp only at f5 f6 f7;obtain⟨q1,q2⟩:=hP;have rp:Rt (c.getD p 0):=by rw[gD _ _ hp];exact h3 _ (Vz hp)
  have more:∀w,Rt w->(acc++[w]).length=p+1/\∀v∈acc++[w],Rt v:=λw hw=>⟨by simp[q1],λv hv=>by rcases List.mem_append.mp hv with hv|hv;exact q2 v hv;rw[List.mem_singleton.mp hv];exact hw⟩;have ix:=vV s h1 p;obtain⟨i1,i2⟩:=xR s p s0 WR WR;have gx:=i1.get j hj;have xj:=i1.2 j hj;have eq:=fV ((idx s p).getD j 0) 0;have pr:=zq (idx s p) (cL s) j ((idx s p).getD j 0-1) (by rw[i1.1];exact hj) (by rw[fO,i1.1]);have sp:=wu λy hy=>Fs s0 WR y<|O5 (i:=j+1) hy;have st0:=Q0I s j hj;have pl:¬(idx s p).getD j 0=0->0<=p-(cL s).getD j 0:=λz=>by
   have k:=((mV (y:=s.getD j 0) (v:=(idx s p).getD j 0-1) (by rw[qE _ _ hj];exact i1) hj WR WR).place s0).1;have k:0<=dot _ _:=k;have i2:dot _ _=(p:Int):=i2;rw[pr,i2] at k
   grind
  clear pr;generalize (cL s).getD j 0=sj at *;dsimp only;rw[aE,show b8 [5,6] (.tup [.int p,.int<|c.getD p 0]) _=.ok () [.sh<|.str<|nm d,.sh<|Tb s c,.sh<|.int j,.sh<|.int sj,.ow<|Z acc,.sh<|.int p,.sh<|.int<|c.getD p 0,t7] by simp[f5,f6],ag];by_cases z:(idx s p).getD j 0=0;have ap:=mz acc (c.getD p 0) WR;refine⟨acc++[c.getD p 0],(.sh<|.int p,.sh<|.int<|c.getD p 0,.sh<|.bl true),more _ rp,⟨rfl,rfl,rfl⟩,?_⟩;rw[Pj z] at eq;generalize (idx s p).getD j 0=xj at *;generalize Tb s c=tb at *;generalize T (idx s p)=lx at *;rw[show cy _=.ok .nx _ by unfold cy;exact ah];rfl;have pl:=pl z;have ql:(p-sj).toNat<acc.length:=WR;have rq:Rt (acc.getD (p-sj).toNat 0):=by rw[gD _ _ ql];exact q2 _ (Vz ql)
  have iq:aj (Z acc) (.int<|p-sj)=some (.int<|acc.getD (p-sj).toNat 0):=cA acc _ pl WR;have bo:=mD d vR _ (c.getD p 0) rq;have ap:=mz acc (eE d (acc.getD (p-sj).toNat 0)<|c.getD p 0) WR;refine⟨_,(.sh<|.int p,.sh<|.int<|c.getD p 0,.sh<|.bl false),more _<|pq d rq rp,⟨rfl,rfl,rfl⟩,?_⟩;rw[Zq z] at eq;generalize eE d (acc.getD (p-sj).toNat 0) (c.getD p 0)=w at *;generalize acc.getD (p-sj).toNat 0=rq at *;generalize (idx s p).getD j 0=xj at *;generalize Tb s c=tb at *;generalize T (idx s p)=lx at *;rw[show cy _=.ok .nx _ by unfold cy;exact ah];rfl)
 rw[Xm] at hl;refine⟨acc,?_,h1,by rw[hl,h2],ha⟩;dsimp only at L;have z0:Z []=.lst []:=rfl;rw[z0] at L;generalize (cL s).getD j 0=sj at *;generalize T (cL s)=ts at *;generalize Tb s c=tb at *;unfold DQ Lh;exact rn
theorem MI{A:Type}{it:M (List D)}{elt:M D}{k:Nat}{r:ay}(mk:A->D)(x:Xn)(as:List A)(mM:it r=.ok (as.map mk) r)(hL:as.length<=16777216)
  (he:∀a∈as,∀acc,(∃v,elt (r++[.sh<|mk a,.ow acc])=.ok (.int v) (r++[.sh<|mk a,.ow acc])/\Rt v)\/elt (r++[.sh<|mk a,.ow acc])=.exc x (r++[.sh<|mk a,.ow acc])) (hk:r.length=k:=by rfl) :
  (∃vs,vs.length=as.length/\(∀v∈vs,Rt v)/\aC 1 it (ao k) (ret true) elt r=.ok (Z vs) r)\/aC 1 it (ao k) (ret true) elt r=.exc x r:=by
 have key:∀(es:List A)(acc:Zw)(y:Sl),free (some y)=true->(∀a∈es,a∈as)->acc.length+es.length<=16777216->(∀v∈acc,Rt v)->(∃vs y',vs.length=acc.length+es.length/\(∀v∈vs,Rt v)/\turns (k+1) (ao k) (ret true) elt (es.map mk) (r++[y,.ow<|Z acc])=.ok () (r++[y',.ow<|Z vs]))\/∃q,turns (k+1) (ao k) (ret true) elt (es.map mk) (r++[y,.ow<|Z acc])=.exc x (r++q):=by
  intro es;induction es with
  |nil=>intro acc y _ _ _ ha;exact .inl ⟨acc,y,rfl,ha,rfl⟩|cons a es ih=>
   intro acc y hy hm hl ha;have g1:ao k (mk a) (r++[y,.ow<|Z acc])=.ok () (r++[.sh<|mk a,.ow<|Z acc]):=by have:=bG (r:=r) (xs:=[.ow<|Z acc]) (s:=y);have:=bV (r:=r) (xs:=[.ow<|Z acc]) (s:=y) (s':=.sh<|mk a);rw[hk] at *;rw[jg];simp_all
   rw[BE,ed,g1,ag,bH,ag,Zh rfl];rcases he a (hm a TL) (Z acc) with ⟨v,ea,rv⟩|ea
   have u1:=mh (r:=r) (s:=.sh<|mk a) (acc:=acc.map D.int) (x:=.int v) (by simp at hl ⊢;lia);rw[hk] at u1;rw[ea,ag,show gC (k+1) (fQ<|.int v) (r++[.sh<|mk a,.ow<|Z acc])=.ok () (r++[.sh<|mk a,.ow<|Z<|acc++[v]]) by rw[Z,u1];simp[Z],ag];have z:=ih (acc++[v]) (.sh<|mk a) rfl (λb hb=>hm b<|SY _ hb) (by simp at hl ⊢;lia) λw hw=>by rcases List.mem_append.mp hw with hw|hw;exact ha w hw;rw[List.mem_singleton.mp hw];exact rv
   rw[show (acc++[v]).length+es.length=acc.length+(a::es).length by simp;lia] at z;exact z;exact .inr ⟨_,by rw[ea];rfl⟩
 rw[jk,mM,ag];unfold inner;rw[show r++List.replicate 1 Sl.no++[Sl.ow<|.lst []]=r++[.no,.ow<|Z []] by simp[Z],hk];dsimp only;rcases key as [] .no rfl (λ_ h=>h) (by simpa using hL) (λv hv=>absurd hv T2) with ⟨vs,y,h1,h2,z⟩|⟨q,z⟩
 exact .inl ⟨vs,by simpa using h1,h2,by rw[z];simp[<-hk]⟩;exact .inr (by rw[z];simp[<-hk])
theorem bi4{f:M D}{as:List VP.Arg}{r r1:ay}{x:Xn}(h:f r=.exc x r1):aW (.val f::as) r=.exc x r1:=by show Zi _ _ r=_;rw[aq,h];rfl
theorem Ho{f:M D}{as:List VP.Arg}{r r1 r2:ay}{d:D}{x:Xn}(h:f r=.ok d r1)(h2:aW as r1=.exc x r2):aW (.val f::as) r=.exc x r2:=by show Zi _ _ r=_;rw[aq,h,ag,aq,h2];rfl
theorem Qr{c:Str}{f:Fn}{as:List VP.Arg}{r r1:ay}{x:Xn}(h:aW as r=.exc x r1):n6 c f as r=.exc x r1:=by rw[v5,h];rfl
section
variable{gs:T1}{ss:T1}{M:D}{t:Zw}
def pE(gs cl:T1):D:=.lst ((List.range gs.length).map λ(k:Nat)=>Tb (sd gs k)<|cl.getD k [])
theorem Qq{cl:T1}(hc:∀k,k<gs.length->Tk (sd gs k) (cl.getD k [])){l:PL}(hT:Told gs.length (sd gs) (sd ss) l t)(h:∀b∈l.ns,Lm ss M b)(ht:SI t):(∃c,nW [l.d,T t,M,pE gs cl]=.ok (Tb t c) [M]/\Tk t c)\/nW [l.d,T t,M,pE gs cl]=.exc NC [M]:=by
 have kd:=l.kind;have l16:=l.Wq;by_cases k0:l.k=0;cases l with
 |given j=>
  obtain⟨k,rfl,hk,rfl⟩:=hT;have tk:=hc k hk;refine .inl ⟨_,?_,tk⟩;have ig:aj (pE gs cl) (.int (k:Int))=some (Tb (sd gs k)<|cl.getD k []):=by show (xf ((List.range gs.length).map _).length (k:Int)).bind _=_;rw[xf,Zh WR,Zh (by simp;lia)];simp[hk]
  have tc:=Gm (sd gs k)<|cl.getD k [];have tn:=jX tk;show nW [.tup [.str<|nm 0,.int k],T<|sd gs k,M,pE gs cl]=_;generalize Tb (sd gs k) (cl.getD k [])=tb at *;generalize pE gs cl=gt at *;unfold nW vf;exact rn
 |_=>simp[PL.k] at k0
 by_cases k13:l.k=13;cases l with|run d a k=>obtain⟨j,rfl,hj,hd,rfl⟩:=hT;obtain⟨ca,i1,ta⟩:=h a (by simp[PL.ns]);obtain⟨c,rc,tk⟩:=BS d hd ta j hj;refine .inl ⟨c,?_,tk⟩;have tn:=jX tk;show nW [.tup [.str<|nm 13,.str<|nm d,.int a,.int j],T<|sd ss a,M,pE gs cl]=_;generalize Tb (sd ss a) ca=ta at *;generalize Tb (sd ss a) c=tb at *;generalize pE gs cl=gt at *;unfold nW vf;exact rn|_=>simp[PL.k] at k13
 have ne:∀j,j<32->l.k≠j->eh (.str<|nm l.k) (.str<|nm j)=some (.bl false):=λj hj h=>by rw[Dq _ _ WR hj,Zq h]
 have n0:=ne 0 WR k0;have n13:=ne 13 WR k13;have Zp:=ht.2.2;have p0:=ht.Fv;obtain⟨n,hn⟩:∃n:Nat,ak t=n:=⟨(ak t).toNat,WR⟩;have ix:=indexes t ht n hn;have pc:∀p∈List.range n,PC M t (idx t p) l:=λp hp=>Q1o hT h ht (xR t (p:Nat) (λy hy=>(ht.2.1 y hy).1) WR (by have:=List.mem_range.mp hp;lia)).1 ⟨k0,k13⟩;unfold PC at pc;generalize l.d=ld at *;generalize pE gs cl=gt at *;rcases MI (k:=4) (it:=cG<|au zE [.val<|aa 1]) (elt:=cM) (r:=[.sh ld,.sh<|T t,.io M,.sh gt]) (λ(p:Nat)=>T<|idx t p) NC (List.range n) (by
   exact ah) (by simp;lia) (λp hp acc=>by
  show (∃v,cM [.sh ld,.sh<|T t,.io M,.sh gt,.sh<|T<|idx t p,.ow acc]=.ok (.int v) [.sh ld,.sh<|T t,.io M,.sh gt,.sh<|T<|idx t p,.ow acc]/\Rt v)\/cM [.sh ld,.sh<|T t,.io M,.sh gt,.sh<|T<|idx t p,.ow acc]=.exc NC [.sh ld,.sh<|T t,.io M,.sh gt,.sh<|T<|idx t p,.ow acc];unfold cM;rcases pc p hp with ⟨v,c1,rv⟩|c1
  exact .inl ⟨v,ah,rv⟩;exact .inr<|gn ah rfl rfl c1 rfl) with ⟨c,h1,h2,cx⟩|cx
 have tk:Tk t c:=⟨ht,by rw[h1,Xm,hn],h2⟩;refine .inl ⟨c,?_,tk⟩;have tn:=jX tk;generalize Tb t c=tb at *;unfold nW vf;exact rn;refine .inr<|q8 rfl (r0:=[.sh ld,.sh<|T t,.io M,.sh gt]) rfl (r:=[.sh ld,.sh<|T t,.io M,.sh gt]) ?_ rfl;unfold vf;exact n5 ah (n5 ah<|gW<|Oz<|Qr<|Ho ah<|bi4 cx)
end
theorem oW{g:D->M Unit}{body:M Fl}{d:D}{ds:Y5}{r r1:ay}(h:aE g body d r=.ok .nx r1):loop g body (d::ds) r=loop g body ds r1:=by rw[jO];rw[aE] at h;cases z:g d r with|ok _ r=>rw[z,ag] at h;rw[ag,h];rfl|exc _ _=>rw[z] at h;cases h|no=>rw[z] at h;cases h
theorem sg{S Tm A:Type}{g:D->M Unit}{body:M Fl}(mk:A->D)(R:S->Tm->ay)(ok:Tm->Prop)(x:Xn):∀(as:List A)(P:Nat->S->Prop)(s:S)(t:Tm),ok t->P 0 s ->
  (∀(i:Nat)(a:A),as[i]?=some a->∀s t,ok t->P i s->(∃s' t',P (i+1) s'/\ok t'/\aE g body (mk a) (R s t)=.ok .nx (R s' t'))\/∃t',aE g body (mk a) (R s t)=.exc x (R s t')) ->
  (∃s' t',P as.length s'/\ok t'/\loop g body (as.map mk) (R s t)=.ok .nx (R s' t'))\/∃s' t',loop g body (as.map mk) (R s t)=.exc x (R s' t'):=by
 intro as;induction as with
 |nil=>intro P s t ht hs _;exact .inl ⟨s,t,hs,ht,rfl⟩|cons a as ih=>
  intro P s t ht hs h;rcases h 0 a rfl s t ht hs with ⟨s1,t1,p1,o1,e1⟩|⟨t1,e⟩
  rw[BE,oW e1];exact ih (λk=>P<|k+1) s1 t1 o1 p1 λi a' ha=>h (i+1) a' (by simpa using ha);exact .inr ⟨s,t1,by rw[BE];exact EJ e⟩
theorem Ku{i:Nat}{f:M D}{r r1:ay}{x:Xn}(h0:isLst (own r[i]?)=true)(h:f r=.exc x r1):nv i f r=.exc x r1:=by rw[AI,Zh h0,h];rfl
theorem OC{i:Nat}{f:M D}{r r1:ay}{x:Xn}(h:f r=.exc x r1):aO i f r=.exc x r1:=by rw[AM,h];rfl
theorem MX{it:M (List D)}{g:D->M Unit}{b:M Fl}{r r1 r2:ay}{ds:Y5}{x:Xn}(h:it r=.ok ds r1)(h2:loop g b ds r1=.exc x r2):iQ it g b r=.exc x r2:=by rw[AJ,h];exact h2
theorem qI{gs cl:T1}(hg:gs.length<=50)(p:D):aC 1 (cG<|aa 1) (ao 7) (VP.ret true) dy [.sh p,.sh<|pE gs cl,.no,.no,.no,.no,.no]=.ok (aG gs) [.sh p,.sh<|pE gs cl,.no,.no,.no,.no,.no]:=by
 have sq:b9 (pE gs cl)=some ((List.range gs.length).map λ(k:Nat)=>Tb (sd gs k)<|cl.getD k []):=rfl;refine cJ (λ(k:Nat)=>Tb (sd gs k)<|cl.getD k []) (λk=>T<|sd gs k) (List.range gs.length) ?_ (by simp;lia) ?_ λk hk acc=>?_;generalize pE gs cl=gt at *;exact ah;unfold aG;congr 1;refine WT T2 λi h1 h2=>?_;have hi:i<gs.length:=by simpa using h2
 simp[sd,hi];have b1:=uO (sd gs k)<|cl.getD k [];generalize Tb (sd gs k) (cl.getD k [])=tb at *;unfold dy;exact ah
section
variable{gs:T1}{ls:Uc}{ss:T1}{ix_:Nat}(g:Gd gs ls ss ix_)(iN:ls.length<=14){cl:T1}(hc:∀k,k<gs.length->Tk (sd gs k) (cl.getD k []))
def Uy(ls:Uc)(ss:T1)(k:Nat)(os:Y5):Prop:=os.length=k/\∀j,j<k->qX ls j->∃c,os[j]?=some (Tb (sd ss j) c)/\Tk (sd ss j) c
theorem Uy.more{k:Nat}{os:Y5}(h:Uy ls ss k os){o:D}(h1:qX ls k->∃c,o=Tb (sd ss k) c/\Tk (sd ss k) c):Uy ls ss (k+1) (os++[o]):=by obtain⟨rfl,h⟩:=h;refine⟨T2,λj hj r=>?_⟩;by_cases z:j=os.length;subst z;obtain⟨c,rfl,t⟩:=h1 r;exact⟨c,T2,t⟩;rw[IV WR];exact h j WR r
include g iN hc
theorem Q0i(hg:gs.length<=50):(∃x,lj [Pg ls,pE gs cl]=.ok x [])\/lj [Pg ls,pE gs cl]=.exc NC []:=by
 have hn:=List.length_pos_iff.mpr g.ne;have BX:=g.len;have e1:=ju gs ls ss ix_ g iN;obtain⟨w,e2,wl,hw⟩:=sJ ls g.wf g.ne WR;have en:gK [Pg ls]=some ((List.range ls.length).map λ(i:Nat)=>D.tup [.int i,(cE ls i).d]):=by rw[<-oT];rfl
 have cm:=qI (cl:=cl) hg<|Pg ls;have mp:=λ{k:Nat}{os:Y5}(hP:Uy ls ss k os)(hk:k<ls.length)(hr:qX ls k)=>Qq (M:=.lst os) hc (pA g hk) (λb hb=>by have hl:=ou g hk hb;obtain⟨c,e,t⟩:=hP.2 b hl<|.step hr (jN hk) hb;refine⟨c,?_,t⟩;show (xf os.length (b:Int)).bind _=_;have:=hP.1;rw[xf,Zh WR,Zh WR];exact e)<|lU g hk;generalize pE gs cl=gt at *;have L:=sg (g:=b8 [5,6]) (body:=aZ) (λ(i:Nat)=>D.tup [.int i,(cE ls i).d]) (λ(os:Y5)(t:Sl×Sl)=>[.sh<|Pg ls,.sh gt,.sh<|aG ss,.sh<|fC w,.ow<|.lst os,t.1,t.2]) iJ NC (List.range ls.length) (Uy ls ss) [] (.no,.no) ⟨rfl,rfl⟩ ⟨rfl,λj hj=>absurd hj WR⟩ (by
  intro i k hk os t ht hP;obtain⟨rfl,hk⟩:=bF hk;obtain⟨t5,t6⟩:=t;obtain⟨f5,f6⟩:=ht;dsimp only at f5 f6;have ol:=hP.1;have ap:=λx=>fS x os WR;dsimp only;rw[aE,show b8 [5,6] (.tup [.int (k:Int),(cE ls k).d]) _=.ok () [.sh<|Pg ls,.sh gt,.sh<|aG ss,.sh<|fC w,.ow<|.lst os,.sh<|.int k,.sh (cE ls k).d] by simp[f5,f6],ag];obtain⟨b,hb⟩:∃b,w[k]?=some b:=⟨_,UK (by rw[wl];exact hk)⟩;have bi:=jB w k b hb;have i2:=bu ss k WR;cases b with
   |false=>
    have nr:¬qX ls k:=λz=>by have:=(hw k).mpr z;rw[hb] at this;cases this
    have ap:=ap .aQ;refine .inl ⟨os++[.aQ],(.sh<|.int k,.sh (cE ls k).d),hP.more λz=>absurd z nr,⟨rfl,rfl⟩,?_⟩;generalize (cE ls k).d=ld at *;rw[show aZ _=.ok .nx _ by unfold aZ;exact ah]
   |true=>
    rcases mp hP hk ((hw k).mp hb) with ⟨c,m1,m2⟩|m1
    have ap:=ap<|Tb (sd ss k) c;refine .inl ⟨os++[Tb (sd ss k) c],(.sh<|.int k,.sh (cE ls k).d),hP.more λ_=>⟨c,rfl,m2⟩,⟨rfl,rfl⟩,?_⟩;generalize (cE ls k).d=ld at *;generalize Tb (sd ss k) c=tb at *;rw[show aZ _=.ok .nx _ by unfold aZ;exact ah];refine .inr ⟨(.sh<|.int k,.sh (cE ls k).d),?_⟩;generalize (cE ls k).d=ld at *;unfold aZ;exact gW<|Ku rfl<|E1 (t:=true) ah<|gn ah rfl rfl m1 rfl)
 rcases L with ⟨os,t,hP,ht,L⟩|⟨os,t,L⟩
 rw[Xm] at hP;have ol:=hP.1;obtain⟨c,h1,_⟩:=hP.2 (ls.length-1) WR .last;have im:aj (.lst os) (.int<|-1)=some (Tb (sd ss<|ls.length-1) c):=by show (xf os.length<|-1).bind _=_;rw[xf,Y4 WR,Zh WR,show (-1+(os.length:Int)).toNat=ls.length-1 by lia];exact h1
 refine .inl ⟨Tb (sd ss<|ls.length-1) c,?_⟩;dsimp only at L;generalize Tb (sd ss<|ls.length-1) c=tb at *;unfold lj zd;exact rn;dsimp only at L;refine .inr<|q8 rfl (r0:=[.sh<|Pg ls,.sh gt,.no,.no,.no,.no,.no]) rfl (r:=[.sh<|Pg ls,.sh gt,.sh<|aG ss,.sh<|fC w,.ow<|.lst os,t.1,t.2]) ?_ rfl;unfold zd;exact oz (r1:=[.sh<|Pg ls,.sh gt,.sh<|aG ss,.no,.no,.no,.no]) ah (oz (r1:=[.sh<|Pg ls,.sh gt,.sh<|aG ss,.sh<|fC w,.no,.no,.no]) ah<|oz (r1:=[.sh<|Pg ls,.sh gt,.sh<|aG ss,.sh<|fC w,.ow<|.lst [],.no,.no]) ah<|gW<|MX ah L)
end
def Cm(a w:Nat):Xn:=⟨"BadLine",["at","why"],[.int a,.str<|nm w]⟩
theorem Q0u(a w:Nat):aL [.fm "BadLine" [] [],.int a,.str<|nm w]=.ok .aQ [.fm "BadLine" ["at","why"] [.int a,.str<|nm w]]:=Yh
theorem pn{f g:M D}{a w:Nat}{r:ay}(h:mL [f,g] r=.ok [.int a,.str<|nm w] r):fZ "BadLine" aL [f,g] r=.exc (Cm a w) r:=by unfold fZ;rw[aq,h,ag];show (if ([D.int a,.str<|nm w]:Y5).length=2 then XI "BadLine" r (aL [.fm "BadLine" [] [],.int a,.str<|nm w]) else .no)=_;rw[Zh<|show ([D.int a,.str<|nm w]:Y5).length=2 from rfl,Q0u];show (if ("BadLine" : Str)="BadLine" then Res.exc (Cm a w) r else .no)=_;rw[Zh rfl]
theorem jh{c:M Bool}{A g:M Fl}{r:ay}{x:Xn}{r1:ay}{t:Bool}(h1:c r=.ok t r)(h2:A r=.exc x r1)(ht:t=true:=by rfl):ai (eC c A aJ) g r=.exc x r1:=by subst ht;exact gW (vU h1 h2)
theorem if_not{c:M Bool}{A g:M Fl}{R:Res Fl}{r:ay}{t:Bool}(h1:c r=.ok t r)(h2:g r=R)(ht:t=false:=by rfl):ai (eC c A aJ) g r=R:=by subst ht;exact n5 h1 h2
theorem iw(b:D)(k:Nat)(hk:aj b (.int 0)=some (.str<|nm k))(h0:k<32/\k≠0)(xs:Zw)(hn:lh [b]=.ok (Z xs) [])(hx:xs.length<=100)(m n:Nat):gM [b,.int m,.int n]=.ok (.bl<|xs.all λ(z:Int)=>decide (0<=z)&&decide (z<m)) []:=by
 have ne:eh (.str<|nm k) (.str<|nm 0)=some (.bl false):=by rw[Dq _ _ h0.1 WR,Zq h0.2]
 have cm:aC 1 (cG<|au lh [.val<|aa 0]) (ao 3) (VP.ret true) bw [.sh b,.sh<|.int m,.sh<|.int n]=.ok (.lst<|xs.map λ(z:Int)=>D.bl<|decide (0<=z)&&decide (z<m)) [.sh b,.sh<|.int m,.sh<|.int n]:=by refine cJ D.int (λz=>D.bl<|decide (0<=z)&&decide (z<m)) xs ah WR rfl λz hz acc=>?_;have l1:=gy 0 z;unfold bw;by_cases q:0<=z;rw[Pj q] at l1 ⊢;rw[Bool.true_and];exact ah;rw[Zq q] at l1 ⊢;rw[Bool.false_and];exact ah
 have al:=tf (λz:Int=>decide (0<=z)&&decide (z<m)) xs;generalize D.lst (xs.map λ(z:Int)=>D.bl<|decide (0<=z)&&decide (z<m))=z at *;unfold gM rE;exact rn
section
variable{gs sp:T1}{b:D}{a:Nat}
abbrev Kn(gs sp:T1)(a:Nat)(b:D)(w:Nat):Prop:=vH [.int a,b,aG sp,aG gs]=.exc (Cm a w) [aG sp]
theorem rG(h:gM [b,.int sp.length,.int gs.length]=.ok (.bl false) []):Kn gs sp a b 29:=by have l1:=bK sp;have l2:=bK gs;unfold Kn;generalize aG sp=s1 at *;generalize aG gs=s2 at *;refine q8 rfl (r0:=[.sh<|.int a,.sh b,.io s1,.sh s2,.no]) rfl (r:=[.sh<|.int a,.sh b,.io s1,.sh s2,.no]) ?_ rfl;unfold ve;exact jh ah (gW<|pn ah)
theorem xv(h:gM [b,.int sp.length,.int gs.length]=.ok (.bl true) [])(h2:kj [b]=.ok (.bl false) []):Kn gs sp a b 27:=by have l1:=bK sp;have l2:=bK gs;unfold Kn;generalize aG sp=s1 at *;generalize aG gs=s2 at *;refine q8 rfl (r0:=[.sh<|.int a,.sh b,.io s1,.sh s2,.no]) rfl (r:=[.sh<|.int a,.sh b,.io s1,.sh s2,.no]) ?_ rfl;unfold ve;exact if_not ah (jh ah<|gW<|pn ah)
theorem rH{d:D}(h:gM [b,.int sp.length,.int gs.length]=.ok (.bl true) [])(h2:kj [b]=.ok (.bl true) [])(h3:zB [b]=.ok (.bl true) [])(h4:cK [b,aG sp,aG gs]=.ok d [aG sp])(h5:d=.aQ\/isND d .aQ=some (.bl false)/\rS [d]=.ok (.bl false) []):Kn gs sp a b 30:=by have l1:=bK sp;have l2:=bK gs;unfold Kn;generalize aG sp=s1 at *;generalize aG gs=s2 at *;refine q8 rfl (r0:=[.sh<|.int a,.sh b,.io s1,.sh s2,.no]) rfl (r:=[.sh<|.int a,.sh b,.io s1,.sh s2,.sh d]) ?_ rfl;unfold ve;refine if_not ah<|if_not ah<|oz (r1:=[.sh<|.int a,.sh b,.io s1,.sh s2,.sh d]) ah ?_;rcases h5 with rfl|⟨n,c⟩;have n:=abq;exact jh ah<|gW<|pn ah;exact jh ah (gW<|pn ah)
end
theorem B2{gs sp:T1}(hg:gs.length<=3)(hs:A7 sp)(hp:0<sp.length)(way cell:Int)(w0:0<=way)(w5:way<5):∃(b:D)(w:Nat),nV [.int sp.length,.int way,.int cell]=.ok (.tup [b,.str<|nm w]) []/\Kn gs sp sp.length b w/\(w=27\/w=29\/w=30):=by
 obtain⟨f,hf,ff⟩:∃f:Int,aj (.lst [.int sp.length,.int<|sp.length+3,.int<|-1]) (.int<|cell % 3)=some (.int f)/\¬(0<=f/\f<sp.length):=by have h:cell % 3=0\/cell % 3=1\/cell % 3=2:=WR;rcases h with h|h|h<;>rw[h];exact⟨sp.length,rfl,WR⟩;exact⟨sp.length+3,rfl,WR⟩;exact⟨-1,rfl,WR⟩
 obtain⟨v,hv,vv⟩:∃v:Int,aj (.lst [.int<|-1,.int 4]) (.int<|cell % 2)=some (.int v)/\¬(0<=v/\v<4):=by have h:cell % 2=0\/cell % 2=1:=WR;rcases h with h|h<;>rw[h];exact⟨-1,rfl,WR⟩;exact⟨4,rfl,WR⟩
 obtain⟨u,hu,uu⟩:∃u:Int,aj (.lst [.int<|-1,.int 9]) (.int<|cell % 2)=some (.int u)/\¬(0<=u/\u<gs.length):=by have h:cell % 2=0\/cell % 2=1:=WR;rcases h with h|h<;>rw[h];exact⟨-1,rfl,WR⟩;exact⟨9,rfl,WR⟩
 have m3:=bP cell 3 WR;have m2':=bP cell 2 WR;have ma:=bP cell sp.length WR;have a0:=Int.emod_nonneg cell (show (sp.length:Int)≠0 by lia);have a1:=wY cell (show 0<(sp.length:Int) by lia);generalize cell % 3=c3 at *;generalize cell % 2=c2 at *;generalize cell % (sp.length:Int)=c1 at *;have h:way=0\/way=1\/way=2\/way=3\/way=4:=WR;rcases h with rfl|rfl|rfl|rfl|rfl;refine⟨.tup [.str<|nm 10,.str<|nm 19,.int c1,.int f],29,?_,rG ?_,WR⟩;unfold nV rB;exact rn;rw[iw _ 10 rfl WR [c1,f] Yh T2];congr 2;have:(decide (0<=f)&&decide (f<(sp.length:Int)))=false:=by rw[<-Bool.decide_and];exact Zq ff
 simp[this];refine⟨.tup [.str<|nm 1,.tup [.int 2],.int 1000003],27,?_,xv ?_ Yh,WR⟩;unfold nV rB;exact rn;rw[iw _ 1 rfl WR [] Yh T2];rfl;refine⟨.tup [.str<|nm 1,.tup [.int 65,.int 1],.int 4],30,?_,rH (d:=.tup [.int 65,.int 1]) ?_ Yh Yh (by generalize aG sp=s1;generalize aG gs=s2;kernel_rfl!)<|.inr ⟨rfl,Yh⟩,WR⟩;unfold nV rB;exact rn;rw[iw _ 1 rfl WR [] Yh T2];rfl;refine⟨.tup [.str<|nm 12,.str<|nm 19,.int c1,.int v],30,?_,rH (d:=.aQ) ?_ Yh Yh ?_<|.inl rfl,WR⟩;unfold nV rB;exact rn;rw[iw _ 12 rfl WR [c1] Yh T2];congr 2;simp[a0,a1];obtain⟨k,rfl⟩:∃k:Nat,c1=k:=⟨c1.toNat,WR⟩;have hk:k<sp.length:=WR;have ik:=bu sp k hk;have sl:=(hs.at hk).1;have fs:vt [.str<|nm 19,T<|sd sp k,.int v]=.ok .aQ []:=by
  have hsd:rP [T<|sd sp k,.int v]=.ok (.bl false) []:=by have l1:=gy 0 v;have l2:=hZ v (sd sp k).length;by_cases q:0<=v;rw[Pj q] at l1;rw[Zq WR] at l2;unfold rP y9;exact rn;rw[Zq q] at l1;unfold rP y9;exact rn
  unfold vt CF;exact rn
 generalize aG sp=s1 at *;generalize aG gs=s2 at *;unfold cK dS;exact rn;refine⟨.tup [.str<|nm 0,.int u],29,?_,rG ?_,WR⟩;unfold nV rB;exact rn;have l1:=gy 0 u;have l2:=hZ u gs.length;by_cases q:0<=u;rw[Pj q] at l1;rw[Zq WR] at l2;unfold gM rE;exact rn;rw[Zq q] at l1;unfold gM rE;exact rn
def A9(ls:Uc)(a:Nat)(b:D):D:=.lst ((ls.take a).map PL.d++b::(ls.drop<|a+1).map PL.d)
theorem Q1B(ds:Y5):gK [.lst ds]=some ((List.range ds.length).map λ(i:Nat)=>D.tup [.int i,ds.getD i .aQ]):=by
 show some (iE ds)=_;have:=jE (λd:D=>d) ds;rw[List.map_id'] at this;rw[this];congr 1;refine WT T2 λi h1 h2=>?_;have hi:i<ds.length:=by simpa using h2
 simp[hi]
section
variable{gs:T1}{ls:Uc}{ss:T1}{ix_:Nat}(g:Gd gs ls ss ix_)(iN:ls.length<=14){a w:Nat}{b:D}(ha:a<ls.length)(hb:Kn gs (ss.take a) a b w)
include g iN ha hb
theorem jx:pW [A9 ls a b,aG gs]=.exc (Cm a w) []:=by
 have dl:((ls.take a).map PL.d++b::(ls.drop<|a+1).map PL.d).length=ls.length:=by simp;lia
 have ln:cw (A9 ls a b)=some (.int ls.length):=by show some (D.int _)=_;rw[dl]
 have en:=Q1B ((ls.take a).map PL.d++b::(ls.drop<|a+1).map PL.d);rw[dl] at en;have g1:∀k,k<a->((ls.take a).map PL.d++b::(ls.drop<|a+1).map PL.d).getD k .aQ=(cE ls k).d:=λk hk=>by rw[Vh,IV (by simp;lia)];simp[cE,hk,show k<ls.length by lia]
 have g2:((ls.take a).map PL.d++b::(ls.drop<|a+1).map PL.d).getD a .aQ=b:=by rw[Vh,Jn (by simp;lia)];simp[show min a ls.length=a by lia]
 have en:gK [A9 ls a b]=_:=en;generalize A9 ls a b=wd at *;generalize (ls.take a).map PL.d++b::(ls.drop<|a+1).map PL.d=ds at *;have L:=sg (g:=b8 [3,4]) (body:=b7) (λ(i:Nat)=>D.tup [.int i,ds.getD i .aQ]) (λ(s:T1)(t:Sl×Sl)=>[.sh wd,.sh<|aG gs,.ow<|aG s,t.1,t.2]) iJ (Cm a w) (List.range ls.length) (λk s=>s=ss.take k/\k<=a) [] (.no,.no) ⟨rfl,rfl⟩ ⟨T2,Hr _⟩ (by
  intro i k hk s t ht hP;obtain⟨rfl,hk⟩:=bF hk;obtain⟨t3,t4⟩:=t;obtain⟨f3,f4⟩:=ht;dsimp only at f3 f4;obtain⟨rfl,hka⟩:=hP;have e:∀ld:D,b8 [3,4] (.tup [.int (k:Int),ld]) [.sh wd,.sh<|aG gs,.ow<|aG<|ss.take k,t3,t4]=.ok () [.sh wd,.sh<|aG gs,.ow<|aG<|ss.take k,.sh<|.int k,.sh ld]:=λld=>by simp[f3,f4]
  by_cases z:k=a;subst z;refine .inr ⟨(.sh<|.int k,.sh b),?_⟩;dsimp only;rw[aE,g2,e,ag];unfold b7;exact gW<|Ku rfl<|gn ah rfl rfl hb rfl;refine .inl ⟨ss.take<|k+1,(.sh<|.int k,.sh (cE ls k).d),⟨rfl,WR⟩,⟨rfl,rfl⟩,?_⟩;dsimp only;rw[aE,g1 k WR,e,ag,qJ g iN wd hk])
 have VN:aG []=.lst []:=rfl;rcases L with ⟨s,t,hP,_⟩|⟨s,t,L⟩
 rw[Xm] at hP;lia;dsimp only at L;rw[VN] at L;have c1:¬(ls.length:Int)=0:=WR;have c2:¬(40:Int)<ls.length:=WR;have q1:=zv c1;have q2:=VH c2;refine q8 rfl (r0:=[.sh wd,.sh<|aG gs,.no,.no,.no]) rfl (r:=[.sh wd,.sh<|aG gs,.ow<|aG s,t.1,t.2]) ?_ rfl;unfold CL;exact if_not ah (if_not ah<|oz (r1:=[.sh wd,.sh<|aG gs,.ow<|.lst [],.no,.no]) ah<|gW<|MX ah L)
theorem yW:pV [A9 ls a b,aG gs]=.exc (Cm a w) []:=by have e:=jx g iN ha hb;generalize A9 ls a b=wd at *;refine q8 rfl (r0:=[.sh wd,.sh<|aG gs,.no,.no,.no,.no]) rfl (r:=[.sh wd,.sh<|aG gs,.no,.no,.no,.no]) ?_ rfl;unfold CJ;exact gW (OC<|gn ah rfl rfl e rfl)
theorem Q23{cl:T1}(hg:gs.length<=50):lj [A9 ls a b,pE gs cl]=.exc (Cm a w) []:=by have e:=jx g iN ha hb;generalize A9 ls a b=wd at *;have cm:aC 1 (cG<|aa 1) (ao 7) (VP.ret true) dy [.sh wd,.sh<|pE gs cl,.no,.no,.no,.no,.no]=.ok (aG gs) [.sh wd,.sh<|pE gs cl,.no,.no,.no,.no,.no]:=qI hg wd;generalize pE gs cl=gt at *;refine q8 rfl (r0:=[.sh wd,.sh gt,.no,.no,.no,.no,.no]) rfl (r:=[.sh wd,.sh gt,.no,.no,.no,.no,.no]) ?_ rfl;unfold zd;exact gW (OC<|gn ah rfl rfl e rfl)
end
theorem tw{f:M D}{r r1:ay}{x:Xn}(h:f r=.exc x r1):iL f r=.exc x r1:=by rw[wG,h];rfl
theorem Tf{p gv tb:D}{n:Int}(h:∃x,pW [p,gv]=.ok x [])(h2:∃x,pV [p,gv]=.ok x [])(h3:(∃x,lj [p,tb]=.ok x [])\/lj [p,tb]=.exc NC [])(hn:n=0\/n=1\/n=2):iF [p,gv,tb,.int n]=.ok (.tup []) []:=by
 obtain⟨x1,e1⟩:=h;obtain⟨x2,e2⟩:=h2;have fin:∀f:M Fl,f [.sh p,.sh gv,.sh tb,.sh<|.int n,.no]=.ok .nx [.sh p,.sh gv,.sh tb,.sh<|.int n,.no]->lT f [(eF,some 4,cW),(fE,none,iu)] [.sh p,.sh gv,.sh tb,.sh<|.int n,.no]=.ok .nx [.sh p,.sh gv,.sh tb,.sh<|.int n,.no]:=λf h=>by unfold lT;rw[h];rfl
 rcases hn with rfl|rfl|rfl;have t1:=fin a9 (by unfold a9;exact ah);unfold iF rC;exact rn;have t1:=fin a9 (by unfold a9;exact ah);unfold iF rC;exact rn;rcases h3 with ⟨x3,e3⟩|e3
 have t1:=fin a9 (by unfold a9;exact ah);unfold iF rC;exact rn;have t1:lT a9 [(eF,some 4,cW),(fE,none,iu)] [.sh p,.sh gv,.sh tb,.sh<|.int 2,.no]=.ok (.rt<|.tup []) [.sh p,.sh gv,.sh tb,.sh<|.int 2,.no]:=by
  unfold lT;have:a9 [.sh p,.sh gv,.sh tb,.sh<|.int 2,.no]=.exc NC [.sh p,.sh gv,.sh tb,.sh<|.int 2,.no]:=by unfold a9;exact if_not ah (if_not ah<|jh ah<|gW<|tw<|gn ah rfl rfl e3 rfl)
  rw[this];rfl
 unfold iF rC;exact rn
theorem Ki{p gv tb:D}{n:Int}{a w:Nat}(h:pW [p,gv]=.exc (Cm a w) [])(h2:pV [p,gv]=.exc (Cm a w) [])(h3:lj [p,tb]=.exc (Cm a w) [])(hn:n=0\/n=1\/n=2):iF [p,gv,tb,.int n]=.ok (.tup [.int a,.str<|nm w]) []:=by
 have fin:∀f:M Fl,f [.sh p,.sh gv,.sh tb,.sh<|.int n,.no]=.exc (Cm a w) [.sh p,.sh gv,.sh tb,.sh<|.int n,.no]->lT f [(eF,some 4,cW),(fE,none,iu)] [.sh p,.sh gv,.sh tb,.sh<|.int n,.no]=.ok (.rt<|.tup [.int a,.str<|nm w]) [.sh p,.sh gv,.sh tb,.sh<|.int n,.no]:=λf h=>by
  unfold lT;rw[h];have i1:Ie gr (.fm "BadLine" ["at","why"] [.int a,.str<|nm w])=some (.bl true):=Yh;have x1:vN A1 "at" (.fm "BadLine" ["at","why"] [.int a,.str<|nm w])=some (.int a):=Yh;have x2:vN uT "why" (.fm "BadLine" ["at","why"] [.int a,.str<|nm w])=some (.str<|nm w):=Yh;have hh:cW [.sh p,.sh gv,.sh tb,.sh<|.int n,.sh<|.fm "BadLine" ["at","why"] [.int a,.str<|nm w]]=.ok (.rt<|.tup [.int a,.str<|nm w]) [.sh p,.sh gv,.sh tb,.sh<|.int n,.sh<|.fm "BadLine" ["at","why"] [.int a,.str<|nm w]]:=by generalize D.fm "BadLine" ["at","why"] [.int a,.str<|nm w]=ex at *;unfold cW;exact ah
  show tQ 4 (cW [.sh p,.sh gv,.sh tb,.sh<|.int n,.sh<|.fm "BadLine" ["at","why"] [.int a,.str<|nm w]])=_;rw[hh];rfl
 have t1:=fin a9 (by unfold a9;rcases hn with rfl|rfl|rfl;exact jh ah<|gW<|tw<|gn ah rfl rfl h rfl;exact if_not ah<|jh ah<|gW<|tw<|gn ah rfl rfl h2 rfl;exact if_not ah<|if_not ah<|jh ah<|gW<|tw<|gn ah rfl rfl h3 rfl);unfold iF rC;exact rn
def w6(cl:T1):D:=.lst (cl.map Z)
theorem UB(cl:T1)(c:Zw)(h:cl.length<=100):fQ (Z c) (w6 cl)=some (w6<|cl++[c]):=by show (if (cl.map Z).length<16777216 then _ else _)=_;rw[Zh (by simp;lia)];simp[w6]
theorem vj(n:Nat)(hn:n<=1000)(nm0:Int)(s8:Sl)(f8:free (some s8)=true)(r0 r1 r2 r3 r4 r5:Sl):∃(xs:Zw)(v:Int)(t:Sl),loop (ao 8) e8 ((List.range n).map λ(k:Nat)=>D.int k) [r0,r1,r2,r3,r4,r5,.sh<|.int nm0,.ow<|Z [],s8]=.ok .nx [r0,r1,r2,r3,r4,r5,.sh<|.int v,.ow<|Z xs,t]/\free (some t)=true/\xs.length=n/\∀x∈xs,Rt x:=by obtain⟨⟨v,xs⟩,t,⟨h1,h2⟩,ht,L⟩:=bg (g:=ao 8) (body:=e8) (λ(k:Nat)=>D.int k) (λ(s:Int×List Int)(t:Sl)=>[r0,r1,r2,r3,r4,r5,.sh<|.int s.1,.ow<|Z s.2,t]) p9 (List.range n) (λk s=>s.2.length=k/\∀x∈s.2,Rt x) (nm0,[]) s8 f8 ⟨rfl,λx hx=>by cases hx⟩ (by intro i k hk s t ht hP;obtain⟨rfl,hk⟩:=bF hk;obtain⟨v,xs⟩:=s;obtain⟨h1,h2⟩:=hP;dsimp only at h1 h2;have hf:free (some t)=true:=ht;have m:=cV v 48271 WR WR;have ap:=mz xs (v*48271 % 1000003) WR;refine⟨(v*48271 % 1000003,xs++[v*48271 % 1000003]),.sh<|.int k,⟨by simp[h1],λx hx=>?_⟩,rfl,?_⟩;rcases List.mem_append.mp hx with hx|hx;exact h2 x hx;rw[List.mem_singleton.mp hx];exact⟨Int.emod_nonneg _ WR,wY _ WR⟩;dsimp only;rw[aE,show ao 8 (.int (k:Int)) _=.ok () [r0,r1,r2,r3,r4,r5,.sh<|.int v,.ow<|Z xs,.sh<|.int k] by simp[hf],ag,show e8 _=.ok .nx _ by unfold e8;exact ah];rfl);exact⟨xs,v,t,L,ht,by simpa using h1,h2⟩
theorem glb(ns:Zw)(p:Nat)(gs:T1)(hg:A7 gs)(h3:gs.length<=50):∃(cl:T1)(q:Nat),vA [Row ns p,aG gs,.int gs.length]=.ok (w6 cl) [Row ns q]/\cl.length=gs.length/\∀k,k<gs.length->((cl.getD k []).length:Int)=ak (sd gs k)/\∀v∈cl.getD k [],Rt v:=by
 have er:=j8 gs.length WR;obtain⟨⟨cl,q⟩,t,⟨h1,h2⟩,ht,L⟩:=bg (g:=ao 4) (body:=dH) (λ(k:Nat)=>D.int k) (λ(s:List (List Int)×Nat)(t:Sl×Sl×Sl×Sl×Sl)=>[.io<|Row ns s.2,.sh<|aG gs,.sh<|.int gs.length,.ow<|w6 s.1,t.1,t.2.1,t.2.2.1,t.2.2.2.1,t.2.2.2.2]) (λt=>free (some t.1)=true/\free (some t.2.1)=true/\free (some t.2.2.1)=true/\free (some t.2.2.2.1)=true/\free (some t.2.2.2.2)=true) (List.range gs.length) (λk s=>s.1.length=k/\∀j,j<k->((s.1.getD j []).length:Int)=ak (sd gs j)/\∀v∈s.1.getD j [],Rt v) ([],p) (.no,.no,.no,.no,.no) ⟨rfl,rfl,rfl,rfl,rfl⟩ ⟨rfl,λj hj=>absurd hj WR⟩ (by
  intro i k hk s t ht hP;obtain⟨rfl,hk⟩:=bF hk;obtain⟨cl,q⟩:=s;obtain⟨t4,t5,t6,t7,t8⟩:=t;obtain⟨f4,f5,f6,f7,f8⟩:=ht;obtain⟨h1,h2⟩:=hP;dsimp only at f4 f5 f6 f7 f8 h1 h2;obtain⟨OB,tk,b0,b1⟩:=aP ns q 1000003 WR;have si:=hg.at hk;have ig:=bu gs k hk;have ce:=xy (sd gs k) si.pre;have p0:=si.Fv;have Zp:=si.2.2;obtain⟨n,hn⟩:∃n:Nat,ak (sd gs k)=n:=⟨(ak<|sd gs k).toNat,WR⟩;rw[hn] at ce;have er2:=j8 n WR;obtain⟨xs,v,t,L,ft,xl,xr⟩:=vj n WR (OB+1+k) t8 f8 (.io<|Row ns<|q+1) (.sh<|aG gs) (.sh<|.int gs.length) (.ow<|w6 cl) (.sh<|.int k)<|.sh<|.int OB;have z0:Z []=.lst []:=rfl;rw[z0] at L;have e:ao 4 (.int (k:Int)) [.io<|Row ns q,.sh<|aG gs,.sh<|.int gs.length,.ow<|w6 cl,t4,t5,t6,t7,t8]=.ok () [.io<|Row ns q,.sh<|aG gs,.sh<|.int gs.length,.ow<|w6 cl,.sh<|.int k,t5,t6,t7,t8]:=by simp[f4]
  have more:∀c:Zw,(c.length:Int)=n->(∀v∈c,Rt v)->(cl++[c]).length=k+1/\∀j,j<k+1->(((cl++[c]).getD j []).length:Int)=ak (sd gs j)/\∀v∈(cl++[c]).getD j [],Rt v:=λc c1 c2=>by refine⟨by simp[h1],λj hj=>?_⟩;by_cases z:j=k;subst z;rw[show (cl++[c]).getD j []=c by simp[<-h1],hn];exact⟨c1,c2⟩;rw[show (cl++[c]).getD j []=cl.getD j [] by simp[IV (show j<cl.length by lia)]];exact h2 j WR
  by_cases c:OB % 3=0\/(k:Int)=gs.length-1;obtain⟨R,hR⟩:∃R:Sl->ay,R=λx=>[.io<|Row ns<|q+1,.sh<|aG gs,.sh<|.int gs.length,.ow<|w6 cl,.sh<|.int k,.sh<|.int OB,.sh<|.int v,x,t]:=⟨_,rfl⟩;have cc:aC 1 (cG<|aa 7) (ao 9) (VP.ret true) kX (R<|.sh<|Z xs)=.ok (Z<|xs.map λx=>x / 7 % 4) (R<|.sh<|Z xs):=by subst hR;refine cJ (λ(k:Int)=>D.int k) (λx=>D.int<|x / 7 % 4) xs ah WR (by simp[Z,Function.comp_def]) λx hx acc=>?_;unfold kX;exact ah
  have ap:=UB cl (xs.map λx=>x / 7 % 4) WR;refine⟨(cl++[xs.map λx=>x / 7 % 4],q+1),(.sh<|.int k,.sh<|.int OB,.sh<|.int v,.sh<|Z<|xs.map λx=>x / 7 % 4,t),more _ (by simp[xl]) (λw hw=>by obtain⟨x,_,rfl⟩:=List.mem_map.mp hw;unfold Rt;lia),⟨rfl,rfl,rfl,rfl,ft⟩,?_⟩;dsimp only;rw[aE,e,ag];have tt:Gg (tB<|m2 eh (m2 fM (aa 5)<|cI 3)<|cI 0) (tB<|m2 eh (aa 4)<|m2 jv (aa 2)<|cI 1) (R<|.ow<|Z xs)=.ok true (R<|.ow<|Z xs):=by subst hR;by_cases c1:OB % 3=0;have e1:=MN c1;exact ah;have e1:=zv c1;have e2:=MN<|c.resolve_left c1;exact ah
  generalize Z (xs.map λx=>x / 7 % 4)=zz at *;have fz:Qm 7 (R<|.ow<|Z xs)=.ok () (R<|.sh<|Z xs):=by rw[hR];rfl
  subst hR;rw[show dH _=.ok .nx _ by unfold dH;exact ah];rfl;have c1:=zv (λz:OB % 3=0=>c<|.inl z);have c2:=zv (λz:(k:Int)=gs.length-1=>c<|.inr z);have ap:=UB cl xs WR;refine⟨(cl++[xs],q+1),(.sh<|.int k,.sh<|.int OB,.sh<|.int v,.sh<|Z xs,t),more _ (by simp[xl]) xr,⟨rfl,rfl,rfl,rfl,ft⟩,?_⟩;dsimp only;rw[aE,e,ag];rw[show dH _=.ok .nx _ by unfold dH;exact ah];rfl)
 dsimp only at L h1 h2;rw[Xm] at h1 h2;have z0:w6 []=.lst []:=rfl;rw[z0] at L;exact⟨cl,q,by unfold vA KU;exact rn,h1,h2⟩
theorem tGs{f:Fn}{a:M D}{fl:List (M D)}{r r1 r2:ay}{d v w:D}{ds:Y5}(h:a r=.ok d r1)(h2:mL fl (r1.map hide)=.ok ds r2)(hf:f (d::ds)=.ok v [w]):lJ f a fl r=.ok v r1:=by show Zi _ _ r=_;rw[aq,h,ag];show (match mL fl (r1.map hide) with|.ok ds _=>Cw f d ds r1|_=>.no)=_;rw[h2];show (match f (d::ds) with|.ok v [_]=>Res.ok v r1|.exc x [_]=>.exc x r1|_=>.no)=_;rw[hf]
theorem Vi(ls:Uc)(k:Nat)(h:k<=ls.length):g6 (Pg ls) none (some (k:Int))=some (.lst<|(ls.take k).map PL.d):=by show some (D.lst<|cutD (ls.map PL.d) none<|some (k:Int))=_;unfold cutD;simp only[j9,List.length_map];rw[Y4 WR];simp[show min k ls.length=k by lia]
theorem Q0B(ls:Uc)(k:Nat)(h:k<=ls.length):g6 (Pg ls) (some (k:Int)) none=some (.lst<|(ls.drop k).map PL.d):=by show some (D.lst<|cutD (ls.map PL.d) (some (k:Int)) none)=_;unfold cutD;simp only[j9,List.length_map];rw[Y4 WR];simp only[IZ,show min k ls.length=k by lia];rw[Ic T2,List.map_drop]
theorem Q2b(ns:Zw):vq [Z ns]=.ok (.bl true) []:=by
 obtain⟨s1,k1,_⟩:=aP ns 0 1000003 WR;obtain⟨s2,k2,_⟩:=aP ns 1 1000003 WR;obtain⟨s3,k3,_⟩:=aP ns 2 1000003 WR;obtain⟨ls,ss,gs,ix_,q,e1,g,GX,iN,h3,g0,gl⟩:=Q2J ns 3;obtain⟨cl,q',e2,Px,hc⟩:=glb [s1,s2,s3] 0 gs GX WR;have tk:∀k,k<gs.length->Tk (sd gs k) (cl.getD k []):=λk hk=>⟨GX.at hk,hc k hk⟩;have il:Row ns 0=.lst [Z ns,.int 0]:=rfl;rw[il] at k1;obtain⟨dr,VW⟩:∃dr,dr=D.tup [Pg ls,aG ss,.int gs.length,aG gs]:=⟨_,rfl⟩;have d0:aj dr (.int 0)=some (Pg ls):=by rw[VW];rfl
 have d1:aj dr (.int 1)=some (aG ss):=by rw[VW];rfl
 have d2:aj dr (.int 2)=some (.int gs.length):=by rw[VW];rfl
 have d3:aj dr (.int 3)=some (aG gs):=by rw[VW];rfl
 rw[<-VW] at e1;have l0:eX (Pg ls)=some (Pg ls):=rfl;have l3:eX (aG gs)=some (aG gs):=rfl;have BX:=g.len;have cs:lJ vA (gB [(aa 2),(cI 0)]) [(aa 6),(m2 aj (aa 3)<|cI 2)] [.sh<|Z ns,.ow<|Row ns q,.sh<|.lst [.int s1,.int s2,.int s3],.sh dr,.sh<|Pg ls,.sh<|aG ss,.sh<|aG gs,.no,.no,.no,.no,.no,.no]=.ok (w6 cl) [.sh<|Z ns,.ow<|Row ns q,.sh<|.lst [.int s1,.int s2,.int s3],.sh dr,.sh<|Pg ls,.sh<|aG ss,.sh<|aG gs,.no,.no,.no,.no,.no,.no]:=tGs (d:=.lst [.lst [.int s1,.int s2,.int s3],.int 0]) ah (show mL _ [.sh<|Z ns,.no,.sh<|.lst [.int s1,.int s2,.int s3],.sh dr,.sh<|Pg ls,.sh<|aG ss,.sh<|aG gs,.no,.no,.no,.no,.no,.no]=_ from ah) e2;have er:=j8 gs.length WR;have ct:aC 1 (bO [(m2 aj (aa 3)<|cI 2)]) (ao 13) (VP.ret true) pR [.sh<|Z ns,.ow<|Row ns q,.sh<|.lst [.int s1,.int s2,.int s3],.sh dr,.sh<|Pg ls,.sh<|aG ss,.sh<|aG gs,.sh<|w6 cl,.no,.no,.no,.no,.no]=.ok (pE gs cl) [.sh<|Z ns,.ow<|Row ns q,.sh<|.lst [.int s1,.int s2,.int s3],.sh dr,.sh<|Pg ls,.sh<|aG ss,.sh<|aG gs,.sh<|w6 cl,.no,.no,.no,.no,.no]:=by
  refine cJ (λ(k:Nat)=>D.int k) (λk=>Tb (sd gs k)<|cl.getD k []) (List.range gs.length) ah (by simp;lia) rfl λk hk acc=>?_;have hk:=List.mem_range.mp hk;have i1:=bu gs k hk;have i2:aj (w6 cl) (.int (k:Int))=some (Z<|cl.getD k []):=by show (xf (cl.map Z).length (k:Int)).bind _=_;rw[xf,Zh WR,Zh (by simp;lia)];simp[show k<cl.length by lia]
  have tn:=jX<|tk k hk;generalize Tb (sd gs k) (cl.getD k [])=tb at *;generalize Z (cl.getD k [])=zc at *;generalize w6 cl=cd at *;unfold pR;exact ah
 have ln:=jM ls;have mo:=bP s1 (ls.length-gs.length) WR;have m0:=Int.emod_nonneg s1 (show (ls.length:Int)-gs.length≠0 by lia);have m1:=wY s1 (show 0<(ls.length:Int)-gs.length by lia);obtain⟨a,ha⟩:∃a:Nat,(gs.length:Int)+s1 % (ls.length-gs.length)=a:=⟨((gs.length:Int)+s1 % (ls.length-gs.length)).toNat,WR⟩;have hal:a<ls.length:=WR;have ad:aV (.int gs.length) (.int<|s1 % (ls.length-gs.length))=some (.int a):=by rw[u5,ha]
 generalize s1 % ((ls.length:Int)-gs.length)=sm at *;have tl:(ss.take a).length=a:=by simp;lia
 have m5:=bP s2 5 WR;obtain⟨b,w,sp,bad,w32⟩:=B2 (gs:=gs) (sp:=ss.take a) h3 (λs hs=>g.si s<|Bn hs) WR (s2 % 5) s3 WR WR;rw[tl] at sp bad;generalize s2 % 5=way at *;have b0:aj (.tup [b,.str<|nm w]) (.int 0)=some b:=rfl;have b1:aj (.tup [b,.str<|nm w]) (.int 1)=some (.str<|nm w):=rfl;have c1:=Vi ls a WR;have c2:=Q0B ls (a+1) WR;rw[show ((a+1:Nat):Int)=(a:Int)+1 by lia] at c2;have a1:aV (.lst<|(ls.take a).map PL.d) (.lst [b])=some (.lst<|(ls.take a).map PL.d++[b]):=iW _ _ (by simp[iz];lia);have a2:aV (.lst<|(ls.take a).map PL.d++[b]) (.lst<|(ls.drop<|a+1).map PL.d)=some (A9 ls a b):=by rw[iW _ _ (by simp[iz];lia)];simp[A9]
 have lw:eX (A9 ls a b)=some (A9 ls a b):=rfl;have ok:∀n:Int,n=0\/n=1\/n=2->_:=λn hn=>Tf (p:=Pg ls) (gv:=aG gs) (tb:=pE gs cl) (n:=n) ⟨_,ju gs ls ss ix_ g iN⟩ (Jk g iN) (Q0i g iN tk WR) hn;have no:∀n:Int,n=0\/n=1\/n=2->_:=λn hn=>Ki (tb:=pE gs cl) (n:=n) (jx g iN hal bad) (yW g iN hal bad) (Q23 g iN hal bad WR) hn;have ne1:jo (.tup [.int (a:Int),.str<|nm w]) (.tup [.int (a:Int),.str<|nm w])=some (.bl false):=by
  have fw:jW (nm w)=true:=by rcases w32 with rfl|rfl|rfl<;>kernel_rfl!
  simp[jo,VP.plain,eS,zu,oG,vp,Dn,fw]
 have z0:=ok 0 WR;have z1:=ok 1 WR;have z2:=ok 2 WR;have y0:=no 0 WR;have y1:=no 1 WR;have y2:=no 2 WR;have r3:rk [.int 3]=some [.int 0,.int 1,.int 2]:=Yh;generalize D.lst ((ls.take a).map PL.d++[b])=w1 at *;generalize D.lst ((ls.take a).map PL.d)=w2 at *;generalize D.lst ((ls.drop<|a+1).map PL.d)=w3 at *;generalize A9 ls a b=wd at *;generalize pE gs cl=gt at *;generalize w6 cl=cd at *;obtain⟨bt,hbt⟩:∃bt,bt=D.tup [b,.str<|nm w]:=⟨_,rfl⟩;rw[<-hbt] at sp b0 b1;obtain⟨R,hR⟩:∃R:Sl->ay,R=λt=>[.sh<|Z ns,.ow<|Row ns q,.sh<|.lst [.int s1,.int s2,.int s3],.sh dr,.sh<|Pg ls,.sh<|aG ss,.sh<|aG gs,.sh cd,.sh gt,.sh<|.int a,.sh bt,.sh wd,t]:=⟨_,rfl⟩;have e:∀(n:Int)(t:Sl),free (some t)=true->iF [Pg ls,aG gs,gt,.int n]=.ok (.tup []) []->iF [wd,aG gs,gt,.int n]=.ok (.tup [.int a,.str<|nm w]) []->aE (ao 12) lI (.int n) (R t)=.ok .nx (R<|.sh<|.int n):=λn t ft h1 h2=>by
  have e:ao 12 (.int n) (R t)=.ok () (R<|.sh<|.int n):=by rw[hR];simp[ft]
  rw[aE,e,ag,hR];unfold lI;exact ah
 have L:loop (ao 12) lI [.int 0,.int 1,.int 2] (R .no)=.ok .nx (R<|.sh<|.int 2):=by rw[oW<|e 0 .no rfl z0 y0,oW<|e 1 _ rfl z1 y1,oW<|e 2 _ rfl z2 y2];rfl
 clear e;subst hR;unfold vq Kv;exact rn
end LW
end
section
set_option Elab.async false
set_option maxRecDepth 100000
set_option maxHeartbeats 4000000
set_option linter.all false
namespace WL.LW
open PySem PySem.Spec PyProof.Rows L2 VP VS _root_.LW
seal iV gY PV PB A6 PF uY xm PR u0 qW u3 y4
structure Ax where
 c_BadLine:Addr
 nQ:Addr
 c_NoCell:Addr
 cP:Addr
 fG:FuncData
structure Xt(K:Frag)(mg:MG)(x:Ax):Prop where
 m_BadLine:mg "BadLine" = some (.ref x.c_BadLine)
 m_LoomError:mg "LoomError" = some (.ref x.nQ)
 m_NoCell:mg "NoCell" = some (.ref x.c_NoCell)
 x_BadLine:VS.G9 K x.c_BadLine x.cP
 f_BadLine:GR K "__init__" "BadLine.__init__" (L2.inClass (top 24) 0) x.cP x.fG
 b_BadLine:Binds K x.fG ["self","at","why"] []
 s_BadLine_at:VS.sQ K x.c_BadLine "at"
 s_BadLine_why:VS.sQ K x.c_BadLine "why"
 x_NoCell:W.excIn K x.c_NoCell VS.rz "ValueError.__new__" = true
 xf_at:VS.OV K mg A1 "at"
 xf_why:VS.OV K mg uT "why"
 c_BadLine:VS.A3 K x.c_BadLine
 t_BadLine:∀p∈eF,∃C,mg p.1=some (.ref C)/\W.mroIn K C (.ref x.c_BadLine)=some p.2
 c_NoCell:VS.A3 K x.c_NoCell
 t_NoCell:∀p∈fE,∃C,mg p.1=some (.ref C)/\W.mroIn K C (.ref x.c_NoCell)=some p.2
 i_LoomError:VS.Uo K mg (.ref x.nQ) gr
section
variable{P:Program}{w:World}{K:Frag}{mg:MG}{base:Heap}{a:G6}(T:Txt L w K mg a){x:Ax}(U:Xt K mg x)
include T U in
theorem eI:pC ⟨P,w,K,mg,base⟩ 1 x.cP x.fG ["self","at","why"] [true,false,false] aL:=MW (N:=["self","at","why"]) U.f_BadLine Ck rfl λus j3 A outer s H hr=>(ae (A0 0 (List.forall_mem_cons.mpr ⟨⟨_,U.m_BadLine,U.s_BadLine_at⟩,List.forall_mem_nil _⟩)<|gE 1)<|ae (A0 0 (List.forall_mem_cons.mpr ⟨⟨_,U.m_BadLine,U.s_BadLine_why⟩,List.forall_mem_nil _⟩)<|gE 2) ax)
include T in
theorem Q2g:uX false ⟨P,w,K,mg,base⟩ 1 (a.f 13) (a.d 13) ["_law_found"] [false] MT:=DZ (N:=["_law_found"]) (T.d 13 rfl).fu Ck rfl λus j3 A outer s H hr=>(ae (fP<|Fy (yD "int" T2 rfl (T.b 6) rfl (T.b 5) (by decide +kernel)<|PV.rd<|gE 0)<|FE<|Se<|yD "bool" T2 rfl (T.b 6) rfl (T.b 2) (by decide +kernel)<|PV.rd<|gE 0) ax)
theorem qt:bS P base T 1 wz:=dG CT T dn (T.d 0 rfl)
theorem Fb:bS P base T 1 FK:=dG LZ T dn (T.d 1 rfl)
theorem Ff:bS P base T 2 Oh:=dG Mt T (dc (qt T) dn) (T.d 2 rfl)
theorem E6:kg P base T "Table" "__init__" false 3 [true,false,false] vr:=⟨_,_,_,_,_,_,(T.m 0 rfl),lz UR T (dc (Fb T) dn) (T.m 0 rfl).fu (λS hr _=>(ae xs<|ae xs<|ae (cB (nq<|kN<|Q0 (Ff T) hr<|bU (qy (T.f 19)<|nu 0) eB) ke ax)<|ae (cB (JN hr (abA (T.b 7)<|PV.rd<|qy (T.f 3)<|nu 0)<|Q0 (qt T) hr<|bU (qy (T.f 19)<|nu 0) eB) ke ax)<|ae (cB (nq<|kN<|wy false (zy rfl true) rfl (T.b 0) VS.boot_all<|PV.rd<|PF.pv<|Xl 1 ["self","sides","cells","number","?acc3"] (uQ<|qy (T.f 3)<|nu 0) (λnd=>(ON 3 nd)) lO xe) ke ax) ax))⟩
theorem ym:bS P base T 1 Aw:=dG CY T dn (T.d 3 rfl)
theorem m9:bS P base T 1 qC:=dG Mc T dn (T.d 4 rfl)
theorem Q3:bS P base T 2 XH:=dG zi T (dc (m9 T)<|dc (ym T) dn) (T.d 5 rfl)
theorem Fc:bS P base T 1 FL:=dG L8 T dn (T.d 6 rfl)
theorem Q4:bS P base T 1 NR:=⟨_,_,_,_,(T.d 7 rfl),lz UY T dn (T.d 7 rfl).fu (λS hr _=>(ae xs<|ae (Ys 3 S.nd<|sy w_add (sy GL xe xe) xe)<|ae (Ys 4 S.nd<|sy w_add (sy GL xe xe) xe) ke))⟩
theorem fzS:bS P base T 2 NS:=dG L9 T (dc (m9 T)<|dc (Q4 T)<|dc (Fc T) dn) (T.d 8 rfl)
theorem Q7:bS P base T 2 NU:=dG Ma T (dc (m9 T)<|dc (Fc T) dn) (T.d 9 rfl)
theorem Q1J:bS P base T 2 NW:=⟨_,_,_,_,(T.d 10 rfl),lz bi5 T (dc (m9 T)<|dc (ym T) dn) (T.d 10 rfl).fu (λS hr _=>(ae xs<|ae (cB xb (ae xs<|ae xs<|ae (cB xb (ae (Ys 6 S.nd<|PF.pv<|Jg rfl (T.b 12) rfl (T.b 8)<|PV.rd xe) ax) ax) ke) ax)<|ae xs<|ae xs<|ae xs<|ae (Ys 8 S.nd<|As (PF.pv<|ux<|aB (Au rfl (T.b 12) rfl (T.b 16)<|PV.rd xe)<|aB xe<|aB xe<|aB xe aT) xe) ke))⟩
theorem Q2X:bS P base T 3 NT:=⟨_,_,_,_,(T.d 11 rfl),lz UZ T (dc (m9 T)<|dc (Q1J T)<|dc (Q7 T)<|dc (fzS T)<|dc (ym T) dn) (T.d 11 rfl).fu (λS hr _=>(ae xs<|ae xs<|ae xs<|ae xs<|ae xs<|ae xs<|ae (Kc 1 7 S.nd rfl (Or.inl rfl) rfl (N':=["_law_row","_law_given","_law_k","_law_many","_law_count","_law_turn","_law_program_here","_law_sides","_law_index","_law_a","_law_way","_law_found","_law_line","?acc12"]) ⟨rfl,by kernel_rfl,by decide +kernel⟩ rfl (uQ xe) jH (qc (by kernel_rfl)) (λC s H ex=>(ON 12<|QY ["_law_row","_law_given","_law_k","_law_many","_law_count","_law_turn","_law_program_here","_law_sides","_law_index","_law_a","_law_way","_law_found","_law_line","?acc12"])) (λC s H ex=>lO) (λC s H ex=>(As xe xe)))<|ae xs<|ae (ZH (jY rfl (T.b 11)<|aB xe aT) (ON 2 S.nd)<|ae xs<|ae xs<|ae xs<|ae (cB (A6.pb<|wk xb<|wk xb<|yy<|yx Yu (Jx rfl rfl (T.b 9) boot_max xe kP) kP<|E4 _) ke ax) ke)<|ae (GD (i:=1)<|GD (i:=7) xs) ax))⟩
theorem Q1r:bS P base T 1 NV:=dG Mb T dn (T.d 12 rfl)
theorem QS:bS P base T 1 NG:=⟨_,_,_,_,(T.d 14 rfl),lz UU T dn (T.d 14 rfl).fu (λS hr _=>(ae (fP<|wy false (zy rfl true) rfl (T.b 0) VS.boot_all<|PV.rd<|PF.pv<|Xl 2 ["line","part","value","?acc1"] (yV rfl (T.b 17)<|aB (pj (T.t 2 rfl) rfl xe)<|aB xe aT) (λnd=>(qS rfl<|OM 1 nd<|OM 2 nd mn)) (lP<|Fo (T.t 0 rfl) rfl xe (by with_unfolding_all rfl))<|FA Yv xe (pj (T.t 0 rfl) rfl xe) (by with_unfolding_all rfl)) ax))⟩
theorem Rj:bS P base T 2 N5:=dG Mg T (dc (Fb T) dn) (T.d 15 rfl)
theorem yn:bS P base T 1 Ay:=⟨_,_,_,_,(T.d 16 rfl),lz Q1R T dn (T.d 16 rfl).fu (λS hr _=>(ae (fP<|PF.pv<|Xl 2 ["line","part","value","?acc1"] (yV rfl (T.b 17)<|aB (pj (T.t 2 rfl) rfl xe)<|aB xe aT) (λnd=>(qS rfl<|OM 1 nd<|OM 2 nd mn)) (lP xb) xe) ax))⟩
theorem Rp:bS P base T 2 Oa:=dG Mo T (dc (yn T) dn) (T.d 17 rfl)
theorem m8:bS P base T 1 qB:=dG LV T dn (T.d 18 rfl)
theorem pd:bS P base T 1 qz:=dG CS T dn (T.d 19 rfl)
theorem QX:bS P base T 2 NL:=dG LS T (dc (m8 T)<|dc (pd T) dn) (T.d 20 rfl)
theorem kM:bS P base T 1 oy:=dG Mr T dn (T.d 21 rfl)
theorem Q1W:bS P base T 2 NP:=dG L7 T (dc (m8 T)<|dc (pd T)<|dc (kM T) dn) (T.d 22 rfl)
theorem Ro:bS P base T 2 N9:=dG Mm T (dc (m8 T)<|dc (kM T) dn) (T.d 23 rfl)
theorem Q0G:bS P base T 1 FH:=dG CR T dn (T.d 24 rfl)
theorem yq:bS P base T 2 AB:=dG C4 T (dc (Q0G T) dn) (T.d 25 rfl)
theorem E8:bS P base T 2 FI:=dG LU T (dc (m8 T) dn) (T.d 26 rfl)
theorem Q1n:bS P base T 3 NF:=dG LP T (dc (m8 T)<|dc (E8 T)<|dc (kM T) dn) (T.d 27 rfl)
theorem QT:bS P base T 3 NH:=dG LQ T (dc (E8 T)<|dc (pd T) dn) (T.d 28 rfl)
theorem yp:bS P base T 1 AA:=dG Mq T dn (T.d 29 rfl)
theorem RI:bS P base T 1 Ou:=⟨_,_,_,_,(T.d 30 rfl),lz Vd T dn (T.d 30 rfl).fu (λS hr _=>(ae (cB (JN hr xe<|PF.pv<|Je rfl (T.b 11) rfl (T.b 8)<|aB xe aT) ke ax) ke))⟩
theorem RC:bS P base T 4 Ol:=dG Mv T (dc (RI T)<|dc (Q1n T)<|dc (QT T)<|dc (yp T)<|dc (yq T)<|dc (qt T) dn) (T.d 31 rfl)
theorem Q0v:bS P base T 3 Ot:=dG MA T (dc (yq T) dn) (T.d 32 rfl)
theorem tIx:bS P base T 5 Oj:=dG Mu T (dc (yq T)<|dc (Q0v T)<|dc (QX T)<|dc (m8 T)<|dc (Ro T)<|dc (Q1W T)<|dc (RC T) dn) (T.d 33 rfl)
include T U in
theorem Q0N:bS P base T 6 Oi:=⟨_,_,_,_,(T.d 34 rfl),lz Va T (dc (Rp T)<|dc (Rj T)<|dc (QS T)<|dc (tIx T)<|dc (Ff T) dn) (T.d 34 rfl).fu (λS hr _=>(ae (cB xb (ae (gX U.x_BadLine (eI T U) rfl U.b_BadLine rfl (by decide) (hr.mono (by decide)) rfl U.m_BadLine rfl<|aB xe<|aB kQ aT) ax) ax)<|ae (cB xb (ae (gX U.x_BadLine (eI T U) rfl U.b_BadLine rfl (by decide) (hr.mono (by decide)) rfl U.m_BadLine rfl<|aB xe<|aB kQ aT) ax) ax)<|ae xs<|ae (cB xb (ae (gX U.x_BadLine (eI T U) rfl U.b_BadLine rfl (by decide) (hr.mono (by decide)) rfl U.m_BadLine rfl<|aB xe<|aB kQ aT) ax) ax) ke))⟩
include T U in
theorem yr:bS P base T 7 AD:=⟨_,_,_,_,(T.d 35 rfl),lz OkM T (dc (Q0N T U) dn) (T.d 35 rfl).fu (λS hr _=>(ae (cB xb (ae (gX U.x_BadLine (eI T U) rfl U.b_BadLine rfl (by decide) (hr.mono (by decide)) rfl U.m_BadLine rfl<|aB kP<|aB kQ aT) ax) ax)<|ae (cB xb (ae (gX U.x_BadLine (eI T U) rfl U.b_BadLine rfl (by decide) (hr.mono (by decide)) rfl U.m_BadLine rfl<|aB xe<|aB kQ aT) ax) ax) ke))⟩
theorem uw:bS P base T 1 wA:=⟨_,_,_,_,(T.d 36 rfl),lz Vc T dn (T.d 36 rfl).fu (λS hr _=>(ae xs<|ae xs<|ae xs<|ae (fP<|Au rfl (T.b 12) rfl (T.b 16)<|nu 1) ax))⟩
theorem Fe:bS P base T 2 FO:=dG Mn T (dc (uw T) dn) (T.d 37 rfl)
theorem jq:kg P base T "Table" "cell" false 3 [false,false] gL:=vO LB T (dc (Fe T) dn) (T.m 1 rfl)
theorem Fd:bS P base T 1 FN:=dG Mi T dn (T.d 38 rfl)
theorem yk:bS P base T 2 Av:=⟨_,_,_,_,(T.d 39 rfl),lz UT T (dc (Fd T) dn) (T.d 39 rfl).fu (λS hr _=>(ae xs<|ae xs<|ae xs<|ae (cB xb (ae (fP<|qT false (swB rfl) rfl (T.b 10) boot_min<|aB xe<|aB xe aT) ax) ax) ke))⟩
theorem QW:bS P base T 1 NK:=⟨_,_,_,_,(T.d 40 rfl),lz UW T dn (T.d 40 rfl).fu (λS hr _=>(ae (fP<|pj (T.t 1 rfl) rfl xe) ax))⟩
theorem QV:bS P base T 3 NJ:=dG CU T (dc (QW T)<|dc (yk T) dn) (T.d 41 rfl)
theorem Q1v:bS P base T 4 NI:=dG LR T (dc (QV T)<|dc (yp T)<|dm (jq T) dn) (T.d 42 rfl)
theorem pcl:bS P base T 4 NO:=dG L6 T (dc (kM T)<|dm (jq T) dn) (T.d 43 rfl)
theorem Rk:bS P base T 2 N6:=dG Mh T (dc (Fd T) dn) (T.d 44 rfl)
include T U in
theorem Rn:bS P base T 4 N8:=⟨_,_,_,_,(T.d 45 rfl),lz Q14 T (dc (kM T)<|dm (jq T) dn) (T.d 45 rfl).fu (λS hr _=>(ae xs<|ae (cB xb (ae (GG U.x_NoCell rfl U.m_NoCell rfl<|aB kQ aT) ax) ax) ke))⟩
theorem Rx:bS P base T 4 Og:=dG Ms T (dc (kM T)<|dm (jq T) dn) (T.d 46 rfl)
theorem yt:bS P base T 4 AE:=dG Mw T (dm (jq T) dn) (T.d 47 rfl)
theorem RJ:bS P base T 5 Ov:=⟨_,_,_,_,(T.d 48 rfl),lz Ve T (dc (kM T)<|dc (yp T)<|dc (pd T)<|dc (yt T)<|dm (jq T) dn) (T.d 48 rfl).fu (λS hr _=>(ae xs<|ae (cB xb (ae (fP<|SU (jq T) hr xe<|bU (abB (T.b 16)<|PV.rd<|PF.pv<|Xl 1 ["line","source","at","kind","side","?acc4"] (jY rfl (T.b 11)<|aB xe aT) (λnd=>(ON 4 nd)) lO<|As xe<|Q21 xe xe) eB) ax) ax) ke))⟩
theorem IY:bS P base T 5 FG:=dG CQ T (dc (yt T) dn) (T.d 49 rfl)
include T U in
theorem QP:bS P base T 6 ND:=dG LO T (dc (Rk T)<|dc (yk T)<|dc (yt T)<|dc (IY T)<|dc (Q1v T)<|dc (Rn T U)<|dc (pcl T)<|dc (Rx T)<|dc (Fe T)<|dc (RJ T)<|dm (jq T) dn) (T.d 50 rfl)
theorem E9:bS P base T 2 FJ:=dG CV T (dc (uw T) dn) (T.d 51 rfl)
theorem ndk:bS P base T 3 NM:=dG LX T (dc (qt T)<|dc (E9 T) dn) (T.d 52 rfl)
theorem Rw:bS P base T 3 Of:=dG C3 T (dc (uw T)<|dc (E9 T)<|dc (yk T) dn) (T.d 53 rfl)
include T U in
theorem RG:bS P base T 7 Oq:=dG Mz T (dc (Rw T)<|dc (ndk T)<|dc (QP T U)<|dk (E6 T) dn) (T.d 54 rfl)
theorem Fg:bS P base T 2 FP:=⟨_,_,_,_,(T.d 55 rfl),lz Q29 T (dc (yn T) dn) (T.d 55 rfl).fu (λS hr _=>(ae xs<|ae xs<|ae (ZH (Q1y rfl (T.b 11)<|aB xe<|aB xe<|aB xe aT) (ON 2 S.nd) ke) ke))⟩
include T U in
theorem Rq:bS P base T 8 Ob:=dG CZ T (dc (yr T U)<|dc (Fg T)<|dc (RG T U) dn) (T.d 56 rfl)
theorem Xg:kg P base T "Plan" "__init__" false 1 [true,false,false,false] Po:=⟨_,_,_,_,_,_,(T.m 2 rfl),lz aak T dn (T.m 2 rfl).fu (λS hr _=>(ae xs<|ae (Q1d 0 (T.f 17)<|Q1I rfl (T.b 3) VS.boot_dict xe) ke))⟩
theorem RD:bS P base T 1 Om:=dG Mx T dn (T.d 57 rfl)
theorem QZ:bS P base T 2 NN:=dG LY T (dc (RD T) dn) (T.d 58 rfl)
theorem GlF:bS P base T 2 N4:=⟨_,_,_,_,(T.d 59 rfl),lz U6 T (dc (yn T) dn) (T.d 59 rfl).fu (λS hr _=>(ae xs<|ae (ZH (uP rfl (T.b 4)<|aB xe aT) (qS rfl<|OM 4 S.nd<|OM 5 S.nd mn)<|ae (cB xb (ae (S7 3<|Xl 1 ["program","wanted","at","naming","number","line","named","?acc6"] (uQ xe) (λnd=>(ON 6 nd)) (lP xb) xe) ax) ax) ax) ke))⟩
theorem Q2:bS P base T 3 NQ:=dG CW T (dc (Fg T)<|dc (QZ T)<|dc (GlF T) dn) (T.d 60 rfl)
theorem Q0T:bS P base T 2 NZ:=⟨_,_,_,_,(T.d 61 rfl),lz U2 T (dc (qt T) dn) (T.d 61 rfl).fu (λS hr _=>(ae (Kb 1 2 S.nd rfl (Or.inl rfl) rfl (N':=["loops","row_of","lengths","loop","?4","row","?acc5"]) ⟨rfl,by kernel_rfl,by decide +kernel⟩ rfl (jY rfl (T.b 11)<|aB (sy w_add (Jw rfl rfl (T.b 9) boot_max xe) kP) aT) jH (qc (by kernel_rfl)) (λC s H ex=>(ON 5<|QY ["loops","row_of","lengths","loop","?4","row","?acc5"])) (λC s H ex=>lO) (λC s H ex=>kP)) ke))⟩
theorem wg:kg P base T "Loop" "__init__" true 1 [true,false,false] Bm:=vO U4 T dn (T.m 3 rfl)
theorem tAp:kg P base T "Fill" "__init__" false 2 [true,false,false,false] Vr:=⟨_,_,_,_,_,_,(T.m 4 rfl),lz aag T dn (T.m 4 rfl).fu (λS hr _=>(ae (gi<|Xk (wg T) hr<|nh 0<|bU xe<|bU xe eB) ke))⟩
theorem Xb:kg P base T "Fold" "__init__" false 2 [true,false,false,false,false,false,false] Vs:=⟨_,_,_,_,_,_,(T.m 5 rfl),lz aah T dn (T.m 5 rfl).fu (λS hr _=>(ae (gi<|Xk (wg T) hr<|nh 0<|bU xe<|bU xe eB) ke))⟩
theorem Xd:kg P base T "Load" "__init__" false 2 [true,false,false,false] Vu:=⟨_,_,_,_,_,_,(T.m 6 rfl),lz aai T dn (T.m 6 rfl).fu (λS hr _=>(ae (gi<|Xk (wg T) hr<|nh 0<|bU xe<|bU xe eB) ke))⟩
theorem Xf:kg P base T "Pick" "__init__" false 2 [true,false,false,false,false,false,false] Vw:=⟨_,_,_,_,_,_,(T.m 7 rfl),lz aaj T dn (T.m 7 rfl).fu (λS hr _=>(ae (gi<|Xk (wg T) hr<|nh 0<|bU xe<|bU xe eB) ke))⟩
theorem DxF:kg P base T "Through" "__init__" false 2 [true,false,false,false,false,false] MQ:=⟨_,_,_,_,_,_,(T.m 8 rfl),lz US T dn (T.m 8 rfl).fu (λS hr _=>(ae (gi<|Xk (wg T) hr<|nh 0<|bU xe<|bU xe eB) ke))⟩
theorem QK:kg P base T "Weaver" "__init__" false 1 [true,false,false,false,false] Dv:=vO LD T dn (T.m 9 rfl)
theorem W8:kg P base T "Both" "__init__" false 1 [true,false,false,false] Vp:=vO UP T dn (T.m 10 rfl)
theorem W9:kg P base T "Even" "__init__" false 1 [true,false] Vq:=vO UQ T dn (T.m 11 rfl)
theorem Xe:kg P base T "One" "__init__" false 1 [true,false,false] Vv:=vO U8 T dn (T.m 12 rfl)
theorem QI:kg P base T "Read" "__init__" false 1 [true,false,false,false] MP:=vO LA T dn (T.m 13 rfl)
theorem Ru:bS P base T 1 Od:=dG C0 T dn (T.d 62 rfl)
theorem E7:kg P base T "Weaver" "row_read" false 3 [false,false,false,false] zA:=vO LF T (dc (Ru T)<|dc (uw T)<|dk (QI T) dn) (T.m 14 rfl)
theorem Q0n:kg P base T "Joined" "__init__" false 1 [true,false,false,false,false] Vt:=vO UX T dn (T.m 15 rfl)
theorem yo:bS P base T 1 Az:=dG Ml T dn (T.d 63 rfl)
theorem Rm:bS P base T 2 N7:=dG Mj T (dc (yo T) dn) (T.d 64 rfl)
theorem yu:bS P base T 3 AF:=dG MC T (dc (Rm T) dn) (T.d 65 rfl)
theorem eqN:kg P base T "Within" "__init__" false 1 [true,false,false,false,false] MS:=vO LN T dn (T.m 16 rfl)
theorem RM:bS P base T 2 Ox:=dG MD T (dc (yo T) dn) (T.d 66 rfl)
theorem RK:bS P base T 2 Ow:=dG MB T (dc (yo T) dn) (T.d 67 rfl)
theorem noL:bS P base T 1 Oy:=dG C5 T dn (T.d 68 rfl)
theorem Q1A:bS P base T 1 FF:=dG CP T dn (T.d 69 rfl)
theorem Q1x:kg P base T "Where" "__init__" false 1 [true,false,false,false] MR:=vO LM T dn (T.m 17 rfl)
def OS(P:Program)(base:Heap){w:World}{K:Frag}{mg:MG}{a:G6}(T:Txt L w K mg a)(n:Nat):Prop:=
 kg P base T "Weaver" "tree_named" false (3+n) [false,false,false] (gF n 0) /\
 kg P base T "Weaver" "tree_made" false (3+n) [false,false,false] (gF n 1) /\
 kg P base T "Weaver" "tree_viewed" false (3+n) [false,false,false] (gF n 2) /\
 kg P base T "Weaver" "tree_spread" false (3+n) [false,false,false] (gF n 3) /\
 kg P base T "Weaver" "tree_shifted" false (3+n) [false,false,false,false,false,false] (gF n 4) /\
 kg P base T "Weaver" "tree_joined" false (3+n) [false,false,false,false,false] (gF n 5)
theorem SE{n:Nat}(ih:OS P base T n):kg P base T "Weaver" "tree_named" false (3+n+1) [false,false,false] (gF (n+1) 0):=by obtain⟨gq,mP,mR,kI,mQ,mO⟩:=ih;exact vO (LI<|gF n) T (dm (E7 T)<|dm mP dn) (T.m 18 rfl) (S:=(Ck:bD ["self","at","way"] ["self","at","way"] (aw<|inClass (top 87) 1)))
theorem SD{n:Nat}(ih:OS P base T n):kg P base T "Weaver" "tree_made" false (3+n+1) [false,false,false] (gF (n+1) 1):=by obtain⟨gq,mP,mR,kI,mQ,mO⟩:=ih;exact vO (LH<|gF n) T (dm gq<|dm kI<|dm mQ<|dm mO<|dm (E7 T)<|dm mR<|dk (W9 T)<|dk (Xe T)<|dk (W8 T)<|dk (Q1x T) dn) (T.m 19 rfl) (S:=(Ck:bD ["self","at","way","line","kind"] ["self","at","way"] (aw<|inClass (top 87) 3)))
theorem Q0S{n:Nat}(ih:OS P base T n):kg P base T "Weaver" "tree_viewed" false (3+n+1) [false,false,false] (gF (n+1) 2):=by obtain⟨gq,mP,mR,kI,mQ,mO⟩:=ih;exact vO (LL<|gF n) T (dc (noL T)<|dc (yu T)<|dc (RK T)<|dc (Q1A T)<|dm gq<|dm kI dn) (T.m 20 rfl) (S:=(Ck:bD ["self","line","way","kind"] ["self","line","way"] (aw<|inClass (top 87) 4)))
theorem SH{n:Nat}(ih:OS P base T n):kg P base T "Weaver" "tree_spread" false (3+n+1) [false,false,false] (gF (n+1) 3):=by obtain⟨gq,mP,mR,kI,mQ,mO⟩:=ih;exact vO (LK<|gF n) T (dc (RM T)<|dm gq dn) (T.m 21 rfl) (S:=(Ck:bD ["self","at","way"] ["self","at","way"] (aw<|inClass (top 87) 5)))
theorem ixW{n:Nat}(ih:OS P base T n):kg P base T "Weaver" "tree_shifted" false (3+n+1) [false,false,false,false,false,false] (gF (n+1) 4):=by obtain⟨gq,mP,mR,kI,mQ,mO⟩:=ih;exact vO (LJ<|gF n) T (dc (yu T)<|dm gq<|dk (eqN T) dn) (T.m 22 rfl) (S:=(Ck:bD ["self","at","side","by","number","way","moved"] ["self","at","side","by","number","way"] (aw<|inClass (top 87) 6)))
theorem SA{n:Nat}(ih:OS P base T n):kg P base T "Weaver" "tree_joined" false (3+n+1) [false,false,false,false,false] (gF (n+1) 5):=by obtain⟨gq,mP,mR,kI,mQ,mO⟩:=ih;exact vO (LG<|gF n) T (dc (yu T)<|dm gq<|dk (Q0n T) dn) (T.m 23 rfl) (S:=(Ck:bD ["self","ahead","behind","side","way","size","moved"] ["self","ahead","behind","side","way"] (aw<|inClass (top 87) 7)))
theorem nO:∀n,OS P base T n|0=>⟨⟨_,_,_,_,_,_,(T.m 18 rfl),p8 rfl⟩,⟨_,_,_,_,_,_,(T.m 19 rfl),p8 rfl⟩,⟨_,_,_,_,_,_,(T.m 20 rfl),p8 rfl⟩,⟨_,_,_,_,_,_,(T.m 21 rfl),p8 rfl⟩,⟨_,_,_,_,_,_,(T.m 22 rfl),p8 rfl⟩,⟨_,_,_,_,_,_,(T.m 23 rfl),p8 rfl⟩⟩|n+1=>⟨SE T<|nO n,SD T<|nO n,Q0S T<|nO n,SH T<|nO n,ixW T<|nO n,SA T<|nO n⟩
theorem QM:kg P base T "Weaver" "tree_named" false 67 [false,false,false] Dx:=(nO T 64).1
theorem QL:kg P base T "Weaver" "tree_made" false 67 [false,false,false] Dw:=(nO T 64).2.1
theorem RE:bS P base T 1 Oo:=dG My T dn (T.d 70 rfl)
theorem Rg:bS P base T 68 N2:=dG Me T (dc (RE T)<|dm (QM T)<|dm (QL T)<|dk (Xd T)<|dk (Xf T)<|dk (QK T)<|dk (Xb T)<|dk (DxF T)<|dk (tAp T) dn) (T.d 71 rfl)
def Bc(P:Program)(base:Heap){w:World}{K:Frag}{mg:MG}{a:G6}(T:Txt L w K mg a)(n:Nat):Prop:=bS P base T (0+n) ("lines_read_in",[false],(xi n 0))
theorem SK{n:Nat}(ih:Bc P base T n):bS P base T (0+n+1) ("lines_read_in",[false],(xi (n+1) 0)):=by have P0:=ih;exact⟨_,_,_,_,(T.d 72 rfl),lz (U3<|xi n) T (dc P0 dn) (T.d 72 rfl).fu (λS hr _=>(ae xs<|ae (cB (kN<|Q2d (T.j 0) rfl (T.b 6)<|PV.rd xe) ke ax) ke)) (S:=(Ck:bD ["tree"] ["tree"] (aw<|top 88)))⟩
theorem Kt:∀n,Bc P base T n|0=>⟨_,_,_,_,(T.d 72 rfl),p8 rfl⟩|n+1=>SK T (Kt n)
theorem Rf:bS P base T 64 N1:=(Kt T 64)
theorem Rd:bS P base T 65 N0:=dG Md T (dc (Rf T) dn) (T.d 73 rfl)
theorem Q0h:bS P base T 66 NY:=dG zj T (dc (Rd T) dn) (T.d 74 rfl)
theorem Rh:bS P base T 1 N3:=dG Mf T dn (T.d 75 rfl)
theorem Rv:bS P base T 67 Oe:=⟨_,_,_,_,(T.d 76 rfl),lz U9 T (dc (Q0h T)<|dc (Rh T) dn) (T.d 76 rfl).fu (λS hr _=>(ae xs<|ae xs<|ae (ZH (uP rfl (T.b 4)<|aB xe aT) (qS rfl<|OM 3 S.nd<|OM 4 S.nd mn)<|ae (Kg 1 5 S.nd rfl (Or.inl rfl) rfl (N':=["loops","last","row_of","at","loop","needed","line","?acc6"]) ⟨rfl,by kernel_rfl,by decide +kernel⟩ rfl (J7 xe) jH (qc (by kernel_rfl)) (λC s H ex=>(ON 6<|QY ["loops","last","row_of","at","loop","needed","line","?acc6"])) (λC s H ex=>(lP xb)) (λC s H ex=>(Ar xe xe))) ke) ke))⟩
include T U in
theorem Rr:bS P base T 69 Oc:=dG Mp T (dc (yr T U)<|dc (Q2 T)<|dc (Rg T)<|dc (Rv T)<|dc (Q0T T)<|dk (Xg T) dn) (T.d 77 rfl)
include T U in
theorem Q2i:bS P base T 70 NX:=⟨_,_,_,_,(T.d 78 rfl),lz U1 T (dc (yr T U)<|dc (Rr T U)<|dc (Rq T U) dn) (T.d 78 rfl).fu (λS hr _=>(ae (Ta (ae (cB xb (ae (gi xe) ax) ax)<|ae (cB xb (ae (gi xe) ax) ax)<|ae (cB xb (ae (gi xe) ax) ax) ax)<|Ap U.c_BadLine rfl U.m_BadLine U.t_BadLine (Q0z (j:=4) S.nd rfl rfl (λe=>(ae (cB (A6.pb<|wk (nq<|kN<|Jv U.m_LoomError U.i_LoomError rfl (T.b 6) rfl<|gE 4)<|wk (nq<|kN<|Aq (cc:=false) (Q2g T) (VS.eV.of hr (by decide)) rfl (T.d 13 rfl).mg (T.d 13 rfl).fu.kp (T.d 13 rfl).bi rfl<|bU (ph U.xf_at<|gE 4) eB)<|yy<|nq<|kN<|yD "str" T2 rfl (T.b 6) rfl (T.b 14) (by decide +kernel)<|PV.rd<|ph U.xf_why<|gE 4) (ae (fP FD) ax) ax)<|ae (fP<|yE<|aB (ph U.xf_at<|gE 4)<|aB (ph U.xf_why<|gE 4) aT) ax)))<|Ap U.c_NoCell rfl U.m_NoCell U.t_NoCell (Q0g (λe=>(ae (fP<|yE aT) ax))) R8) ke))⟩
include T U in
theorem QH:yY ⟨P,w,K,mg,base⟩ 71 (a.f 79) (a.d 79) ["_law_script"] [false] vq:=lz Q2U T (dc (m9 T)<|dc (Q2X T)<|dc (Q1r T)<|dc (Q2i T U)<|dk (E6 T) dn) (T.d 79 rfl).fu (λS hr _=>(ae xs<|ae xs<|ae xs<|ae xs<|ae xs<|ae xs<|ae (Ys 7 S.nd<|aby (Q3 T) hr (ux<|aB xe<|aB kP aT)<|aB xe<|aB xe aT) ke))
end
end WL.LW
end
section
set_option Elab.async false
set_option maxRecDepth 100000
set_option maxHeartbeats 4000000
namespace WL.LW
open PySem PySem.Spec PyProof.Rows L2 VP VS _root_.LW
theorem bd:YI L.d:=by repeat (first|exact True.intro|refine⟨by first|exact Pr|exact P8|exact Ih|exact O0|exact U0|exact ya|exact Sy,?_⟩)
theorem bm:YJ L.m:=by repeat (first|exact True.intro|refine⟨by first|exact Pr|exact P8|exact Ih|exact O0|exact U0|exact ya|exact Sy,?_⟩)
theorem Q0W{K:Frag}{mg:MG}{h:Heap}(X:K.In h)(G:h.Ns mainGlobals mg){bC fR cH cP:Addr}(fq:W.nsIn K mainGlobals "BadLine" = some (some<|.ref bC)) (wb:W.nsIn K mainGlobals "LoomError" = some (some<|.ref fR)) (lL:W.nsIn K mainGlobals "NoCell" = some (some<|.ref cH)) (x_BadLine:VS.G9 K bC cP) (Br:DM K "__init__" "BadLine.__init__" (L2.inClass (top 24) 0) cP) (s_BadLine_at:VS.sQ K bC "at") (s_BadLine_why:VS.sQ K bC "why") (mI:VS.G7 K bC) (x_NoCell:W.excIn K cH VS.rz "ValueError.__new__" = true) (Di:VS.G7 K cH) (c_BadLine:VS.A3 K bC) (mf:W.mroIn K bC (.ref bC)=some true) (nF:W.mroIn K cH (.ref bC)=some false) (c_NoCell:VS.A3 K cH) (nG:W.mroIn K bC (.ref cH)=some false) (oM:W.mroIn K cH (.ref cH)=some true) (sp:W.specialIn K (.builtin "object.__class__") "__get__" = some (some<|.builtin "getset_descriptor.__get__")) (tk:W.takesIn K (.builtin "object.__class__")=some true) (j7:W.kitOne K (.ref bC) (.ref fR)=some true) (kH:W.kitOne K (.ref cH) (.ref fR)=some true):∃x,Xt K mg x:=by obtain⟨fG,A4,A2⟩:=Br.is (ps:=["self","at","why"]) Ih;exact⟨⟨bC,fR,cH,cP,fG⟩,{m_BadLine:=BN X G fq,m_LoomError:=BN X G wb,m_NoCell:=BN X G lL,x_BadLine:=x_BadLine,f_BadLine:=A4,b_BadLine:=A2,s_BadLine_at:=s_BadLine_at,s_BadLine_why:=s_BadLine_why,x_NoCell:=x_NoCell,xf_at:=(List.forall_mem_cons.mpr ⟨⟨_,BN X G fq,mI.1,s_BadLine_at.na,s_BadLine_at.hd⟩,(List.forall_mem_nil _)⟩),xf_why:=(List.forall_mem_cons.mpr ⟨⟨_,BN X G fq,mI.1,s_BadLine_why.na,s_BadLine_why.hd⟩,(List.forall_mem_nil _)⟩),c_BadLine:=c_BadLine,t_BadLine:=(List.forall_mem_cons.mpr ⟨⟨_,BN X G fq,mf⟩,(List.forall_mem_cons.mpr ⟨⟨_,BN X G lL,nF⟩,(List.forall_mem_nil _)⟩)⟩),c_NoCell:=c_NoCell,t_NoCell:=(List.forall_mem_cons.mpr ⟨⟨_,BN X G fq,nG⟩,(List.forall_mem_cons.mpr ⟨⟨_,BN X G lL,oM⟩,(List.forall_mem_nil _)⟩)⟩),i_LoomError:=⟨sp,tk,(List.forall_mem_cons.mpr ⟨⟨_,BN X G fq,mI,j7⟩,(List.forall_mem_cons.mpr ⟨⟨_,BN X G lL,Di,kH⟩,(List.forall_mem_nil _)⟩)⟩)⟩}⟩
def bL:Prop:=∀ns:Zw,vq [Z ns]=.ok (.bl true) []
theorem all_mk(hL:bL){l:W.OpenLaw}{w:World}{K:Frag}{mg:MG}{fa:Addr}(hfa:mg "law" = some (.ref fa))(E:∃a:G6,Txt L w K mg a)(E2:∃x,Xt K mg x):Ul l w K mg fa 71 "_law_script" := by obtain⟨a,T⟩:=E;obtain⟨x,U⟩:=E2;have D:=T.d 79 rfl;have e:=hfa.symm.trans D.mg;cases e;exact⟨_,vq,D.law λ_ _ _ _ _ _ _ _=>.of_eq rfl,λns _=>hL ns,λbase=>(QH T U).2⟩
end WL.LW
structure PySem.W.Fast:Prop where(tw8018589791780185123 tw16676688053873302097 tw4917187963596692682 tw3540674041066338720 tw9414705129538898797 tw3344430324715276835 tw9566347575277579487 tw1844843661897702 tw13767806496917318967 tw14165480848336337575 tw15625183829646182843 tw16830198597164837360 tw16275078201101751309 tw4599440753091100926 tw4980675866109516089 tw11680016392007299518 tw17746282995378407445 tw4416125682136999500 tw17069415806388645990 tw6917142682306754388 tw12733616707365648840 tw7723346193565436650 tw3323104083252433480 tw8454106341413695979 tw1562708102341718552 tw14178070546049327954 tw2757517161676619588 tw6327766868817380424 tw8413390709866057017 tw8434809339934710047 tw2167728212617053527 tw11080302136507987372 tw17445484520590060255 tw16723687115807013916 tw1460047052335149906 tw17430031457523729373 tw9637360109996056396 tw2208503209437057802 tw15327318129837620841 tw354369399313449602 tw12861929683157857248 tw1961074557293433201 tw17535949502542415588 tw15468842635669326049 tw66952053420854157 tw15488988843865466563 tw5116708423511853125 tw164875122583773569 tw3920527698463810108 tw4254538851781926054 tw13492755115866198718 tw9033904051180828368 tw8319076803494862742 tw1892274221823797447 tw425448011787571454 tw15489218586318057927 tw7981998358578697779 tw10683626437995985184 tw2723246717869346466 tw17471744275403140884 tw16748998915911495254 tw13627818258968196641 tw6670935693969767605 tw1928624409819624397 tw5373681900879873292 tw8890619556285626685 tw7308144059839731327 tw1481197880488786120 tw10788958499918755693 tw14749811834338369858 tw17895880431656037530 tw10976633297757198151 tw13642679912836469759 tw16832347916627877776 tw16471660164195005115 tw5353599677989858279 tw8091897326728259017 tw6201347955570720162 tw2048259938955705292 tw1121025438085863 tw13271063722929130229 tw13028389038768930698 tw8104170936366583405 tw7962275235717239782 tw867030294868094786 tw13197022608997835104 tw1200995007285858044 tw12429104380575621814 tw1285186167775027407 tw11396184210654429651 tw15014581678409845098 tw3237521424736369921 tw18025803547208878053 tw6541147659787175149 tw17382017813475445672 tw9985632286015153560 tw5456187559509163238 tw13287456741335138827 tw4552344342392400717 tw8112846044299373660 tw14089490419185342901 tw15948979530854832030 tw13194813251146596044 tw5753415752266336888 tw18057534128140780288 tw4445042320147377082 tw7588875741352455772 tw12948359915928184280 tw11139168236707708893 tw11391490316839658213 tw722672182152643417 tw12814980992932901500 tw1540890975062865095 tw11343345804161525854 tw10233461791314808157 tw11973631788705600735 tw10067630023742054437 tw16659282429642872876 tw9150070414233924952 tw4865203143348082660 tw6429445840970804952 tw7541636471390667558 tw12676070952392322402 tw9731542741907949363 tw13277454515667277714 tw4234351317605158419 tw4811963702015496347 tw8639294019816674457 tw13236387196476399069 tw5781563975348681665 tw11725401281484477856 tw10861685878213106334 tw6751537506423862853 tw7072857970830125710 tw8385844942406484479 tw10159800579312649650 tw13681479571163436329 tw11864077105703426989 tw7984370844493537773 tw7849140239934593401 tw12947157318407812723 tw4473234777148283650 tw4240969931322902162 tw10719321055903202871 tw17791259295078369567 tw4411669984071756146 tw14408360625712505828 tw3988081712375567380 tw14861591403091655648 tw5686254984664008921 tw1024752196552537837 tw4375899893186147739 tw6472397829517826925 tw14174201937624727821 tw12092680473750206786 tw7980384029485436623 tw7476521507739810581 tw12835607342643188317 tw12628518542555246715 tw15526018380259915077 tw12659375336037120227 tw4804420876475639472 tw17394289232632573802 tw17858133015509340408 tw17025754571232619894 tw2943914934740811658 tw4862815599748713685 tw12026944699193634763 tw9745774580034732972 tw11688527267444396826 tw15640875755934046079 tw2524124988835652735 tw15733033167955057388 tw1902242895030229905 tw9393227820810246471 tw14230312404252836732 tw7174633893186726782 tw6468900602778439129 tw15531736813625952346 tw3372845147751359506 tw15035783436788103508 tw7468284384917472555 tw15810625187024318810 tw17304075508130507874 tw13688146424925926145 tw9529378360036460494 tw18262175641899227813 tw16852056851428662247 tw11899545555673167280 tw9196876323204394238 tw1529209428986585035 tw11082837514912432577 tw1911665685235762215 tw9550507792922266139 tw6362871748973359196 tw15479252895851475801 tw6859674553596144354 tw8734533246014663739 tw16509259193974383011 tw6758873610948358351 tw2787036993365543745 tw9174213697908274657 tw7229915727028641357 tw16336156863472816319 tw2210683713663408654 tw2023182652975057468 tw10471465017167231839 tw13845081990673727009 tw8973605722219437539 tw11363914322379074226 tw15305648319025526106 tw16321013813286452579 tw15993102295470697431 tw2357809953257892361 tw8214260140714451529 tw14109674454279369809 tw2178150521707710555 tw17626050264519997171 tw14185291309186755440 tw9543179588741911869 tw12793431601840141285 tw3986481594492777225 tw14558707587482605044 tw17757160113562288036 tw16611671636432108009 tw823892547528014046 tw8160632485584400003 tw8668756349775942819 tw17085489794645704607 tw16319801212056659530 tw14171145855995574378 tw7846555373960610540 tw7343104539695399550 tw4418411607769463749 tw7915946377346821315 tw934432427040185921 tw8400200360156606372 tw5630837883365205188 tw11759740913468792494 tw13780580464740000414 tw6603384536191882039 tw7858502306390367731 tw14918719527502171347 tw1559716703219961554 tw11373162879186282690 tw2072121340796572431 tw5792013393844819810 tw12143682495770400286 tw5345508657993373688 tw7059587298068975005 tw10538258223259548919 tw7481414863873985938 tw17592155777332635726 tw2820669246828947101 tw13369437018426884462 tw9033079804476244203 tw17311011484924583046 tw13027951730477889863 tw17985562002336265021 tw13585583359324863105 tw1599216331128271837 tw1878843868706631564 tw9280418080740155469 tw12020990863965310434 tw7314634738745014332 tw6449425904707324280 tw7283291933287350623 tw7282224920219935414 tw12340766908817791785 tw14614690045078561815 tw6157273370119101016 tw4487055338883120738 tw5706578564106448924 tw13596865522827095352 tw15826961918655175951 tw3450456822513737821 tw15738046154772669611 tw18325600532404984333 tw7544209205003438156 tw17606979397449502116 tw17447202157294370275 tw14942375502653273863 tw15679649071083989302 tw17252177184965900397 tw3304217504430060241 tw12373905706741665078 tw14680574789500509426 tw8816376718109000062 tw10279272077780968996 tw12385818833610081671 tw2827043300651389014 tw1369842215938377374 tw8144087304023116436 tw2884140500586786535 tw2508745986685607742 tw4032380025369720020 tw15130987592116942381 tw18019041138265811047 tw4488040070311618981 tw6896890500615456204 tw291221090983924056 tw18097717850739648287 tw9463240097720102323 tw1302716762252897564 tw8781919108083311671 tw3001197801035818623 tw1640698107320622988 tw3012052732036359582 tw18137802138374010659 tw17189264557343364797 tw5599634554086683860 tw6065461464584937204 tw13364441094088973158 tw17193395976799554116 tw6840610635424520536 tw11034251667826071782 tw11063036535753984010 tw10791247132890786790 tw6119984084509529260 tw6154918916373457924 tw6924129545862872315 tw4040605228295555257 tw3619879945435277412 tw11298540377481079670 tw9964661085106479560 tw998598254745302225 tw8176132038449212699 tw74179782891036825 tw14086080136849352748 tw14418694839413963401 tw906454346115358968 tw16029577505014802462 tw4900206024443415508 tw6115550055445245775 tw3131541924268963481 tw2391187280687438469 tw6497290105319513892 tw15919042259615338560 tw13906251638131837187 tw16366495717122449008 tw9474231957996242877 tw187389810361148846 tw12065082503528984096 tw9348352674140452258 tw12062764121931635653 tw4282690396971890691 tw13572566590973614840 tw10672762552422162673 tw17803978727724789651 tw2593776975748732415 tw11042833126944539954 tw17642728938141945739 tw16739071359389599916 tw8324598418525612989 tw9719710962048962756 tw7221133160903065071 tw14119436878126635678 tw6474879357906308666 tw116178651223126474 tw11984074370514971958 tw9645945562073617609 tw9947741734389543960 tw9450747833452161746 tw9144489894610872116 tw10187092553917109917 tw18177360818589399030 tw4427602072444148170 tw1245209974907485556 tw11285927588478221577 tw10598446939715605305 tw244151547663630283 tw9235941874218721797 tw16078075147720664089 tw7729888487920323061 tw12256415078967722016 tw16791509598168426330 tw10264890392833847292 tw5620083207805248505 tw9662871131269763951 tw5051980574033165368 tw14329611589598223133 tw18401482081330452729 tw4085778241757029 tw11871737590626488545 tw10738208081971655075 tw15431967887232443851 tw11453057918358735983 tw1840708214786635705 tw16740509389236936384 tw4311948664337417120 tw10145213809591608141 tw15072335938025653706 tw9380464006297089146 tw3893998439178463289 tw17183030721747655763 tw4449424798174550886 tw4267895142396519114 tw14217405826526901418 tw13339810655590369926 tw14064814782499918885 tw3997311088509238122 tw4071112835854041568 tw660161013465701403 tw14514906635700749541 tw15128857901822077508 tw11579589012456395063 tw3913741301900845778 tw6632779990056600966 tw2908860841164738159 tw2419666077763550839 tw4017621090646567776 tw8892118928779475595 tw16350788392248413734 tw11324077791994559695 tw11824106971024966614 tw16468494424789023174 tw5382498642313156483 tw14344915767866223842 tw9635843675853286600 tw17501140888266651790 tw5726646451221251638 tw16902897069597737737 tw364250865875235078 tw11655980452798780137 tw1220532489915784923 tw3190125921319438440 tw14804305724403680780 tw17587576463763911352 tw7154741687872969618 tw3755922127662421137 tw4766413020690588476 tw14069562672814650287 tw2208155082357517232 tw9728337481646742778 tw12533827446158547442 tw6790585233539399067 tw4233721256891159546 tw14203043952828053568 tw7389145400947664430 tw11041184369765987130 tw15109411359249863700 tw9568310610736829692 tw13175711120009408460 tw5578549313673832778 tw10033444742656429482 tw17310700322916992525 tw14313870636257776840 tw11738766179613853311 tw511080170992983608 tw16614942028582907195 tw15195736124661479517 tw9606389958871232736 tw8257961235741721788 tw1913363472573451746 tw10258681986463900646 tw9489709191801669208 tw17251826907044384093 tw8105607589823720359 tw16847103357459538123 tw5941961172230826244 tw909867067817984820 tw18095994563547944055 tw12321941450163899928 tw4609922139209964980 tw5139931744353677363 tw893078377292755448 tw9596450690188926870 tw2908355948146951375 tw5648569615893913001 tw8097798033498350902 tw15352708224011999128 tw4870312799512560339 tw5986365765795398487 tw14779460722509784277 tw9392398159374939023 tw7337932971479381978 tw12077204106021581680 tw1447901199000849172 tw16218519495352518450 tw8258524199997709009 tw13298007164062550067 tw1223546107424744310 tw3050674646302832751 tw7388257783763836463 tw5215043360007097131 tw4844326712700805817 tw11980909218536160532 tw11719393700775277596 tw4085418954682197348 tw13910347206229536516 tw16239894140542187463 tw4881665690278486674 tw1451268490474655232 tw13679249547039853084 tw11996283092530767199 tw9404495796859847207 tw8882053475839130321 tw11203296312892843232 tw8215255368033913807 tw18086847178777200620 tw17147140239819538295 tw8110516301246344954 tw17865153050376440326 tw8106496026586962277 tw6717812984077586562 tw17044944047941323918 tw4257975987666561426 tw17263842507994245039 tw3891080732275548002 tw10360146563740679879 tw17980905377997079 tw12543366625134538902 tw9529945429172882541 tw14711582106710578950 tw1473519841935734455 tw16547839958580585843 tw1703831492517767906 tw18361719965383499235 tw8876448513351225791 tw5116219088470888383 tw14020668274314267079 tw13580591892635151199 tw16572693216043297844 tw6977984327557182003 tw10005336843958332703 tw8884471876282043585 tw13540208327535322232 tw14518762730797119450 tw13285772246269618073 tw11310659389839180698 tw4451555083708781662 tw13004671620475424757 tw4272107663710429226 tw16211558672861170081 tw9236664979553941780 tw6482842534072600698 tw3742361259956480375 tw14619875970329324254 tw12022626457871917464 tw13887131837740849187 tw15441319993790026437 tw5175032074066430573 tw6995858977988219114 tw13139309005967825700 tw4293123735838196584 tw14285642404523400450 tw5939153441633386041 tw9743241784976351577 tw11161484002715133307 tw2203407616585127082 tw2859359807710112714 tw6319317184136780357 tw10999049187180492200 tw14529471453356447379 tw8849850719906981301 tw18256173796902496546 tw10755544196977227523 tw11883873728239692191 tw13626604024232850568 tw6072239167669155446 tw17321809929882062462 tw10105102988147597537 tw1090496914123788324 tw6669086078553180790 tw16934735659602785972 tw4263737544759945993 tw6697849837757812261 tw9109382360365332547 tw12608341079594218656 tw9300063206028726817 tw3645953317441175123 tw14780751530013096323 tw6403925985013505950 tw12175551689448263080 tw1954111526257636364 tw14825851896004265464 tw4580152824678928270 tw12335523576674306038 tw10416547998193462880 tw5495506511706910065 tw8414147047607740883 tw6805932169491861462 tw16552475177466309213 tw8334785916442889774 tw17290029143544726689 tw16242213122416051920 tw13559320352809645055 tw5042178788029525434 tw85340318835951905 tw1259332803740354066 tw4304683369043325882 tw17741148615413493766 tw6687251335343762272 tw4010449551187230276 tw15945406693978249980 tw15449468751647764285 tw9162803798352136800 tw5400843869050796765 tw10757146508013678938 tw1884661542654670643 tw6868633047844421921 tw6101981011681092268 tw6426750013248292525 tw17667623567842711407 tw15357454455430560648 tw10873245525571523135 tw3391648526808886796 tw2220303174021197436 tw14677492011171015147 tw7549215561946485991 tw7154143614815537590 tw12909187337293974403 tw7498154964499346512 tw8369463149864567886 tw590008141786922496 tw7034606154513398824 tw13484468068580145716 tw15788857368996089832 tw11086893278726339235 tw610420070787282446 tw18035497050816616077 tw786844827057385204 tw7336967093028899422 tw1414767740804375904 tw17474509934439442040 tw16816650502279282747 tw17198132643438368939 tw3248771124757522851 tw7549321259788032177 tw14638294527527311377 tw9618288547191913569 tw16462359923532196051 tw6076044237639354335 tw9515234496975329572 tw12367020657756141165 tw17616191865596783722 tw4896336976638709619 tw1365683866810306561 tw15032912159328553583 tw7139776151118898386 tw9118418179907783184 tw6419172590993180069 tw7497935824523524860 tw8889619785342554911 tw2553795285373628149 tw1512319268399999960 tw11312152371717718580 tw15507467379501155137 tw2831119396039749651 tw6234199303428807461 tw10953683370590488056 tw6802038587788528143 tw11352983472780989716 tw3750322423453996537 tw1583420856144344255 tw11017310758362675646 tw844898084486810431 tw5875916959585443417 tw4818743831107019729 tw8857956613264492415 tw8256763034141697208 tw7997304225186432473 tw6001379910632014499 tw7179878690037806422 tw5514204613150413423 tw17719917604451616926 tw2511864874084057663 tw15907331211739862832 tw3141316620693181315 tw10335472104150497599 tw4784840876772714496 tw1067813087305573957 tw13269359545537567756 tw14545019144143805832 tw843727216081379679 tw17214869664754382172 tw4378538678478576626 tw3610734276588297205 tw7542356222974833147 tw4346599430114455421 tw7476171050892512619 tw1563685686408895310 tw1397120023723431487 tw3024525344408275026 tw5575949371473463508 tw9148911204970554382 tw7342488313442465351 tw16269916110521627064 tw13513290843893181127 tw6760113057448252138 tw14136194979994864214 tw4889767820315706607 tw17666469282118547726 tw15034817576814245659 tw18288794528198720777 tw7349215477693358679 tw272014618245141725 tw9116021671206342547 tw6073072416325994014 tw17445223182576090011 tw17678703443804389016 tw14074894214186473237 tw15525675152767185942 tw3875016565394004885 tw13807050771948623882 tw11806554991390692227 tw7365228062602751169 tw3432222947881704913 tw15036316649189125075 tw8600921821651245731 tw7957411094666243410 tw7367562337311023852 tw10108383796639995197 tw824808836353497439 tw15918199886202235620 tw2025902854589157057 tw10114146739635830366 tw7253249687698148455 tw613776821057117418 tw1490624096863900954 tw1888221223185843059 tw14135323218676196007 tw5415218308398353509 tw13439568857491410430 tw18407059689889842796 tw14929485736310009071 tw15616717763512509716 tw12749307914681358665 tw5674628057770009458 tw17363219009298706566 tw322036308097236492 tw6018249351393038899 tw13390501023534728540 tw17226780021163396072 tw5310030137435901109 tw10269307108997929620 tw8977487777344199547 tw4850934990030126228:True)
open PySem PySem.W PyProof.Rows
set_option maxRecDepth 100000 in
set_option maxHeartbeats 0 in
theorem PySem.Challenge.cw_loomarrays_k29_refused_alike_holds : PySem.Challenge.rw_loomarrays_k29_refused_alike.Holds := by
 w_on;o_law;k_head;(case hw=>w_witness2)
 k_fill
 refine WL.walk63 (l:=PySem.Challenge.rw_loomarrays_k29_refused_alike) 71 rfl rfl (fun w h Y=>PySem.W.kIn_of Y) ?F
 intro w mg fa h KX G V9
 refine' WL.LW.all_mk LW.Q2b V9 (VS.Q07 KX G (by kernel_rfl) WL.LW.bd WL.LW.bm ?zhb ?zhn ?zht ?zhd ?zhc ?zhm ?zhf ?zha ?zhi ?zhj ?zsp ?ztk) (WL.LW.Q0W KX G ?yn_BadLine ?yn_LoomError ?yn_NoCell ?yx_BadLine ?yh_BadLine ?ys_BadLine_at ?ys_BadLine_why ?ye_BadLine ?yx_NoCell ?ye_NoCell ?yc_BadLine ?yt_BadLine_BadLine ?yt_BadLine_NoCell ?yc_NoCell ?yt_NoCell_BadLine ?yt_NoCell_NoCell ?ysp ?ytk ?yi_LoomError_BadLine ?yi_LoomError_NoCell)
 case yn_BadLine=>k_is
 case yn_LoomError=>k_is
 case yn_NoCell=>k_is
 case yx_BadLine=>exact ⟨⟨_,_,_,_,_,_,_,_,_,_,_,_,_,_,_,_,by k_is,by kernel_rfl,by k_is,by kernel_rfl⟩,by k_is⟩
 case yh_BadLine=>exact ⟨⟨_,_,_,_,_,_,_,_,_,by k_is,by k_is⟩,by k_is⟩
 case ys_BadLine_at=>exact ⟨by k_is,by kernel_rfl,by k_is,by k_is⟩
 case ys_BadLine_why=>exact ⟨by k_is,by kernel_rfl,by k_is,by k_is⟩
 case ye_BadLine=>exact ⟨⟨by k_is,by k_is,by k_is,by k_is⟩,by k_is,by k_is⟩
 case yx_NoCell=>k_exc
 case ye_NoCell=>exact ⟨⟨by k_is,by k_is,by k_is,by k_is⟩,by k_is,by k_is⟩
 case yc_BadLine=>exact ⟨by k_is,by k_is,by k_is⟩
 case yt_BadLine_BadLine=>k_is
 case yt_BadLine_NoCell=>k_is
 case yc_NoCell=>exact ⟨by k_is,by k_is,by k_is⟩
 case yt_NoCell_BadLine=>k_is
 case yt_NoCell_NoCell=>k_is
 case ysp=>k_is
 case ytk=>k_is
 case yi_LoomError_BadLine=>kit_is
 case yi_LoomError_NoCell=>kit_is
 case zsp=>k_is
 case ztk=>k_is
 case zhb=>repeat (first | exact True.intro | refine ⟨by k_is,?_⟩)
 case zhn=>repeat (first | exact True.intro | refine ⟨⟨_,by k_is,⟨_,rfl⟩⟩,?_⟩)
 case zhd=>repeat (first | exact True.intro | refine ⟨⟨_,by k_is,⟨⟨_,_,_,_,_,_,_,_,_,by k_is,by k_is⟩,by k_is⟩⟩,?_⟩)
 case zhm=>repeat (first | exact True.intro | refine ⟨⟨_,_,by k_is,by k_is,by k_is,⟨⟨_,_,_,_,_,_,_,_,_,by k_is,by k_is⟩,by k_is⟩,by k_is,by k_is,by first | (intro z;cases z;done) | exact fun _=>⟨by k_is,by k_is,by k_is⟩⟩,?_⟩)
 case zhc=>repeat (first | exact True.intro | refine ⟨⟨_,by k_is,⟨by k_is,by k_is,by k_is,by k_is⟩⟩,?_⟩)
 case zha=>repeat (first | exact True.intro | refine ⟨⟨_,by k_is,⟨by k_is,by k_is,by k_is,by k_is⟩⟩,?_⟩)
 case zhf=>repeat (first | exact True.intro | refine ⟨by repeat (first | exact True.intro | refine ⟨⟨_,by k_is,by k_is⟩,?_⟩),?_⟩)
 case zhi=>repeat (first | exact True.intro | refine ⟨⟨_,by k_is,by repeat (first | exact True.intro | refine ⟨⟨_,by k_is,by kit_is⟩,?_⟩)⟩,?_⟩)
 case zhj=>repeat (first | exact True.intro | refine ⟨⟨_,_,by k_is,by k_is,by repeat (first | exact True.intro | refine ⟨⟨_,by k_is,by kit_is⟩,?_⟩)⟩,?_⟩)
 case zht=>repeat (first | exact True.intro | refine ⟨⟨_,_,_,by k_is,by decide,by k_is,by k_keys,by repeat (first | exact True.intro | refine ⟨⟨_,by k_is,by first | exact .inl ⟨_,rfl⟩ | exact VS.ab1 (by k_is) (by decide) (by repeat (first | exact .nil | refine .cons ⟨_,rfl⟩ ?_))⟩,?_⟩),by repeat (first | exact True.intro | refine ⟨by k_is,?_⟩)⟩,?_⟩)
end
