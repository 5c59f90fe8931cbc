import PyProof.Rows.All
import KE.KIsAll
import PyProof.ExcArgsOwn
import PyProof.InstStoreFacts
import PyProof.ExcInit
import KE.KStateDown
import KE.RegKIsAll
import KE.KRevIter
import KE.KDictOf
import Wide.Line
import Open.Line
import OpenK.KLine
import PyProof.Rows.KernelRfl
import KE.KTupSum
import PySem.Challenge.RW_loomarrays_k17_whole_plain_deeds
set_option Elab.async false
open PySem
set_option linter.defProp false
abbrev RI(x:PySem.Str):Prop:=(x == ("__debug__" : PySem.Str))=false
abbrev v8(x:PySem.Str):Prop:=(x == ("__classdict__" : PySem.Str))=false
abbrev Tv:=PySem.Value->PySem.Shared->Prop
def VZ:=@Heap.get?_push_of_some
def Ym:=@Heap.get?_push_size
def Qi:=@decide_eq_true
def VY:=@decide_eq_false
def Pe:=@List.mem_cons_of_mem
def R9:=@List.mem_cons_self
def Rb:=@List.mem_of_getElem?
def Te:=@List.getElem?_eq_getElem
def mG:=@List.getD_eq_getElem?_getD
def Hz:=@Nat.lt_of_lt_of_le
def zF:=@List.getElem?_append_left
def Bv:=@List.getElem?_eq_none
def Es:=@Int.toNat_natCast
theorem Tf{A:Sort _}{a:A}:a=a:=Eq.trans rfl rfl
set_option compiler.extract_closed false
noncomputable section
abbrev Y2:=List PySem.Expr
abbrev YB:=Option PySem.Addr
abbrev V8:=List PySem.Addr
abbrev Xf:=Option PySem.Value
abbrev SX:=List PySem.Value
abbrev Xa:=List PySem.Str
abbrev PE:=List (PySem.Str×Bool)
abbrev Vy:=Option Int
abbrev ZU:=List Bool
abbrev YK:=List Nat
abbrev UX:=List Int
abbrev V7:=List (List Int)
theorem Uz{p:Prop}(h:p:=by lia):p:=h
theorem Qj{p:Prop}(h:p:=by simp):p:=h
theorem TS{p:Prop}(h:p:=by kernel_rfl!):p:=h
theorem Vc{p:Prop}(h:p:=by omega):p:=h
theorem E3{p:Prop}(h:p:=by first|exact Or.inl rfl|exact Or.inr (Or.inl rfl)|exact Or.inr (Or.inr rfl)):p:=h
theorem Ro{p:Prop}(h:p:=by first|exact .inl rfl|exact .inr rfl|assumption):p:=h
theorem Ud{p:Prop}(h:p:=by first|exact Or.inl rfl|exact Or.inr rfl):p:=h
theorem Mc{p:Prop}(h:p:=by first|decide|lia):p:=h
theorem ED{p:Prop}(h:p:=by with_unfolding_all rfl):p:=h
theorem A1{p:Prop}(h:p:=by intro _;rfl):p:=h
theorem OY{p:Prop}(h:p:=by intro _ _;rfl):p:=h
theorem Fy{p:Prop}(h:p:=by decide +kernel):p:=h
def Qf:=@wpAny_bind
def Qv:=@wpAny_pure
def Wd:=@Nat.le_refl
def Qe:=@Option.some.inj
def Ut:=@Heap.lt_size
def Yl:=@List.size_toArray
def YN:=@if_pos
def Yk:=@List.map_cons
def YO:=@if_neg
def Lp:=@Bool.and_eq_true
def Oy:=@List.getElem?_append_right
def M1:=@Nat.ne_of_lt
def Hb:=@List.getElem?_set_ne
def VE:=@List.length_map
def xt:=@List.not_mem_nil
def OG:=@List.getElem?_set_self
def zU:=@PyProof.Rows.callWith_type1
def MJ:=@Bool.false_ne_true
def Hn:=@Heap.get?_update_other
def My:=@wpAny_newObj_type
def Hh:=@List.length_range
def VV:=@wpAny_field
def Og:=@mem_of_lookup
def Wl:=@Ne.symm
def ZN:=@Nat.zero_le
def rL:=@List.length_append
def NY:=@List.mem_append_right
def Nn:=@List.getElem?_map
def Dz:=@List.length_cons
def C7:=@List.getElem?_take_of_lt
def F2:=@Heap.get?_update_self
def YM:=@Nat.le_trans
def P0:=@of_decide_eq_true
def Rr:=@wpAny_callSpecial?_slot
def Nx:=@wpAny_call_entry
def WI:=@wpAny_truthy_bool
def QZ:=@builtinLookup_eq_fast
def Uk:=@wpAny_seqItems
def Dw:=@wpAny_Call_Name_kw
def Rm:=@Nat.lt_irrefl
def MX:=@wpAny_pyIter_list
def cD:=@F.plain_max_loop
def G2:=@List.nil_append
def TQ:=@List.map_append
def wR:=@List.lookup_cons
def CK:=@wpAny_of_eq
def Nl:=@Heap.size_push
def zW:=@List.mem_of_mem_drop
def QU:=@Around.under_plainId
def RJ:=@codeAny_builtin
def GH:=@List.replicate_succ
def xg:=@sizeLine_eq
def GK:=@wpAny_specialOf
def pQ:=@typeLookup_type
def CE:=@List.of_mem_zip
def Dx:=@Nat.le_succ
def Nd:=@Calls.spliced_nil
def A0:=@List.mem_of_mem_take
def Ee:=@F.slot_tuple_iterator_next
def FD:=@wpAny_mono
def Tr:=@wpAny_holding
def NV:=@plainId_quiet
def CP:=@PyProof.Rows.slot_tuple_getitem
def Eh:=@List.length_take
def NM:=@List.getElem_mem
def CQ:=@List.getElem?_replicate
def L8:=@wpAny_setField_rec
def Pa:=@wpAny_pyIter_tuple
def NK:=@Obj.data_mapFields
def VG:=@Calls.spliced_cons
def FU:=@List.append_nil
def HA:=@List.any_cons
def NI:=@List.flatten_cons
def Vb:=@isSubtype_type
def M4:=@Nat.lt_succ_self
def Pp:=@List.map_reverse
def El:=@List.getElem?_range
def zY:=@List.all_cons
def Dt:=@wpAny_updateSeq
def TM:=@wpAny_letGo
def M8:=@wpAny_typeOf
def rU:=@F.slot_zip_next
def RP:=@wpAny_rule
def vi:=@call_meets
def zD:=@wpAny_isInstance
def O6:=@List.ext_getElem
def OE:=@wpAny_standAt
def Rp:=@wpAny_attempt
def PQ:=@Nat.le_max_left
def Cv:=@Bool.or_eq_true
def M0:=@wpAny_tryCatch
def AA:=@wpAny_setField
def Hw:=@Int.emod_lt_of_pos
def Ei:=@F.plain_reversed_new
def Pn:=@F.args_object_init_2
def NX:=@List.drop_eq_getElem_cons
def zC:=@W.mg_of
def Q8:=@wpAny_assign_Name
def LP:=@Nat.lt_succ_of_lt
def GI:=@List.reverse_cons
def Pc:=@F.args_tuple_mul_2
def Cs:=@F.args_tuple_add_2
def Om:=@AutoSeq1.wpAny_loadPart'
def M7:=@List.filter_cons
def tW:=@List.all_reverse
def Dy:=@F.entry_tuple_mul
def Pw:=@F.entry_tuple_add
def tI:=@W.callWith_K
def wq:=@Nat.ne_of_gt
def GR:=@F.slot_tuple_mul
def OU:=@F.slot_tuple_add
def WJ:=@F.entry_max_loop
def xv:=@List.take_of_length_le
def M3:=@Calls.callWith_builtin
def Ft:=@wpAny_ite_false
def Em:=@Obj.isFreed_of_fields
def WA:=@List.getElem?_reverse
def Dp:=@Int.mul_nonneg
def HD:=@wpAny_updateSeq_pair
def Pm:=@Heap.SameBut.update
def Oj:=@wpAny_onRaise
set_option autoImplicit true
section
set_option Elab.async false
set_option linter.all false
set_option maxRecDepth 100000
namespace L2
open PySem PySem.Spec PyProof.Rows
abbrev Key:=Sum Int Str
noncomputable def yA:Key->Value->Bool|.inl k,v=>Value.isInt k v|.inr x,v=>Value.isStrOf x v
noncomputable def Yd(w:World):Key->Int|.inl k=>hashInt k|.inr x=>hashStr w x
theorem bD:∀{k:Key}{v:Value},yA k v=true->(∃i t,k=Sum.inl i/\v=Value.int i t)\/(∃x t,k=Sum.inr x/\v=Value.str x t)|.inl i,v,h=>by obtain⟨t,e⟩:=Value.isInt_shape (k:=i) (v:=v) h;exact .inl ⟨i,t,rfl,e⟩|.inr x,v,h=>by obtain⟨t,e⟩:=Value.isStrOf_shape (x:=x) (v:=v) h;exact .inr ⟨x,t,rfl,e⟩
theorem Q0l(i:Int)(t:Tok):yA (.inl i) (.int i t)=true:=by simp[yA,Value.isInt]
theorem Q1h(a b:Int):decide ((Sum.inl a:Key)=Sum.inl b)=(a == b):=by by_cases e:a=b;subst e;simp;have h:¬(Sum.inl a:Key)=Sum.inl b:=λq=>e<|Sum.inl.inj q;rw[VY h];exact(beq_eq_false_iff_ne.mpr e).symm
theorem Q2A(a b:Str):decide ((Sum.inr a:Key)=Sum.inr b)=decide (a=b):=by by_cases e:a=b;subst e;simp;have h:¬(Sum.inr a:Key)=Sum.inr b:=λq=>e<|Sum.inr.inj q;rw[VY h,VY e]
theorem M5(a:Int)(b:Str):decide ((Sum.inl a:Key)=Sum.inr b)=false:=VY (λq=>nomatch q)
theorem M6(a:Str)(b:Int):decide ((Sum.inr a:Key)=Sum.inl b)=false:=VY (λq=>nomatch q)
def ng(prog:Program)(w:World):PySem.KeyKind prog w Key where
 is:=yA
 hash:=Yd w
 inj:=λv a b ha hb=>by
  rcases bD ha with ⟨i,t,rfl,rfl⟩|⟨x,t,rfl,rfl⟩
  rcases bD hb with ⟨j,u,rfl,e⟩|⟨y,u,rfl,e⟩
  injection e with e1 _;rw[e1];exact nomatch e;rcases bD hb with ⟨j,u,rfl,e⟩|⟨y,u,rfl,e⟩
  exact nomatch e;injection e with e1 _;rw[e1]
 byValue:=λk v h=>by rcases bD h with ⟨i,t,rfl,rfl⟩|⟨x,t,rfl,rfl⟩<;>rfl
 pyHash:=λhv h=>by
  rcases bD hv with ⟨i,t,rfl,rfl⟩|⟨x,t,rfl,rfl⟩
  exact wpAny_pyHash_int h;exact wpAny_pyHash_str h
 eqBool:=λhu hv h=>by
  rcases bD hu with ⟨i,t,rfl,rfl⟩|⟨x,t,rfl,rfl⟩
  rcases bD hv with ⟨j,u,rfl,rfl⟩|⟨y,u,rfl,rfl⟩
  rw[Q1h] at h;exact wpAny_eqBool_int h;rw[M5] at h;exact SeqAt.EqAt.int_str i t y u _ _ _ _ h;rcases bD hv with ⟨j,u,rfl,rfl⟩|⟨y,u,rfl,rfl⟩
  rw[M6] at h;exact SeqAt.EqAt.str_int x t j u _ _ _ _ h;rw[Q2A] at h;exact wpAny_eqBool_str h
 «strs» := λk x t v h=>by
  rcases bD h with ⟨i,u,rfl,e⟩|⟨y,u,rfl,e⟩
  exact nomatch e;injection e with e1 _;subst e1;cases v<;>rfl
theorem mw(prog:Program)(w:World)(i:Int)(t:Tok):(ng prog w).is (.inl i) (.int i t)=true:=Q0l i t
inductive V where
 |aP|bl (b:Bool)|int (i:Int)|str (x:Str)|byt (b:Array UInt8)|JK (b:UInt64)|ref (a:Addr)|ty (n:String)
 deriving DecidableEq
def RelV:V->Value->Prop|.aP,u=>u=Value.none|.bl b,u=>u=Value.bool b|.int i,u=>∃t,u=Value.int i t|.str x,u=>∃t,u=Value.str x t|.byt b,u=>∃t,u=Value.bytes b t|.JK b,u=>∃t,u=Value.float b t|.ref a,u=>u=Value.ref a|.ty n,u=>u=Value.type n
abbrev Vals:List V->SX->Prop:=Paired RelV
inductive HO where
 |lst (xs:List V)|tup (xs:List V)|dK (kvs:List (Key×V)) (ep:Nat)|dT (kvs:List (List Key×V))|set (S:Int->Bool) (n:Nat)|ins (C dx:Addr) (fs:List (Str×V))|own (x:Addr)|xd (fs:List (Str×V))|met (f x:Addr)|rng (lo hi:Int)|frz (o:Obj) (u:HO)|tbl (ps:Array Value)|ext (φ:Heap->Prop)
abbrev Hp:=Addr->Option HO
def LH(h:Heap)(a:Addr)(items:Array Value):Prop:=∃o,h.get? a=some o/\o.cls=.type "tuple" /\ (∃n,o.data=.seq items n)/\o.dict=none
theorem LH.tup(x:LH h a items):IsTup h a items:=let ⟨o,ho,hc,hd,_⟩:=x;⟨o,ho,hc,hd⟩
noncomputable def Wq(h:Heap)(H:Hp):V8:=(List.range h.objs.size).filter λa=>(H a).isSome
def Ci(h:Heap)(H:Hp):Heap:=W.hideAll h (Wq h H)
theorem zQ(h:Heap)(H:Hp):(Ci h H).objs.size=h.objs.size:=W.hideAll_size _ _
theorem Cj(e:h.get? b=some o)(n:H b=none):(Ci h H).get? b=some o:=W.hideAll_get _ e λhm=>by have q:(H b).isSome=true:=(List.mem_filter.mp hm).2;rw[n] at q;simp at q
theorem Gz(e:(Ci h H).get? b=some o):h.get? b=some o/\H b=none:=by have e':h.get? b=some o:=W.of_hideAll (Wq h H) e;refine⟨e',?_⟩;cases q:H b with|none=>rfl|some x=>have hm:b∈Wq h H:=List.mem_filter.mpr ⟨List.mem_range.mpr<|Ut e',by simp[q]⟩;have z:(Ci h H).get? b=none:=W.hideAll_none (Wq h H) hm;rw[z] at e;cases e
structure Mod(K:W.Frag)(mg:Str->Xf)(base:Heap):Prop where
 lG:K.In base
 glob:base.Ns mainGlobals mg
 blt:∃mb,base.Ns builtinsNs mb/\∀x:Str,x≠"__name__" -> mb x=bootBuiltins x
 nolimit:base.NoLimit
noncomputable def oq(l:List Env):V8:=l.filterMap (·.frame)
def ij(sc:Scope)(x:Str):Prop:=sc.names.lookup x=some .local\/sc.names.lookup x=some .cell\/sc.names.lookup x=some .free
def Loc(sc:Scope)(x:Str):Prop:=sc.names.lookup x=some .local\/sc.names.lookup x=some .cell
def Look(env:Env)(h:Heap)(m:Str->Xf)(x:Str)(u:Value):Prop:=(env.kindOf x=some .local/\m x=some u)\/((env.kindOf x=some .cell\/env.kindOf x=some .free)/\∃c,env.cells.lookup x=some c/\h.IsCell c (some u))
section
variable{X:Cx}{pins:List (Addr×Obj)}{σ:List (Option V)}{H H':Hp}{s:Shared}{h':Heap}
theorem oN{N:Xa}(hN:N.Nodup){i j:Nat}{x:Str}(a:N[i]?=some x)(b:N[j]?=some x):i=j:=by obtain⟨h1,e1⟩:=List.getElem?_eq_some_iff.mp a;obtain⟨h2,e2⟩:=List.getElem?_eq_some_iff.mp b;exact(List.getElem_inj hN).mp (e1.trans e2.symm)
end
theorem sT{α:Type}{t:Sem α}{Q Q':α->Shared->Prop}(h:wpAny M A t Q E s)(hQ:∀a s,Q a s->Q' a s):wpAny M A t Q' E s:=FD h hQ λ_ _ x=>x
theorem Cb(ho:s.heap.get? it=some o)(hc:o.cls=.type n)(hd:o.data=.fields vs)
    (hn:["enumerate","zip","dict_itemiterator","dict_reverseitemiterator","odict_iterator","itertools.zip_longest","itertools.pairwise"].contains n=false) (hQ:Q () s):wpAny M A (letOwnedTupleGo tg (.ref it) u) Q E s:=by
  unfold letOwnedTupleGo
  cases tg<;>first
    |exact Qv hQ
    | (cases u<;>first
        |exact Qv hQ
        | (refine Qf (wpAny_load ho ?_)
           rw[hc,hd]
           show wpAny M A (if (["enumerate","zip","dict_itemiterator","dict_reverseitemiterator","odict_iterator","itertools.zip_longest","itertools.pairwise"].contains n&&vs[0]? == some (rawInt _))=true then _ else _) Q E s
           rw[YO (by intro h;rw[hn,Bool.false_and] at h;cases h)]
           exact Qv hQ))
section
variable{X:Cx}{a b c:Expr}{ta tb tc:TE}{pos:Pos}
theorem rV(b:Expr)(h:op≠.In:=by decide)(h2:op≠.NotIn:=by decide):behindInMarks op b=false:=by
 have e1:(op == CmpOp.In)=false:=by cases op<;>first|rfl|exact absurd rfl h
 have e2:(op == CmpOp.NotIn)=false:=by cases op<;>first|rfl|exact absurd rfl h2
 cases b<;>simp[behindInMarks,e1,e2]
theorem oG:(sizeLine:Nat)<2 ^ 63:=by rw[xg];decide
end
structure zq(h:Heap)(x dx C:Addr)(mA:Str->Xf):Prop where
 obj:h.get? x=some (W.instObj C dx)
 ns:h.Ns1 dx mA
 ne:dx≠x
theorem qE{h:Heap}{dx:Addr}{mA:Str->Xf}(n:h.Ns1 dx mA):∃od,h.get? dx=some od/\∀name,W.lookIn name od=some (mA name):=by
 obtain⟨o,es,ep,ho,hd,hk,_,hm⟩:=n;refine⟨o,ho,λname=>?_⟩;have e:=hm name;unfold nsFind findBy at e;rw[<-Array.find?_toList] at e;unfold W.lookIn;rw[hd];dsimp only;split;rename_i y q;rw[q] at e;exact congrArg some e;rename_i q;rw[q] at e;have a:es.toList.any (·.refKey)=false:=by rw[List.any_eq_false];intro y hy;obtain⟨z,t,XM⟩:=hk y<|Array.mem_toList_iff.mp hy;simp[DictEntry.refKey,XM]
 have a':¬es.toList.any (·.refKey)=true:=by rw[a];exact MJ
 rw[YO a'];exact congrArg some e
theorem zq.look(I:zq h x dx C mA):∃od,W.InstAt h x (W.instObj C dx) C (some od)/\∀name,W.lookIn name od=some (mA name):=
 let ⟨od,ho,hl⟩:=qE I.ns
 ⟨od,⟨I.obj,rfl,rfl,ho⟩,hl⟩
section
variable{prog:Program}{w:World}{A:Around}{E:Tv}{s:Shared}{K:W.Frag}{x dx C f:Addr}{mA:Str->Xf}{name:Str}{v:Value}
theorem get_map(X:K.In s.heap)(I:zq s.heap x dx C mA)(hg:W.plainGet K C name=true)(hh:W.hasDictIn K C=true)
  (ha:W.findIn K (.ref C) name=some none) (hv:mA name=some v) (yu:W.handedIn v=true) (h:Q v {s with toks:=s.toks+1}) :
  wpAny (model prog w) A (getAttr (.ref x) name expr) Q E s:=by
 obtain⟨od,J,hl⟩:=I.look;exact W.get_value X J (W.plainGet_of hg).1 (W.findObj_own hh ha rfl (by rw[hl,hv])) yu h
theorem Ca(X:K.In s.heap)(I:zq s.heap x dx C mA)(hg:W.plainGet K C name=true)
  (hf:W.findIn K (.ref C) name=some (some<|.ref f)) (ht:W.isFn K (.ref f)=true) (hv:mA name=none) (h:Q (.ref f,[.ref x]) s) :
  wpAny (model prog w) A (getMethod (.ref x) name pl) Q E s:=by
 obtain⟨od,J,hl⟩:=I.look;exact W.method_fn X J (W.plainGet_of hg).1 (W.plainGet_of hg).2 hf (beq_iff_eq.mp ht) (by show (W.lookIn name od).map (·.isSome)=some false;rw[hl,hv];rfl) h
theorem Hi(X:K.In s.heap)(I:zq s.heap x dx C mA)
  (hs:W.findIn K (.ref C) "__setattr__" = some (some<|.builtin "object.__setattr__")) (hp:W.plainOver K C=true) (ht:W.takerIn K C name=some none) (hh:W.hasDictIn K C=true)
  (hw:PySem.Within mA ns) (hsz:ns.length<=sizeLine)
  (h:∀h',zq h' x dx C (λy=>if y=name then some v else mA y)->Heap.SameBut dx s.heap h'->Q () {s with heap:=h',toks:=s.toks+2}) :
  wpAny (model prog w) A (setAttr (.ref x) name v) Q E s:=by
 obtain⟨od,J,hl⟩:=I.look;refine W.set_plain X J hs<|W.osa_open (s:={s with toks:=s.toks+1}) (r:=none) X J hp ht λb=>?_;obtain⟨cd,hc,qx⟩:=W.any_some hh;have hx:s.heap.get? x=some ⟨.ref C,some dx,.plain,#[]⟩:=I.obj;refine Qf<|Qv<|Qf<|Qf<|wpAny_loadPart hx<|Qf<|W.Looks.here (s:={s with toks:=s.toks+1}) (W.looks_clsIn X hc) ?_;rw[qx];refine Qv (a:=some dx)<|Qf<|Qv<|Qf ?_;refine wpAny_nsSet1 (s:={s with toks:=s.toks+1}) I.ns λh' Qc j2=>?_;obtain⟨oD,Zr,Zq,SO,So,Sk⟩:=Qc.count<|PySem.Within.cons name v hw;refine Qf<|wpAny_lookBehind SO (by rw[So];exact pastItsLine_dict<|YM Sk (by rw[Dz];omega)) ?_;exact Qv (h _ ⟨(j2.2 _<|Wl I.ne).trans I.obj,Qc,I.ne⟩ j2)
theorem C0(X:K.In s.heap)(hm:W.makesIn K C=true)
  (hi:W.findIn K (.ref C) "__init__" = some (some<|.ref f)) (hf:W.typeIn K (.ref f)=some (.type "function"))
  (h:codeAny (model prog w) (A.under<|.builtin "type.__call__" ⟨.ref C::vs,kw⟩) (.call (.ref f) ⟨.ref (s.heap.objs.size+1)::vs,kw⟩) (W.InitBack (s.heap.objs.size+1) R) {s with heap:=(s.heap.push W.emptyDict).push (W.instObj C s.heap.objs.size)}) :
  codeAny (model prog w) A (.call (.ref C) ⟨vs,kw⟩) R s:=by
 obtain⟨hh,g,d,t,os⟩:=s;exact W.make_core (W.makes_of X hm) (W.looks_findIn X hi) (λself=>W.bind_fn X self hf) (.inl rfl) h
end
structure AS(K:W.Frag)(C:Addr):Prop where
 pg:W.plainGet K C Str.empty=true
 hd:W.hasDictIn K C=true
 po:W.plainOver K C=true
 sa:W.findIn K (.ref C) "__setattr__" = some (some<|.builtin "object.__setattr__")
theorem AS.get{K:W.Frag}{C:Addr}(c:AS K C)(f:Str):W.plainGet K C f=true:=c.pg
def iF(K:W.Frag)(C:Addr)(f:Str):Prop:=W.findIn K (.ref C) f=some none
theorem iF.za{K:W.Frag}{C:Addr}{f:Str}(n:iF K C f):W.takerIn K C f=some none:=by unfold W.takerIn;rw[show W.findIn K (.ref C) f=some none from n];rfl
structure Meth(K:W.Frag)(C:Addr)(m:Str)(f:Addr):Prop where
 at_:W.findIn K (.ref C) m=some (some<|.ref f)
 fn:W.isFn K (.ref f)=true
 kp:W.keepIn K (.ref f)=true
section
variable{X:Cx}{pins:List (Addr×Obj)}{σ:St}{H:Hp}{s:Shared}{a C dx:Addr}{fs:List (Str×V)}{f:Str}{v:V}{A:Around}{E:Tv}
theorem xE(hb:attributeBase e f env (eval e env)=eval e env)(h:wpAny (model prog w) A (eval e env) (λo aQ=>wpAny (model prog w) A (getAttr o f true) Q E aQ) E s):wpAny (model prog w) A (eval (.Attribute e f pos) env) Q E s:=
 Attribute_any_ h (by rw[arm_eval_Attribute,hb])
end
structure bA(k:Nat)(A:Around):Prop where
 hd:A.handled=none
 dp:A.depth+3*k+5<recursionLimit
 un:A.units+16*k+200<cLine
theorem bA.mono(r:bA k A)(h:j<=k):bA j A:=⟨r.hd,by have:=r.dp;omega,by have:=r.un;omega⟩
theorem bA.deeper(r:bA (k+1) A)(env:Env):bA k (A.deeper env):=⟨r.hd,by have:=r.dp;show A.depth+1+3*k+5<_;omega,by have:=r.un;show A.units+3+16*k+200<_;omega⟩
theorem wA{A:Around}{C:Addr}{us:SX}{kw:List (Str×Value)}:(A.under<|.builtin "type.__call__" ⟨.ref C::us,kw⟩).depth=A.depth+1:=by first|rfl|simp[Around.under,Code.weight,Code.isCreation,Code.isGuard,Code.isCaller,Code.frames,Code.isFrame,guardIds]
theorem wB{A:Around}{C:Addr}{us:SX}{kw:List (Str×Value)}:(A.under<|.builtin "type.__call__" ⟨.ref C::us,kw⟩).units=A.units+1:=by first|rfl|simp[Around.under,Code.cUnits,Code.frames,Code.isFrame]
theorem bA.make(r:bA (k+1) A)(C:Addr)(us:SX)(kw:List (Str×Value)):bA k (A.under<|.builtin "type.__call__" ⟨.ref C::us,kw⟩):=⟨r.hd,by have:=r.dp;rw[wA];omega,by have:=r.un;rw[wB];omega⟩
theorem bA.depth(r:bA k A):A.depth<recursionLimit:=by have:=r.dp;omega
theorem bA.units(r:bA k A):A.units+64<cLine:=by have:=r.un;omega
def Binds(K:W.Frag)(fd:FuncData)(ps:Xa)(ds:SX):Prop:=∀(s:Shared)(us:SX),K.In s.heap->(us++ds).length=ps.length->BindsTo s fd ⟨us,[]⟩ (ps.zip<|us++ds)
theorem Binds.all{K:W.Frag}{fd:FuncData}{ps:Xa}(h:∀us:SX,us.length=ps.length->bindArgs fd ⟨us,[]⟩=pure (ps.zip us)):Binds K fd ps []:=λs us _ hl=>by rw[FU] at hl ⊢;exact .of_eq (h us hl)
section
variable{X:Cx}{CX:CXT}{k:Nat}{f C:Addr}{fd:FuncData}{ps:Xa}{sp:Sp}{dvs:List V}{ds:SX}{E:XK}{x m:Str}{p pos ZO:Pos}{e o:Expr}{es:Y2}{ta:TE}{t:TA}
structure Mk(K:W.Frag)(C f:Addr):Prop where
 makes:W.makesIn K C=true
 init:W.findIn K (.ref C) "__init__" = some (some<|.ref f)
 fn:W.isFn K (.ref f)=true
 kp:W.keepIn K (.ref C)=true
end
structure dZ(N P:Xa)(sc:Scope):Prop where
 kind:sc.kind=.function
 co:sc.isCoroutine=false
 gen:sc.isGenerator=false
 nd:N.Nodup
 pre:N.take P.length=P
 par:∀x∈P,sc.names.lookup x=some .local\/sc.names.lookup x=some .cell
 NB:∀y∈sc.names,y.2≠.free
theorem qh{kindOf:Str->Option NameKind}{x:Str}:∀{binds:List (Str×Value)}{m:Str->Xf},(∀v,(x,v)∉binds)->bindL kindOf binds m x=m x
|[],_,_=>rfl| (n,v)::r,m,h=>by
 unfold bindL;rw[qh λw hw=>h w<|Pe _ hw];split;have:x≠n:=by rintro rfl;exact h v R9
 simp[this];rfl
theorem qc{kindOf:Str->Option NameKind}{x:Str}:∀{binds:List (Str×Value)}{m:Str->Xf},(∀v,(x,v)∉binds)->bindC kindOf binds m x=m x
|[],_,_=>rfl| (n,v)::r,m,h=>by
 unfold bindC;rw[qc λw hw=>h w<|Pe _ hw];split;rfl;have:x≠n:=by rintro rfl;exact h v R9
 simp[this]
theorem qe{kindOf:Str->Option NameKind}{x:Str}{v:Value}:∀{P:Xa}{vs:SX}{i:Nat}{m:Str->Xf},P.Nodup->P[i]?=some x->vs[i]?=some v->kindOf x=some .local->bindL kindOf (P.zip vs) m x=some v
|[],_,_,_,_,h,_,_=>by simp at h|_::_,[],_,_,_,_,h,_=>by simp at h|p::P,w::vs,0,m,nd,h1,h2,hk=>by simp at h1 h2;subst h1;subst h2;show bindL kindOf ((p,w)::P.zip vs) m p=_;unfold bindL;rw[qh λv hv=>(List.nodup_cons.mp nd).1 (CE hv).1,YN hk];simp|p::P,w::vs,i+1,m,nd,h1,h2,hk=>by show bindL kindOf ((p,w)::P.zip vs) m x=_;unfold bindL;exact qe (i:=i) (List.nodup_cons.mp nd).2 (by simpa using h1) (by simpa using h2) hk
theorem qb{kindOf:Str->Option NameKind}{x:Str}{v:Value}:∀{P:Xa}{vs:SX}{i:Nat}{m:Str->Xf},P.Nodup->P[i]?=some x->vs[i]?=some v->kindOf x≠some .local->bindC kindOf (P.zip vs) m x=some v
|[],_,_,_,_,h,_,_=>by simp at h|_::_,[],_,_,_,_,h,_=>by simp at h|p::P,w::vs,0,m,nd,h1,h2,hk=>by simp at h1 h2;subst h1;subst h2;show bindC kindOf ((p,w)::P.zip vs) m p=_;unfold bindC;rw[qc λv hv=>(List.nodup_cons.mp nd).1 (CE hv).1,YO hk];simp|p::P,w::vs,i+1,m,nd,h1,h2,hk=>by show bindC kindOf ((p,w)::P.zip vs) m x=_;unfold bindC;exact qb (i:=i) (List.nodup_cons.mp nd).2 (by simpa using h1) (by simpa using h2) hk
theorem tV{sc:Scope}{n:Nat}{x:Str}(h:sc.names.lookup x=some .cell):∃c,(cellsFrom n sc.names []).lookup x=some c:=by have q:=W.cellsFrom_some sc.names n []<|.inl h;exact Option.isSome_iff_exists.mp q
end L2
namespace HT
open PySem PyProof.Rows
section
variable{prog:Program}{w:World}{A:Around}{E:Tv}{s:Shared}
theorem Fi(ht:IsTup s.heap t vs.toArray)(hb:IsTup s.heap b ws.toArray)(hv:vs≠[])
  (h1:ws=[]->Q (.ref t) s) (h2:ws≠[]->Q (.ref s.heap.objs.size) {s with heap:=s.heap.push {cls:=.type "tuple",data:=.seq (vs++ws).toArray}})
  (hsz:vs.length+ws.length<=sizeLine):wpAny (model prog w) A (binaryOp .Add (.ref t)<|.ref b) Q E s:=by
 obtain⟨⟨cls,dd,data,sl⟩,ho,hc,n,hd⟩:=id ht;obtain⟨⟨W3,VA,data2,Qp⟩,ER,rD,n2,hd2⟩:=id hb;simp only at hc hd rD hd2;subst hc hd rD hd2;have e:vs.toArray++ws.toArray=(vs++ws).toArray:=Qj;by_cases hw:ws=[];exact concat_meets ⟨_,ho,rfl⟩ ⟨_,ER,rfl⟩ noFill_tuple_add seq_tuple_add OU Pw (Cs _ _) (tuple_addW1 t b vs.toArray ws.toArray n n2 dd VA sl Qp (by simpa using hv) (by simp[hw])) ⟨ho,ER,h1 hw⟩;refine concat_meets ⟨_,ho,rfl⟩ ⟨_,ER,rfl⟩ noFill_tuple_add seq_tuple_add OU Pw (Cs _ _) (tuple_addW2 t b vs.toArray ws.toArray n n2 dd VA sl Qp (by simpa using hv) (by simpa using hw) (by rw[Yl,Yl];exact hsz)) ⟨ho,ER,?_⟩;rw[e];exact h2 hw
def eh(n d:Nat):Vy->Nat|none=>d|some v=>if v<0 then(v+(n:Int)).toNat else min v.toNat n
theorem Q1s(n d:Nat)(hd:d<=n)(o:Vy):eh n d o<=n:=by cases o with|none=>exact hd|some v=>show (if v<0 then(v+(n:Int)).toNat else min v.toNat n)<=n;by_cases hv:v<0;rw[YN hv];omega;rw[YO hv];exact Nat.min_le_right _ _
theorem xP(v:Int)(n d:Nat):(if v<0 then max (v+(n:Int)) 0 else min v (n:Int))=((eh n d (some v):Nat):Int):=by show (if v<0 then max (v+(n:Int)) 0 else min v (n:Int))=(((if v<0 then(v+(n:Int)).toNat else min v.toNat n):Nat):Int);by_cases hv:v<0;simp only[if_pos hv];omega;simp only[if_neg hv];omega
theorem vN(lo hi:Vy)(n:Nat):Builtin.Slice.sliceAdjust lo hi 1 (n:Int)=(((eh n 0 lo:Nat):Int),((eh n n hi:Nat):Int)):=by
 have h1:¬((1:Int)<0):=Vc;unfold Builtin.Slice.sliceAdjust;simp only[h1,if_false];refine Prod.ext ?_ ?_;cases lo with|none=>rfl|some v=>exact xP v n 0
 cases hi with|none=>rfl|some v=>exact xP v n n
theorem Q1D(i j:Nat):Builtin.Slice.slicePlaces (i:Int) (j:Int) 1=j-i:=by unfold Builtin.Slice.slicePlaces;have h1:(1:Int) > 0:=Vc;simp only[h1,if_true,Int.ediv_one];split<;>omega
theorem pn(p:IsPart v o)(h:Q o s):wpAny (model prog w) A (Builtin.Slice.slicePartIndex v) Q E s:=by cases p with|none=>exact slicePart_none h|int i t=>exact slicePart_int h
theorem gQ{sl:Addr}{vl vu:Value}{lo hi:Vy}{n:Nat}{Q:Int×Int×Nat->Shared->Prop}(hs:s.heap.IsSliceOf sl vl vu .none)(pl:IsPart vl lo)(pu:IsPart vu hi)(h:Q (((eh n 0 lo:Nat):Int),1,eh n n hi-eh n 0 lo) s):wpAny (model prog w) A (Builtin.Slice.sliceApplied (.ref sl)<|pure (n:Int)) Q E s:=by obtain⟨os,MP,zO,lC⟩:=id hs;unfold Builtin.Slice.sliceApplied Builtin.Slice.sliceFields;refine Qf<|Qf<|VV MP lC (x:=vl) rfl<|Qf<|VV MP lC (x:=vu) rfl<|Qf<|VV MP lC (x:=.none) rfl<|Qv ?_;refine Qf<|slicePart_none ?_;show wpAny _ _ (if ((1:Int) == 0)=true then _ else _) _ _ s;rw[YO (by decide)];refine Qf<|pn pl<|Qf<|pn pu<|Qf<|Qv ?_;show wpAny _ _ (match Builtin.Slice.sliceAdjust lo hi 1 (n:Int) with|(lo,hi)=>pure (lo,(1:Int),Builtin.Slice.slicePlaces lo hi 1)) _ _ s;rw[vN lo hi n];show wpAny _ _ (pure (((eh n 0 lo:Nat):Int),(1:Int),Builtin.Slice.slicePlaces ((eh n 0 lo:Nat):Int) ((eh n n hi:Nat):Int) 1)) _ _ s;rw[Q1D];exact Qv h
theorem Du(xs:Array Value)(i k:Nat):((List.range k).filterMap λ(m:Nat)=>xs[((i:Int)+(m:Int)*1).toNat]?).toArray=((xs.toList.drop i).take k).toArray:=by
 have e:(λ(m:Nat)=>xs[((i:Int)+(m:Int)*1).toNat]?)=λm=>xs[i+m]?:=by funext m;have:((i:Int)+(m:Int)*1).toNat=i+m:=Vc;rw[this]
 rw[e];have:=pick_run xs i k;rw[List.filterMap_map] at this;have e2:((λx=>xs[x]?)∘λx=>i+x)=λm=>xs[i+m]?:=rfl;rw[e2] at this;rw[this]
theorem kA{t sl:Addr}{items:Array Value}{vl vu:Value}{lo hi:Vy}{Q:Tv}(ht:IsTup s.heap t items)(hs:s.heap.IsSliceOf sl vl vu .none)(pl:IsPart vl lo)(pu:IsPart vu hi)
  (hw:¬(eh items.size 0 lo=0/\eh items.size items.size hi=items.size))
  (h:Q (.ref s.heap.objs.size) {s with heap:=s.heap.push {cls:=.type "tuple",data:=.seq ((items.toList.drop<|eh items.size 0 lo).take<|eh items.size items.size hi-eh items.size 0 lo).toArray}})
  (hsz:items.size<=sizeLine):wpAny (model prog w) A (getItem (.ref t)<|.ref sl) Q E s:=by
 have yr:sizeOk (.seq ((items.toList.drop<|eh items.size 0 lo).take<|eh items.size items.size hi-eh items.size 0 lo).toArray):=by show ((items.toList.drop<|eh items.size 0 lo).take<|eh items.size items.size hi-eh items.size 0 lo).toArray.size<=sizeLine;rw[Yl,Eh,List.length_drop,Array.length_toList];omega
 have hj:eh items.size items.size hi<=items.size:=Q1s _ _ (Wd _) hi;obtain⟨os,MP,zO,lC⟩:=id hs;have Xm:s.TypeIs (.ref sl) "slice" := ⟨os,MP,zO⟩;unfold getItem;try with_reducible refine Tr ?_
 first|refine Qf (Qv ?_)|skip
 refine Qf<|wpAny_sequenceKey ht.typeIs (by decide) ?_;refine Qf<|Rr (name:=Str.ofString "__getitem__") ht.typeIs CP<|Nx CP ht.typeIs entry_tuple_getitem ?_<|args_tuple_getitem _ _;show wpAny _ _ (Builtin.Tuple.tupleItemsOf (.ref t) >>= _) _ _ s;refine Qf<|tupleItemsOf_ ht ?_;refine Qf<|M8 Xm ?_;rw[YN (by decide)];refine Qf<|gQ hs pl pu ?_;have SM:¬((((eh items.size 0 lo:Nat):Int) == 0&&(1:Int) == 1&&(eh items.size items.size hi-eh items.size 0 lo) == items.size)=true):=by intro q;rw[Lp,Lp] at q;have q1:((eh items.size 0 lo:Nat):Int)=0:=eq_of_beq q.1.1;have q2:eh items.size items.size hi-eh items.size 0 lo=items.size:=eq_of_beq q.2;exact hw ⟨Vc,Vc⟩
 show wpAny _ _ (if (((eh items.size 0 lo:Nat):Int) == 0&&(1:Int) == 1&&(eh items.size items.size hi-eh items.size 0 lo) == items.size)=true then _ else _) _ _ s;rw[YO SM,Du];first|exact Qf (m:=Builtin.Tuple.tupleExact _) (My (Qv ⟨_,rfl,Qv h⟩) yr)|exact Qf (m:=Builtin.Tuple.tupleExact _) (My (Qf<|Qv<|Qv ⟨_,rfl,Qv h⟩) yr)|exact Qf (Qf (m:=Builtin.Tuple.tupleExact _)<|My (Qv<|Qv ⟨_,rfl,Qv h⟩) yr)|exact Qf (Qf (m:=Builtin.Tuple.tupleExact _)<|My (Qv ⟨_,rfl,Qv h⟩) yr)
end
end HT
namespace L2
open PySem PySem.Spec PyProof.Rows
noncomputable def Qg(n:Nat)(i:Int):Option Nat:=if 0<=i then(if i<n then some i.toNat else none) else if -(n:Int)<=i then some (i+n).toNat else none
theorem rJ(h:Qg n i=some j):seqIndex? i n=some j/\j<n/\-(n:Int)<=i/\i<n:=by unfold Qg at h;by_cases h0:0<=i;rw[YN h0] at h;by_cases h1:i<n;rw[YN h1] at h;have e:i.toNat=j:=Qe h;exact⟨by rw[seqIndex_of h0 h1,e],Vc,Vc,h1⟩;rw[YO h1] at h;cases h;rw[YO h0] at h;by_cases h1:-(n:Int)<=i;rw[YN h1] at h;have e:(i+n).toNat=j:=Qe h;exact⟨by rw[seqIndex_neg Vc h1,e],Vc,h1,Vc⟩;rw[YO h1] at h;cases h
def mV(b:Expr):Prop:=∀o i,subscripted b false o i=operate [o,i] (getItem o i)
section
variable{X:Cx}{a b:Expr}{ta tb:TE}{pos:Pos}
theorem sM(lo hi:Vy)(n:Nat):(sliceBounds lo hi none n).1=((HT.eh n 0 lo:Nat):Int)/\(sliceBounds lo hi none n).2.1=((HT.eh n n hi:Nat):Int)/\(sliceBounds lo hi none n).2.2=1:=by
 refine⟨?_,?_,rfl⟩;cases lo with|none=>simp[sliceBounds,HT.eh]|some i=>simp only[sliceBounds,HT.eh,Option.getD_none,show (1:Int) > 0 by decide,if_true];by_cases h:i<0;simp only[h,if_true]<;>omega;simp only[h,if_false]<;>omega
 cases hi with|none=>simp[sliceBounds,HT.eh]|some i=>simp only[sliceBounds,HT.eh,Option.getD_none,show (1:Int) > 0 by decide,if_true];by_cases h:i<0;simp only[h,if_true]<;>omega;simp only[h,if_false]<;>omega
theorem pU(aO:SX)(lo hi:Vy):slicePick aO.toArray lo hi none=((aO.drop<|HT.eh aO.length 0 lo).take<|HT.eh aO.length aO.length hi-HT.eh aO.length 0 lo).toArray:=by obtain⟨h1,h2,h3⟩:=sM lo hi aO.toArray.size;unfold slicePick;rw[h1,h2,h3];simp only[sliceRange_one,pick_run,List.size_toArray]<;>rfl
noncomputable def ma:V->Bool|.aP=>true|.bl _=>true|.int _=>true|.str _=>true|_=>false
noncomputable def Fs:V->V->Bool|.aP,.aP=>true|.bl a,.bl b=>a == b|.bl a,.int b=>(if a then 1 else 0) == b|.int a,.bl b=>a == (if b then 1 else 0)|.int a,.int b=>a == b|.str a,.str b=>a == b|_,_=>false
theorem tIx(ry:RelV y u)(rx:RelV x v)(fy:ma y=true)(fx:ma x=true):SeqAt.EqAt A s u v (Fs y x):=by
 cases y with
 |aP=>cases ry;cases x with|aP=>cases rx;exact SeqAt.EqAt.same _|bl b=>cases rx;exact SeqAt.EqAt.none_bool b|int b=>obtain⟨t,rfl⟩:=rx;exact SeqAt.EqAt.none_int b t|str b=>obtain⟨t,rfl⟩:=rx;exact SeqAt.EqAt.none_str b t|_=>exact absurd (show false=true from fx) MJ
 |bl a=>cases ry;cases x with|aP=>cases rx;exact SeqAt.EqAt.bool_none a|bl b=>cases rx;exact SeqAt.EqAt.bool_bool a b|int b=>obtain⟨t,rfl⟩:=rx;exact SeqAt.EqAt.bool_int a b t|str b=>obtain⟨t,rfl⟩:=rx;exact SeqAt.EqAt.bool_str a b t|_=>exact absurd (show false=true from fx) MJ
 |int a=>obtain⟨t',rfl⟩:=ry;cases x with|aP=>cases rx;exact SeqAt.EqAt.int_none a t'|bl b=>cases rx;exact SeqAt.EqAt.int_bool a t' b|int b=>obtain⟨t,rfl⟩:=rx;exact SeqAt.EqAt.int_int a t' b t|str b=>obtain⟨t,rfl⟩:=rx;exact SeqAt.EqAt.int_str a t' b t|_=>exact absurd (show false=true from fx) MJ
 |str a=>obtain⟨t',rfl⟩:=ry;cases x with|aP=>cases rx;exact SeqAt.EqAt.str_none a t'|bl b=>cases rx;exact SeqAt.EqAt.str_bool a t' b|int b=>obtain⟨t,rfl⟩:=rx;exact SeqAt.EqAt.str_int a t' b t|str b=>obtain⟨t,rfl⟩:=rx;exact SeqAt.EqAt.str_str a t' b t|_=>exact absurd (show false=true from fx) MJ
 |_=>exact absurd (show false=true from fy) MJ
def EK(x:V)(u:Value):Bool:=match u with|.none=>Fs .aP x|.bool b=>Fs (.bl b) x|.int i _=>Fs (.int i) x|.str z _=>Fs (.str z) x|_=>false
theorem BG(r:RelV y u)(f:ma y=true):EK x u=Fs y x:=by cases y with|aP=>cases r;rfl|bl b=>cases r;rfl|int i=>obtain⟨t,rfl⟩:=r;rfl|str z=>obtain⟨t,rfl⟩:=r;rfl|_=>exact absurd (show false=true from f) MJ
theorem xD:∀{xs:List V}{us:SX},Vals xs us->xs.all ma=true->us.any (EK x)=xs.any λy=>Fs y x|_,_,.nil,_=>rfl|y::xs,u::us,.cons r t,f=>by rw[zY,Lp] at f;rw[HA,HA,BG r f.1,xD t f.2]
theorem uS(rx:RelV x v)(fx:ma x=true):∀{xs:List V}{us:SX},Vals xs us->xs.all ma=true->∀u∈us,SeqAt.EqAt A s u v (EK x u)|_,_,.nil,_=>λu hu=>by cases hu|y::xs,u::us,.cons r t,f=>λu' hu=>by rw[zY,Lp] at f;rcases List.mem_cons.mp hu with rfl|hu;rw[BG r f.1];exact tIx r rx f.1 fx;exact uS rx fx t f.2 u' hu
variable{o e:Expr}{es:Y2}{to:TE}{t:TA}{name:Str}{ZO bg:Pos}{T id:String}{r:V->List V->Hp->VK->Prop}
end
theorem Q01{α:Type}(l:List α):l.eraseIdx (l.length-1)=l.dropLast:=by
 induction l with
 |nil=>rfl|cons a r ih=>
  cases r with
  |nil=>rfl|cons b r=>
   have e:(a::b::r).length-1=((b::r).length-1)+1:=by have h1:(a::b::r).length=r.length+2:=rfl;have h2:(b::r).length=r.length+1:=rfl;omega
   rw[e,List.eraseIdx_cons_succ,ih];all_goals rfl
theorem foldl_rep(aO:SX):∀(k:Nat)(acc:SX),List.foldl (λx1 x2=>x1++x2) acc.toArray (List.replicate k aO.toArray)=(acc++(List.replicate k aO).flatten).toArray
|0,acc=>Qj|k+1,acc=>by
 have e:acc.toArray++aO.toArray=(acc++aO).toArray:=Qj;have e2:(acc++aO)++(List.replicate k aO).flatten=acc++(List.replicate (k+1) aO).flatten:=by rw[GH,NI,List.append_assoc]
 rw[<-e2,<-foldl_rep aO k (acc++aO),<-e,GH,List.foldl_cons]
section
variable{X:Cx}{pins:List (Addr×Obj)}{σ:St}{H:Hp}{s:Shared}{l b:Addr}{xs ys zs:List V}
theorem Q0y(h:n<=sizeLine):Builtin.List.listTooLong n=false:=by unfold Builtin.List.listTooLong;exact VY Vc
end
section
variable{X:Cx}
theorem len_rep{α:Type}(xs:List α)(k:Nat):(List.replicate k xs).flatten.length=k*xs.length:=by induction k with|zero=>simp|succ k ih=>rw[GH,NI,rL,ih,Nat.succ_mul,Nat.add_comm]
end
end L2
namespace Y5
open PySem PySem.W PySem.Calls PyProof.Rows
theorem mO:∀(ns:UX)(vs:SX),WellAll P h vs (ns.map WData.int)->IntsAre vs ns:=by intro ns;induction ns with|nil=>intro vs w;rw[List.map_nil] at w;cases w;exact .nil|cons n ns ih=>intro vs w;rw[Yk] at w;cases w with|cons a b=>cases a;exact .cons _ _ (ih _ b)
theorem Aq{l:OpenLaw}{n:Nat}(hn:l.most=some n){P:Params}{h:Heap}{args:List WData}{vals:SX}
  (FN:l.row.toRowW.claim.pre args=true) (X3:WellAll P h vals args) :
  ∃a vs ns,vals=[Value.ref a]/\args=[WData.list<|ns.map WData.int]/\h.get? a=some {cls:=.type "list",data:=.seq vs.toArray}/\IntsAre vs ns/\ns.length<=n:=by
 have hsh:WShape.hasAll [] args [.list .int]=true:=(pre_splitW FN).1;have hc:l.pre.holds [] {args:=args}=true:=(pre_splitW FN).2;obtain⟨d,r,rfl,h1,h2⟩:=hasAllW_cons hsh;obtain rfl:=hasAllW_nil h2;obtain⟨xs,rfl,h3⟩:=hasW_list h1;obtain⟨ns,rfl⟩:=items_int h3;have YL:ns.length<=n:=by
  unfold OpenLaw.pre at hc;have h4:(WTm.not<|.lt (.lit<|.int (n:Int))<|.len<|.arg 0).holds [] {args:=[.list<|ns.map .int]}=true:=by have h4:=(holds_andW hc).1;rw[hn] at h4;exact h4
  have h5:=condW_of h4<|w_not<|w_lt w_lit<|w_len_list<|w_arg rfl;rw[VE] at h5;refine Nat.le_of_not_lt λq=>?_;have q':(n:Int)<((ns.length:Nat):Int):=Vc;first| (rw[Qi q'] at h5;exact absurd h5 (by decide))| (simp at h5;omega)
 cases X3 with|cons w1 w2=>cases w2;cases w1 with|list ho Xp=>exact⟨_,_,ns,rfl,rfl,ho,mO ns _ Xp,YL⟩
theorem Ah(l:OpenLaw)(args:List WData):l.row.toRowW.claim.post args (.bool true) args=true:=postW_of (r:=l.row.toRowW) (X:=(true == true))
 (show WShape.has [] (.bool true) .bool=true by first|rfl|decide|simp[WShape.has,WShape.arms,WShape.armsAll])
 (show (WTm.eq .res<|.lit<|.bool true).value [] {args:=args,res:=some<|.bool true,after:=args}=some (.bool<|true == true) from w_eq_bool (w_res rfl) w_lit) rfl
theorem Q2E{l:OpenLaw}{n:Nat}{q:Program}{loose:Xa}{XP:(Str->Xf)->Heap->Prop}{YP:World->Heap->Prop}{d:DefRec}
  (hn:l.most=some n) (Xz:d.params.defaults=[])
  (call:∀(w:World)(Hm aQ:Shared)(mg mb:Str->Xf)(fa:Addr)(o:Obj)(pm cd doc:Value)(a:Addr)(vs:SX)(ns:UX),
   Ground q loose [] XP w Hm mg mb aQ.heap->YP w aQ.heap ->
   aQ.heap.get? fa=some o->o.data=.func (docDef d.name d.params d.body d.scope pm cd doc)->aQ.heap.CodeRec cd d.name->mg d.name=some (.ref fa) ->
   aQ.heap.get? a=some {cls:=.type "list",data:=.seq vs.toArray}->IntsAre vs ns->ns.length<=n->aQ.gens=#[] ->
   codeAny (model l.prog w) callerA (.call (.ref fa) ⟨[.ref a],[]⟩) (λr s'=>r=.ok (.ret<|.bool true)/\OldK aQ.heap s'.heap/\s'.os=aQ.os/\AllBare s'.gens) aQ) :
  WalkO q loose XP YP l.row.toRowW d [] (λf vs=>PySem.call f vs):=by
 intro w Hm aQ mg mb G Y fa o pm cd doc dV kV ho hd eZ hD SK hg args vals as FN abF hrd X3 JZ;obtain rfl:dV=.none:=Dflts.none hD Xz;obtain rfl:kV=.none:=Dflts.noKw hD;obtain⟨a,vs,ns,rfl,rfl,MM,hints,YL⟩:=Aq hn FN X3;refine enter_call<|codeAny_mono (call w Hm aQ mg mb fa o pm cd doc a vs ns G Y ho (fd_plain hd) eZ SK MM hints YL hg) λr s' hq=>?_;obtain⟨rfl,h2,h3,h4⟩:=hq;exact⟨.inl ⟨.bool true,.bool true,[],rfl,λ_=>rfl,.bool true,Ah l _,λ_=>⟨List.Pairwise.nil,λ_ hm=>(nomatch hm)⟩⟩,h2,h3,h4⟩
end Y5
namespace L2
open PySem PySem.Spec PyProof.Rows
def inClass(s:Stmt)(j:Nat):Stmt:=match s with|.ClassDef _ _ _ body _ _ _ _ _ _ _=>body.getD j (.Pass ⟨0,0,0,0⟩)|_=>.Pass ⟨0,0,0,0⟩
def cL(s:Stmt):Arguments:=match s with|.FunctionDef _ a _ _ _ _ _ _ _ _=>a|_=>{posonlyargs:=[],args:=[],vararg:=none,kwonlyargs:=[],kw_defaults:=[],kwarg:=none,defaults:=[]}
def bC(s:Stmt):List Stmt:=match s with|.FunctionDef _ _ b _ _ _ _ _ _ _=>b|_=>[]
def az(s:Stmt):Scope:=match s with|.FunctionDef _ _ _ _ _ _ sc _ _ _=>sc|_=>{kind:=.function,names:=[],isGenerator:=false,isCoroutine:=false}
structure EF(K:W.Frag)(x P8:Str)(st:Stmt)(f:Addr)(fd:FuncData):Prop where
 ex:∃(oc:Value)(od:YB)(kV doc pm:Value)(an:YB)(jK ct:Value)(Ot:Array (Option Value)),fd=W.fnOf x P8 (cL st) (bC st) (az st) .none kV doc pm an jK ct/\K.lookup f=some ⟨oc,od,.func fd,Ot⟩/\W.codeIn K jK P8=true
 kp:W.keepIn K (.ref f)=true
section
variable{P:Program}{w:World}{K:W.Frag}{mg:Str->Xf}{base:Heap}
theorem EF.binds{x P8:Str}{st:Stmt}{f:Addr}{fd:FuncData}{ps:Xa}(F:EF K x P8 st f fd)(h:∀(kV doc pm:Value)(an:YB)(jK ct:Value)(us:SX),us.length=ps.length->bindArgs (W.fnOf x P8 (cL st) (bC st) (az st) .none kV doc pm an jK ct) ⟨us,[]⟩=pure (ps.zip us)):Binds K fd ps []:=by obtain⟨oc,od,kV,doc,pm,an,jK,ct,Ot,rfl,lk,eZ⟩:=F.ex;exact .all (h kV doc pm an jK ct)
theorem B7{x P8:Str}{st:Stmt}{f:Addr}{oc:Value}{od an:YB}{Ot:Array (Option Value)}{kV doc pm jK ct:Value}(l:K.lookup f=some ⟨oc,od,.func<|W.fnOf x P8 (cL st) (bC st) (az st) .none kV doc pm an jK ct,Ot⟩)(c:W.codeIn K jK P8=true) (k:W.keepIn K (.ref f)=true):EF K x P8 st f (W.fnOf x P8 (cL st) (bC st) (az st) .none kV doc pm an jK ct):=⟨⟨oc,od,kV,doc,pm,an,jK,ct,Ot,rfl,l,c⟩,k⟩
end
end L2
end
section
set_option Elab.async false
set_option linter.all false
set_option maxRecDepth 100000
namespace L2
open PySem PySem.Spec PyProof.Rows
def QK(i:Expr):Prop:=∀ov iv,subscripted i false ov iv=operate [ov,iv] (getItem ov iv)
theorem Hl{prog:Program}{w:World}{A:Around}{E:Tv}{s:Shared}{env:Env}{value slice:Expr}{pos:Pos}{T id:String}{Q:Tv}
  (hl:typeLookup (.type T) "__getitem__" = pure (some<|.builtin id)) (hs:QK slice)
  (h:wpAny (model prog w) A (eval value env) (λo aQ=>wpAny (model prog w) A (eval slice env) (λi iD=>iD.TypeIs o T/\wpAny (model prog w) A (getItem o i) Q E iD) E aQ) E s) :
  wpAny (model prog w) A (eval (.Subscript value slice pos) env) Q E s:=by
 refine Subscript_<|FD h (λo aQ bz=>FD bz (λi iD iB=>?_) λ_ _ x=>x) λ_ _ x=>x;obtain⟨hT,iB⟩:=iB;unfold subscriptTail;refine Qf ?_;rw[getitemInPython_of_ne hT.not_modules];refine Qf<|GK hT hl ?_;have fin:wpAny (model prog w) A (subscripted slice false o i) (λr DX=>wpAny (model prog w) A (letTemporaryGo value o r >>= λ_=>pure r) Q E DX) E iD:=by rw[hs o i];exact wpAny_operating (FD iB (λr DX kD=>Qf<|wpAny_letTemporaryGo<|Qv kD) λ_ _ x=>x)
 first|exact Qv (Qf fin)|exact Qf (Qv<|Qf fin)|exact Qf fin
end L2
end
section
namespace VP
theorem gl{P:Prop}(h:∀Q:Prop,Q=P->Q):P:=h P rfl
inductive D where
 |aP|bl (b:Bool)|int (i:Int)|str (x:Str)|tup (xs:List D)|lst (xs:List D)|ki (ks:List (Sum Int Str)) (vs:List D)|ins (c:Str) (ns:Xa) (vs:List D)|jj (c:Str) (ns:Xa) (vs:List D)
 deriving Inhabited
abbrev Pu:=Option D
abbrev Vt:=List D
inductive Sl where
 |no|sh (d:D)|ow (d:D)|io (d:D)
 deriving Inhabited
abbrev ax:=List Sl
structure Xn where
 cls:Str
 ns:List Str
 vs:List D
inductive Res(α:Type) where
 |ok (a:α) (r:ax)|exc (x:Xn) (r:ax)|no
abbrev M(α:Type):=ax->Res α
inductive Fl where
 |nx|bk|ct|rt (d:D)
noncomputable def ret{α:Type}(a:α):M α:=λr=>.ok a r
noncomputable def Tp{α β:Type}(f:M α)(g:α->M β):M β:=λr=>match f r with|.ok a r'=>g a r'|.exc x r'=>.exc x r'|.no=>.no
noncomputable def stuck{α:Type}:M α:=λ_=>.no
def opt{α:Type}:Option α->M α|some a=>ret a|none=>stuck
noncomputable def aa(i:Nat):M D:=λr=>match r[i]? with|some (.sh d)=>.ok d r|_=>.no
noncomputable def vE(i:Nat):M D:=λr=>match r[i]? with|some (.sh d)=>.ok d r|some (.ow d)=>.ok d r|some (.io d)=>.ok d r|_=>.no
noncomputable def free:Option Sl->Bool|some (.io _)=>false|some _=>true|none=>false
def j7(i:Nat)(d:D):M Unit:=λr=>if free r[i]? then .ok () (r.set i<|.sh d) else .no
def Aa(i:Nat)(d:D):M Unit:=λr=>if free r[i]? then .ok () (r.set i<|.ow d) else .no
noncomputable def own:Option Sl->Option D|some (.ow d)=>some d|some (.io d)=>some d|_=>none
noncomputable def cu(i:Nat)(d:D)(r:ax):ax:=match r[i]? with|some (.ow _)=>r.set i (.ow d)|some (.io _)=>r.set i (.io d)|_=>r
noncomputable def Nh(i:Nat):M Unit:=λr=>match r[i]? with|some (.ow d)=>.ok () (r.set i<|.sh d)|some (.sh d)=>.ok () r|_=>.no
def gM(i:Nat)(g:D->Pu):M Unit:=λr=>match own r[i]? with
 |some d=>match g d with
   |some d'=>.ok () (cu i d' r)|none=>.no
  |none=>.no
def mC(d:D):M D:=ret d
def m1(g:D->Pu)(a:M D):M D:=Tp a λx=>opt (g x)
def m2(g:D->D->Pu)(a b:M D):M D:=Tp a λx=>Tp b λy=>opt (g x y)
def mL:List (M D)->M (List D)|[]=>ret []|f::fs=>Tp f λx=>Tp (mL fs) λxs=>ret (x::xs)
def mF(g:Vt->Pu)(as:List (M D)):M D:=Tp (mL as) λxs=>opt (g xs)
def tB(a:M D):M Bool:=Tp a λx=>match x with|.bl b=>ret b|_=>stuck
def i7(a:M Bool):M Bool:=Tp a λb=>ret (!b)
def mR(a b:M Bool):M Bool:=Tp a λx=>if x then b else ret false
def y9(a b:M Bool):M Bool:=Tp a λx=>if x then ret true else b
def TC(a:M Bool):M D:=Tp a λb=>ret (.bl b)
def Ni(c:M Bool)(a b:M D):M D:=Tp c λx=>if x then a else b
def ak(f g:M Fl):M Fl:=Tp f λk=>match k with|.nx=>g|.bk=>ret .bk|.ct=>ret .ct|.rt d=>ret (.rt d)
def aI:M Fl:=ret .nx
def xc(f:M Unit):M Fl:=Tp f λ_=>ret .nx
def aY(f:M D):M Fl:=Tp f λd=>ret (.rt d)
def ef(c:M Bool)(a b:M Fl):M Fl:=Tp c λx=>if x then a else b
def aM(i:Nat)(f:M D):M Fl:=Tp f λd=>xc (j7 i d)
def iC(i:Nat)(f:M D):M Fl:=Tp f λd=>xc (Aa i d)
def AR(i:Nat)(f:M Fl):M Fl:=Tp (Nh i) λ_=>f
def aq(i:Nat):D->M Unit:=λd=>j7 i d
def pO:YK->Vt->M Unit|[],[]=>ret ()|i::is,d::ds=>Tp (j7 i d) λ_=>pO is ds|_,_=>stuck
def fW(is:YK):D->M Unit:=λd=>match d with|.tup ds=>pO is ds|_=>stuck
def loop(g:D->M Unit)(body:M Fl):Vt->M Fl|[]=>ret .nx|d::ds=>Tp (g d) λ_=>Tp body λk=>match k with|.nx=>loop g body ds|.ct=>loop g body ds|.bk=>ret .nx|.rt e=>ret (.rt e)
def iY(it:M (List D))(g:D->M Unit)(body:M Fl):M Fl:=Tp it λds=>loop g body ds
noncomputable def df(x:D):D->Option D|.lst xs=>if xs.length<16777216 then some (.lst<|xs++[x]) else none|_=>none
def turns(k:Nat)(g:D->M Unit)(test:M Bool)(elt:M D):Vt->M Unit
|[]=>ret ()|d::ds=>Tp (g d) λ_=>Tp test λb=>if b
 then Tp elt λx=>Tp (gM k<|df x) λ_=>turns k g test elt ds
 else turns k g test elt ds
noncomputable def inner(n:Nat)(f:Nat->M Unit):M D:=λr=>match f (r.length+n) (r++List.replicate n .no++[.ow<|.lst []]) with
 |.ok _ r'=>match r'[r.length+n]? with
   |some (.ow d)=>.ok d (r'.take r.length)|_=>.no
  |.exc x r'=>.exc x (r'.take r.length)|.no=>.no
def aD(n:Nat)(it:M (List D))(g:D->M Unit)(test:M Bool)(elt:M D):M D:=Tp it λds=>inner n λk=>turns k g test elt ds
def gC(c:M Bool)(body:M Fl):Nat->M Fl
|0=>stuck|n+1=>Tp c λb=>if b
 then Tp body λk=>match k with|.nx=>gC c body n|.ct=>gC c body n|.bk=>ret .nx|.rt e=>ret (.rt e)
 else ret .nx
inductive FR where
 |ok (d:D) (ios:Vt)|exc (x:Xn) (ios:Vt)|no
abbrev Fn:=List D->FR
noncomputable def aU(n:Nat):ZU->Vt->ax|b::bs,d::ds=>(if b then .io d else .sh d)::aU (n-1) bs ds|_,_=>List.replicate n .no
noncomputable def bp:ZU->ax->Option (List D)|[],_=>some []|true::bs,.io d::r=>(bp bs r).map (d::·)|false::bs,_::r=>bp bs r|_,_=>none
def defn(n:Nat)(fl:ZU)(body:M Fl):Fn:=λds=>
 if ds.length=fl.length then
  match body (aU n fl ds) with
  |.ok (.rt d) r=>match bp fl r with|some ios=>.ok d ios|none=>.no
  |.ok .nx r=>match bp fl r with|some ios=>.ok .aP ios|none=>.no
  |.ok .bk _=>.no|.ok .ct _=>.no|.exc x r=>match bp fl r with|some ios=>.exc x ios|none=>.no
  |.no=>.no
 else .no
inductive Arg where
 |val (f:M D)|io (j:Nat)
inductive AV where
 |val (d:D)|io (j:Nat)
def aV:List Arg->M (List AV)|[]=>ret []|.val f::as=>Tp f λd=>Tp (aV as) λvs=>ret (.val d::vs)|.io j::as=>λr=>if (own r[j]?).isSome then Tp (aV as) (λvs=>ret (.io j::vs)) r else .no
def gu:List AV->ax->Option (List D)|[],_=>some []|.val d::as,r=>(gu as r).map (d::·)|.io j::as,r=>match own r[j]? with|some d=>(gu as r).map (d::·)|none=>none
noncomputable def bI:List AV->List Nat|[]=>[]|.val _::as=>bI as|.io j::as=>j::bI as
def putAll:YK->Vt->ax->ax|j::js,d::ds,r=>putAll js ds (cu j d r)|_,_,r=>r
noncomputable def Arg.isIo:Arg->Bool|.val _=>false|.io _=>true
def oL(f:Fn)(vs:List AV):M D:=λr=>
 match gu vs r with
 |some ds=>if (bI vs).Nodup then match f ds with
   |.ok d ios=>.ok d (putAll (bI vs) ios r)|.exc x ios=>.exc x (putAll (bI vs) ios r)|.no=>.no
  else .no
 |none=>.no
def aw(f:Fn)(as:List Arg):M D:=Tp (aV as) λvs=>oL f vs
def oK(a b:M D):M D:=Tp a λx=>match x with|.bl true=>b|.bl false=>ret (.bl false)|_=>stuck
def CS(a b:M D):M D:=Tp a λx=>match x with|.bl true=>ret (.bl true)|.bl false=>b|_=>stuck
noncomputable def Hx(ds:Vt):Pu:=if ds.length<=16777216 then some (.tup ds) else none
noncomputable def z7(ds:Vt):Pu:=if ds.length<=16777216 then some (.lst ds) else none
def bY(fl:List (M D)):M D:=Tp (mL fl) λxs=>opt (Hx xs)
def fX(fl:List (M D)):M D:=Tp (mL fl) λxs=>opt (z7 xs)
noncomputable def gU:Nat:=16777216
noncomputable def aaH:D->D->Option D|.int i,.int j=>some (.int<|i+j)|_,_=>none
noncomputable def gR:D->D->Option D|.int i,.int j=>some (.int<|i-j)|_,_=>none
noncomputable def pR:D->D->Option D|.int i,.int j=>if (-(2 ^ 64)<i/\i<2 ^ 64)\/(-(2 ^ 64)<j/\j<2 ^ 64) then some (.int<|i*j) else none|_,_=>none
noncomputable def qt:D->D->Option D|.int i,.int j=>if 0<j/\j<1073741824 then some (.int<|i / j) else none|_,_=>none
noncomputable def eJ:D->D->Option D|.int i,.int j=>if 0<j then some (.int<|i % j) else none|_,_=>none
noncomputable def rS:D->Option D|.int i=>some (.int<|-i)|_=>none
noncomputable def ltI:D->D->Option D|.int i,.int j=>some (.bl<|decide<|i<j)|_,_=>none
noncomputable def CH:D->D->Option D|.int i,.int j=>some (.bl<|decide<|i<=j)|_,_=>none
noncomputable def Mx:D->D->Option D|.int i,.int j=>some (.bl<|decide<|j<i)|_,_=>none
noncomputable def VH:D->D->Option D|.int i,.int j=>some (.bl<|decide<|j<=i)|_,_=>none
noncomputable def EJ:D->D->Option Bool|.aP,.aP=>some true|.aP,.int _=>some false|.int _,.aP=>some false|.aP,.bl _=>some false|.bl _,.aP=>some false|.aP,.str _=>some false|.str _,.aP=>some false|.int i,.int j=>some (decide<|i=j)|.bl i,.bl j=>some (decide<|i=j)|.str i,.str j=>some (decide<|i=j)|.int _,.str _=>some false|.str _,.int _=>some false|.bl _,.str _=>some false|.str _,.bl _=>some false|_,_=>none
noncomputable def isNon:D->Bool|.aP=>true|_=>false
def isND(x y:D):Pu:=if isNon y then some (.bl<|isNon x) else none
def aaJ:D->D->Option D|.tup xs,.tup ys=>if xs.length+ys.length<=gU then some (.tup<|xs++ys) else none|_,_=>none
def aaI:D->D->Option D|.lst xs,.lst ys=>if xs.length+ys.length<=gU then some (.lst<|xs++ys) else none|_,_=>none
noncomputable def orE(g g':D->D->Pu)(x y:D):Pu:=match g x y with|some d=>some d|none=>g' x y
noncomputable def mj(n:Nat)(i:Int):Option Nat:=if 0<=i then(if i<n then some i.toNat else none) else if -(n:Int)<=i then some (i+n).toNat else none
def wk(xs:Vt)(i:Int):Pu:=(mj xs.length i).bind λj=>xs[j]?
def aj:D->D->Option D|.tup xs,.int i=>wk xs i|.lst xs,.int i=>wk xs i|_,_=>none
mutual
noncomputable def eqB:D->D->Bool|.aP,.aP=>true|.bl a,.bl b=>a == b|.bl a,.int j=>(if a then 1 else 0) == j|.int i,.bl b=>i == (if b then 1 else 0)|.int i,.int j=>i == j|.str x,.str y=>x == y|.lst xs,.lst ys=>lB xs ys|.tup xs,.tup ys=>lB xs ys|_,_=>false
noncomputable def lB:Vt->Vt->Bool|[],[]=>true|x::xs,y::ys=>eqB x y&&lB xs ys|[],_::_=>false|_::_,[]=>false
end
theorem ug(i j:Int):eqB (.int i) (.int j)=(i == j):=Tf
theorem JG(x y:Str):eqB (.str x) (.str y)=(x == y):=Tf
theorem uh(xs ys:Vt):eqB (.lst xs) (.lst ys)=lB xs ys:=Tf
theorem ui(xs ys:Vt):eqB (.tup xs) (.tup ys)=lB xs ys:=Tf
noncomputable def kP(x:Str):Bool:=x.cps.toList.all (·<0x110000)
mutual
noncomputable def plain:Nat->D->Bool|_,.aP=>true|_,.bl _=>true|_,.int _=>true|_,.str x=>kP x|n+1,.tup xs=>dU n xs|n+1,.lst xs=>dU n xs|_,_=>false
noncomputable def dU:Nat->Vt->Bool|_,[]=>true|n,x::xs=>plain n x&&dU n xs
end
def dP(x y:D):Pu:=if plain 60 x&&plain 60 y then some (.bl<|eqB x y) else none
def gW(x y:D):Pu:=if plain 60 x&&plain 60 y then some (.bl<|!eqB x y) else none
noncomputable def b6:D->Option (List D)|.tup ds=>some ds|.lst ds=>some ds|_=>none
def cR(f:M D):M (List D):=Tp f λd=>opt (b6 d)
noncomputable def sE:Vt->Option (List D)|[.int j]=>if -(2 ^ 62)<=j/\j<2 ^ 62 then some ((List.range j.toNat).map λ(i:Nat)=>.int i) else none|_=>none
noncomputable def acD:Vt->Option (List D)|[.int i,.int j]=>if (-(2 ^ 62)<=i/\i<2 ^ 62)/\-(2 ^ 62)<=j/\j<2 ^ 62 then some ((List.range (j-i).toNat).map λ(k:Nat)=>.int<|i+k) else none|_=>none
def bH(fl:List (M D)):M (List D):=Tp (mL fl) λxs=>opt (sE xs)
noncomputable def bG:D->Option D|.tup ds=>some (.int ds.length)|.lst ds=>some (.int ds.length)|_=>none
noncomputable def fS:D->Option D|.tup ds=>some (.tup ds)|.lst ds=>some (.tup ds)|_=>none
noncomputable def gK:D->Option D|.tup ds=>some (.lst ds)|.lst ds=>some (.lst ds)|_=>none
noncomputable def maxD:Vt->Option D|[.int i,.int j]=>some (.int<|if j > i then j else i)|_=>none
noncomputable def minD:Vt->Option D|[.int i,.int j]=>some (.int<|if j<i then j else i)|_=>none
noncomputable def intD:Vt->Option D|[.int i]=>some (.int i)|[.bl b]=>some (.int<|if b then 1 else 0)|_=>none
noncomputable def Kc:D->Option String|.aP=>some "NoneType"|.bl _=>some "bool"|.int _=>some "int"|.str _=>some "str"|.tup _=>some "tuple"|.lst _=>some "list"|.ki _ _=>some "dict"|.ins _ _ _=>none|.jj _ _ _=>none
def uJ(T:String)(x:D):Pu:=(Kc x).map λk=>.bl (k == T||(k == "bool" && T == "int"))
def xA:Vt->Option (List D)
|[a,b]=>match b6 a,b6 b with
  |some xs,some ys=>some (List.zipWith (λx y=>D.tup [x,y]) xs ys)|_,_=>none
 |_=>none
def uQ(fl:List (M D)):M (List D):=Tp (mL fl) λxs=>opt (xA xs)
noncomputable def b4:Vt->Option (List Int)|[]=>some []|.int i::r=>(b4 r).map (i::·)|_=>none
def DW(d:D):Pu:=match b6 d with|some ds=>(b4 ds).map λns=>.int ns.sum|none=>none
noncomputable def isLst:Pu->Bool|some (.lst _)=>true|_=>false
def jJ(i:Nat)(fe:M D):M Fl:=λr=>if isLst (own r[i]?) then Tp fe (λx=>xc<|gM i<|df x) r else .no
def setAt(k v:D):D->Option D
|.lst xs=>match k with
  |.int i=>(mj xs.length i).map λj=>.lst (xs.set j v)|_=>none
 |_=>none
def ke(i:Nat)(fk fv:M D):M Fl:=Tp fv λv=>λr=>if isLst (own r[i]?) then Tp fk (λk=>xc<|gM i<|setAt k v) r else .no
noncomputable def gP(n d:Nat):Vy->Nat|none=>d|some v=>if v<0 then(v+n).toNat else min v.toNat n
def cutD(xs:Vt)(lo hi:Vy):Vt:=(xs.drop<|gP xs.length 0 lo).take (gP xs.length xs.length hi-gP xs.length 0 lo)
def kK:Option (M D)->M (Option Int)|none=>ret none|some f=>Tp f λd=>match d with|.int i=>ret (some i)|_=>stuck
def cq(d:D)(lo hi:Vy):Pu:=match d with|.tup xs=>some (.tup<|cutD xs lo hi)|_=>none
def vF(g:D->Vy->Vy->Pu)(f:M D)(lo hi:Option (M D)):M D:=Tp f λd=>Tp (kK lo) λl=>Tp (kK hi) λh=>opt (g d l h)
def Cw(j:Nat)(i:D):M D:=λr=>match own r[j]? with|some d=>opt (aj d i) r|none=>.no
def iW(j:Nat)(fb:M D):M D:=λr=>if (own r[j]?).isSome then Tp fb (Cw j) r else .no
def bq:D->D->Option D|.int i,.int j=>some (.int<|i+j)|.tup xs,.tup ys=>if xs.length+ys.length<=gU then some (.tup<|xs++ys) else none|.lst xs,.lst ys=>if xs.length+ys.length<=gU then some (.lst<|xs++ys) else none|_,_=>none
def fK(d:D)(lo hi:Vy):Pu:=match d with|.tup xs=>some (.tup<|cutD xs lo hi)|.lst xs=>some (.lst<|cutD xs lo hi)|_=>none
def F8(g g2:D->D->Pu)(a b c:M D):M D:=Tp a λx=>Tp b λy=>Tp (opt<|g x y) λd=>match d with|.bl true=>Tp c λz=>opt (g2 y z)|.bl false=>ret (.bl false)|_=>stuck
noncomputable def Aw(t:List (Str×D)):D->Option D|.str k=>t.lookup k|_=>none
def CU(f:M D):M (List D):=Tp f λd=>opt ((b6 d).map List.reverse)
def u9(d:D):Pu:=(b6 d).map λxs=>.tup xs.reverse
def G6(d:D):Pu:=(b6 d).map λxs=>.lst xs.reverse
noncomputable def iG:Vt->Option (List Bool)|[]=>some []|.bl b::r=>(iG r).map (b::·)|_=>none
def nK(al:Bool):D->Option D|.lst ds=>(iG ds).map λbs=>.bl (if al then bs.all id else bs.any id)|_=>none
noncomputable def sR(neg:Bool)(t:List (Str×D))(ab:Xa):D->Option D
|.str k=>match t.lookup k with
  |some _=>some (.bl<|!neg)|none=>if ab.contains k then some (.bl neg) else none
 |_=>none
noncomputable def gj:D->Bool|.aP=>true|.bl _=>true|.int _=>true|.str _=>true|_=>false
def inD(neg:Bool)(x y:D):Pu:=match b6 y with|some ds=>if gj x&&ds.all gj then some (.bl<|if neg then !(ds.any λy=>eqB y x) else ds.any λy=>eqB y x) else none|none=>none
noncomputable def gw(cs:Xa)(f:Str):D->Option D|.ins c ns vs=>if cs.contains c then(ns.zip vs).lookup f else none|_=>none
noncomputable def dI(f:Str)(v:D):Xa->Vt->List Str×List D|n::ns,x::vs=>if n=f then(n::ns,v::vs) else(n::(dI f v ns vs).1,x::(dI f v ns vs).2)|_,_=>([f],[v])
def mE(cs:Xa)(f:Str)(v:D):D->Option D|.ins c ns vs=>if cs.contains c&&decide (ns.length<1000) then some (.ins c (dI f v ns vs).1 (dI f v ns vs).2) else none|_=>none
def mD(i:Nat)(cs:Xa)(f:Str)(fv:M D):M Fl:=Tp fv λv=>xc (gM i<|mE cs f v)
def z9(c:Str)(f:Fn)(vs:List AV):M D:=λr=>match oL f (.io r.length::vs) (r++[.ow<|.ins c [] []]) with
 |.ok .aP r'=>match r'[r.length]? with
   |some (.ow d)=>.ok d (r'.take r.length)|_=>.no
  |.exc x r'=>.exc x (r'.take r.length)|_=>.no
def jS(c:Str)(f:Fn)(as:List Arg):M D:=Tp (aV as) λvs=>z9 c f vs
noncomputable def qz(c m:Str):D->Bool|.ins c' ns _=>c' == c&&!ns.contains m|_=>false
def gL(c m:Str)(f:Fn)(fo:M D)(as:List Arg):M D:=Tp fo λo=>if qz c m o then Tp (aV as) λvs=>oL f (.val o::vs) else stuck
noncomputable def zT(subs:PE)(x:D):Pu:=match x with|.ins c _ _=>(subs.lookup c).map .bl|_=>none
def ph:M Fl:=stuck
noncomputable def ko(ds:Vt):Vt:=List.zipWith (λ(i:Nat) d=>D.tup [.int i,d]) (List.range ds.length) ds
def nW:Vt->Option (List D)|[.lst ds]=>some (ko ds)|_=>none
def uM(fl:List (M D)):M (List D):=Tp (mL fl) λxs=>opt (nW xs)
noncomputable def DP:Vt->Option (List D)|[.int i,.int j,.int k]=>if k=-1/\(-(2 ^ 62)<=i/\i<2 ^ 62)/\-(2 ^ 62)<=j/\j<2 ^ 62 then some ((List.range (i-j).toNat).map λ(k:Nat)=>.int<|i-k) else none|_=>none
def yF(fl:List (M D)):M (List D):=Tp (mL fl) λxs=>opt (DP xs)
end VP
end
section
namespace VP
def wF:D->D->Option D|.int i,.int j=>pR (.int i) (.int j)|.tup xs,.int k=>if -(gU:Int)<=k/\k<=gU/\xs.length*k.toNat<=gU then some (.tup (List.replicate k.toNat xs).flatten) else none|_,_=>none
def mulL:D->D->Option D|.lst xs,.int k=>if -(gU:Int)<=k/\k<=gU/\xs.length*k.toNat<=gU then some (.lst (List.replicate k.toNat xs).flatten) else none|_,_=>none
def P7(neg:Bool)(x y:D):Pu:=if neg then gW x y else dP x y
def tZ(g:D->D->Pu)(j:Nat)(d:D):M D:=λr=>match own r[j]? with|some x=>opt (g x d) r|none=>.no
def qF(g:D->D->Pu)(j:Nat)(fb:M D):M D:=λr=>if (own r[j]?).isSome then Tp fb (tZ g j) r else .no
def sI(c:PySem.Str)(fs:List (M D)):M Fl:=Tp (mL fs) λds r=>if ds.length<=1000 then .exc ⟨c,[],[]⟩ r else .no
end VP
end
section
namespace VP
noncomputable def sortI(xs:UX):UX:=xs.mergeSort λa b=>decide (a<=b)
theorem sortI_perm(xs:UX):(sortI xs).Perm xs:=List.mergeSort_perm ..
theorem Au(xs:UX):(sortI xs).Pairwise (·<=·):=by have:=List.pairwise_mergeSort (le:=λ(a b:Int)=>decide<|a<=b) (λa b c h1 h2=>by simp at *;lia) (λa b=>by simp;lia) xs;exact this.imp λh=>by simpa using h
theorem vh(p:ys.Perm xs)(o:ys.Pairwise (·<=·)):ys=sortI xs:=List.Perm.eq_of_pairwise (λx y _ _ h1 h2=>Int.le_antisymm h1 h2) o (Au xs) (p.trans (sortI_perm xs).symm)
def qR(d:D):Pu:=match b6 d with
|some ds=>match b4 ds with
  |some ns=>if ns.length<64 then some (.lst<|(sortI ns).map .int) else none|none=>none
 |none=>none
noncomputable def CL:Vt->Option D|[.int j]=>if -1000<=j/\j<=1000 then some (.lst<|(List.range j.toNat).map λ(k:Nat)=>.int k) else none|_=>none
def sL(c:M Bool)(body:M Fl):M Fl:=gC c body 10000
def CT(i:Nat):M D:=λr=>match own r[i]? with
 |some (.lst xs)=>match xs.getLast? with
   |some d=>.ok d (cu i (.lst xs.dropLast) r)|none=>.no
  |_=>.no
def Cq(neg:Bool)(j:Nat)(x:D):M D:=λr=>match own r[j]? with|some y=>opt (inD neg x y) r|none=>.no
def F9(neg:Bool)(fa:M D)(j:Nat):M D:=Tp fa (Cq neg j)
def lI(x y:D):Pu:=match x with
|.tup ds=>match b4 ds with
  |some []=>some y|some (i::is)=>some (.int<|is.foldl (λa b=>if a<b then b else a) i)|none=>none
 |_=>none
noncomputable def gq:Sl->Sl|.ow d=>.sh d|.io d=>.sh d|s=>s
mutual
noncomputable def GZ:D->Bool|.aP=>true|.bl _=>true|.int _=>true|.str _=>true|.tup ds=>noLs ds|_=>false
noncomputable def noLs:Vt->Bool|[]=>true|d::ds=>GZ d&&noLs ds
end
def mn(f:M D):M D:=λr=>match f (r.map gq) with|.ok (.lst ds) _=>if noLs ds then .ok (.lst ds) r else .no|_=>.no
def Q2h(i:Nat)(cs:Xa)(f:Str)(fv:M D):M Fl:=Tp fv λv=>match v with|.lst ds=>if ds.length<=16777216 then xc (gM i<|mE cs f<|.lst ds) else stuck|_=>stuck
def okN(fn:Str):D->Bool|.ins _ [n1,n2] [v1,.lst ds]=>decide (n1≠fn)&&(decide (n2=fn)&&(GZ v1&&noLs ds))|_=>false
def pP(ds:Vt)(y:D):Pu:=match b4 ds with
|some ns=>match y with
  |.int k=>if k∈ns then some (.int (ns.idxOf k:Nat)) else none|_=>none
 |none=>none
def uO(fo fe:M D):M D:=Tp fo λx=>match x with|.tup ds=>Tp fe λy=>opt (pP ds y)|_=>stuck
def uN(fo fe:M D):M D:=Tp fo λx=>match x with|.lst ds=>Tp fe λy=>opt (pP ds y)|_=>stuck
noncomputable def RT:List (Sum Int Str)->Vt->Sum Int Str->Option D|k'::ks,v::vs,k=>if k'=k then some v else RT ks vs k|_,_,_=>none
noncomputable def BA(k:Sum Int Str)(v:D):List (Sum Int Str)->Vt->List (Sum Int Str)×List D|k'::ks,x::vs=>if k'=k then(k'::ks,v::vs) else(k'::(BA k v ks vs).1,x::(BA k v ks vs).2)|_,_=>([k],[v])
def RR:D->D->Option D|.ki ks vs,.int k=>RT ks vs (.inl k)|_,_=>none
def putD(k v:D):D->Option D
|.ki ks vs=>match k with
  |.int i=>if ks.length<1000 then some (.ki (BA (.inl i) v ks vs).1 (BA (.inl i) v ks vs).2) else none|_=>none
 |_=>none
def Ll(i:Nat)(fk fv:M D):M Fl:=Tp fv λv=>λr=>if (own r[i]?).isSome then Tp fk (λk=>xc<|gM i<|putD k v) r else .no
noncomputable def hide:Sl->Sl|.ow _=>.no|.io _=>.no|s=>s
noncomputable def A4(f:Fn)(d:D)(ds:Vt):M D:=λr=>match f (d::ds) with|.ok v [_]=>.ok v r|.exc x [_]=>.exc x r|_=>.no
def kJ(f:Fn)(a:M D)(fl:List (M D)):M D:=Tp a λd r=>match mL fl (r.map hide) with|.ok ds _=>A4 f d ds r|_=>.no
end VP
end
section
namespace VP
def UA(cs:List PySem.Str)(f:PySem.Str)(d:D):D->Option D|.jj c ns vs=>if cs.contains c&&decide (ns.length<1000) then some (.jj c (dI f d ns vs).1 (dI f d ns vs).2) else none|_=>none
def DS(i:Nat)(cs:List PySem.Str)(f:PySem.Str)(fe:M D):M Fl:=Tp fe λd=>xc (gM i<|UA cs f d)
noncomputable def YH(c:PySem.Str)(r:ax):FR->Res Fl|.ok .aP [.jj c' ns vs]=>if c'=c then .exc ⟨c',ns,vs⟩ r else .no|_=>.no
def Ur(f:Fn)(c:PySem.Str)(n:Nat)(ds:Vt):M Fl:=λr=>if ds.length=n then YH c r (f (.jj c [] []::ds)) else .no
def jx(c:PySem.Str)(f:Fn)(fs:List (M D)):M Fl:=Tp (mL fs) (Ur f c fs.length)
def Cc(j:Nat):Res Fl->Res Fl|.ok f r=>if free r[j]? then .ok f (r.set j .no) else .no|_=>.no
noncomputable def Yz:Res Fl->Res Fl|.ok f r=>.ok f r|_=>.no
def wc:Option Nat->M Fl->Xn->M Fl|some j,h,x=>λr=>if (match r[j]? with|some .no=>true|_=>false) then Cc j (h<|r.set j<|.sh<|.jj x.cls x.ns x.vs) else .no|none,h,_=>λr=>Yz (h r)
def T9:Option Bool->M Fl->M Fl->M Fl|some true,a,_=>a|some false,_,b=>b|none,_,_=>stuck
def DQ:List (List (PySem.Str×Bool)×Option Nat×M Fl)->Xn->M Fl|[],_=>stuck| (subs,j,h)::rest,x=>T9 (subs.lookup x.cls) (wc j h x) (DQ rest x)
theorem Lj:∀{hs:List (List (PySem.Str×Bool)×Option Nat×M Fl)}{x y:Xn}{r r':ax},DQ hs x r≠.exc y r'
|[],_,_,_,_,h=>by cases h| (subs,j,f)::rest,x,y,r,r',h=>by
 rw[DQ] at h;cases z:subs.lookup x.cls with
 |none=>rw[z] at h;cases h|some b=>
  rw[z] at h;cases b with
  |false=>exact Lj (hs:=rest) h|true=>
   have h:wc j f x r=.exc y r':=h;cases j with
   |none=>simp only[wc] at h;cases q:f r<;>rw[q] at h<;>cases h|some j=>
    simp only[wc] at h;split at h;generalize f (r.set j<|.sh<|.jj x.cls x.ns x.vs)=v at h;cases v with|ok a b=>cases z2:free b[j]?<;>simp[Cc,z2] at h|_=>cases h
    cases h
mutual
noncomputable def bj:D->Bool|.tup ds=>cf ds|.lst ds=>cf ds|.ki _ ds=>cf ds|.ins c ns ds=>!(decide (c="Table")&&decide (ns=(["sides","cells"]:Xa)))&&cf ds|.jj _ _ ds=>cf ds|_=>true
noncomputable def cf:Vt->Bool|[]=>true|d::ds=>bj d&&cf ds
end
def vU:Sl->Bool|.no=>true|.sh d=>bj d|.ow d=>bj d|.io d=>bj d
noncomputable def OO:D->Option D|.ins c [n1,n2] [v1,v2]=>if n1=n2 then none else some (.ins c [n2,n1] [v2,v1])|_=>none
def rO(c:Str)(f:Fn)(as:List Arg):M D:=Tp (jS c f as) λd=>opt (OO d)
noncomputable def eL:Sl->Sl|.sh d=>.sh d|_=>.no
noncomputable def D8(cs:Xa):D->Bool|.ins c ns [_,.lst _]=>cs.contains c&&decide (c="Table")&&decide (ns=(["sides","cells"]:Xa))|_=>false
noncomputable def noNx:Res Fl->Res Fl|.ok .nx _=>.no|o=>o
def ve(cs:Xa)(i j:Nat)(fb:M Fl)(hd:List (List (Str×Bool)×Option Nat×M Fl))(ft:M Bool)(fr g:M Fl):M Fl:=λr=>
 if r.all vU then
  match fb (r.map eL) with
  |.ok .nx r1=>(match ft r1 with
   |.ok true r2=>noNx (fr r2)|.ok false _=>(match r1[i]? with
     |some (.sh d)=>if D8 cs d&&free r1[j]? then g (((r.map eL).set i .no).set j .no) else .no|_=>.no)
    |.exc x r2=>.exc x r2|.no=>.no)
  |.exc x r1=>noNx (DQ hd x r1)|_=>.no
 else .no
end VP
end
section
set_option linter.all false
set_option maxRecDepth 100000
namespace VS
open PySem PySem.Spec PyProof.Rows L2 VP
abbrev Frag:=W.Frag
abbrev MG:=Str->Option Value
section
variable{X:Cx}{EX:XE}{st:Stmt}{rest:List Stmt}{e a b c tg:Expr}{fe fa fb:M D}{f g:M Fl}{pos:Pos}
theorem kz:∀d r x r',aq i d r≠.exc x r':=λd r x r' h=>by unfold aq j7 at h;split at h<;>cases h
theorem B8:∀{is:YK}{ds:Vt}{r:ax}{x:Xn}{r':ax},pO is ds r≠.exc x r'|[],[],_,_,_,h=>by cases h|[],_::_,_,_,_,h=>by cases h|_::_,[],_,_,_,h=>by cases h|i::is,d::ds,r,x,r',h=>by simp only[pO,VP.Tp,j7] at h;split at h;rename_i a r2 q;exact B8 h;rename_i x2 r2 q;split at q<;>cases q;cases h
theorem wb:∀d r x r',fW is d r≠.exc x r':=λd r x r' h=>by unfold fW at h;cases d with|tup ds=>exact B8 h|_=>cases h
end
def jE(cells:List (Str×Addr)):List (Str×NameKind)->List (Str×Addr)->List (Str×Addr)
|[],acc=>acc| (x,k)::r,acc=>if k == .free then
  (match cells.lookup x with|some c=>jE cells r ((x,c)::acc)|none=>jE cells r acc)
 else jE cells r acc
theorem kn:∀{names:List (Str×NameKind)}{acc:List (Str×Addr)}{p:Str×Addr},p∈jE cells names acc->p∈acc\/cells.lookup p.1=some p.2
|[],_,_,h=>.inl h| (x,k)::r,acc,p,h=>by
 unfold jE at h;split at h;cases q:cells.lookup x with|none=>rw[q] at h;exact kn h|some c=>rw[q] at h;rcases kn h with h|h;rcases List.mem_cons.mp h with h|h;subst h;exact .inr q;exact .inl h;exact .inr h
 exact kn h
theorem jf:∀{names:List (Str×NameKind)}{acc:List (Str×Addr)}{p:Str×Addr},p∈acc->p∈jE cells names acc
|[],_,_,h=>h| (x,k)::r,acc,p,h=>by
 unfold jE;split;cases q:cells.lookup x with|none=>exact jf h|some c=>exact jf (Pe _ h)
 exact jf h
theorem km(hc:cells.lookup x=some c):∀{names:List (Str×NameKind)}{acc:List (Str×Addr)},(x,NameKind.free)∈names->(x,c)∈jE cells names acc
| (y,k)::r,acc,h=>by
 unfold jE;rcases List.mem_cons.mp h with h|h;cases h;simp only[beq_self_eq_true,if_true,hc];exact jf R9;split;cases q:cells.lookup y with|none=>exact km hc h|some c'=>exact km hc h
 exact km hc h
theorem fN{α:Type}{a:α}:∀{l:List (Str×α)},(x,a)∈l->∃b,l.lookup x=some b
| (y,b)::r,h=>by
 by_cases e:(x == y)=true;exact⟨b,by simp[List.lookup_cons,e]⟩;have e':(x == y)=false:=by simpa using e
 rcases List.mem_cons.mp h with h|h;cases h;simp at e';obtain⟨c,hc⟩:=fN h;exact⟨c,by simp[List.lookup_cons,e',hc]⟩
theorem gb(h:(jE cells names []).lookup x=some c):cells.lookup x=some c:=by rcases kn (Og h) with h|h;cases h;exact h
theorem zI(hc:cells.lookup x=some c)(h:(x,NameKind.free)∈names):(jE cells names []).lookup x=some c:=by obtain⟨b,hb⟩:=fN<|km (acc:=[]) hc h;have:=gb hb;rw[hc] at this;cases this;exact hb
theorem mI(h:∀p∈scope.names,p.2=.free->∃c,env.cells.lookup p.1=some c):closureFor scope env=pure (jE env.cells scope.names []):=by
 have gen:∀(names:List (Str×NameKind))(acc:List (Str×Addr)),(∀p∈names,p.2=.free->∃c,env.cells.lookup p.1=some c)->(forIn names acc λ(x:Str×NameKind) r=>(if x.2 == .free then(do let c <-cellOf env x.1;pure<|ForInStep.yield ((x.1,c)::r)) else pure (ForInStep.yield r):Sem _))=pure (jE env.cells names acc):=by
  intro names;induction names with
  |nil=>intro acc _;rfl|cons p r ih=>
   intro acc hp;obtain⟨x,k⟩:=p;rw[List.forIn_cons];unfold jE;by_cases hk:k=.free;subst hk;obtain⟨c,hc⟩:=hp (x,.free) R9 rfl;have e:cellOf env x=pure c:=by unfold cellOf;rw[show env.cells.lookup x=some c from hc]
   simp only[beq_self_eq_true,if_true,e,hc];exact ih _ λq hq=>hp q<|Pe _ hq;have hb:(k == NameKind.free)=false:=by simpa using hk
   simp only[hb,Bool.false_eq_true,if_false];exact ih _ λq hq=>hp q (Pe _ hq)
 have:=gen scope.names [] h;unfold closureFor;simpa using this
theorem dJ:(relabel scope env).names.lookup x=(scope.names.lookup x).map λk=>if (k == .free&&env.scope.kind == .function&&env.kindOf x == some .cell) then .cell else k:=by
 unfold relabel;generalize scope.names=l;induction l with
 |nil=>rfl|cons p r ih=>
  obtain⟨n,k⟩:=p;simp only[List.map_cons];by_cases hx:(x == n)=true;have e:x=n:=by simpa using hx
  subst e;simp only[List.lookup_cons,beq_self_eq_true,Option.map_some];split<;>simp[List.lookup_cons];have e':(x == n)=false:=by simpa using hx
  have e2:List.lookup x ((n,k)::r)=List.lookup x r:=by simp[List.lookup_cons,e']
  rw[e2,<-ih];split<;>simp[List.lookup_cons,e']
def gZ(outer inner:List (Str×NameKind))(N N':Xa):Bool:=
 inner.all (λp=>p.2 != .cell&&(p.2 != .free||outer.lookup p.1 == some .cell||outer.lookup p.1 == some .free)&&(p.2 != .local||inner.lookup p.1 == some .local)) &&
 decide (N.length<=N'.length)&&(List.range N.length).all (λi=>match N'[i]? with|some x=>inner.lookup x != some .local&&(inner.lookup x == none||N[i]? == some x)|none=>true)&&(match N'[N'.length-1]? with|some x=>inner.lookup x == none|none=>false)&&decide (N.length+1<=N'.length)
section
variable{prog:Program}{w:World}{A:Around}{E:Tv}{s:Shared}
theorem kM{items}(hit:s.heap.IsTupleIter it t i)
  (ht:s.heap.IsTuple t items) (hx:items[i]?=some x)
  (hQ:∀h',h'.IsTupleIter it t (i+1)->Heap.SameBut it s.heap h'->Q x {s with heap:=h'}) :
  wpAny (model prog w) A (Builtin.SmallTypes.nextOf<|.ref it) Q E s:=by
 obtain⟨o,ho,hc,hd⟩:=id hit;refine VP.gl λQQ eQ=>?_;obtain⟨ol,VN,_,nl,XA⟩:=ht;subst eQ;unfold Builtin.SmallTypes.nextOf;refine Qf<|Rr (name:=Str.ofString "__next__") hit.typeIs Ee<|Nx Ee hit.typeIs PySem.F.entry_tuple_iterator_next ?_<|PySem.F.args_tuple_iterator_next_1 _;show wpAny _ _ (field (.ref it) 0 >>= _) _ _ s;refine Qf<|VV ho hd (x:=.ref t) rfl ?_;show wpAny _ _ (if (Value.ref t == Value.none)=true then _ else _) _ _ s;rw[YO<|show ¬((Value.ref t == Value.none)=true) from MJ];show wpAny _ _ (field (.ref it) 1 >>= _) _ _ s;refine Qf<|VV ho hd (x:=.int i 0) rfl ?_;show wpAny _ _ (seqItems? (.ref t) >>= _) _ _ s;refine Qf<|Uk VN XA ?_;simp only[Es,hx];refine Qf<|AA ho hd Qj<|Qv ⟨x,rfl,Qv<|hQ _ ?_<|Pm ..⟩;exact⟨_,F2 _ ho<|Em<|NK hd _,(Obj.cls_mapFields ..).trans hc,by rw[NK hd];simp[rawInt]⟩
theorem lJ{items}(hh:A.handled=none)
  (hit:s.heap.IsTupleIter it t i) (ht:s.heap.IsTuple t items) (hx:items[i]?=none)
  (hE:∀h' e,Heap.ExtBut it s.heap h'->(∃o,h'.get? e=some o/\o.cls=.type "StopIteration")->E (.ref e) {s with heap:=h'}) :
  wpAny (model prog w) A (Builtin.SmallTypes.nextOf<|.ref it) Q E s:=by
 obtain⟨o,ho,hc,hd⟩:=id hit;refine VP.gl λQQ eQ=>?_;obtain⟨ol,VN,_,nl,XA⟩:=ht;subst eQ;unfold Builtin.SmallTypes.nextOf;refine Qf<|Rr (name:=Str.ofString "__next__") hit.typeIs Ee<|Nx Ee hit.typeIs PySem.F.entry_tuple_iterator_next ?_<|PySem.F.args_tuple_iterator_next_1 _;show wpAny _ _ (field (.ref it) 0 >>= _) _ _ s;refine Qf<|VV ho hd (x:=.ref t) rfl ?_;show wpAny _ _ (if (Value.ref t == Value.none)=true then _ else _) _ _ s;rw[YO<|show ¬((Value.ref t == Value.none)=true) from MJ];show wpAny _ _ (field (.ref it) 1 >>= _) _ _ s;refine Qf<|VV ho hd (x:=.int i 0) rfl ?_;show wpAny _ _ (seqItems? (.ref t) >>= _) _ _ s;refine Qf<|Uk VN XA ?_;simp only[Es,hx];refine Qf<|RP<|Qf<|AA ho hd Qj ?_;show wpAny _ _ (newExc (.type "StopIteration") [] >>= _) _ _ _;refine Qf ?_;simp only[newExc,newTuple];refine Qf<|My ?_ (by size_fits);refine Qf (m:=firstArgMember _ _)<|CK (a:=Value.none) (by first|rfl|(simp only[firstArgMember];rfl)) ?_;refine My ?_ (by size_fits);simp only[raiseNew];refine Qf<|wpAny_handled ?_;first|rw[show A.in1.handled=none from hh]|rw[hh]
 refine Qf<|Qv<|wpAny_throw ?_;exact hE _ _ (((Pm ..).extBut.push _).push _) ⟨_,Ym _ rfl,rfl⟩
end
def cX(t:Bool)(it a:Addr)(i:Nat)(h:Heap):Prop:=if t then h.IsTupleIter it a i else h.IsListIter it a i
def iE(t:Bool)(h:Heap)(a:Addr)(items:Array Value):Prop:=if t then h.IsTuple a items else h.IsList a items
theorem cX.at(x:cX t it a i h)(e:∀o,h.get? it=some o->h'.get? it=some o):cX t it a i h':=by cases t;exact Heap.IsListIter.at (h:=h) (h':=h') x e;exact Heap.IsTupleIter.at (h:=h) (h':=h') x e
theorem cX.obj(x:cX t it a i h):∃o,h.get? it=some o/\∀v,o.data≠.cell v:=by cases t;obtain⟨o,e,c,d⟩:=(show h.IsListIter it a i from x);exact⟨o,e,λv z=>by rw[d] at z;cases z⟩;obtain⟨o,e,c,d⟩:=(show h.IsTupleIter it a i from x);exact⟨o,e,λv z=>by rw[d] at z;cases z⟩
theorem jh(hh:A.handled=none)(t:Bool)(it l:Addr)(FK:l≠it)(items:Array Value) : Draws prog w A it [it,l] items.size (λi v=>items[i]?=some v) (λi h=>cX t it l i h/\iE t h l items):=by
 cases t with
 |false=>exact Draws.list hh it l FK items|true=>exact {
  live:=λ_ _ st=>let ⟨o,ho,_⟩:=st.1;⟨o,ho⟩
  frame:=λ_ _ _ st hk=>⟨Heap.IsTupleIter.at st.1 λo e=>hk it Qj o e,by obtain⟨o,e,r⟩:=(show Heap.IsTuple _ l items from st.2);exact⟨o,hk l Qj o e,r⟩⟩
  item:=λi s Q E hi st hQ=>by refine kM (show s.heap.IsTupleIter it l i from st.1) (show s.heap.IsTuple l items from st.2) (x:=items[i]) (by simp[hi]) λh' FJ ZK=>?_;refine hQ _ h' s.toks (by simp[hi]) ⟨FJ,?_⟩ ZK;obtain⟨o,e,r⟩:=(show Heap.IsTuple _ l items from st.2);exact⟨o,ZK.extBut l o FK e,r⟩
  done:=λs Q E st hE=>lJ hh (show s.heap.IsTupleIter it l _ from st.1) (show s.heap.IsTuple l items from st.2) Qj hE}
section
variable{prog:Program}{w:World}{A:Around}{E:Tv}{s:Shared}{z TI TO i1 i2:Addr}{AK JM:V8}{n1 n2 k:Nat}{P1 P2:Nat->Value->Prop}{PY QO:Nat->Heap->Prop}{a b:Value}
structure rk(z TI TO i1 i2:Addr)(AK JM:V8):Prop where
 TIz:TI≠z
 TOz:TO≠z
 i1z:i1≠z
 i2z:i2≠z
 TITO:TI≠TO
 TIi1:TI≠i1
 TIi2:TI≠i2
 TOi1:TO≠i1
 TOi2:TO≠i2
 i12:i1≠i2
 z1:z∉AK
 z2:z∉JM
 o1:TO∉AK
 o2:TO∉JM
 x12:i1∉JM
 x21:i2∉AK
theorem AF{Q:Tv}(D1:Draws prog w A i1 AK n1 P1 PY)(D2:Draws prog w A i2 JM n2 P2 QO)(D:rk z TI TO i1 i2 AK JM)
  (hz:IsZip s.heap z TI TO .none) (ym:IsPair s.heap TI (.ref i1) (.ref i2)) (zM:IsPair s.heap TO a b) (h1:PY k s.heap) (h2:QO k s.heap) (k1:k<n1) (k2:k<n2)
  (hQ:∀x y h' tk,P1 k x->P2 k y->IsZip h' z TI TO (rawInt s.heap.objs.size)->IsPair h' TO x y->PY (k+1) h'->QO (k+1) h'->IsPair h' s.heap.objs.size x y->(∀c o,c≠z->c≠TO->c≠i1->c≠i2->s.heap.get? c=some o->h'.get? c=some o)->Q (.ref s.heap.objs.size) {s with heap:=h',toks:=tk}) :
  wpAny (model prog w) A (Builtin.«zip.__next__» ⟨[.ref z],[]⟩) (λfin s'=>∃v,fin=.done (.ret v)/\Q v s') E s:=by
 show wpAny _ _ (field (.ref z) 2 >>= _) _ _ _;refine Qf<|VV hz rfl (x:=.bool false) rfl ?_;show wpAny _ _ (field (.ref z) 3 >>= _) _ _ _;refine Qf<|VV hz rfl (x:=.ref TI) rfl ?_;refine Qf<|Uk ym rfl ?_;show wpAny _ _ (Builtin.SmallTypes.ownedTupleIsFree (.ref z) >>= _) _ _ _;refine Qf ?_;unfold Builtin.SmallTypes.ownedTupleIsFree;refine Qf<|VV hz rfl (x:=.none) rfl<|Qv ?_;simp only[if_true];refine Qf<|RP ?_;refine Qf<|VV hz rfl (x:=.ref TO) rfl ?_;refine Qf<|L8 hz Qj λbz mh dR=>?_;replace mh:IsZip bz z TI TO .ellipsis:=mh;refine Qf ?_;simp only[List.zipIdx_cons,List.zipIdx_nil,List.forIn_cons,List.forIn_nil];refine Qf<|Qf<|Oj ?_;show wpAny _ _ (Builtin.SmallTypes.nextOf (.ref i1) >>= _) _ _ _;refine Qf<|D1.item k _ _ _ k1 (D1.frame k _ bz h1 λb hb o e=>dR.extBut b o (λq=>D.z1<|q ▸ hb) e) λx iB UZ px JP eE=>Qv ?_;replace eE:Heap.SameBut i1 bz iB:=eE;have ou:IsPair iB TO a b:=eE.extBut _ _ D.TOi1<|dR.extBut _ _ D.TOz zM;refine Qf<|Uk ou rfl ?_;refine Qf<|HD ou λkD rB eT=>?_;replace rB:IsPair kD TO x b:=rB;replace eT:Heap.SameBut TO iB kD:=eT;refine Qf<|TM<|Qv ?_;refine Qf<|Qf<|Oj ?_;show wpAny _ _ (Builtin.SmallTypes.nextOf (.ref i2) >>= _) _ _ _;refine Qf<|D2.item k _ _ _ k2 (D2.frame k _ kD h2 λb hb o e=>eT.extBut b o (λq=>D.o2<|q ▸ hb)<|eE.extBut b o (λq=>D.x12<|q ▸ hb)<|dR.extBut b o (λq=>D.z2<|q ▸ hb) e) λy wg aan py Sf iz=>Qv ?_;replace iz:Heap.SameBut i2 kD wg:=iz;have Ce:IsPair wg TO x b:=iz.extBut _ _ D.TOi2 rB;refine Qf<|Uk Ce rfl ?_;refine Qf<|HD Ce λj3 rC jQ=>?_;replace rC:IsPair j3 TO x y:=rC;replace jQ:Heap.SameBut TO wg j3:=jQ;refine Qf<|TM<|Qv<|Qv ?_;refine Qf<|Uk rC rfl ?_;refine Qf<|wpAny_newTuple ?_;have hsz:j3.objs.size=s.heap.objs.size:=by rw[jQ.1,iz.1,eT.1,eE.1,dR.1]
 have J8:IsZip j3 z TI TO .ellipsis:=jQ.extBut _ _ D.TOz.symm<|iz.extBut _ _ D.i2z.symm<|eT.extBut _ _ D.TOz.symm<|eE.extBut _ _ D.i1z.symm mh;have SG:∀c o,c≠z->c≠TO->c≠i1->c≠i2->s.heap.get? c=some o->j3.get? c=some o:=λc o c1 c2 c3 c4 e=>jQ.extBut _ _ c2<|iz.extBut _ _ c4<|eT.extBut _ _ c2<|eE.extBut _ _ c3<|dR.extBut _ _ c1 e;have SP:z<j3.objs.size:=Ut J8;show wpAny _ _ (Builtin.SmallTypes.ownedTupleHandOut (.ref z) (.ref j3.objs.size) >>= _) _ _ _;refine Qf ?_;unfold Builtin.SmallTypes.ownedTupleHandOut;have SQ:IsZip (j3.push {cls:=.type "tuple",data:=.seq #[x,y]}) z TI TO .ellipsis:=VZ _ J8;refine Qf<|L8 SQ Qj λX9 Cp J3=>?_;replace Cp:IsZip X9 z TI TO (rawInt j3.objs.size):=Cp;refine L8 Cp Qj λzR yv J4=>?_;replace yv:IsZip zR z TI TO (rawInt j3.objs.size):=yv;have up:∀c o,c≠z->j3.get? c=some o->zR.get? c=some o:=λc o c1 e=>J4.extBut _ _ c1<|J3.extBut _ _ c1<|VZ _ e;have JT:IsPair zR j3.objs.size x y:=J4.extBut _ _ (wq SP)<|J3.extBut _ _ (wq SP)<|Ym _ rfl;rw[hsz] at yv JT;refine Qv ⟨_,rfl,?_⟩;show Q (.ref j3.objs.size) _;rw[hsz];refine hQ x y zR _ px py yv (up _ _ D.TOz rC) (D1.frame _ iB zR JP λb hb o e=>up b o (λq=>D.z1<|q ▸ hb)<|jQ.extBut b o (λq=>D.o1<|q ▸ hb)<|iz.extBut b o (λq=>D.x21<|q ▸ hb)<|eT.extBut b o (λq=>D.o1<|q ▸ hb) e) (D2.frame _ wg zR Sf λb hb o e=>up b o (λq=>D.z2<|q ▸ hb)<|jQ.extBut b o (λq=>D.o2<|q ▸ hb) e) JT λc o c1 c2 c3 c4 e=>up c o c1 (SG c o c1 c2 c3 c4 e)
theorem Q0R{Q:Fin->Shared->Prop}{m:Nat}(hh:A.handled=none)(D1:Draws prog w A i1 AK n1 P1 PY)(D2:Draws prog w A i2 JM n2 P2 QO)(D:rk z TI TO i1 i2 AK JM)
  (hz:IsZip s.heap z TI TO .none) (ym:IsPair s.heap TI (.ref i1) (.ref i2)) (zM:IsPair s.heap TO a b) (h1:PY k s.heap) (h2:QO k s.heap) (MF:k=n1\/(k<n1/\k=n2))
  (hE:∀h' e tk,(∀c o,c≠z->c≠TO->c≠i1->c≠i2->s.heap.get? c=some o->h'.get? c=some o)->(∃o,h'.get? e=some o/\o.cls=.type "StopIteration")->E (.ref e) {s with heap:=h',toks:=tk}) :
  wpAny (model prog w) A (Builtin.«zip.__next__» ⟨[.ref z],[]⟩) Q E s:=by
 show wpAny _ _ (field (.ref z) 2 >>= _) _ _ _;refine Qf<|VV hz rfl (x:=.bool false) rfl ?_;show wpAny _ _ (field (.ref z) 3 >>= _) _ _ _;refine Qf<|VV hz rfl (x:=.ref TI) rfl ?_;refine Qf<|Uk ym rfl ?_;show wpAny _ _ (Builtin.SmallTypes.ownedTupleIsFree (.ref z) >>= _) _ _ _;refine Qf ?_;unfold Builtin.SmallTypes.ownedTupleIsFree;refine Qf<|VV hz rfl (x:=.none) rfl<|Qv ?_;simp only[if_true];refine Qf<|RP ?_;refine Qf<|VV hz rfl (x:=.ref TO) rfl ?_;refine Qf<|L8 hz Qj λbz mh dR=>?_;replace mh:IsZip bz z TI TO .ellipsis:=mh;refine Qf ?_;simp only[List.zipIdx_cons,List.zipIdx_nil,List.forIn_cons,List.forIn_nil];refine Qf<|Qf<|Oj ?_;show wpAny _ _ (Builtin.SmallTypes.nextOf (.ref i1) >>= _) _ _ _;have Qs:PY k bz:=D1.frame k _ bz h1 λb hb o e=>dR.extBut b o (λq=>D.z1<|q ▸ hb) e;rcases MF with rfl|⟨k1,rfl⟩;refine Qf<|D1.done _ _ _ Qs λiB e eE he=>?_;obtain⟨oe,MO,Sn⟩:=he;have J6:IsZip iB z TI TO .ellipsis:=eE _ _ D.i1z.symm mh;have XD:e≠z:=λx=>by subst x;rw[J6] at MO;cases MO;simp at Sn
 refine L8 J6 Qj λkD _ eT=>hE kD e _ (λc o c1 _ c3 _ x=>eT.extBut _ _ c1<|eE _ _ c3<|dR.extBut _ _ c1 x) ⟨oe,eT.extBut _ _ XD MO,Sn⟩;refine Qf<|D1.item k _ _ _ k1 Qs λx iB UZ px JP eE=>Qv ?_;replace eE:Heap.SameBut i1 bz iB:=eE;have ou:IsPair iB TO a b:=eE.extBut _ _ D.TOi1<|dR.extBut _ _ D.TOz zM;refine Qf<|Uk ou rfl ?_;refine Qf<|HD ou λkD rB eT=>?_;replace eT:Heap.SameBut TO iB kD:=eT;refine Qf<|TM<|Qv ?_;refine Qf<|Qf<|Oj ?_;show wpAny _ _ (Builtin.SmallTypes.nextOf (.ref i2) >>= _) _ _ _;refine Qf<|D2.done _ _ _ (D2.frame k _ kD h2 λb hb o e=>eT.extBut b o (λq=>D.o2<|q ▸ hb)<|eE.extBut b o (λq=>D.x12<|q ▸ hb)<|dR.extBut b o (λq=>D.z2<|q ▸ hb) e) λwg e iz he=>?_;replace iz:Heap.ExtBut i2 kD wg:=iz;obtain⟨oe,MO,Sn⟩:=he;have J7:IsZip wg z TI TO .ellipsis:=iz _ _ D.i2z.symm<|eT.extBut _ _ D.TOz.symm<|eE.extBut _ _ D.i1z.symm mh;have XD:e≠z:=λx=>by subst x;rw[J7] at MO;cases MO;simp at Sn
 refine L8 J7 Qj λj3 _ jQ=>hE j3 e _ (λc o c1 c2 c3 c4 x=>jQ.extBut _ _ c1<|iz _ _ c4<|eT.extBut _ _ c2<|eE.extBut _ _ c3<|dR.extBut _ _ c1 x) ⟨oe,jQ.extBut _ _ XD MO,Sn⟩
end
abbrev Cu(t:Bool)(l:Addr):Obj:={cls:=.type<|if t then "tuple_iterator" else "list_iterator",data:=.fields #[.ref l,.int 0 0]}
abbrev Wt(h:Heap)(t1:Bool)(l1:Addr):Heap:=h.push (Cu t1 l1)
abbrev Wu(h:Heap)(t1 t2:Bool)(l1 l2:Addr):Heap:=(Wt h t1 l1).push (Cu t2 l2)
abbrev Wv(h:Heap)(t1 t2:Bool)(l1 l2:Addr):Heap:=(Wu h t1 t2 l1 l2).push {cls:=.type "tuple",data:=.seq #[.ref h.objs.size,.ref (Wt h t1 l1).objs.size]}
abbrev Ww(h:Heap)(t1 t2:Bool)(l1 l2:Addr):Heap:=(Wv h t1 t2 l1 l2).push {cls:=.type "tuple",data:=.seq #[.none,.none]}
abbrev Qw(h:Heap)(t1 t2:Bool)(l1 l2:Addr):Heap:=(Ww h t1 t2 l1 l2).push {cls:=.type "zip",data:=.fields #[.none,.bool false,.bool false,.ref (Wu h t1 t2 l1 l2).objs.size,.ref (Wv h t1 t2 l1 l2).objs.size]}
theorem IsTuple.push{h:Heap}{a:Addr}{items:Array Value}(x:h.IsTuple a items)(o:Obj):(h.push o).IsTuple a items:=let ⟨ob,e,r⟩:=x;⟨ob,VZ _ e,r⟩
set_option maxHeartbeats 4000000 in
theorem Ac(t1 t2:Bool)(l1 l2:Addr)(xs ys:Array Value) : Meets (Builtin.«zip.__new__» ⟨[.type "zip",.ref l1,.ref l2],[]⟩) (λ_ R s=>iE t1 s.heap l1 xs/\iE t2 s.heap l2 ys/\R (.ok<|.ret<|.ref (Ww s.heap t1 t2 l1 l2).objs.size) {s with heap:=Qw s.heap t1 t2 l1 l2}):=
 .of_wp λprog w A R s h=>by
  refine VP.gl λQQ eQ=>?_;obtain⟨hp,g,d,tk,os⟩:=s;obtain⟨Qa,JX,h⟩:=h;subst eQ;have FP:=sub_zip;cases t1 with
   |false=>
    have Sh:Heap.IsList (Shared.heap ⟨hp,g,d,tk,os⟩) l1 xs:=Qa;cases t2 with
    |false=>
     have MA:Heap.IsList (Shared.heap ⟨hp.push {cls:=.type "list_iterator",data:=.fields #[.ref l1,.int 0 0]},g,d,tk,os⟩) l2 ys:=Heap.IsList.push JX _
     wp_walk using MX Sh,MX MA
     exact⟨_,rfl,h⟩
    |true=>
     have MA:Heap.IsTuple (Shared.heap ⟨hp.push {cls:=.type "list_iterator",data:=.fields #[.ref l1,.int 0 0]},g,d,tk,os⟩) l2 ys:=IsTuple.push JX _
     wp_walk using MX Sh,Pa MA
     exact⟨_,rfl,h⟩
   |true=>
    have Sh:Heap.IsTuple (Shared.heap ⟨hp,g,d,tk,os⟩) l1 xs:=Qa;cases t2 with
    |false=>
     have MA:Heap.IsList (Shared.heap ⟨hp.push {cls:=.type "tuple_iterator",data:=.fields #[.ref l1,.int 0 0]},g,d,tk,os⟩) l2 ys:=Heap.IsList.push JX _
     wp_walk using Pa Sh,MX MA
     exact⟨_,rfl,h⟩
    |true=>
     have MA:Heap.IsTuple (Shared.heap ⟨hp.push {cls:=.type "tuple_iterator",data:=.fields #[.ref l1,.int 0 0]},g,d,tk,os⟩) l2 ys:=IsTuple.push JX _
     wp_walk using Pa Sh,Pa MA
     exact⟨_,rfl,h⟩
theorem qO(e:h.get? it=some (Cu t l)):cX t it l 0 h:=by cases t;exact⟨_,e,rfl,rfl⟩;exact⟨_,e,rfl,rfl⟩
theorem Bp{prog:Program}{w:World}{A:Around}{E:Tv}{s:Shared}{t1 t2:Bool}{l1 l2:Addr}{xs ys:Array Value}{Q:Tv}(Qa:iE t1 s.heap l1 xs)(JX:iE t2 s.heap l2 ys)
  (h:∀h',IsZip h' (s.heap.objs.size+4) (s.heap.objs.size+2) (s.heap.objs.size+3) .none->IsPair h' (s.heap.objs.size+2) (.ref s.heap.objs.size) (.ref<|s.heap.objs.size+1) ->
   IsPair h' (s.heap.objs.size+3) .none .none->cX t1 s.heap.objs.size l1 0 h'->cX t2 (s.heap.objs.size+1) l2 0 h' ->
   (∀c o,s.heap.get? c=some o->h'.get? c=some o)->Q (.ref<|s.heap.objs.size+4) {s with heap:=h'}) :
  wpAny (model prog w) A (call (.type "zip") [.ref l1,.ref l2]) Q E s:=by
 refine callType_new PySem.F.called_zip (by decide) (PySem.F.typeCall_zip_2 _ _) (PySem.F.newCall_zip_2 _ _) (λobj=>PySem.F.args_object_init_3 obj _ _) PySem.F.entry_zip_new (Ac t1 t2 l1 l2 xs ys) ⟨Qa,JX,?_⟩;have z1:(Wt s.heap t1 l1).objs.size=s.heap.objs.size+1:=Nl ..;have z2:(Wu s.heap t1 t2 l1 l2).objs.size=s.heap.objs.size+2:=by rw[Nl,z1]
 have z3:(Wv s.heap t1 t2 l1 l2).objs.size=s.heap.objs.size+3:=by rw[Nl,z2]
 have z4:(Ww s.heap t1 t2 l1 l2).objs.size=s.heap.objs.size+4:=by rw[Nl,z3]
 have g5:(Qw s.heap t1 t2 l1 l2).get? (Ww s.heap t1 t2 l1 l2).objs.size=some _:=Ym _ rfl;have g4:(Qw s.heap t1 t2 l1 l2).get? (Wv s.heap t1 t2 l1 l2).objs.size=some _:=VZ _<|Ym _ rfl;have g3:(Qw s.heap t1 t2 l1 l2).get? (Wu s.heap t1 t2 l1 l2).objs.size=some _:=VZ _<|VZ _<|Ym _ rfl;have g2:(Qw s.heap t1 t2 l1 l2).get? (Wt s.heap t1 l1).objs.size=some _:=VZ _<|VZ _<|VZ _<|Ym _ rfl;have g1:(Qw s.heap t1 t2 l1 l2).get? s.heap.objs.size=some _:=VZ _<|VZ _<|VZ _<|VZ _<|Ym _ rfl;show _/\_;rw[z2,z3,z4] at g5;rw[z1,z2] at g3;rw[z3] at g4;rw[z1] at g2;rw[z4];exact⟨⟨_,g5,rfl⟩,h _ g5 g3 g4 (qO g1) (qO g2) λc o x=>VZ _<|VZ _<|VZ _<|VZ _<|VZ _ x⟩
section
variable{X:Cx}{EX:XE}{L:Lc}{e a b:Expr}{fa fb fe:M D}{pos p:Pos}{x:Str}
theorem F0(K:Frag):∀k∈["NoneType","bool","int","str","tuple","list","dict"],∀T∈["int","bool","tuple","list","str","dict"],W.kitOne K (.type k) (.type T)=some (k == T||(k == "bool" && T == "int")):=by intro k hk T hT;simp only[List.mem_cons,List.not_mem_nil,or_false] at hk hT;rcases hk with rfl|rfl|rfl|rfl|rfl|rfl|rfl<;>rcases hT with rfl|rfl|rfl|rfl|rfl|rfl<;>first|rfl|decide +kernel|(show W.kitOne K _ _=_;kernel_rfl)
end
theorem rF{js:YK}{m n:Nat}(h:js.all (λj=>decide (m<=j)&&decide (j<m+n))=true):∀j∈js,m<=j/\j<m+n:=λj hj=>by have:=List.all_eq_true.mp h j hj;rw[Lp] at this;exact⟨P0 this.1,P0 this.2⟩
structure pI(K:Frag)(mg:MG)(x:Str)(st:Stmt)(ps:Xa)(f:Addr)(fd:FuncData):Prop where
 fu:EF K x x st f fd
 bi:Binds K fd ps []
 mg:mg x=some (.ref f)
section
variable{X:Cx}{EX:XE}{L:Lc}{e a b c:Expr}{fa fb fc fe:M D}{pos:Pos}{x:Str}
def cy:D->Value->Prop|.aP,v=>v=.none|.bl k,v=>v=.bool k|.int i,v=>∃t,v=.int i t|.str s,v=>∃t,v=.str s t|_,_=>False
def Y8(mg:MG)(x:Str)(d:D):Prop:=∃v,mg x=some v/\cy d v
end
namespace RV
theorem As:Slot "reversed" "__init__" "object.__init__":=.of (owner:="object") (n:="__init__") (by rw[pQ,QZ];kernel_rfl) (by decide +kernel) (by decide +kernel) (by decide +kernel) (by first|exact .inl (by decide +kernel)|exact .inr (by decide +kernel)) (by rw[Vb];kernel_rfl)
theorem called:TypeCalled "reversed" "reversed.__new__" "object.__init__":=⟨by decide +kernel,PySem.F.create_reversed,⟨_,_,PySem.F.mro_reversed⟩,PySem.F.made_reversed,Ei,PySem.F.sub_reversed_self,As⟩
theorem slot_next:Slot "reversed" "__next__" "reversed.__next__":=.of (owner:="reversed") (n:="__next__") (by rw[pQ,QZ];kernel_rfl) (by decide +kernel) (by decide +kernel) (by decide +kernel) (by first|exact .inl (by decide +kernel)|exact .inr (by decide +kernel)) (by rw[Vb];kernel_rfl)
theorem entry_next:entryFor table "reversed.__next__" = some Builtin.«reversed.__next__» := entryFor_of_tree (by kernel_rfl)
theorem lM:Manifest.owners.lookup (String.ofList ['d','e','s','r','e','v','e','r'].reverse)=some Manifest.sig_reversed:=by kernel_rfl
theorem args_next(a:Value):argsOk "reversed.__next__" ⟨[a],[]⟩:=by unfold argsOk;rw[signature?_of (id:="reversed.__next__") (n:=['_','_','t','x','e','n','_','_']) (o:=['d','e','s','r','e','v','e','r']) (by kernel_rfl) lM];kernel_rfl
theorem qQ:Slot "reversed" "__iter__" "reversed.__iter__":=.of (owner:="reversed") (n:="__iter__") (by rw[pQ,QZ];kernel_rfl) (by decide +kernel) (by decide +kernel) (by decide +kernel) (by first|exact .inl (by decide +kernel)|exact .inr (by decide +kernel)) (by rw[Vb];kernel_rfl)
theorem Q23(a:Value):argsOk "reversed.__iter__" ⟨[a],[]⟩:=by unfold argsOk;rw[signature?_of (id:="reversed.__iter__") (n:=['_','_','r','e','t','i','_','_']) (o:=['d','e','s','r','e','v','e','r']) (by kernel_rfl) lM];kernel_rfl
theorem v5:entryFor table "reversed.__iter__" = some Builtin.«dict_keyiterator.__iter__»:=entryFor_alias (id':="dict_keyiterator.__iter__") (by kernel_rfl) (by first|rfl|decide +kernel|(unfold String.splitOn;simp +decide [String.splitOnAux])) (by decide +kernel) (by kernel_rfl)
theorem Q1o:typeLookup (.type "tuple") "__reversed__" = pure none:=by rw[pQ,QZ];kernel_rfl
theorem tTs:isSubtype (.type "tuple") (.type "dict")=pure false:=by rw[Vb];kernel_rfl
section
variable{prog:Program}{w:World}{A:Around}{E:Tv}{s:Shared}
def obj(t:Addr)(i:Int):Obj:={cls:=.type "reversed",data:=.fields #[.ref t,rawInt i]}
def Is(h:Heap)(a t:Addr)(i:Int):Prop:=∃o,h.get? a=some o/\o.cls=.type "reversed" /\ o.data=.fields #[.ref t,rawInt i]
theorem Bs(ht:IsTup s.heap t items)(hz:items.size<=sizeLine)
  (h:∀tk,Q₁ (.ref s.heap.objs.size) {s with heap:=s.heap.push<|obj t<|(items.size:Int)-1,toks:=tk}) :
  codeAny (model prog w) A (.call (.builtin "reversed.__new__") ⟨[.type "reversed",.ref t],[]⟩) (wants Q₁ E) s:=by
 refine codeAny_of_tree ?_;refine Qf (m:=checkBuiltinCall "reversed.__new__" ⟨[.type "reversed",.ref t],[]⟩)<|CK (PySem.F.newCall_reversed_1 _)<|Qv ⟨NV Ei _,RJ PySem.F.entry_reversed_new ?_⟩;rw[QU Ei _];unfold Builtin.«reversed.__new__»;refine Qf<|CK (newClass_reversed _) ?_;refine Qf<|CK (a:=()) (by first|rfl|kernel_rfl) ?_;refine Qf<|CK (a:=()) (by first|rfl|kernel_rfl) ?_;try dsimp only
 refine Qf<|GK ht.typeIs Q1o ?_;try dsimp only
 refine Qf<|Qf (m:=isInstance (.ref t)<|.type "dict")<|zD (b:=false) ht.typeIs tTs ?_;refine Qf (m:=specialOf (.ref t) "__getitem__")<|GK ht.typeIs PyProof.Rows.slot_tuple_getitem.lookup ?_;refine Qv ?_;refine Qf (m:=call (Value.builtin "len") [Value.ref t])<|len_tuple ht (by rw[xg] at hz;lia) ?_;refine Qf (m:=asInt?<|.int items.size _)<|Qv ?_;refine Qf (m:=newObj (.type "reversed")<|.fields #[.ref t,rawInt<|(items.size:Int)-1]) (My<|Qv<|h _)
theorem make(ht:IsTup s.heap t items)(hz:items.size<=sizeLine)(h:∀tk,Q (.ref s.heap.objs.size) {s with heap:=s.heap.push<|obj t<|(items.size:Int)-1,toks:=tk}):wpAny (model prog w) A (call (.type "reversed") [.ref t]) Q E s:=by refine callType_codes (Q₁:=λo aQ=>aQ.TypeIs o "reversed" /\ Q o aQ) called (PySem.F.typeCall_reversed_1 _) PySem.F.entry_object_init (Bs ht hz λtk=>⟨⟨_,Ym _ rfl,rfl⟩,h tk⟩) λo aQ bz=>?_;exact⟨bz.1,Pn o _,object_init_meets called.init.lookup called.made (by decide) prog w A.in1 _ aQ ⟨bz.1,rfl,bz.2⟩⟩
theorem Is.typeIs(x:Is s.heap a t i):s.TypeIs (.ref a) "reversed" := let ⟨o,ho,hc,_⟩:=x;⟨o,ho,hc⟩
theorem Is.at(x:Is h a t i)(e:∀o,h.get? a=some o->h'.get? a=some o):Is h' a t i:=let ⟨o,ho,r⟩:=x;⟨o,e _ ho,r⟩
theorem next_item{it t:Addr}{i:Nat}{items:Array Value}{x:Value}{Q:Xf->Shared->Prop}(hit:Is s.heap it t (i:Int))(ht:IsTup s.heap t items)(hx:items[i]?=some x)(hz:items.size<=sizeLine)(hQ:∀h' tk,Is h' it t ((i:Int)-1)->Heap.SameBut it s.heap h'->Q (some x) {s with heap:=h',toks:=tk}):wpAny (model prog w) A (pyNext<|.ref it) Q E s:=by
 obtain⟨o,ho,hc,hd⟩:=id hit;unfold pyNext;refine Qf<|Rp<|Rr (name:=Str.ofString "__next__") hit.typeIs slot_next<|Nx slot_next hit.typeIs entry_next ?_<|args_next _;unfold Builtin.«reversed.__next__»;refine Qf<|CK (a:=(Value.ref it,[])) rfl ?_;refine Qf<|VV ho hd (x:=.ref t) rfl ?_;refine Qf<|VV ho hd (x:=rawInt (i:Int)) rfl ?_;show wpAny _ _ (if (i:Int)<0 then _ else _) _ _ s;rw[YO Uz];refine Qf (m:=specialOf (.ref t) "__getitem__")<|GK ht.typeIs PyProof.Rows.slot_tuple_getitem.lookup ?_;have hi:i<items.size:=(Array.getElem?_eq_some_iff.mp hx).1;have hz':(items.size:Int)<=16777216:=by rw[xg] at hz;lia
 refine Qf (m:=mkInt (i:Int))<|wpAny_mkInt ?_;refine Qf (m:=(getItem (Value.ref t) _).attempt)<|Rp<|getItem_tuple (items:=items) (j:=i) ht Uz Uz ?_ hx ?_;unfold seqIndex?;simp;lia;refine Qf (m:=field (Value.ref it) 1)<|VV ho hd (x:=rawInt (i:Int)) rfl ?_;refine Qf (m:=setField (Value.ref it) 1<|rawInt<|(i:Int)-1)<|AA ho hd Qj ?_;refine Qv ⟨x,rfl,Qv<|hQ _ _ ?_<|Pm ..⟩;exact⟨_,F2 _ ho<|Em<|NK hd _,(Obj.cls_mapFields ..).trans hc,by rw[NK hd];simp⟩
theorem next_end(hh:A.handled=none)(hit:Is s.heap it t (-1))(hQ:∀h',Heap.ExtBut it s.heap h'->Q none {s with heap:=h'}):wpAny (model prog w) A (pyNext<|.ref it) Q E s:=by
 obtain⟨o,ho,hc,hd⟩:=id hit;unfold pyNext;refine Qf<|Rp<|Rr (name:=Str.ofString "__next__") hit.typeIs slot_next<|Nx slot_next hit.typeIs entry_next ?_<|args_next _;unfold Builtin.«reversed.__next__»;refine Qf<|CK (a:=(Value.ref it,[])) rfl ?_;refine Qf<|VV ho hd (x:=.ref t) rfl ?_;refine Qf<|VV ho hd (x:=rawInt<|-1) rfl ?_;show wpAny _ _ (if (-1:Int)<0 then _ else _) _ _ s;rw[YN (by decide)];refine Qf<|RP ?_;refine Qf<|Qf (m:=setField (Value.ref it) 1<|rawInt<|-1)<|AA ho hd Qj ?_;have ho1:=F2 (Obj.mapFields λvs=>vs.set! 1 (rawInt<|-1)) ho<|Em<|NK hd _;have MD:(Obj.mapFields (λvs=>vs.set! 1 (rawInt<|-1)) o).data=.fields #[.ref t,rawInt<|-1]:=by rw[NK hd];simp
 refine AA ho1 MD Qj ?_;refine Qf (m:=Builtin.SmallTypes.stopIteration) ?_;refine Qf (m:=newExc (.type "StopIteration") []) ?_;simp only[newExc,newTuple];refine Qf<|My ?_ (by size_fits);refine Qf (m:=firstArgMember _ _)<|CK (a:=Value.none) (by first|rfl|(simp only[firstArgMember];rfl)) ?_;refine My ?_ (by size_fits);simp only[raiseNew];refine Qf<|wpAny_handled ?_;first|rw[show A.in1.handled=none from hh]|rw[hh]
 refine Qf<|Qv<|wpAny_throw ?_;refine Qf<|zD (T:="StopIteration") (b:=true) ⟨_,Ym _ rfl,rfl⟩ isSubtype_stop ?_;refine Qv<|hQ _ λb ob hb e=>?_;refine VZ _<|VZ _ ?_;exact(Hn _ _<|Wl hb).trans ((Hn _ _<|Wl hb).trans e)
theorem lE(hit:Is s.heap it t i)(h:Q (.ref it) s):wpAny (model prog w) A (pyIter<|.ref it) Q E s:=by refine wpAny_pyIter_slot hit.typeIs qQ<|Nx qQ hit.typeIs v5 ?_<|Q23 _;exact Qv ⟨_,rfl,"reversed",_,hit.typeIs,slot_next.lookup,h⟩
end
end RV
def lU(t:Bool)(it q:Addr)(i:Int)(h:Heap):Prop:=if t then RV.Is h it q i else h.IsRevIter it q i
theorem lU.at(x:lU t it q i h)(e:∀o,h.get? it=some o->h'.get? it=some o):lU t it q i h':=by cases t;exact Heap.IsRevIter.at x e;exact RV.Is.at x e
theorem lU.obj(x:lU t it q i h):∃o n vs,h.get? it=some o/\o.cls=.type n/\o.data=.fields vs/\["enumerate","zip","dict_itemiterator","dict_reverseitemiterator","odict_iterator","itertools.zip_longest","itertools.pairwise"].contains n=false:=by cases t;obtain⟨o,h1,h2,h3⟩:=x;exact⟨o,_,_,h1,h2,h3,by decide⟩;obtain⟨o,h1,h2,h3⟩:=x;exact⟨o,_,_,h1,h2,h3,by decide⟩
namespace GA
def E7(T:String):Prop:=T="list_reverseiterator" \/ T="reversed"
section
variable{prog:Program}{w:World}{A:Around}{E:Tv}{s:Shared}{I:Addr}{fp wr:V8}{n:Nat}{P:Nat->Value->Prop}{St:Nat->Heap->Prop}{T:String}
def Hint(prog:Program)(w:World)(A:Around)(I:Addr)(St:Nat->Heap->Prop):Prop:=∀(s:Shared)(Q:Bool->Shared->Prop)(E:Tv),St 0 s.heap->(∀b tk,s.toks<=tk->Q b {s with toks:=tk})->wpAny (model prog w) A (Builtin.List.listLengthHint<|.ref I) Q E s
theorem extend(h2:E7 T)(W:WalksS prog w A.in1 I fp wr (λa b=>b=a) n P (λi s=>St i s.heap))(hT:∀(i:Nat)(s:Shared),St i s.heap->s.TypeIs (.ref I) T)(hh:Hint prog w A.in1 I St)(S:Addr)(res:Value)(c₀:Nat)(jH:St 0 s.heap)(Cd:S∉fp)(hI:I∈fp)
  (hS:s.heap.get? S=some {cls:=.type "list",data:=.seq #[] c₀}) (hn:n<=sizeLine)
  (hR:∀s' nG c',Moved (S::wr) (λa b=>b=a) s s'->s'.heap.get? S=some {cls:=.type "list",dict:=none,data:=.seq nG c',slots:=#[]}->ItemsOf P nG n->R (.ok<|.ret res) s') :
  wpAny (model prog w) A.in1 (Builtin.List.listExtendWith (.ref S) (.ref I) res) (λfin s'=>match fin with|.done f=>R (.ok f) s'|.again c'=>c'.quiet=true/\codeAny (model prog w) A c' R s') (λe s'=>R (.error e) s') s:=by
 have hSI:S≠I:=λe=>Cd<|e ▸ hI;have h1:Builtin.List.listSameRef (.ref S) (.ref I)=false:=by simp[Builtin.List.listSameRef,hSI]
 unfold Builtin.List.listExtendWith;refine Qf<|M8 (hT 0 _ jH) ?_;rw[YO (by rw[h1];rcases h2 with rfl|rfl<;>decide)];refine Qf<|W.self 0 _ _ _ jH<|Qf<|Tr<|hh s _ _ jH λb tk VO=>?_;have nz:=W.frame 0 s s.heap tk jH VO λb _ o e=>e;cases b with|false=>rw[YO (by rcases h2 with rfl|rfl<;>decide)];refine Qv ⟨NV PySem.F.plain_extend_loop _,codeAny_extend_loopS W hn _ Cd _ n 0 _ _ _ rfl (ZN _) nz hS (ItemsOf.nil P) λs' nG c' hm MB hJ=>hR s' nG c' ?_ MB hJ⟩;have mv:Moved (S::wr) (λa b=>b=a) s {s with toks:=tk}:=⟨λb o hb e=>e,rfl,rfl,rfl,VO⟩;exact Moved.trans W.gtrans mv hm|true=>rw[YN (by rcases h2 with rfl|rfl<;>decide)];refine Qf<|RP<|Qf (m:=updateSeq S (·.push .none) >>= λ_=>updateSeq S (·.pop))<|Qf<|Dt hS rfl ?_;have q1:=F2 (Obj.mapSeq (·.push Value.none)) hS rfl;refine Dt (hz:=by seq_fits) q1 rfl ?_;have q2:=F2 (Obj.mapSeq (·.pop)) q1 rfl;have AP:∀b o,b≠S->s.heap.get? b=some o->((s.heap.update S<|Obj.mapSeq (·.push Value.none)).update S<|Obj.mapSeq (·.pop)).get? b=some o:=λb o hb e=>(Hn _ _<|Wl hb).trans<|(Hn _ _<|Wl hb).trans e;refine Qv ⟨NV PySem.F.plain_extend_loop _,codeAny_extend_loopS W hn _ Cd _ n 0 _ _ _ rfl (ZN _) (W.frame 0 s _ tk jH VO λb hb o e=>AP b o (λz=>Cd<|z ▸ hb) e) q2 (ItemsOf.nil P) λs' nG c' hm MB hJ=>hR s' nG c' ?_ MB hJ⟩;have mv:Moved (S::wr) (λa b=>b=a) s {s with heap:=(s.heap.update S<|Obj.mapSeq (·.push Value.none)).update S<|Obj.mapSeq (·.pop),toks:=tk}:=⟨λb o hb e=>AP b o (λz=>hb (by rw[z];exact R9)) e,rfl,rfl,rfl,VO⟩;exact Moved.trans W.gtrans mv hm
theorem gathered(h2:E7 T)(W:WalksS prog w A.in1 I fp wr (λa b=>b=a) n P (λi s=>St i s.heap))(hT:∀(i:Nat)(s:Shared),St i s.heap->s.TypeIs (.ref I) T)(hh:Hint prog w A.in1 I St)(jH:St 0 s.heap)(rE:∀b∈fp,b<s.heap.objs.size)(hI:I∈fp)(hn:n<=sizeLine)(hQ:∀s' acc,Moved wr (λa b=>b=a) s s'->ItemsOf P acc n->Q acc.toList s'):wpAny (model prog w) A (collect<|.ref I) Q E s:=by have Cd:s.heap.objs.size∉fp:=λhm=>Rm _<|rE _ hm;refine Qf (m:=runValue<|.builtin "proto.collect" ⟨[.ref I],[]⟩)<|wpAny_runValue<|RJ PySem.F.entry_proto_collect ?_;rw[QU PySem.F.plain_proto_collect _];refine Qf (m:=newList [])<|My<|Qv ⟨NV PySem.F.plain_list_iadd _,RJ PySem.F.entry_list_iadd ?_⟩;rw[QU PySem.F.plain_list_iadd _];have X:=extend (R:=λr s'=>r=.ok (.ret<|.ref s.heap.objs.size)/\∃acc c,Moved (s.heap.objs.size::wr) (λa b=>b=a) {s with heap:=s.heap.push {cls:=.type "list",data:=.seq ([]:SX).toArray}} s'/\s'.heap.get? s.heap.objs.size=some {cls:=.type "list",dict:=none,data:=.seq acc c,slots:=#[]}/\ItemsOf P acc n) (s:={s with heap:=s.heap.push {cls:=.type "list",data:=.seq ([]:SX).toArray}}) h2 W hT hh s.heap.objs.size (.ref s.heap.objs.size) 0 (W.frame 0 s _ s.toks jH (Wd _) λb _ o e=>VZ _ e) Cd hI (Ym _ rfl) hn λs' acc c hm hS hJ=>⟨rfl,acc,c,hm,hS,hJ⟩;have fin:∀s',(∃acc c,Moved (s.heap.objs.size::wr) (λa b=>b=a) {s with heap:=s.heap.push {cls:=.type "list",data:=.seq ([]:SX).toArray}} s'/\s'.heap.get? s.heap.objs.size=some {cls:=.type "list",dict:=none,data:=.seq acc c,slots:=#[]}/\ItemsOf P acc n)->wpAny (model prog w) A (do let o <-load s.heap.objs.size;match o.data with|.seq xs _=>pure xs.toList|_=>unsupported "internal:collect") Q E s':=λs' ⟨acc,c,hm,hS,hJ⟩=>Qf<|wpAny_load hS<|Qv<|hQ s' acc (Moved.drop_new (o:={cls:=.type "list",data:=.seq ([]:SX).toArray}) (tk:=s.toks) hm<|Wd _) hJ;refine FD X (λf s' h=>?_) λe s' h=>absurd h.1 Qj;cases f with|done f=>obtain⟨e,h⟩:=h;cases e;exact fin s' h|again c'=>exact⟨h.1,codeAny_mono h.2 λr An ⟨e,h⟩=>by subst e;exact fin An h⟩
theorem vX(h2:E7 T)(W:WalksS prog w A.in1.in1 I fp wr (λa b=>b=a) n P (λi s=>St i s.heap))(hT:∀(i:Nat)(s:Shared),St i s.heap->s.TypeIs (.ref I) T)(hh:Hint prog w A.in1.in1 I St)(jH:St 0 s.heap)(rE:∀b∈fp,b<s.heap.objs.size)(hI:I∈fp)(hn:n<=sizeLine)
  (h:∀s' acc,Moved wr (λa b=>b=a) s s'->ItemsOf P acc n->Q₁ (.ref s'.heap.objs.size) {s' with heap:=s'.heap.push {cls:=.type "tuple",data:=.seq acc}}) :
  codeAny (model prog w) A (.call (.builtin "tuple.__new__") ⟨[.type "tuple",.ref I],[]⟩) (wants Q₁ E) s:=by
 refine codeAny_of_tree<|Qf (m:=checkBuiltinCall "tuple.__new__" ⟨[.type "tuple",.ref I],[]⟩)<|CK (PySem.F.newCall_tuple_1 _)<|Qv ⟨NV PySem.F.plain_tuple_new _,RJ PySem.F.entry_tuple_new ?_⟩;rw[QU PySem.F.plain_tuple_new _];have k1:=sub_tuple_self;have k2:=init_tuple_lookup;have k3:=madeHere_tuple;have k4:=hT 0 s jH;rcases h2 with rfl|rfl;have z2:E7 "list_reverseiterator" := .inl rfl
 wp_walk using M8 k4,gathered z2 W hT hh jH rE hI hn
 intro s' acc hm hJ;refine Qf (m:=Builtin.Tuple.tupleExact acc.toList.toArray)<|My (Qv ?_) (by show acc.toList.toArray.size<=sizeLine;simp only[Array.toArray_toList];rw[hJ.1];exact hn);rw[show acc.toList.toArray=acc by simp];exact h s' acc hm hJ;have z2:E7 "reversed" := .inr rfl
 wp_walk using M8 k4,gathered z2 W hT hh jH rE hI hn
 intro s' acc hm hJ;refine Qf (m:=Builtin.Tuple.tupleExact acc.toList.toArray)<|My (Qv ?_) (by show acc.toList.toArray.size<=sizeLine;simp only[Array.toArray_toList];rw[hJ.1];exact hn);rw[show acc.toList.toArray=acc by simp];exact h s' acc hm hJ
theorem vR(h2:E7 T)(W:WalksS prog w A.in1.in1.in1 I fp wr (λa b=>b=a) n P (λi s=>St i s.heap))(hT:∀(i:Nat)(s:Shared),St i s.heap->s.TypeIs (.ref I) T)(hh:Hint prog w A.in1.in1.in1 I St)(jH:St 0 s.heap)(rE:∀b∈fp,b<s.heap.objs.size)(hI:I∈fp)(hn:n<=sizeLine)(hQ:∀s' acc,Moved wr (λa b=>b=a) s s'->ItemsOf P acc n->Q (.ref s'.heap.objs.size) {s' with heap:=s'.heap.push {cls:=.type "tuple",data:=.seq acc}}):wpAny (model prog w) A (call (.type "tuple") [.ref I]) Q E s:=by refine callType_codes (Q₁:=λobj aQ=>aQ.TypeIs obj "tuple" /\ Q obj aQ) PySem.F.called_tuple (PySem.F.typeCall_tuple_1 _) PySem.F.entry_object_init (vX h2 W hT hh jH rE hI hn λs' acc hm hJ=>⟨⟨_,Ym _ rfl,rfl⟩,hQ s' acc hm hJ⟩) λobj aQ bz=>?_;exact⟨bz.1,Pn obj _,object_init_meets PySem.F.called_tuple.init.lookup PySem.F.called_tuple.made (by decide) prog w A.in1 _ aQ ⟨bz.1,rfl,bz.2⟩⟩
end
theorem Gx:typeLookup (.type "list_reverseiterator") "__len__" = pure none:=by rw[pQ,QZ];kernel_rfl
theorem Q0m:typeLookup (.type "list_reverseiterator") "__length_hint__" = pure (some<|.builtin "list_reverseiterator.__length_hint__"):=by rw[pQ,QZ];kernel_rfl
theorem Gy:typeLookup (.type "reversed") "__len__" = pure none:=by rw[pQ,QZ];kernel_rfl
theorem Cm:typeLookup (.type "reversed") "__length_hint__" = pure (some<|.builtin "reversed.__length_hint__"):=by rw[pQ,QZ];kernel_rfl
theorem qP:Slot "reversed" "__length_hint__" "reversed.__length_hint__":=.of (owner:="reversed") (n:="__length_hint__") Cm (by decide +kernel) (by decide +kernel) (by decide +kernel) (by first|exact .inl (by decide +kernel)|exact .inr (by decide +kernel)) (by rw[Vb];kernel_rfl)
theorem vZ:entryFor table "reversed.__length_hint__" = some Builtin.«reversed.__length_hint__» := entryFor_of_tree (by kernel_rfl)
theorem zB(a:Value):argsOk "reversed.__length_hint__" ⟨[a],[]⟩:=by unfold argsOk;rw[signature?_of (id:="reversed.__length_hint__") (n:=['_','_','t','n','i','h','_','h','t','g','n','e','l','_','_']) (o:=['d','e','s','r','e','v','e','r']) (by kernel_rfl) RV.lM];kernel_rfl
section
variable{prog:Program}{w:World}{A:Around}
def Zb(it q:Addr)(items:Array Value):Nat->Heap->Prop:=λi h=>i<=items.size/\h.IsRevIter it q ((items.size:Int)-1-(i:Int))/\h.IsList q items
def WO(it q:Addr)(items:Array Value):Nat->Heap->Prop:=λi h=>i<=items.size/\RV.Is h it q ((items.size:Int)-1-(i:Int))/\IsTup h q items
theorem Sz:Hint prog w A it (Zb it q items):=λs Q E st h=>by
 have hT:s.TypeIs (.ref it) "list_reverseiterator" := st.2.1.typeIs;unfold Builtin.List.listLengthHint;refine Qf<|GK hT Gx ?_;refine Qf (m:=specialOf (.ref it) "__length_hint__")<|GK hT Q0m ?_;generalize Sy:("list_reverseiterator.__length_hint__" : String)=Ya
 wp_delta
 rw[show splitId Ya=some ("list_reverseiterator","__length_hint__") from by subst Sy;decide +kernel];subst Sy;refine Qf (zD (b:=true) hT (by rw[Vb];kernel_rfl)<|Qv<|h _ s.toks<|Wd _)
theorem SA(hz:items.size<=sizeLine):Hint prog w A it (WO it q items):=λs Q E st h=>by
 have hT:s.TypeIs (.ref it) "reversed" := st.2.1.typeIs;unfold Builtin.List.listLengthHint;refine Qf<|GK hT Gy ?_;refine Qf (m:=specialOf (.ref it) "__length_hint__")<|GK hT Cm ?_;generalize Sy:("reversed.__length_hint__" : String)=Ya
 wp_delta
 rw[show splitId Ya=some ("reversed","__length_hint__") from by subst Sy;decide +kernel];subst Sy;refine Qf<|zD (b:=true) hT (by rw[Vb];kernel_rfl) ?_;obtain⟨_,⟨o,ho,hc,hd⟩,ht⟩:=id st;have hz':(items.size:Int)<=16777216:=by rw[xg] at hz;lia
 rw[YO (show ¬((!true)=true) by decide)];dsimp only[];rw[YO (by decide)];refine Qf<|RP<|Qf<|CK (qP.bind _) ?_;refine Qf (m:=(call (.builtin "reversed.__length_hint__") [.ref it]).attempt)<|Rp<|Nx qP hT vZ ?_<|zB _;unfold Builtin.«reversed.__length_hint__»;refine Qf<|CK (a:=Value.ref it) (by first|rfl|kernel_rfl) ?_;refine Qf<|VV ho hd (x:=.ref q) rfl ?_;rw[YO (by intro z;cases z)];dsimp only[];refine Qf (m:=call (Value.builtin "len") [Value.ref q])<|len_tuple ht Uz ?_;refine Qf (m:=asInt?<|.int items.size _)<|Qv ?_;refine Qf (m:=field (.ref it) 1)<|VV (s:={s with toks:=s.toks+1+1}) ho hd (x:=rawInt<|(items.size:Int)-1-((0:Nat):Int)) rfl ?_;have e0:(items.size:Int)-1-((0:Nat):Int)+1=items.size:=Uz;show wpAny _ _ (if (items.size:Int)<(items.size:Int)-1-((0:Nat):Int)+1 then _ else retInt ((items.size:Int)-1-((0:Nat):Int)+1)) _ _ _;rw[YO Uz,e0];have f1:Builtin.List.listFitsIndex (items.size:Int)=true:=by
  unfold Builtin.List.listFitsIndex;simp only[Bool.and_eq_true,decide_eq_true_eq]
  lia
 have f2:Builtin.List.listTooLong ((items.size:Int).toNat)=false:=by unfold Builtin.List.listTooLong;rw[Es];simp only[decide_eq_false_iff_not,gt_iff_lt,Nat.not_lt];exact hz
 have f3:¬(items.size:Int)<0:=Uz;generalize (items.size:Int)=k at f1 f2 f3 ⊢;refine Qf (m:=mkInt k)<|wpAny_mkInt<|Qv ⟨_,rfl,?_⟩;dsimp only[];refine Qf<|CK (a:=some k) rfl ?_;dsimp only[];rw[YO (by rw[f1];decide),YO f3,YO (by rw[f2];decide)];exact Qv (h _ _ (by show s.toks<=s.toks+1+1+1;lia))
theorem Q1g(hh:A.handled=none)(it q:Addr)(FK:q≠it)(items:Array Value)(hz:items.size<=sizeLine):Walks prog w A it [it,q] [it] items.size (λi v=>items[items.size-1-i]?=some v) (WO it q items) where
 sub:=λb hb=>by simp at hb;simp[hb]
 frame:=λ_ _ _ x hk=>⟨x.1,x.2.1.at λo e=>hk it Qj o e,by obtain⟨o,e,r⟩:=x.2.2;exact⟨o,hk q Qj o e,r⟩⟩
 item:=λi s Q E hi x hQ=>by have e:(items.size:Int)-1-(i:Int)=((items.size-1-i:Nat):Int):=Uz;have e2:((items.size-1-i:Nat):Int)-1=(items.size:Int)-1-((i+1:Nat):Int):=Uz;have hit:=x.2.1;rw[e] at hit;have hx:items[items.size-1-i]?=some (items[items.size-1-i]' Uz):=Array.getElem?_eq_getElem Uz;refine RV.next_item hit x.2.2 hx hz λh' tk FJ sb=>?_;rw[e2] at FJ;refine hQ _ h' tk hx ⟨hi,FJ,?_⟩ λb o hb eo=>(sb.2 b λz=>hb (by simp[z])).trans eo;obtain⟨o,eo,r⟩:=x.2.2;exact⟨o,(sb.2 q FK).trans eo,r⟩
 done:=λs Q E x hQ=>by have e:(items.size:Int)-1-(items.size:Int)=-1:=Uz;have hit:=x.2.1;rw[e] at hit;exact RV.next_end hh hit λh' he=>hQ h' s.toks λb o hb eo=>he b o (λz=>hb (by simp[z])) eo
 self:=λ_ _ _ _ x hQ=>RV.lE x.2.1 hQ
end
end GA
section
variable{X:Cx}{EX:XE}{L:Lc}{e a b tg:Expr}{fa fb fe:M D}{pos p Tw p':Pos}
theorem qC{items acc:Array Value}(h:ItemsOf (λi v=>items[items.size-1-i]?=some v) acc items.size):acc=items.toList.reverse.toArray:=by
 obtain⟨h1,h2⟩:=h;apply Array.ext';refine List.ext_getElem? λi=>?_;by_cases hi:i<acc.size;have e:=h2 i acc[i]<|Array.getElem?_eq_getElem hi;have l:acc.toList[i]?=some acc[i]:=by simp[hi]
 rw[l];simp only[List.toList_toArray];rw[WA (by simp;lia),<-e];simp;have Sx:¬i<items.size:=Uz;rw[Bv (by simp;lia),Bv (by simp;lia)]
end
namespace GA
section
variable{prog:Program}{w:World}{A:Around}{E:Tv}{s:Shared}{I:Addr}{fp wr:V8}{n:Nat}{P:Nat->Value->Prop}{St:Nat->Heap->Prop}{T:String}
theorem zJ(h2:E7 T)(W:WalksS prog w A.in1 I fp wr (λa b=>b=a) n P (λi s=>St i s.heap))(hT:∀(i:Nat)(s:Shared),St i s.heap->s.TypeIs (.ref I) T)(hh:Hint prog w A.in1 I St)(S:Addr)(jH:St 0 s.heap)(Cd:S∉fp)(hI:I∈fp)
  (hS:s.heap.get? S=some {cls:=.type "list",data:=.seq #[]}) (hn:n<=sizeLine)
  (hR:∀s' acc c,Moved (S::wr) (λa b=>b=a) s s'->s'.heap.get? S=some {cls:=.type "list",dict:=none,data:=.seq acc c,slots:=#[]}->ItemsOf P acc n->R (.ok<|.ret .none) s') :
  wpAny (model prog w) A.in1 (Builtin.«list.__init__» ⟨[.ref S,.ref I],[]⟩) (λfin s'=>match fin with|.done f=>R (.ok f) s'|.again c'=>c'.quiet=true/\codeAny (model prog w) A c' R s') (λe s'=>R (.error e) s') s:=by
 have q2:=F2 (Obj.mapSeq (λ_=>(#[]:Array Value))) hS rfl;have AP:∀b o,b≠S->s.heap.get? b=some o->(s.heap.update S<|Obj.mapSeq (λ_=>(#[]:Array Value))).get? b=some o:=λb o hb e=>by rw[Hn _ _<|Wl hb];exact e
 refine Qf (m:=Builtin.List.listItems<|.ref S) ?_;unfold Builtin.List.listItems;refine Qf<|Uk hS rfl<|Qv ?_;refine Qf (m:=updateSeq S (λ_=>#[]))<|Dt hS rfl<|Qf<|TM ?_;refine extend (s:={s with heap:=s.heap.update S (Obj.mapSeq (λ_=>(#[]:Array Value)))}) h2 W hT hh S .none _ (W.frame 0 s _ s.toks jH (Wd _) λb hb o e=>AP b o (λz=>Cd<|z ▸ hb) e) Cd hI q2 hn λs' acc c hm MB hJ=>hR s' acc c ?_ MB hJ;have mv:Moved (S::wr) (λa b=>b=a) s {s with heap:=s.heap.update S (Obj.mapSeq (λ_=>(#[]:Array Value)))}:=⟨λb o hb e=>AP b o (λz=>hb (by rw[z];exact R9)) e,rfl,rfl,rfl,Wd _⟩;exact Moved.trans W.gtrans mv hm
theorem zG(h2:E7 T)(W:WalksS prog w A.in1.in1 I fp wr (λa b=>b=a) n P (λi s=>St i s.heap))(hT:∀(i:Nat)(s:Shared),St i s.heap->s.TypeIs (.ref I) T)(hh:Hint prog w A.in1.in1 I St)(jH:St 0 s.heap)(rE:∀b∈fp,b<s.heap.objs.size)(hI:I∈fp)(hn:n<=sizeLine)
  (hQ:∀s' acc c,Moved (s.heap.objs.size::wr) (λa b=>b=a) {s with heap:=s.heap.push {cls:=.type "list",data:=.seq #[]}} s'->s'.heap.get? s.heap.objs.size=some {cls:=.type "list",dict:=none,data:=.seq acc c,slots:=#[]}->ItemsOf P acc n->Q (.ref s.heap.objs.size) s') :
  wpAny (model prog w) A (call (.type "list") [.ref I]) Q E s:=by
 have Cd:s.heap.objs.size∉fp:=λhm=>Rm _<|rE _ hm;have hS:(s.heap.push {cls:=.type "list",data:=.seq #[]}).get? s.heap.objs.size=some {cls:=.type "list",data:=.seq #[]}:=Ym _ rfl;refine callType_codes (Q₁:=λobj aQ=>obj=.ref s.heap.objs.size/\aQ={s with heap:=s.heap.push {cls:=.type "list",data:=.seq #[]}}) PySem.F.called_list (PySem.F.typeCall_list_1 _) PySem.F.entry_list_init (code_list_new _ ⟨rfl,rfl⟩) λobj aQ z=>?_;obtain⟨rfl,rfl⟩:=z;refine⟨⟨_,hS,rfl⟩,PySem.F.args_list_init_2 _ _,?_⟩;exact zJ (s:={s with heap:=s.heap.push {cls:=.type "list",data:=.seq #[]}}) h2 W hT hh _ (W.frame 0 s _ s.toks jH (Wd _) λb _ o e=>VZ _ e) Cd hI hS hn λs' acc c hm MB hJ=>⟨rfl,hQ s' acc c hm MB hJ⟩
end
end GA
section
variable{X:Cx}{EX:XE}{L:Lc}{a:Expr}{fa:M D}{p pos p' Tw:Pos}
theorem range_all(bs:ZU):(List.range bs.length).all (λi=>bs.getD i false)=bs.all id/\(List.range bs.length).any (λi=>bs.getD i false)=bs.any id:=by
 have e:(List.range bs.length).map (λi=>bs.getD i false)=bs:=by apply O6;simp;intro i h1 h2;simp[h2]
 refine⟨?_,?_⟩;rw[show bs.all id=((List.range bs.length).map λi=>bs.getD i false).all id by rw[e],List.all_map];rfl;rw[show bs.any id=((List.range bs.length).map λi=>bs.getD i false).any id by rw[e],List.any_map];rfl
theorem boot_all:bootBuiltins "all" = some (.builtin "all"):=by kernel_rfl
theorem boot_any:bootBuiltins "any" = some (.builtin "any"):=by kernel_rfl
variable{b value:Expr}{fk fv:M D}{x:Str}
end
section
variable{X:Cx}{EX:XE}{L:Lc}{e a b c:Expr}{fa fb fc fe:M D}{pos:Pos}{x:Str}
def pK(K:Frag)(d:D)(v:Value):Prop:=cy d v\/∃(ds:Vt)(q:Addr)(aO:Array Value)(n:Nat),d=.tup ds/\v=.ref q/\K.lookup q=some ⟨.type "tuple",none,.seq aO n,#[]⟩/\aO.size<=sizeLine/\Paired cy ds aO.toList
theorem Q2d{K:Frag}{ds:Vt}{q:Addr}{aO:Array Value}{n:Nat}(hl:K.lookup q=some ⟨.type "tuple",none,.seq aO n,#[]⟩)(hz:aO.size<=sizeLine)(hp:Paired cy ds aO.toList):pK K (.tup ds) (.ref q):=.inr ⟨ds,q,aO,n,rfl,rfl,hl,hz,hp⟩
structure E4(w:World)(K:Frag)(mg:MG)(x:Str)(t:List (Str×D))(ab:Xa):Prop where
 ex:∃(q:Addr)(es:Array DictEntry)(n:Nat),mg x=some (.ref q)/\(q == sysModules)=false/\K.lookup q=some ⟨.type "dict",none,.dict es n,#[]⟩/\W.KeysLit w.params es.toList/\(∀k d,t.lookup k=some d->∃v,W.nsIn K q k=some (some v)/\pK K d v)/\∀k∈ab,W.nsIn K q k=some none
theorem D3{K:Frag}{q:Addr}{t:List (Str×D)}(h:∀p∈t,∃v,W.nsIn K q p.1=some (some v)/\pK K p.2 v):∀k d,t.lookup k=some d->∃v,W.nsIn K q k=some (some v)/\pK K d v:=λk d e=>h (k,d) (Og e)
end
section
variable{X:Cx}{EX:XE}{L:Lc}{e a b o value:Expr}{es:Y2}{fa fe fo:M D}{as:List VP.Arg}{pos p ZO:Pos}{x c m:Str}
variable{CX:CXT}{k:Nat}{fA C:Addr}{fd:FuncData}{ps:Xa}{fl:ZU}{fs:Fn}{cs:Xa}{f:Str}
def AX(K:Frag)(mg:MG)(cs:Xa)(f:Str):Prop:=∀c∈cs,∃C,mg c=some (.ref C)/\AS K C/\iF K C f
end
theorem wD(l:Addr)(xs:Array Value)(n:Nat)(sl:Array (Option Value)):Meets (Builtin.«enumerate.__new__» ⟨[.type "enumerate",.ref l],[]⟩) (λ_ R s=>s.heap.get? l=some {cls:=.type "list",dict:=none,data:=.seq xs n,slots:=sl}/\R (.ok<|.ret<|.ref (s.heap.push {cls:=.type "list_iterator",data:=.fields #[.ref l,.int 0 0]}).objs.size) {s with heap:=(s.heap.push {cls:=.type "list_iterator",data:=.fields #[.ref l,.int 0 0]}).push {cls:=.type "enumerate",data:=.fields #[.none,.bool false,.ref s.heap.objs.size,rawInt 0,.none,.none]}}):=
 .of_wp λprog w A R s z=>by
  obtain⟨hp,g,d,tk,os⟩:=s;obtain⟨q1,q2⟩:=z;have z1:=sub_enumerate;have z2:Heap.IsList (Shared.heap ⟨hp,g,d,tk,os⟩) l xs:=⟨_,q1,rfl,n,rfl⟩
  wp_walk using Om q1
  refine wpAny_stack_any λst=>Qv ?_;split;rename_i c _ _ _ _ _;cases (c == Value.type "enumerate")<;>(wp_walk using Om q1,MX z2;exact⟨_,rfl,q2⟩)
  wp_walk using Om q1,MX z2
  exact⟨_,rfl,q2⟩
section
variable{X:Cx}{EX:XE}{L:Lc}{e a b:Expr}{fa fb fe:M D}{pos p:Pos}{x:Str}
theorem boot_enumerate:bootBuiltins "enumerate" = some (.type "enumerate"):=by kernel_rfl
end
section
variable{X:Cx}{EX:XE}{L:Lc}{e a b:Expr}{fa fb fe:M D}{pos p:Pos}{x c:Str}
structure E0(K:Frag)(D:Addr):Prop where
 pg:W.plainGet K D "__class__" = true
 hd:W.hasDictIn K D=true
 fi:W.findIn K (.ref D) "__class__" = some (some<|.builtin "object.__class__")
 mr:W.mroIn K D (.type "object")=some true
structure QD(K:Frag)(mg:MG)(c:Str)(subs:PE):Prop where
 sp:W.specialIn K (.builtin "object.__class__") "__get__" = some (some<|.builtin "getset_descriptor.__get__")
 tk:W.takesIn K (.builtin "object.__class__")=some true
 ex:∃C,mg c=some (.ref C)/\∀p∈subs,∃D,mg p.1=some (.ref D)/\E0 K D/\W.kitOne K (.ref D) (.ref C)=some p.2
end
open PySem.AutoSeq1 (wpAny_loadPart')
theorem noFill_tuple_mul:fillsNumberSlot (.type "tuple") "mul" = pure false:=PySem.fillsNumberSlot_seq (id:="tuple.__mul__") (r:=some<|.builtin "tuple.__rmul__") PySem.F.slot_tuple_mul.lookup (by decide +kernel) PySem.F.slot_tuple_rmul.lookup (by decide +kernel)
theorem sD:seqRepeat? (.type "tuple")=pure (some<|.builtin "tuple.__mul__"):=by unfold seqRepeat?;rw[PySem.seqSlot_of (T:="tuple") (name:="__mul__") (id:="tuple.__mul__") PySem.F.slot_tuple_mul.lookup (by decide +kernel),PySem.seqSlot_of (T:="tuple") (name:="__rmul__") (id:="tuple.__rmul__") PySem.F.slot_tuple_rmul.lookup (by decide +kernel)];rfl
theorem oC(a:Int)(t:Tok)(l:Addr)(items:Array Value)(n:Nat)(dd:YB)(sl:Array (Option Value)) : Meets (Builtin.«int.__rmul__» ⟨[.int a t,.ref l],[]⟩) (λ_ R s=>s.heap.get? l=some {cls:=.type "tuple",dict:=dd,data:=.seq items n,slots:=sl}/\R (.ok<|.ret Value.notImplemented) s):=
 .of_wp λprog w A R s h=>by obtain⟨hp,g,d,tk,os⟩:=s;obtain⟨hl,h⟩:=h;wp_walk;exact⟨_,rfl,h⟩
theorem xq(l:Addr)(items:Array Value)(n:Nat)(dd:YB)(sl:Array (Option Value))(x:Int)(u:Tok)(h1:¬(decide (x < -(2 ^ 63))||decide (x>=2 ^ 63))=true)(h2:(items.isEmpty||x == 1)=true) : Meets (Builtin.«tuple.__mul__» ⟨[.ref l,.int x u],[]⟩) (λ_ R s=>s.heap.get? l=some {cls:=.type "tuple",dict:=dd,data:=.seq items n,slots:=sl}/\R (.ok<|.ret<|Value.ref l) {s with heap:=s.heap,toks:=s.toks}):=
 .of_wp λprog w A R s h=>by obtain⟨hp,g,d,tk,os⟩:=s;obtain⟨hl,h⟩:=h;wp_walk using wpAny_loadPart' hl;refine Ft (VY h1) ?_;wp_walk using wpAny_loadPart' hl;exact⟨_,rfl,h⟩
theorem Q0j(l:Addr)(items:Array Value)(n:Nat)(dd:YB)(sl:Array (Option Value))(x:Int)(u:Tok)(h1:¬(decide (x < -(2 ^ 63))||decide (x>=2 ^ 63))=true)(h2:¬(items.isEmpty||x == 1)=true)(h3:(decide (x<=0)||items.isEmpty)=true) : Meets (Builtin.«tuple.__mul__» ⟨[.ref l,.int x u],[]⟩) (λ_ R s=>s.heap.get? l=some {cls:=.type "tuple",dict:=dd,data:=.seq items n,slots:=sl}/\R (.ok<|.ret<|Value.ref s.heap.objs.size) {s with heap:=s.heap.push {cls:=Value.type "tuple",data:=Data.seq #[]},toks:=s.toks}):=
 .of_wp λprog w A R s h=>by obtain⟨hp,g,d,tk,os⟩:=s;obtain⟨hl,h⟩:=h;wp_walk using wpAny_loadPart' hl;refine Ft (VY h1) ?_;wp_walk using wpAny_loadPart' hl;exact⟨_,rfl,h⟩
theorem xu(l:Addr)(items:Array Value)(n:Nat)(dd:YB)(sl:Array (Option Value))(x:Int)(u:Tok)(h1:¬(decide (x < -(2 ^ 63))||decide (x>=2 ^ 63))=true)(h2:¬(items.isEmpty||x == 1)=true)(h3:¬(decide (x<=0)||items.isEmpty)=true)
  (h4:¬((items.size:Int)*x > (2 ^ 63-1) / 8)) (h5:¬Builtin.Tuple.tupleTooMany ((items.size:Int)*x)=true) (hsz:(List.foldl (λx1 x2=>x1++x2) #[]<|List.replicate x.toNat items).size<=sizeLine) :
  Meets (Builtin.«tuple.__mul__» ⟨[.ref l,.int x u],[]⟩) (λ_ R s=>s.heap.get? l=some {cls:=.type "tuple",dict:=dd,data:=.seq items n,slots:=sl}/\R (.ok<|.ret<|Value.ref s.heap.objs.size) {s with heap:=s.heap.push {cls:=Value.type "tuple",data:=Data.seq (List.foldl (λx1 x2=>x1++x2) #[]<|List.replicate x.toNat items)},toks:=s.toks}):=
 .of_wp λprog w A R s h=>by obtain⟨hp,g,d,tk,os⟩:=s;obtain⟨hl,h⟩:=h;wp_walk using wpAny_loadPart' hl;refine Ft (VY h1) ?_;wp_walk using wpAny_loadPart' hl;refine Ft (VY h4) ?_;wp_walk using wpAny_loadPart' hl;exact⟨_,rfl,h⟩
structure DM(K:Frag)(x qn:Str)(st:Stmt)(f:Addr):Prop where
 l:∃(oc:Value)(od:YB)(kV doc pm:Value)(an:YB)(cd ct:Value)(sl:Array (Option Value)),K.lookup f=some ⟨oc,od,.func<|W.fnOf x qn (cL st) (bC st) (az st) .none kV doc pm an cd ct,sl⟩/\W.codeIn K cd qn=true
 k:W.keepIn K (.ref f)=true
structure DH(K:Frag)(x:Str)(st:Stmt)(f:Addr):Prop where
 a:W.nsIn K mainGlobals x=some (some<|.ref f)
 m:DM K x x st f
abbrev EW(x qn:Str)(st:Stmt)(ps:Xa):Prop:=∀(kV doc pm:Value)(an:YB)(cd ct:Value)(us:SX),us.length=ps.length->bindArgs (W.fnOf x qn (cL st) (bC st) (az st) .none kV doc pm an cd ct) ⟨us,[]⟩=pure (ps.zip us)
section
variable{K:Frag}{mg:MG}{h:Heap}{x qn:Str}{st:Stmt}{f:Addr}{ps:Xa}
theorem DM.is(d:DM K x qn st f)(b:EW x qn st ps):∃fd,EF K x qn st f fd/\Binds K fd ps []:=by obtain⟨⟨oc,od,kV,doc,pm,an,cd,ct,sl,l,c⟩,k⟩:=d;exact⟨_,B7 l c k,(B7 l c k).binds b⟩
theorem DH.is(d:DH K x st f)(X:K.In h)(G:h.Ns mainGlobals mg)(b:EW x x st ps):∃fd,pI K mg x st ps f fd:=by obtain⟨fd,F,B⟩:=d.m.is b;exact⟨fd,F,B,zC X G d.a⟩
end
theorem v0{P:SX->Prop}(h:P []):∀us:SX,us.length=0->P us:=λus e=>List.length_eq_zero_iff.mp e ▸ h
theorem vc{n:Nat}{P:SX->Prop}(h:∀a,∀us:SX,us.length=n->P (a::us)):∀us:SX,us.length=n+1->P us:=λus e=>by cases us with|nil=>cases e|cons a us=>exact h a us (Nat.succ.inj e)
theorem Zi{x qn:Str}{st:Stmt}{p0:Str}(h:∀(kV doc pm:Value)(an:YB)(cd ct:Value)(a0:Value),bindArgs (W.fnOf x qn (cL st) (bC st) (az st) .none kV doc pm an cd ct) ⟨[a0],[]⟩=pure ([p0].zip [a0]):=by intros;rfl):EW x qn st [p0]:=λkV doc pm an cd ct=>vc λ_=>v0 (h _ _ _ _ _ _ _)
theorem Zj{x qn:Str}{st:Stmt}{p0 p1:Str}(h:∀(kV doc pm:Value)(an:YB)(cd ct:Value)(a0 a1:Value),bindArgs (W.fnOf x qn (cL st) (bC st) (az st) .none kV doc pm an cd ct) ⟨[a0,a1],[]⟩=pure ([p0,p1].zip [a0,a1]):=by intros;rfl):EW x qn st [p0,p1]:=λkV doc pm an cd ct=>vc λ_=>vc λ_=>v0 (h _ _ _ _ _ _ _ _)
theorem WU{x qn:Str}{st:Stmt}{p0 p1 p2:Str}(h:∀(kV doc pm:Value)(an:YB)(cd ct:Value)(a0 a1 a2:Value),bindArgs (W.fnOf x qn (cL st) (bC st) (az st) .none kV doc pm an cd ct) ⟨[a0,a1,a2],[]⟩=pure ([p0,p1,p2].zip [a0,a1,a2]):=by intros;rfl):EW x qn st [p0,p1,p2]:=λkV doc pm an cd ct=>vc λ_=>vc λ_=>vc λ_=>v0 (h _ _ _ _ _ _ _ _ _)
theorem Zk{x qn:Str}{st:Stmt}{p0 p1 p2 p3:Str}(h:∀(kV doc pm:Value)(an:YB)(cd ct:Value)(a0 a1 a2 a3:Value),bindArgs (W.fnOf x qn (cL st) (bC st) (az st) .none kV doc pm an cd ct) ⟨[a0,a1,a2,a3],[]⟩=pure ([p0,p1,p2,p3].zip [a0,a1,a2,a3]):=by intros;rfl):EW x qn st [p0,p1,p2,p3]:=λkV doc pm an cd ct=>vc λ_=>vc λ_=>vc λ_=>vc λ_=>v0 (h _ _ _ _ _ _ _ _ _ _)
theorem Zl{x qn:Str}{st:Stmt}{p0 p1 p2 p3 p4:Str}(h:∀(kV doc pm:Value)(an:YB)(cd ct:Value)(a0 a1 a2 a3 a4:Value),bindArgs (W.fnOf x qn (cL st) (bC st) (az st) .none kV doc pm an cd ct) ⟨[a0,a1,a2,a3,a4],[]⟩=pure ([p0,p1,p2,p3,p4].zip [a0,a1,a2,a3,a4]):=by intros;rfl):EW x qn st [p0,p1,p2,p3,p4]:=λkV doc pm an cd ct=>vc λ_=>vc λ_=>vc λ_=>vc λ_=>vc λ_=>v0 (h _ _ _ _ _ _ _ _ _ _ _)
theorem Wi{N P:Xa}{sc:Scope}(h1:sc.kind=.function:=by rfl)(h2:sc.isCoroutine=false:=by rfl)(h3:sc.isGenerator=false:=by rfl)(h4:N.Nodup:=by exact Fy)(h5:N.take P.length=P:=by rfl)(h6:∀x∈P,sc.names.lookup x=some .local\/sc.names.lookup x=some .cell:=by exact Fy) (h7:∀y∈sc.names,y.2≠.free:=by exact Fy):dZ N P sc:=⟨h1,h2,h3,h4,h5,h6,h7⟩
theorem ZX(l:Xa)(h:l.Nodup:=by exact Fy):List.Nodup l:=h
theorem Q1M(a:Int)(t:Tok)(l:Addr)(items:Array Value)(n:Nat)(sl:Array (Option Value)) : Meets (Builtin.«int.__rmul__» ⟨[.int a t,.ref l],[]⟩) (λ_ R s=>s.heap.get? l=some {cls:=.type "list",dict:=none,data:=.seq items n,slots:=sl}/\R (.ok<|.ret Value.notImplemented) s):=
 .of_wp λprog w A R s h=>by obtain⟨hp,g,d,tk,os⟩:=s;obtain⟨hl,h⟩:=h;wp_walk;exact⟨_,rfl,h⟩
theorem Q1G(l:Addr)(items:Array Value)(n:Nat)(sl:Array (Option Value))(x:Int)(u:Tok)(Xv:¬(!Builtin.List.listFitsIndex x)=true)(hc1:¬items.size*x.toNat > (2 ^ 63-1) / 8)(rD:¬Builtin.List.listTooLong (items.size*x.toNat)=true) : Meets (Builtin.«list.__mul__» ⟨[.ref l,.int x u],[]⟩) (λ_ R s=>s.heap.get? l=some {cls:=.type "list",dict:=none,data:=.seq items n,slots:=sl}/\R (.ok<|.ret<|Value.ref s.heap.objs.size) {s with heap:=s.heap.push {cls:=Value.type "list",data:=Data.seq (List.foldl (λx1 x2=>x1++x2) #[]<|List.replicate (if items.isEmpty=true then 0 else x.toNat) items)},toks:=s.toks}):=
 .of_wp λprog w A R s h=>by
  obtain⟨hp,g,d,tk,os⟩:=s;obtain⟨hl,h⟩:=h;have hsz:=AutoListH.joined_fits rD
  wp_walk;refine Ft (VY<|Nat.not_lt.mpr hsz) ?_;wp_walk;exact⟨_,rfl,h⟩
section
variable{prog:Program}{w:World}{A:Around}{E:Tv}{s:Shared}
theorem ua(hl:s.heap.IsTuple l vs.toArray)
  (h:Q vs {s with heap:=(s.heap.push<|seqObj "list" #[] 0).update s.heap.objs.size (Obj.mapSeq (·++vs.toArray))}) (hsz:vs.length<=sizeLine) :
  wpAny (model prog w) A (collect<|.ref l) Q E s:=by
 obtain⟨o,ho,hc,n,hd⟩:=id hl;unfold collect;refine Qf<|wpAny_runValue<|RJ entry_proto_collect' ?_;show wpAny _ _ (do again (.builtin "list.__iadd__" ⟨[<-newList [],.ref l],[]⟩)) _ _ s;refine Qf<|wpAny_newList<|Qv ⟨Code.quiet_builtin _ (by decide +kernel),RJ entry_list_iadd' ?_⟩;show wpAny _ _ (Builtin.List.listExtendWith (.ref s.heap.objs.size) (.ref l)<|.ref s.heap.objs.size) _ _ {s with heap:=s.heap.push (seqObj "list" #[] 0)};unfold Builtin.List.listExtendWith;have EP:(s.heap.push<|seqObj "list" #[] 0).get? l=some o:=VZ _ ho;refine Qf<|M8 (T:="tuple") ⟨o,EP,hc⟩ ?_;have ht:(Value.type "tuple" == Value.type "tuple")=true:=by rfl
 rw[YN (by rw[ht];simp)];refine Qf<|listItems_at EP hd ?_;refine Qf<|listItems_at (xs:=#[]) (n:=0) (Ym _ rfl) rfl ?_;rw[YO Qj];refine Qf<|listUpdate_at (xs:=#[]) (n:=0) (Ym _ rfl) rfl ?_ (ZN _) (by show (#[]++vs.toArray).size<=sizeLine+1;simp only[Array.size_append,List.size_toArray,List.length_nil];lia);refine Qv ?_;show wpAny (model prog w) A (do
  let o <-load s.heap.objs.size
  match o.data with|.seq xs _=>pure xs.toList|_=>unsupported "internal:collect") Q E {s with heap:=(s.heap.push<|seqObj "list" #[] 0).update s.heap.objs.size (Obj.mapSeq (·++vs.toArray))}
 refine Qf<|wpAny_load (get?_update_seq (Ym _ rfl) _) ?_;show wpAny _ _ (pure ((#[]:Array Value)++vs.toArray).toList) Q E _;rw[show ((#[]:Array Value)++vs.toArray).toList=vs by simp];exact Qv h
theorem sN(hl:s.heap.IsTuple l vs.toArray)(hI:IntsAre vs ns)(VL:vs.length<64)
  (h:∀(out:Array Value)(ET:UX),IntsAre out.toList ET->ET.Perm ns->ET.Pairwise (·<=·)->Q (.ref<|s.heap.objs.size+1) {s with heap:=sortedAll s.heap vs out}) :
  wpAny (model prog w) A (call (.builtin "sorted") [.ref l]) Q E s:=by
 refine Calls.call_function_entry kind_sorted plain_sorted entry_sorted (args_sorted1 _) ?_;unfold Builtin.«sorted»;refine Qf (m:=checkCount "sorted" 1 1 _)<|Qv ?_;refine Qf<|ua hl ?_ (by rw[xg];lia);refine Qf<|wpAny_newList ?_;have hsz:((s.heap.push<|seqObj "list" #[] 0).update s.heap.objs.size<|Obj.mapSeq (·++vs.toArray)).objs.size=s.heap.objs.size+1:=by rw[Heap.size_update,size_push']
 have ZJ:(((s.heap.push<|seqObj "list" #[] 0).update s.heap.objs.size<|Obj.mapSeq (·++vs.toArray)).push<|seqObj "list" vs.toArray 0).get? (s.heap.objs.size+1)=some (seqObj "list" vs.toArray 0):=by rw[<-hsz];exact Ym _ rfl
 show wpAny _ _ _ _ _ {s with heap:=((s.heap.push<|seqObj "list" #[] 0).update s.heap.objs.size<|Obj.mapSeq (·++vs.toArray)).push (seqObj "list" vs.toArray 0)};rw[hsz];refine Qf<|Tr<|Nx slot_list_sort ⟨_,ZJ,rfl⟩ entry_list_sort (list_sort_tree ZJ hI VL λout ET a1 a2 a3=>⟨_,rfl,?_⟩)<|args_list_sort _;exact Qv ⟨_,rfl,h out ET a1 a2 a3⟩
end
abbrev pW:SX:=[.type "ValueError",.type "Exception",.type "BaseException",.type "object"]
theorem Fv{K:Frag}{h:Heap}{C:Addr}{bb:SX}{ZY:String}(lG:K.In h)(q:W.excIn K C bb ZY=true) : ∃bm N nm qn bs hd sn sub ab col dd k0 k1 k2 k3 k5 mN,h.get? C=some (excClassObj nm qn C N bs bm hd sn sub ab col dd k0 k1 k2 k3 k5 ZY)/\h.Ns N mN/\mN "__init__" = none/\OwnTail h bb bm:=by
 revert q;unfold W.excIn;cases hl:K.lookup C with
 |none=>intro q;cases q|some o=>
  intro q;obtain⟨cl,dd,data,sl⟩:=o;split at q;rename_i Zn cd Hj e;injection e with e;injection e with e1 e2 e3 e4;subst e1 e2 e3 e4;split at q;rename_i C' bm k0 k1 k2 k3 nn k5 hm hs;simp only[Bool.and_eq_true,beq_iff_eq,Bool.not_eq_true'] at q;obtain⟨⟨⟨⟨⟨z1,z2⟩,z3⟩,z4⟩,z5⟩,z6⟩:=q;subst z1 z2;cases cd with
  |mk nm bs mro ns qn hd sn sub ab col del=>
   dsimp only at hm z3 z5 z6;subst hm z3;have FO:sl=#[k0,k1,k2,k3,some<|.builtin nn,k5]:=by cases sl with|mk l=>exact congrArg Array.mk hs
   subst FO;exact⟨bm,ns,nm,qn,bs,hd,sn,sub,ab,col,dd,k0,k1,k2,k3,k5,_,lG _ _ hl,.of_isNs<|W.isNs_of_in lG z5,W.nsMap_none_of_in lG z5 z6,W.tail_of_in lG z4⟩
  cases q;cases q
open PySem.W (Looks)
section
variable{prog:Program}{w:World}{A:Around}{E:Tv}{s:Shared}{K:Frag}{e C D:Addr}{oe:Obj}{b:Bool}
structure EY(K:Frag)(D:Addr):Prop where
 ty:W.typeIn K (.ref D)=some (.type "type")
 cl:W.isClsIn K D=true
 mb:W.mroIn K D (.type "BaseException")=some true
theorem Q0u{M:Model}{h:Heap}(lG:K.In h)(cl:(W.clsIn K D).isSome=true):W.Looks M h (isType<|.ref D) true:=by unfold W.clsIn at cl;split at cl;rename_i ho;intro A' Q' E' s' kk q;unfold isType loadHead;exact Qf<|wpAny_loadPart (kk _ _<|lG _ _ ho)<|Qv q;cases cl
theorem qY{Q:Bool->Shared->Prop}(lG:K.In s.heap)(k:EY K D)(he:s.heap.get? e=some oe)(hc:oe.cls=.ref C)(hm:W.mroIn K C (.ref D)=some b)(h:Q b s):wpAny (model prog w) A (excMatches (.ref e)<|.ref D) Q E s:=by
 obtain⟨hh,gg,d,t,os⟩:=s;have L1:=W.looks_typeIn (M:=model prog w) lG k.ty;have L2:=Q0u (M:=model prog w) lG k.cl;have L3:=W.looks_mroIn (M:=model prog w) lG k.mb;have L4:=W.looks_mroIn (M:=model prog w) lG hm;have L0:W.Looks (model prog w) hh (typeOf<|.ref e) (.ref C):=hc ▸ (W.Looks.ld he).andThen .now;have f:=tc_notTuple;unfold excMatches isExcClass isInstance;refine Qf<|Qf<|L1.at ?_;refine CK f ?_;repeat (first|lk|wp_step)
 cases b<;>(repeat (first|exact h|lk|wp_step))
end
open PySem.W (Looks)
noncomputable def xX:SX->Bool|.ref _::r=>xX r|l=>l == pW
theorem qM(self:Value):∀{l:SX},xX l=true->refuseLoop self "__setattr__" l=pure ()|[],e=>by cases e|v::r,e=>by cases v with|ref c=>rw[refuseLoop_ref];exact qM self e|_=>rw[show _::r=pW from beq_iff_eq.mp e];exact PySem.F.store_ValueError.passes self
theorem BJ:∀{l:SX},xX l=true->l.contains (.type "object")=true|[],e=>by cases e|v::r,e=>by cases v with|ref c=>rw[List.contains_cons,BJ (l:=r) e,Bool.or_true]|_=>rw[show _::r=pW from beq_iff_eq.mp e];decide
def BI(K:Frag)(C:Addr):Bool:=(W.clsIn K C).any λcd=>xX cd.mro
section
variable{prog:Program}{w:World}{A:Around}{R:Result->Shared->Prop}{E:Tv}{s:Shared}{K:Frag}{x e C dx:Addr}{name:Str}{v:Value}
theorem qJ{ox:Obj}{od:Option Obj}{tk:Tok}{r:Xf}(X:K.In s.heap)(I:W.InstAt s.heap x ox C od)(hp:BI K C=true)(ht:W.takerIn K C name=some r)
  (h:∀b,wpAny (model prog w) A.in1 (match r with|some a=>Builtin.ObjectAttr.setByDescriptor a (.ref x) v|none=>Builtin.ObjectAttr.storeInOwnDict (.ref x) (.ref C) (.str name tk) name v b) (λfin s'=>match fin with|.done f=>R (.ok f) s'|.again c'=>c'.quiet=true/\codeAny (model prog w) A c' R s') (λe s'=>R (.error e) s') s) :
  codeAny (model prog w) A (.call (.builtin "object.__setattr__") ⟨[.ref x,.str name tk,v],[]⟩) R s:=by
 have SF:=PySem.F.store_object;obtain⟨cd,hc,ho⟩:=W.any_some hp;have ne:cd.mro.isEmpty=false:=by cases q:cd.mro with|nil=>rw[q] at ho;cases ho|cons _ _=>rfl
 have sub:Looks (model prog w) s.heap (isInstance (.ref x)<|.type "object") true:=I.type.andThen<|W.looks_mroIn X (by unfold W.mroIn;rw[hc,Option.bind_some,YO (by rw[ne];decide),BJ ho]);refine codeAny_call_builtin SF.slot.plain SF.entry<|@W.check_slot (model prog w) _ _ s "object.__setattr__" "object" "__setattr__" (.ref x) [.str name tk,v] [] _ SF.kind SF.split sub (SF.args (.ref x) (.str name tk) v) ?_;obtain⟨attr,ha,hr⟩:=Option.bind_eq_some_iff.mp ht;have hm:Looks (model prog w) s.heap (mroOf<|.ref C) cd.mro:=(W.looks_clsIn X hc).andThen .now;have L3:Looks (model prog w) s.heap (Builtin.ObjectAttr.storeTaker? attr) r:=by cases attr with|none=>cases hr;exact .now|some a=>obtain⟨b,hb,rfl⟩:=Option.map_eq_some_iff.mp hr;refine(W.looks_takesIn X hb).andThen ?_;cases b<;>exact .now
 rw[W.osa_eq,refuse_eq];refine Qf<|Qf<|I.type.here<|Qf<|hm.here ?_;rw[qM _ ho];refine Qv<|Qf<|I.type.here<|Qf<|(W.looks_findIn X ha).here<|Qf<|L3.here ?_;exact h _
structure q7(K:Frag)(C:Addr)(f:Str):Prop where
 sa:W.findIn K (.ref C) "__setattr__" = some (some<|.builtin "object.__setattr__")
 ov:BI K C=true
 na:W.findIn K (.ref C) f=some none
 hd:W.hasDictIn K C=true
theorem q7.za{f:Str}(k:q7 K C f):W.takerIn K C f=some none:=by unfold W.takerIn;rw[k.na];rfl
theorem Q1v{vs:Array Value}{sl:Array (Option Value)}{ns:Xa}{mA:Str->Xf}{Q:Unit->Shared->Prop}(X:K.In s.heap)(hx:s.heap.get? x=some ⟨.ref C,some dx,.fields vs,sl⟩)(hn:s.heap.Ns1 dx mA)(FK:dx≠x)(k:q7 K C name)
  (hw:PySem.Within mA ns) (hsz:ns.length<=sizeLine)
  (h:∀h',h'.get? x=some ⟨.ref C,some dx,.fields vs,sl⟩->h'.Ns1 dx (λy=>if y=name then some v else mA y)->Heap.SameBut dx s.heap h'->Q () {s with heap:=h',toks:=s.toks+2}) :
  wpAny (model prog w) A (setAttr (.ref x) name v) Q E s:=by
 obtain⟨od,ho,hl⟩:=qE hn;have J:W.InstAt s.heap x ⟨.ref C,some dx,.fields vs,sl⟩ C (some od):=⟨hx,rfl,rfl,ho⟩;refine W.set_plain X J k.sa<|qJ (s:={s with toks:=s.toks+1}) (r:=none) X J k.ov k.za λb=>?_;obtain⟨cd,hc,qx⟩:=W.any_some k.hd;refine Qf<|Qv<|Qf<|Qf<|wpAny_loadPart hx<|Qf<|W.Looks.here (s:={s with toks:=s.toks+1}) (W.looks_clsIn X hc) ?_;rw[qx];refine Qv (a:=some dx)<|Qf<|Qv<|Qf ?_;refine wpAny_nsSet1 (s:={s with toks:=s.toks+1}) hn λh' Qc j2=>?_;obtain⟨oD,Zr,Zq,SO,So,Sk⟩:=Qc.count<|PySem.Within.cons name v hw;refine Qf<|wpAny_lookBehind SO (by rw[So];exact pastItsLine_dict<|YM Sk (by rw[Dz];lia)) ?_;exact Qv (h _ ((j2.2 _<|Wl FK).trans hx) Qc j2)
theorem PO{vs:Array Value}{sl:Array (Option Value)}{Q:Unit->Shared->Prop}(X:K.In s.heap)(hx:s.heap.get? x=some ⟨.ref C,none,.fields vs,sl⟩)(k:q7 K C name)
  (h:∀h',h'.get? x=some ⟨.ref C,some s.heap.objs.size,.fields vs,sl⟩->h'.Ns1 s.heap.objs.size (λy=>if y=name then some v else none)->(∀b o,b≠x->s.heap.get? b=some o->h'.get? b=some o)->Q () {s with heap:=h',toks:=s.toks+2}) :
  wpAny (model prog w) A (setAttr (.ref x) name v) Q E s:=by
 have J:W.InstAt s.heap x ⟨.ref C,none,.fields vs,sl⟩ C none:=⟨hx,rfl,rfl,trivial⟩;refine W.set_plain X J k.sa<|qJ (s:={s with toks:=s.toks+1}) (r:=none) X J k.ov k.za λb=>?_;obtain⟨cd,hc,qx⟩:=W.any_some k.hd;refine Qf<|Qv<|Qf<|Qf<|wpAny_loadPart hx<|Qf<|W.Looks.here (s:={s with toks:=s.toks+1}) (W.looks_clsIn X hc) ?_;rw[qx];have J5:(s.heap.push {cls:=.type "dict",data:=.dict #[]}).get? x=some ⟨.ref C,none,.fields vs,sl⟩:=VZ _ hx;have ZL:x≠s.heap.objs.size:=M1<|Ut hx;dsimp only;refine Qf<|wpAny_alloc' ?_;refine Qf<|wpAny_update' J5 ?_;refine Qv ?_;have hgd:((s.heap.push {cls:=.type "dict",data:=.dict #[]}).update x λo=>{cls:=o.cls,dict:=some s.heap.objs.size,data:=o.data,slots:=o.slots}).get? s.heap.objs.size=some {cls:=.type "dict",data:=.dict #[]}:=
  (Heap.get?_update_ne _ _ _ _ ZL.symm).trans (Heap.get?_push_at rfl rfl)
 have hnd:((s.heap.push {cls:=.type "dict",data:=.dict #[]}).update x λo=>{cls:=o.cls,dict:=some s.heap.objs.size,data:=o.data,slots:=o.slots}).Ns s.heap.objs.size (λ_=>none):=⟨_,#[],_,hgd,rfl,λe he=>absurd he Qj,λ_=>rfl⟩;refine Qf<|Qv<|Qf<|wpAny_nsSet1 (s:={s with heap:=_,toks:=s.toks+1}) (Heap.Ns1.of_empty hnd) λh' vC hs=>?_;obtain⟨oD,Zr,Zq,SO,So,Sk⟩:=vC.count<|PySem.Within.cons name v PySem.Within.nil;refine Qf<|wpAny_lookBehind SO (by rw[So];exact pastItsLine_dict<|YM Sk (by rw[Dz,List.length_nil,xg];lia)) ?_;refine Qv<|h h' ?_ vC λb ob hbx hb=>?_;exact(hs.2 x ZL).trans<|F2 _ J5 rfl;exact(hs.2 b<|M1<|Ut hb).trans ((Heap.get?_update_ne _ _ _ _ hbx).trans<|VZ _ hb)
end
structure EZ(K:Frag)(C fI:Addr):Prop where
 ex:∃bm N nm qn bs hd sn sub ab col dd k0 k1 k2 k3 k5,K.lookup C=some (excClassObj nm qn C N bs bm hd sn sub ab col dd k0 k1 k2 k3 k5 "ValueError.__new__")/\W.nsOkIn K N=true/\W.nsIn K N "__init__" = some (some<|.ref fI)/\W.tailIn K pW bm=true
 fn:W.isFn K (.ref fI)=true
theorem uV{K:Frag}{h:Heap}{N:Addr}{x:Str}{v:Value}(X:K.In h)(e:W.nsOkIn K N=true)(q:W.nsIn K N x=some (some v)):h.nsMap N x=some v:=by obtain⟨o,es,ep,ho,hd,_,hf⟩:=Heap.Ns.of_isNs<|W.isNs_of_in X e;unfold W.nsIn at q;split at q;rename_i c d W7 n' sl q';have:=X _ _ q';rw[ho] at this;cases this;cases hd;split at q;rename_i en he;cases q;rw[<-hf];unfold nsFind findBy;rw[<-Array.find?_toList,he];rfl;split at q<;>cases q;cases q
structure fE(k:Nat)(A:Around):Prop where
 dp:A.depth+3*k+5<recursionLimit
 un:A.units+16*k+200<cLine
theorem fE.deeper{k:Nat}{A:Around}(r:fE (k+1) A)(env:Env):fE k (A.deeper env):=⟨by have:=r.dp;show A.depth+1+3*k+5<_;lia,by have:=r.un;show A.units+3+16*k+200<_;lia⟩
theorem fE.depth{k:Nat}{A:Around}(r:fE k A):A.depth<recursionLimit:=by have:=r.dp;lia
section
variable{pg:Program}{wd:World}{A:Around}{R:Result->Shared->Prop}{It:Addr}{fp wr:V8}{n:Nat}{P:Nat->Value->Prop}{Z:Nat->Heap->Prop}{dv:Value}
theorem Q1r(a d:Value):argsOk "max" ⟨[a],[("default",d)]⟩:=by unfold argsOk;kernel_rfl
theorem jo:(toString "max" ++ toString ".loop" : String)="max.loop" := by decide
theorem tnZ(W:Walks pg wd A.in1 It fp wr n P Z)(bt:Nat->Nat->Bool)(cm:CmpOf pg wd A.in1 .Gt P bt)(S:Addr)(nS:S∉fp) :
  ∀(m i:Nat)(t:Shared)(best:Value)(cap:Nat),n-(i+1)=m->i+1<=n->Z (i+1) t.heap->P (argBest bt i) best ->
  t.heap.get? S=some {cls:=.type "list",dict:=none,data:=.seq #[best,best] cap,slots:=#[]} ->
  (∀v g tk,P (argBest bt<|n-1) v->(∀b o,b∉wr->b≠S->t.heap.get? b=some o->g.get? b=some o)->R (.ok<|.ret v) {t with heap:=g,toks:=tk}) ->
  codeAny (model pg wd) A (.builtin "max.loop" ⟨[.ref It,.none,.ref S],[("default",dv)]⟩) R t:=by
 have nw:S∉wr:=λq=>nS<|W.sub _ q;intro m;induction m with|zero=>intro i t best cap e1 e2 hz hb hS fin;have en:i+1=n:=Uz;refine RJ WJ ?_;rw[QU cD _];refine Qf (m:=seqItems?<|.ref S)<|Uk hS rfl ?_;refine Qf (m:=tryCatch (pyNext<|.ref It) _)<|M0<|W.done t _ _ (en ▸ hz) λg tk kp=>?_;have JS:=kp S _ nw hS;refine Qf (m:=updateSeq S (λ_=>#[]))<|Dt JS rfl<|Qf<|TM<|Qv ?_;exact fin best _ tk (by rw[<-en];exact hb) λb o q1 q2 z=>(Hn _ _<|Wl q2).trans (kp b o q1 z)|succ m ih=>intro i t best cap e1 e2 hz hb hS fin;have lt:i+1<n:=Uz;refine RJ WJ ?_;rw[QU cD _];refine Qf (m:=seqItems?<|.ref S)<|Uk hS rfl ?_;refine Qf (m:=tryCatch (pyNext<|.ref It) _)<|M0<|W.item (i+1) t _ _ lt hz λv g tk hv VR kp=>?_;have JS:=kp S _ nw hS;refine Qf (m:=tryCatch (holding [v,v]<|richCompare .Gt v best >>= _) _)<|M0<|Tr<|Qf<|cm (i+1) (argBest bt i) v best _ _ _ hv hb ?_;refine Qf<|Tr<|WI<|Qf<|TM<|Qv ?_;cases q:bt (i+1) (argBest bt i) with|true=>simp only[if_true];refine Qf<|Dt JS rfl<|Qf<|TM ?_;rw[jo];refine Qv ⟨NV cD _,ih (i+1) _ v _ Uz lt (W.frame _ _ _ VR λb mb o z=>(Hn _ _ (λw:S=b=>nS (by rw[w];exact mb))).trans z) (by simp only[argBest,q,if_true];exact hv) (F2 _ JS rfl) λv2 g2 UY y1 y2=>?_⟩;exact fin v2 g2 UY y1 λb o q1 q2 z=>y2 b o q1 q2 ((Hn _ _<|Wl q2).trans<|kp b o q1 z)|false=>simp only[Bool.false_eq_true,if_false];refine Qf<|TM ?_;rw[jo];exact Qv ⟨NV cD _,ih (i+1) _ best cap Uz lt VR (by simp only[argBest,q,Bool.false_eq_true,if_false];exact hb) JS λv2 g2 UY y1 y2=>fin v2 g2 UY y1 λb o q1 q2 z=>y2 b o q1 q2<|kp b o q1 z⟩
theorem wC(W:Walks pg wd A.in1 It fp wr n P Z)(bt:Nat->Nat->Bool)(cm:CmpOf pg wd A.in1 .Gt P bt)(S:Addr)(nS:S∉fp)(hz:Z 0 t.heap)
  (hS:t.heap.get? S=some {cls:=.type "list",dict:=none,data:=.seq #[] cap,slots:=#[]})
  (fin:∀v g tk,(n=0/\v=dv\/0<n/\P (argBest bt<|n-1) v)->(∀b o,b∉wr->b≠S->t.heap.get? b=some o->g.get? b=some o)->R (.ok<|.ret v) {t with heap:=g,toks:=tk}) :
  codeAny (model pg wd) A (.builtin "max.loop" ⟨[.ref It,.none,.ref S],[("default",dv)]⟩) R t:=by
 have nw:S∉wr:=λq=>nS<|W.sub _ q;refine RJ WJ ?_;rw[QU cD _];refine Qf (m:=seqItems?<|.ref S)<|Uk hS rfl ?_;by_cases hn:0<n;refine Qf (m:=tryCatch (pyNext<|.ref It) _)<|M0<|W.item 0 t _ _ hn hz λv g tk hv VR kp=>?_;have JS:=kp S _ nw hS;refine Qf (m:=updateSeq S (λ_=>#[v,v]))<|Dt JS rfl ?_;rw[jo];refine Qv ⟨NV cD _,tnZ W bt cm S nS _ 0 _ v _ rfl hn (W.frame _ _ _ VR λb mb o z=>(Hn _ _ (λw:S=b=>nS (by rw[w];exact mb))).trans z) hv (F2 _ JS rfl) λv2 g2 UY y1 y2=>?_⟩;exact fin v2 g2 UY (.inr ⟨hn,y1⟩) λb o q1 q2 z=>y2 b o q1 q2<|(Hn _ _<|Wl q2).trans<|kp b o q1 z;have n0:n=0:=Uz;refine Qf (m:=tryCatch (pyNext<|.ref It) _)<|M0<|W.done t _ _ (n0 ▸ hz) λg tk kp=>?_;exact Qf (RP<|Qv<|fin dv g tk (.inl ⟨n0,rfl⟩) λb o q1 _ z=>kp b o q1 z)
end
noncomputable def mx(a b:Int):Int:=if a<b then b else a
theorem xJ(ns:UX):∀k,k<ns.length->argBest (λi j=>decide<|ns.getD i 0 > ns.getD j 0) k<=k/\ns.getD (argBest (λi j=>decide<|ns.getD i 0 > ns.getD j 0) k) 0=((ns.drop 1).take k).foldl mx (ns.getD 0 0)
|0,_=>⟨Wd _,by simp[argBest]⟩|k+1,h=>by
 obtain⟨i1,i2⟩:=xJ ns k Uz;have e:((ns.drop 1).take<|k+1).foldl mx (ns.getD 0 0)=mx (((ns.drop 1).take k).foldl mx<|ns.getD 0 0) (ns.getD (k+1) 0):=by
  rw[List.take_succ,List.foldl_append];have:(ns.drop 1)[k]?=some (ns.getD (k+1) 0):=by rw[List.getElem?_drop,show 1+k=k+1 by lia];simp[h]
  rw[this];rfl
 rw[e,<-i2];have st:argBest (λi j=>decide<|ns.getD i 0 > ns.getD j 0) (k+1)=if decide (ns.getD (k+1) 0 > ns.getD (argBest (λi j=>decide<|ns.getD i 0 > ns.getD j 0) k) 0)=true then k+1 else argBest (λi j=>decide<|ns.getD i 0 > ns.getD j 0) k:=rfl
 rw[st];generalize argBest (λi j=>decide<|ns.getD i 0 > ns.getD j 0) k=m at *;by_cases q:ns.getD (k+1) 0 > ns.getD m 0;rw[Qi q,YN rfl];exact⟨Wd _,by unfold mx;rw[YN q]⟩;rw[VY q,YO (by decide)];exact⟨Uz,by unfold mx;rw[YO q]⟩
theorem Be(i:Int)(is:UX):(i::is).getD (argBest (λa b=>decide<|(i::is).getD a 0 > (i::is).getD b 0)<|(i::is).length-1) 0=is.foldl mx i:=by rw[(xJ (i::is) ((i::is).length-1) Qj).2];simp
section
variable{pg:Program}{wd:World}{A:Around}{E:Tv}{s:Shared}
theorem Q1z{id:String}{b:Builtin}{args:SX}{kw:List (Str×Value)}{Q:Tv}(k0:builtinKind id=none)(p0:plainId id=true)(e0:entryFor table id=some b)(a0:argsOk id ⟨args,kw⟩)
  (go:wpAny (model pg wd) A.in1 (b ⟨args,kw⟩) (λfin s'=>match fin with|.done f=>(match (Except.ok f:Result) with|.ok (.ret v)=>Q v s'|.ok _=>False|.error e=>E e s')|.again c'=>c'.quiet=true/\codeAny (model pg wd) A c' (λr s'=>match r with|.ok (.ret v)=>Q v s'|.ok _=>False|.error e=>E e s') s') E s) :
  wpAny (model pg wd) A (call (.builtin id) args kw) Q E s:=by
 refine wpAny_call<|codeAny_call_builtin p0 e0 ?_;simp only[checkBuiltinCall,k0];cases q:Manifest.signature? id with
 |none=>exact Qv go|some sig=>
  have h2:Bind.checkArgs id sig ⟨args,kw⟩=pure ():=by simpa only[argsOk,q] using a0
  simp only[h2];exact Qv go
theorem zH(hh:A.handled=none)(hl:s.heap.IsTuple q aO.toArray)(hi:IntsAre aO ns)
  (h:∀v h' tk,(ns=[]/\v=dv\/∃i is t,ns=i::is/\v=.int (is.foldl mx i) t)->(∀b o,s.heap.get? b=some o->h'.get? b=some o)->Q v {s with heap:=h',toks:=tk}) :
  wpAny (model pg wd) A (call (.builtin "max") [.ref q] [("default",dv)]) Q E s:=by
 refine Q1z PySem.F.kind_max PySem.F.plain_max PySem.F.entry_max (Q1r _ _) ?_;refine Qf (m:=Builtin.Builtins.bindParams "max" ["key","default"] 0 ⟨[],[("default",dv)]⟩)<|CK (show _=pure [none,some dv] from rfl) ?_;refine Qf<|Qv<|Qf<|Pa hl ?_;have lt:q<s.heap.objs.size:=by obtain⟨o,e,_⟩:=hl;exact Ut e
 have vals:∀i v,aO.toArray[i]?=some v->∃t,v=Value.int (ns.getD i 0) t:=λi v e=>by
  have e':aO[i]?=some v:=by simpa using e
  clear e h hl;induction hi generalizing i with|nil=>simp at e'|cons n t hr ih=>cases i with|zero=>simp at e';exact⟨t,by simp[<-e']⟩|succ i=>exact ih i (by simpa using e')
 have W:=Walks.tuple (prog:=pg) (w:=wd) (A:=A.in1) hh s.heap.objs.size q (M1 lt) aO.toArray;refine Qf<|My ?_;have hsz:(s.heap.push {cls:=.type "tuple_iterator",data:=.fields #[.ref q,.int 0 0]}).objs.size=s.heap.objs.size+1:=Nl ..;rw[jo];refine Qv ⟨NV cD _,wC W _ (CmpOf.ints_gt (λi=>ns.getD i 0) vals) _ ?_ (cap:=0) ?_ ?_ λv g tk hv kp=>?_⟩;intro hm;rw[hsz] at hm;simp at hm;rw[<-hm] at lt;exact Rm _<|Nat.lt_of_succ_lt lt;exact⟨⟨_,VZ _<|Ym _ rfl,rfl,rfl⟩,(hl.push _).push _⟩;exact Ym _ rfl;have Th:aO.length=ns.length:=by clear h hl vals W hv kp;induction hi with|nil=>rfl|cons n t hr ih=>simp[ih]
 refine h v g tk ?_ λb o e=>kp b o ?_ ?_<|VZ _<|VZ _ e;rcases hv with ⟨h0,rfl⟩|⟨h0,hv⟩
 refine .inl ⟨?_,rfl⟩;have:aO.length=0:=by simpa using h0
 exact List.length_eq_zero_iff.mp Uz;obtain⟨t,e⟩:=vals _ _ hv;cases ns with
 |nil=>simp at h0;rw[Th] at h0;simp at h0|cons i is=>
  refine .inr ⟨i,is,t,rfl,?_⟩;rw[e,<-Be i is];have:aO.toArray.size-1=(i::is).length-1:=by rw[<-Th];simp
  rw[this]
 have:=Ut e;intro hm;have z:b=s.heap.objs.size:=by simpa using hm
 rw[z] at this;exact Rm _ this;have:=Ut e;intro z;rw[z,hsz] at this;exact Rm _ (Nat.lt_of_succ_lt this)
end
theorem vr(t:Addr)(items:Array Value)(n:Nat)(sl:Array (Option Value))(dd:YB)(x:Value)(e:Value->Bool)(he:∀y,y∈items->MeetsSeq.EqGives y x (e y))(j:Nat)(hj:j<items.size)(hit:e items[j]=true)(SM:∀m (hm:m<items.size),m<j->e items[m]=false) : Meets (Builtin.«tuple.index» ⟨[.ref t,x],[]⟩) (λ_ R s=>s.heap.get? t=some {cls:=.type "tuple",dict:=dd,data:=.seq items n,slots:=sl}/\R (.ok<|.ret<|.int j s.toks) {s with toks:=s.toks+1}):=by
 intro prog w A R s h;obtain⟨hp,g,d,tk,os⟩:=s;obtain⟨hl,h⟩:=h
 wp_walk using wpAny_loadPart' hl
 have key:wpAny (model prog w) A.in1 (forIn (m:=Sem) ([:min items.size items.size]:Std.Legacy.Range) ((none,()):Option PySem.Fin×Unit) (λ(i:Nat)(__s:Option PySem.Fin×Unit)=>match items[i]? with
   |some y=>do
    let b <-eqBool y x
    if b=true then do
     let r <-retInt ((i:Nat):Int)
     pure (ForInStep.done (some r,()))
    else pure (ForInStep.yield (none,()))
   |x=>pure<|ForInStep.yield (none,()))) (λa s'=>a.1=some (.done<|.ret<|.int j tk)/\s'=⟨hp,g,d,tk+1,os⟩) (λe s'=>R (.error e) s') ⟨hp,g,d,tk,os⟩:=by
  rw[Std.Legacy.Range.forIn_eq_forIn_range'];simp only[Std.Legacy.Range.size,Nat.sub_zero,Nat.add_sub_cancel,Nat.div_one,Nat.min_self];refine wpAny_forIn_list _ (λrest b s'=>∃i,s'=⟨hp,g,d,tk,os⟩/\rest=List.range' i (items.size-i)/\i<=j) _ ?_ ?_ _ _ ⟨0,rfl,Qj,ZN _⟩;rintro x' rest b s' ⟨i,rfl,hr,hi⟩;have e1:items.size-i=(items.size-(i+1))+1:=Uz;rw[e1,List.range'_succ] at hr;injection hr with h1 h2;subst h1;have fj:x'<items.size:=Uz;rw[show items[x']?=some items[x'] by simp[fj]];refine Qf<|he _ (Array.getElem_mem fj) prog w _ _ _ _ ?_;by_cases hij:x'=j;subst hij;rw[hit]
  wp_walk
  exact⟨rfl,rfl⟩;rw[SM x' fj Uz]
  wp_walk
  exact⟨_,rfl,h2,Uz⟩;rintro b s' ⟨i,rfl,hr,hi⟩;have e1:items.size-i=(items.size-(i+1))+1:=Uz;rw[e1,List.range'_succ] at hr;cases hr
 exact FD key (λa s' ⟨h1,h2⟩=>by obtain⟨a1,a2⟩:=a;cases h1;subst h2;exact Qv h) λ_ _ z=>z
section
variable{X:Cx}{EX:XE}{o e:Expr}{es:Y2}{to:TE}{t:TA}{name:Str}{ZO bg:Pos}{T id:String}{r:V->List V->Hp->VK->Prop}{fo fe:M D}
theorem yw{ds:Vt}{y d:D}(h:pP ds y=some d):∃ns k,ds=List.map D.int ns/\y=.int k/\k∈ns/\d=.int (ns.idxOf k:Nat):=by
 unfold pP at h;cases q:b4 ds with
 |none=>rw[q] at h;cases h|some ns=>
  rw[q] at h;cases y with
  |int k=>
   dsimp only at h;split at h;rename_i hk;cases h;refine⟨ns,k,?_,rfl,hk,rfl⟩;clear hk;induction ds generalizing ns with
   |nil=>cases q;rfl|cons d ds ih=>
    cases d with
    |int i=>simp only[b4] at q;cases q2:b4 ds with|none=>rw[q2] at q;cases q|some ms=>rw[q2] at q;cases q;rw[Yk,<-ih ms q2]
    |_=>cases q
   cases h
  |_=>cases h
end
section
variable{X:Cx}{EX:XE}{L:Lc}{e a b:Expr}{fa fb fe:M D}{pos p:Pos}{c1 c2:Str}
structure WK(K:Frag)(mg:MG)(c1 c2:Str)(subs:PE):Prop where
 sp:W.specialIn K (.builtin "object.__class__") "__get__" = some (some<|.builtin "getset_descriptor.__get__")
 tk:W.takesIn K (.builtin "object.__class__")=some true
 ex:∃C1 C2,mg c1=some (.ref C1)/\mg c2=some (.ref C2)/\∀p∈subs,∃D,mg p.1=some (.ref D)/\E0 K D/\W.kitAny K (.ref D) [.ref C1,.ref C2]=some p.2
end
structure Q2N(K:Frag)(mg:MG)(c m:Str)(C f:Addr):Prop where
 mg:mg c=some (.ref C)
 sp:W.specialIn K (.ref C) "__getattribute__" = some (some<|.builtin "type.__getattribute__")
 rd:W.readsIn K C (.type "type")=true
 fi:W.findCls K (.ref C) (.type "type") m=some (.val<|.ref f)
 kp:W.keepIn K (.ref f)=true
structure LG where
 f:Nat->Addr
 d:Nat->FuncData
 g:Nat->Addr
 e:Nat->FuncData
 c:Nat->Addr
abbrev vM:=Str×Stmt×List Str
abbrev AZ:=Str×Str×Str×Bool×Stmt×List Str
structure E5 where
 b:List Str
 n:List (Str×D)
 t:List (Str×List (Str×D)×List Str)
 d:List vM
 m:List AZ
 k:List Str
 f:List (Str×List Str)
 a:List Str
 i:List (Str×List (Str×Bool))
 j:List (Str×Str×List (Str×Bool))
structure EG(K:Frag)(mg:MG)(c x qn:Str)(bs:Bool)(st:Stmt)(ps:Xa)(C f:Addr)(fd:FuncData):Prop where
 fu:EF K x qn st f fd
 bi:Binds K fd ps []
 gm:mg c=some (.ref C)
 cls:AS K C
 me:Meth K C x f
 Yo:x="__init__" -> Mk K C f
 ba:bs=true->Q2N K mg c x C f
structure Txt(L:E5)(w:World)(K:Frag)(mg:MG)(a:LG):Prop where
 b:∀(i:Nat) {x} (_:L.b[i]?=some x:=by rfl),mg x=none
 n:∀(i:Nat) {x d} (_:L.n[i]?=some (x,d):=by rfl),Y8 mg x d
 t:∀(i:Nat) {x t ab} (_:L.t[i]?=some (x,t,ab):=by rfl),E4 w K mg x t ab
 d:∀(i:Nat) {x st ps} (_:L.d[i]?=some (x,st,ps):=by rfl),pI K mg x st ps (a.f i) (a.d i)
 m:∀(i:Nat) {c x qn bs st ps} (_:L.m[i]?=some (c,x,qn,bs,st,ps):=by rfl),EG K mg c x qn bs st ps (a.c i) (a.g i) (a.e i)
 f:∀(i:Nat) {f cs} (_:L.f[i]?=some (f,cs):=by rfl),AX K mg cs f
 i:∀(i:Nat) {c su} (_:L.i[i]?=some (c,su):=by rfl),QD K mg c su
 j:∀(i:Nat) {c1 c2 su} (_:L.j[i]?=some (c1,c2,su):=by rfl),WK K mg c1 c2 su
def QL(K:Frag)(q:Addr):Xa->Prop|[]=>True|x::l=>W.nsIn K q x=some none/\QL K q l
def Vo(K:Frag):List (Str×D)->Prop|[]=>True| (x,d)::l=>(∃v,W.nsIn K mainGlobals x=some (some v)/\cy d v)/\Vo K l
def Vp(K:Frag)(q:Addr):List (Str×D)->Prop|[]=>True| (x,d)::l=>(∃v,W.nsIn K q x=some (some v)/\pK K d v)/\Vp K q l
def QM(w:World)(K:Frag):List (Str×List (Str×D)×List Str)->Prop|[]=>True| (x,t,ab)::l=>(∃(q:Addr)(es:Array DictEntry)(n:Nat),W.nsIn K mainGlobals x=some (some<|.ref q)/\(q == sysModules)=false/\K.lookup q=some ⟨.type "dict",none,.dict es n,#[]⟩/\W.KeysLit w.params es.toList/\Vp K q t/\QL K q ab)/\QM w K l
def QB(K:Frag):List vM->Prop|[]=>True| (x,st,_)::l=>(∃f,DH K x st f)/\QB K l
structure MH(K:Frag)(c x qn:Str)(bs:Bool)(st:Stmt)(C f:Addr):Prop where
 n:W.nsIn K mainGlobals c=some (some<|.ref C)
 i:W.findIn K (.ref C) x=some (some<|.ref f)
 fn:W.isFn K (.ref f)=true
 m:DM K x qn st f
 Yo:W.makesIn K C=true
 kc:W.keepIn K (.ref C)=true
 ba:bs=true->W.specialIn K (.ref C) "__getattribute__" = some (some<|.builtin "type.__getattribute__")/\W.readsIn K C (.type "type")=true/\W.findCls K (.ref C) (.type "type") x=some (.val<|.ref f)
def QH(K:Frag):List AZ->Prop|[]=>True| (c,x,qn,bs,st,_)::l=>(∃C f,MH K c x qn bs st C f)/\QH K l
def Qz(K:Frag):Xa->Prop|[]=>True|c::l=>(∃C,W.nsIn K mainGlobals c=some (some<|.ref C)/\AS K C)/\Qz K l
def Vf(K:Frag):Xa->Prop|[]=>True|c::l=>(∃C,W.nsIn K mainGlobals c=some (some<|.ref C)/\E0 K C)/\Vf K l
def QI(K:Frag)(f:Str):Xa->Prop|[]=>True|c::l=>(∃C,W.nsIn K mainGlobals c=some (some<|.ref C)/\W.findIn K (.ref C) f=some none)/\QI K f l
def Vj(K:Frag):List (Str×List Str)->Prop|[]=>True| (f,cs)::l=>QI K f cs/\Vj K l
def QE(K:Frag)(C:Addr):PE->Prop|[]=>True| (c,b)::l=>(∃D,W.nsIn K mainGlobals c=some (some<|.ref D)/\W.kitOne K (.ref D) (.ref C)=some b)/\QE K C l
def Vl(K:Frag):List (Str×List (Str×Bool))->Prop|[]=>True| (c,su)::l=>(∃C,W.nsIn K mainGlobals c=some (some<|.ref C)/\QE K C su)/\Vl K l
def QF(K:Frag)(C C':Addr):PE->Prop|[]=>True| (c,b)::l=>(∃D,W.nsIn K mainGlobals c=some (some<|.ref D)/\W.kitAny K (.ref D) [.ref C,.ref C']=some b)/\QF K C C' l
def Vm(K:Frag):List (Str×Str×List (Str×Bool))->Prop|[]=>True| (c,c',su)::l=>(∃C C',W.nsIn K mainGlobals c=some (some<|.ref C)/\W.nsIn K mainGlobals c'=some (some<|.ref C')/\QF K C C' su)/\Vm K l
def Vg:List vM->Prop|[]=>True| (x,st,ps)::l=>EW x x st ps/\Vg l
def Vh:List AZ->Prop|[]=>True| (_,x,qn,_,st,ps)::l=>EW x qn st ps/\Vh l
noncomputable def E5.jZ(L:E5):Bool:=L.f.all (λp=>p.2.all λc=>L.k.elem c)&&L.m.all (λr=>L.k.elem r.1)&&L.i.all (λp=>p.2.all λq=>L.a.elem q.1)&&L.j.all (λp=>p.2.2.all λq=>L.a.elem q.1)
section
variable{K:Frag}{mg:MG}{h:Heap}{w:World}
theorem QL.at:∀{l:Xa},QL K q l->∀{x},x∈l->W.nsIn K q x=some none|_::_,⟨h,t⟩,_,m=>by cases m with|head=>exact h|tail _ m=>exact t.at m
theorem Vo.at:∀{l:List (Str×D)},Vo K l->∀{x d},(x,d)∈l->∃v,W.nsIn K mainGlobals x=some (some v)/\cy d v|_::_,⟨h,t⟩,_,_,m=>by cases m with|head=>exact h|tail _ m=>exact t.at m
theorem Vp.at:∀{l:List (Str×D)},Vp K q l->∀p∈l,∃v,W.nsIn K q p.1=some (some v)/\pK K p.2 v|_::_,⟨h,t⟩,_,m=>by cases m with|head=>exact h|tail _ m=>exact t.at _ m
theorem QM.at(X:K.In h)(G:h.Ns mainGlobals mg):∀{l:List (Str×List (Str×D)×List Str)},QM w K l->∀{x t ab},(x,t,ab)∈l->E4 w K mg x t ab|_::_,⟨⟨q,es,n,h1,h2,h3,h4,h5,h6⟩,t⟩,_,_,_,m=>by cases m with|head=>exact⟨⟨q,es,n,zC X G h1,h2,h3,h4,D3 h5.at,λk hk=>h6.at hk⟩⟩|tail _ m=>exact QM.at X G t m
theorem Qz.at:∀{l:Xa},Qz K l->∀{c C},c∈l->W.nsIn K mainGlobals c=some (some<|.ref C)->AS K C|_::_,⟨⟨D,h,k⟩,t⟩,_,_,m,e=>by cases m with|head=>rw[h] at e;cases e;exact k|tail _ m=>exact t.at m e
theorem Vf.at:∀{l:Xa},Vf K l->∀{c C},c∈l->W.nsIn K mainGlobals c=some (some<|.ref C)->E0 K C|_::_,⟨⟨D,h,k⟩,t⟩,_,_,m,e=>by cases m with|head=>rw[h] at e;cases e;exact k|tail _ m=>exact t.at m e
theorem QI.at:∀{l:Xa},QI K f l->∀{c},c∈l->∃C,W.nsIn K mainGlobals c=some (some<|.ref C)/\iF K C f|_::_,⟨h,t⟩,_,m=>by cases m with|head=>exact h|tail _ m=>exact t.at m
theorem Vj.at:∀{l:List (Str×List Str)},Vj K l->∀{f cs},(f,cs)∈l->QI K f cs|_::_,⟨h,t⟩,_,_,m=>by cases m with|head=>exact h|tail _ m=>exact t.at m
theorem QE.at:∀{l:PE},QE K C l->∀p∈l,∃D,W.nsIn K mainGlobals p.1=some (some<|.ref D)/\W.kitOne K (.ref D) (.ref C)=some p.2|_::_,⟨h,t⟩,_,m=>by cases m with|head=>exact h|tail _ m=>exact t.at _ m
theorem Vl.at:∀{l:List (Str×List (Str×Bool))},Vl K l->∀{c su},(c,su)∈l->∃C,W.nsIn K mainGlobals c=some (some<|.ref C)/\QE K C su|_::_,⟨h,t⟩,_,_,m=>by cases m with|head=>exact h|tail _ m=>exact t.at m
theorem QF.at:∀{l:PE},QF K C C' l->∀p∈l,∃D,W.nsIn K mainGlobals p.1=some (some<|.ref D)/\W.kitAny K (.ref D) [.ref C,.ref C']=some p.2|_::_,⟨h,t⟩,_,m=>by cases m with|head=>exact h|tail _ m=>exact t.at _ m
theorem Vm.at:∀{l:List (Str×Str×List (Str×Bool))},Vm K l->∀{c c' su},(c,c',su)∈l->∃C C',W.nsIn K mainGlobals c=some (some<|.ref C)/\W.nsIn K mainGlobals c'=some (some<|.ref C')/\QF K C C' su|_::_,⟨h,t⟩,_,_,_,m=>by cases m with|head=>exact h|tail _ m=>exact t.at m
theorem QB.is(X:K.In h)(G:h.Ns mainGlobals mg):∀{l:List vM},QB K l->Vg l->∃ps:List (Addr×FuncData),∀(i:Nat) {x st qs},l[i]?=some (x,st,qs)->pI K mg x st qs (ps.getD i default).1 (ps.getD i default).2|[],_,_=>⟨[],λi _ _ _ e=>by simp at e⟩|_::_,⟨⟨f,d⟩,t⟩,⟨b,bs⟩=>by obtain⟨ps,hp⟩:=QB.is X G t bs;obtain⟨fd,D⟩:=d.is X G b;refine⟨(f,fd)::ps,λi _ _ _ e=>?_⟩;cases i with|zero=>simp only[List.getElem?_cons_zero,Option.some.injEq,Prod.mk.injEq] at e;obtain⟨rfl,rfl,rfl⟩:=e;exact D|succ i=>exact hp i (by simpa using e)
theorem QH.is(X:K.In h)(G:h.Ns mainGlobals mg)(C:Qz K ks):∀{l:List AZ},QH K l->Vh l->(∀r∈l,r.1∈ks)->∃ps:List (Addr×Addr×FuncData),∀(i:Nat) {c x qn bs st qs},l[i]?=some (c,x,qn,bs,st,qs)->EG K mg c x qn bs st qs (ps.getD i default).1 (ps.getD i default).2.1 (ps.getD i default).2.2|[],_,_,_=>⟨[],λi _ _ _ _ _ _ e=>by simp at e⟩|_::_,⟨⟨c,f,d⟩,t⟩,⟨b,bs⟩,hk=>by obtain⟨ps,hp⟩:=QH.is X G C t bs λr hr=>hk r<|Pe _ hr;obtain⟨fd,F,B⟩:=d.m.is b;refine⟨(c,f,fd)::ps,λi _ _ _ _ _ _ e=>?_⟩;cases i with|zero=>simp only[List.getElem?_cons_zero,Option.some.injEq,Prod.mk.injEq] at e;obtain⟨rfl,rfl,rfl,rfl,rfl,rfl⟩:=e;have m:=zC X G d.n;refine⟨F,B,m,C.at (hk _ R9) d.n,⟨d.i,d.fn,d.m.k⟩,λe=>⟨d.Yo,?_,d.fn,d.kc⟩,λe=>⟨m,(d.ba e).1,(d.ba e).2.1,(d.ba e).2.2,d.m.k⟩⟩;rw[<-e];exact d.i|succ i=>exact hp i (by simpa using e)
theorem Q2f(X:K.In h)(G:h.Ns mainGlobals mg)(jZ:L.jZ=true)(bd:Vg L.d)(bm:Vh L.m)(hb:QL K mainGlobals L.b)(hn:Vo K L.n)(ht:QM w K L.t)(hd:QB K L.d)(hc:Qz K L.k)(hm:QH K L.m)(hf:Vj K L.f)(ha:Vf K L.a)(hi:Vl K L.i)(hj:Vm K L.j)(sp:W.specialIn K (.builtin "object.__class__") "__get__" = some (some<|.builtin "getset_descriptor.__get__")) (tk:W.takesIn K (.builtin "object.__class__")=some true):∃a:LG,Txt L w K mg a:=by simp only[E5.jZ,Bool.and_eq_true,List.all_eq_true,List.elem_eq_contains,List.contains_iff_mem] at jZ;obtain⟨⟨⟨f1,f2⟩,f3⟩,f4⟩:=jZ;obtain⟨ps,hp⟩:=hd.is X G bd;obtain⟨qs,hq⟩:=hm.is X G hc bm f2;refine⟨⟨λi=>(ps.getD i default).1,λi=>(ps.getD i default).2,λi=>(qs.getD i default).2.1,λi=>(qs.getD i default).2.2,λi=>(qs.getD i default).1⟩,λi x e=>W.mg_none_of X G (hb.at<|Rb e),λi x d e=>?_,λi x t ab e=>ht.at X G (Rb e),hp,hq,λi f cs e c zO=>?_,λi c su e=>?_,λi c c' su e=>?_⟩;obtain⟨v,e1,e2⟩:=hn.at<|Rb e;exact⟨v,zC X G e1,e2⟩;have m:=Rb e;obtain⟨C,e1,e2⟩:=(hf.at m).at zO;exact⟨C,zC X G e1,hc.at (f1 _ m c zO) e1,e2⟩;have m:=Rb e;obtain⟨C,e1,e2⟩:=hi.at m;refine⟨sp,tk,C,zC X G e1,λp hp=>?_⟩;obtain⟨D,e3,e4⟩:=e2.at p hp;exact⟨D,zC X G e3,ha.at (f3 _ m p hp) e3,e4⟩;have m:=Rb e;obtain⟨C,C',e1,e1',e2⟩:=hj.at m;refine⟨sp,tk,C,C',zC X G e1,zC X G e1',λp hp=>?_⟩;obtain⟨D,e3,e4⟩:=e2.at p hp;exact⟨D,zC X G e3,ha.at (f4 _ m p hp) e3,e4⟩
theorem pI.law{x p:Str}{st:Stmt}{f:Addr}{fd:FuncData}(d:pI K mg x st [p] f fd)(c:∀(kV doc pm:Value)(an:YB)(cd ct:Value)(s:Shared)(v:Value),BindsTo s (W.fnOf x x (cL st) (bC st) (az st) .none kV doc pm an cd ct) ⟨[v],[]⟩ [(p,v)]) (s:Shared) (v:Value):BindsTo s fd ⟨[v],[]⟩ [(p,v)]:=by obtain⟨oc,od,kV,doc,pm,an,jK,ct,Ot,rfl,lk,eZ⟩:=d.fu.ex;exact c _ _ _ _ _ _ s v
end
abbrev aE:=Str×List Bool×Fn
structure Tc where
 N:List Str
 sc:Scope
 ow:List Str
 dc:List Str
 fz:List (Nat×Nat)
 ds:List aE
 ms:List (Str×aE)
 ks:List aE
 L:E5
 tx:List (Str×D)
 st:Stmt
noncomputable def gd{α:Type}(b:Bool)(o:Option α):Option α:=cond b o none
section
variable{α β:Type}{o o':Option α}{k:α->Option β}{f:α->β}{r:β}{C:Prop}
theorem nn{a:α}(h:none=some a):C:=by cases h
theorem fb(h:false=true):C:=by cases h
theorem ob(h:o.bind k=some r)(q:∀a,o=some a->k a=some r->C):C:=by cases o with|none=>cases h|some a=>exact q a rfl h
theorem om(h:(o.bind λa=>some<|f a)=some r)(q:∀a,o=some a->f a=r->C):C:=by cases o with|none=>cases h|some a=>exact q a rfl (Qe h)
theorem oc{a:α}(h:cond b o o'=some a)(q:b=true->o=some a->C)(q':o'=some a->C):C:=by cases b with|true=>exact q rfl h|false=>exact q' h
theorem og{a:α}(h:gd b o=some a)(q:b=true->o=some a->C):C:=oc h q nn
theorem oa(h:(a&&b)=true)(q:a=true->b=true->C):C:=by rw[Lp] at h;exact q h.1 h.2
theorem ne(h:(!a)=true):a=false:=by cases a<;>first|rfl|cases h
theorem ct{x:Str}{l:Xa}(h:l.contains x=true):x∈l:=List.contains_iff_mem.mp h
theorem lk{a:α}{l:List (Str×α)}(h:l.lookup x=some a):(x,a)∈l:=Og h
end
noncomputable def V0(x:Str):Xa->YK->Option Nat|y::l,i::is=>cond (y == x) (some i) (V0 x l is)|_,_=>none
noncomputable def nums:YK:=[0,1,2,3,4,5,6,7,8,9,10,11,12,13,14,15,16,17,18,19,20,21,22,23,24,25,26,27,28,29,30,31,32,33,34,35,36,37,38,39,40,41,42,43,44,45,46,47,48,49,50,51,52,53,54,55,56,57,58,59,60,61,62,63]
def Cy(x:Str)(l:Xa):Option Nat:=(V0 x l nums).bind λi=>gd (l[i]? == some x) (some i)
theorem m7(h:Cy x l=some i):l[i]?=some x:=ob h λj _ h=>og h λq h=>by cases h;exact eq_of_beq q
def S4:Option NameKind->Nat|some .local=>1|some .cell=>2|some .free=>3|_=>0
def PA(sc:Scope)(x:Str):Bool:=S4 (sc.names.lookup x) != 0
def CI(sc:Scope)(x:Str):Bool:=S4 (sc.names.lookup x) == 1||S4 (sc.names.lookup x) == 2
theorem CB(h:S4 k=n):n=0\/k=some .local/\n=1\/k=some .cell/\n=2\/k=some .free:=by unfold S4 at h;split at h<;>subst h;exact .inr<|.inl ⟨rfl,rfl⟩;exact .inr<|.inr<|.inl ⟨rfl,rfl⟩;exact .inr<|.inr<|.inr rfl;exact .inl rfl
theorem HI(h:PA sc x=true):ij sc x:=by rcases CB (k:=sc.names.lookup x) rfl with e|e|e|e;unfold PA at h;rw[e] at h;cases h;exact .inl e.1;exact .inr<|.inl e.1;exact .inr (.inr e)
theorem yD(h:CI sc x=true):Loc sc x:=by rcases CB (k:=sc.names.lookup x) rfl with e|e|e|e;unfold CI at h;rw[e] at h;cases h;exact .inl e.1;exact .inr e.1;unfold CI at h;rw[e] at h;cases h
noncomputable def okN(x:Str):Bool:=!(x == ("__debug__" : Str))&&!(x == ("__classdict__" : Str))
def slot(c:Tc)(x:Str):Option Nat:=gd (PA c.sc x&&okN x) (Cy x c.N)
noncomputable def isGl(sc:Scope)(x:Str):Bool:=sc.names.lookup x == some .globalImplicit
def Xg(c:Tc)(x:Str):Bool:=isGl c.sc x&&okN x
def P4(c:Tc)(x:Str):Bool:=isGl c.sc x&&c.L.b.contains x
noncomputable def AO:Expr->Option Str|.Name x _=>some x|_=>none
noncomputable def Ye:Expr->Option Str|.Name x _=>some x|.Attribute _ f _=>some f|_=>none
theorem hV(h:AO e=some x):∃p,e=.Name x p:=by cases e with|Name=>cases h;exact⟨_,rfl⟩|_=>exact nn h
def isOw(c:Tc)(e:Expr):Bool:=(AO e).any c.ow.contains
def isDc(c:Tc)(e:Expr):Bool:=(Ye e).any c.dc.contains
noncomputable def isS(x:Str):D->Bool|.str y=>y == x|_=>false
noncomputable def U0(g:Nat->Str):Xa->YK->List (Str×D)|x::l,i::is=>(x,.str<|g i)::U0 g l is|_,_=>[]
def Q1A(c:Tc):Const->Option D|.none=>some .aP|.bool b=>some (.bl b)|.int i=>some (.int i)|.str x=>(c.tx.lookup x).bind λd=>gd (isS x d) (some d)|_=>none
def unD:UnaryOp->Option (D->Pu)|.USub=>some rS|_=>none
def Z2:Operator->Option (D->D->Pu)|.Add=>some bq|.Sub=>some gR|.Mult=>some pR|.Mod=>some eJ|.FloorDiv=>some qt|_=>none
def Vv:CmpOp->Option (D->D->Pu)|.Lt=>some ltI|.LtE=>some CH|.Gt=>some Mx|.GtE=>some VH|.Eq=>some dP|.NotEq=>some gW|.Is=>some isND|.In=>some (inD false)|_=>none
abbrev k7:=Expr->Option (M D)
abbrev E6:=Expr->Option (M Bool)
noncomputable def tL(E:k7):Y2->Option (List<|M D)|[]=>some []|e::es=>(E e).bind λf=>(tL E es).bind λl=>some (f::l)
def tA(c:Tc)(E:k7):ZU->Y2->Option (List VP.Arg)|[],[]=>some []|false::fl,e::es=>(E e).bind λf=>(tA c E fl es).bind λl=>some (.val f::l)|true::fl,e::es=>(AO e).bind λx=>(slot c x).bind λj=>(tA c E fl es).bind λl=>some (.io j::l)|_,_=>none
noncomputable def tO(E:k7):Option Expr->Option (Option<|M D)|none=>some none|some e=>(E e).bind λz=>some (some z)
def tR(c:Tc)(E:k7)(e:Expr):Option (M D):=cond (isOw c e) ((AO e).bind λx=>(slot c x).bind λz=>some<|vE z) (E e)
def Mj(c:Tc)(E:k7)(a b:Expr):Option (M D):=cond (isOw c a) ((AO a).bind λx=>(slot c x).bind λj=>(E b).bind λg=>some<|iW j g) ((E a).bind λf=>(E b).bind λg=>cond (isDc c a) (some<|m2 RR f g)<|some<|m2 aj f g)
def tX(c:Tc)(E:k7)(a b:Expr):Option (M D):=match b with|.Slice lo hi none _=>(E a).bind λf=>(tO E lo).bind λl=>(tO E hi).bind λh=>some (vF fK f l h)|.Slice _ _ _ _=>none|b=>Mj c E a b
def tN(c:Tc)(E:k7)(x:Str):Y2->Option (M D)|[a]=>cond (x == "int") ((E a).bind λf=>some<|mF intD [f]) ((tR c E a).bind λf=>(cond (x == "len") (some bG)<|cond (x == "tuple") (some fS)<|cond (x == "list") (some gK)<|cond (x == "all") (some<|nK true)<|cond (x == "any") (some<|nK false)<|cond (x == "sum") (some DW)<|gd (x == "sorted")<|some qR).bind λg=>some<|m1 g f)|[a,b]=>cond (x == "isinstance") ((AO b).bind λk=>gd (Xg c k)<|(tR c E a).bind λf=>(c.L.i.lookup k).bind λsu=>some<|m1 (zT su) f) (gd (x == "max")<|(E a).bind λf=>(E b).bind λg=>some<|mF maxD [f,g])|_=>none
def Ov(c:Tc)(E:k7)(x:Str)(es:Y2):Option (M D):=gd (Xg c x) (match c.ds.lookup x with|some (fl,g)=>(tA c E fl es).bind λas=>some (aw g as)|none=>match c.ks.lookup x with|some (fl,g)=>(tA c E fl es).bind λas=>some (jS x g as)|none=>gd (c.L.b.contains x)<|tN c E x es)
def tC(c:Tc)(E:k7)(x:Str):Y2->Option (M D)|[]=>none|e::es=>Ov c E x (e::es)
def tM(c:Tc)(E:k7)(o:Expr)(m:Str)(ap pos:Pos):Y2->Option (M D)|[]=>none|e::es=>gd (ap.endLine == pos.line&&decide (es.length<20)) ((c.ms.lookup m).bind λq=>match q with| (k,fl,g)=>(E o).bind λfo=>(tA c E fl (e::es)).bind λas=>some<|gL k m g fo as)
def tK(E:k7)(a:Expr):List CmpOp->Y2->Option (M D)|[o],[b]=>(E a).bind λf=>(E b).bind λg=>(Vv o).bind λd=>some (m2 d f g)|[o,o'],[b,b']=>(E a).bind λf=>(E b).bind λg=>(E b').bind λh=>(Vv o).bind λd=>(Vv o').bind λd'=>some (F8 d d' f g h)|_,_=>none
def YT(B:E6)(o:BoolOp):Y2->Option (M Bool)|[]=>none|[a]=>B a|a::l=>(B a).bind λf=>(YT B o l).bind λg=>match o with|.And=>some (mR f g)|.Or=>some (y9 f g)
def YU(E:k7)(o:BoolOp):Y2->Option (M D)|[]=>none|[a]=>E a|a::l=>(E a).bind λf=>(YU E o l).bind λg=>match o with|.And=>some (oK f g)|.Or=>some (CS f g)
def tT(E:k7):Nat->Expr->Option (M Bool)
|0,_=>none|n+1,e=>match e with
 |.UnaryOp o a _=>match o with
   |.Not=>(tT E n a).bind λz=>some (i7 z)|_=>none
  |.BoolOp o l _=>YT (tT E n) o l|.Compare a os bs _=>(tK E a os bs).bind λz=>some (tB z)|.IfExp _ _ _ _=>none|e=>(E e).bind λz=>some (tB z)
def YX(lb:Scope->Str->Bool)(c:Tc):Y2->Option (List Nat)|[]=>some []|e::es=>(AO e).bind λx=>gd (lb c.sc x) ((Cy x c.N).bind λi=>(YX lb c es).bind λl=>some (i::l))
def tG(lb:Scope->Str->Bool)(c:Tc):Expr->Option (List Nat×(D->M Unit))|.Name x _=>gd (lb c.sc x) ((Cy x c.N).bind λi=>some<|([i],aq i))|.Tuple es _ _=>(YX lb c es).bind λl=>some ((l,fW l))|_=>none
noncomputable def isTup:Expr->Bool|.Tuple _ _ _=>true|_=>false
noncomputable def cv:Expr->Option (Expr×List Expr×Pos)|.Call g es [] p=>some (g,es,p)|_=>none
noncomputable def av:Expr->Option (Expr×Str×Pos)|.Attribute o m p=>some (o,m,p)|_=>none
noncomputable def o1:Y2->Option Expr|[a]=>some a|_=>none
theorem JF(h:cv e=some (g,es,p)):e=.Call g es [] p:=by
 cases e with
 |Call _ _ ks=>cases ks with|nil=>cases h;rfl|_=>exact nn h
 |_=>exact nn h
theorem QV(h:av e=some (o,m,p)):e=.Attribute o m p:=by cases e with|Attribute=>cases h;rfl|_=>exact nn h
theorem Km(h:o1 es=some a):es=[a]:=by cases es with|nil=>exact nn h|cons _ l=>cases l with|nil=>cases h;rfl|_=>exact nn h
def xN(e:Expr):Option (Str×List Expr):=(cv e).bind λ(g,es,_)=>(AO g).bind λx=>some (x,es)
theorem tQ(h:xN e=some (x,es)):∃p pos,e=.Call (.Name x p) es [] pos:=ob h λ⟨g,W7,p⟩ h1 h=>ob h λx h2 h=>by cases h;obtain⟨q,e⟩:=hV h2;exact⟨q,p,e ▸ JF h1⟩
def Wm(c:Tc)(E:k7)(t:Bool)(e:Expr):Option (M<|List D):=match xN e with|some (x,[a])=>cond (x == "range") (gd (P4 c x)<|(E a).bind λf=>some<|bH [f]) (cond (x == "reversed") (gd (P4 c x)<|(E a).bind λz=>some<|CU z)<|cond (x == "enumerate") (gd (P4 c x&&t)<|(E a).bind λf=>some<|uM [f])<|(E e).bind λz=>some<|cR z)|some (x,[a,b])=>cond (x == "zip") (gd (P4 c x&&t)<|(E a).bind λf=>(E b).bind λg=>some<|uQ [f,g]) ((E e).bind λz=>some<|cR z)|_=>(E e).bind λz=>some (cR z)
def Hu:Expr->List Str|.Name x _=>[x]|.Tuple es _ _=>es.filterMap AO|_=>[]
def gT:List Comprehension->List Str|[g]=>Hu g.target|_=>[]
def YI(scope sc:Scope):Scope:={scope with names:=scope.names.map λ(n,k)=>if (k == NameKind.free&&sc.kind == .function&&sc.names.lookup n == some .cell) then(n,NameKind.cell) else(n,k)}
def kQ(c:Tc)(scope:Scope)(ts:Xa):Tc:={c with N:=(c.N.map λx=>if ts.contains x then("?r" : Str) else x)++ts++[if c.N.contains "?a" then("?b" : Str) else "?a"],sc:=YI scope c.sc}
noncomputable def Yj(sc:Scope)(x:Str):Bool:=sc.names.lookup x == some .local
def okC(c:Tc)(scope:Scope)(ts:Xa)(js:YK):Bool:=(scope.kind == .function&&gZ c.sc.names scope.names c.N (kQ c scope ts).N)&&(decide (kQ c scope ts).N.Nodup&&js.all λj=>decide (c.N.length<=j)&&decide (j<c.N.length+ts.length))
def pV(B:E6):Y2->Option (M Bool)|[]=>some (ret true)|[t]=>B t|_=>none
noncomputable def Nb:Xa->Option Nat|[_]=>some 1|[_,_]=>some 2|[_,_,_]=>some 3|_=>none
theorem Q0z(h:Nb l=some n):n=l.length:=by unfold Nb at h;split at h<;>cases h<;>rfl
def YY(c:Tc)(scope:Scope)(E E':k7)(B:E6)(elt:Expr):List Comprehension->Option (M D)
|[⟨tg,it,ifs,0⟩]=>(Wm c E (isTup tg) it).bind λi=>(tG Yj (kQ c scope<|Hu tg) tg).bind λq=>match q with
  | (js,gf)=>(pV B ifs).bind λt=>(E' elt).bind λf=>(Nb<|Hu tg).bind λn=>gd (okC c scope (Hu tg) js) (some<|aD n i gf t f)
 |_=>none
def tE:Nat->Tc->k7|0,_,_=>none|n+1,c,e=>match e with|.Name x _=>cond (Xg c x) ((c.L.n.lookup x).bind λz=>some<|mC z) ((slot c x).bind λz=>some<|aa z)|.Constant k _ _=>(Q1A c k).bind λz=>some (mC z)|.BinOp a o b _=>(tE n c a).bind λf=>(tE n c b).bind λg=>(Z2 o).bind λd=>some (m2 d f g)|.UnaryOp o a _=>(tE n c a).bind λf=>(unD o).bind λd=>some (m1 d f)|.BoolOp o l _=>YU (tE n c) o l|.Compare a os bs _=>tK (tE n c) a os bs|.Subscript a b _=>tX c (tE n c) a b|.Tuple es _ _=>(tL (tE n c) es).bind λz=>some (bY z)|.List es _=>(tL (tE n c) es).bind λz=>some (fX z)|.Attribute a f _=>(tE n c a).bind λg=>(c.L.f.lookup f).bind λcs=>some (m1 (gw cs f) g)|.Call (.Name x _) es [] _=>tC c (tE n c) x es|.Call (.Attribute o m q) es [] p=>tM c (tE n c) o m q p es|.IfExp t a b _=>(tT (tE n c) n t).bind λg=>(tE n c a).bind λf=>(tE n c b).bind λh=>some (Ni g f h)|.ListComp e gs sc _=>YY c sc (tE n c) (tE n<|kQ c sc<|gT gs) (tT (tE n<|kQ c sc<|gT gs) n) e gs|_=>none
noncomputable def isCmp:Expr->Bool|.Compare _ _ _ _=>true|.IfExp _ _ _ _=>true|.BoolOp _ _ _=>true|.UnaryOp _ _ _=>true|_=>false
noncomputable def isLC:Expr->Bool|.ListComp _ _ _ _=>true|_=>false
section
variable{X:Cx}{EX:XE}{c:Tc}{E:k7}{B:E6}
theorem isTup_ok(h:isTup g=true):∃es k p,g=.Tuple es k p:=by cases g with|Tuple=>exact⟨_,_,_,rfl⟩|_=>exact fb h
end
def Hs(S:Stmt->Option (M Fl)):List Stmt->Option (M Fl)|[]=>some aI|s::l=>(S s).bind λf=>(Hs S l).bind λg=>some (ak f g)
noncomputable def NF(sc:Scope)(x:Str)(p:Pos):Expr->Bool|.ListComp _ _ s q=>sc.names.lookup x == some .local&&p.line == q.line&&!(s.names.any λ(n,k)=>n == x&&(k == .local||k == .cell))|_=>true
def YV(c:Tc)(E:k7)(e:Expr):Option (M D):=(xN e).bind λ(x,es)=>(o1 es).bind λa=>gd (x == "list" && P4 c x) ((tR c E a).bind λf=>some<|m1 gK f)
def tF(c:Tc)(E:k7)(e:Expr):Option (M D):=match e with|.List es _=>(tL E es).bind λz=>some (fX z)|.Dict [] [] _=>some (mC<|.ki [] [])|e=>YV c E e
def UK(c:Tc)(E:k7)(e:Expr):Expr->Option (M Fl)|.Name x p=>gd (CI c.sc x&&NF c.sc x p e) ((Cy x c.N).bind λi=>cond (c.ow.contains x) (cond (isLC e) ((E e).bind λf=>some<|iC i f)<|(tF c E e).bind λf=>some<|iC i f)<|(E e).bind λf=>some<|aM i f)|.Attribute o f _=>gd (!isLC e) ((AO o).bind λx=>(slot c x).bind λi=>(c.L.f.lookup f).bind λcs=>cond (f == "cells") ((YV c E e).bind λg=>some<|mD i cs f g)<|(E e).bind λg=>some<|mD i cs f g)|.Subscript o b _=>gd (!isLC e) ((AO o).bind λx=>(slot c x).bind λi=>(E b).bind λk=>(E e).bind λg=>cond (isDc c o) (some<|Ll i k g)<|some<|ke i k g)|_=>none
def UL(c:Tc)(E:k7)(e:Expr):Y2->Option (M Fl)|[t]=>UK c E e t|_=>none
def nO(c:Tc)(E:k7)(e:Expr):Option (M Fl):=(cv e).bind λ(g,es,p)=>(av g).bind λ(o,m,ap)=>(o1 es).bind λa=>gd (m == "append" && ap.endLine == p.line) ((AO o).bind λx=>(slot c x).bind λi=>(E a).bind λf=>some<|jJ i f)
def R7(c:Tc)(l:Nat)(f:M Fl):Option (M Fl):=match c.fz.lookup l with|some i=>some (AR i f)|none=>some f
def tS(c:Tc)(E:k7)(B:E6):Nat->Stmt->Option (M Fl)
|0,_=>none|n+1,s=>match s with
 |.Return (some e) p=>(E e).bind λf=>R7 c p.line (aY f)|.If t a b _=>(B t).bind λf=>(Hs (tS c E B n) a).bind λg=>(Hs (tS c E B n) b).bind λh=>some (ef f g h)|.Assign ts e p=>(UL c E e ts).bind (R7 c p.line)|.For g e b [] _=>(Wm c E (isTup g) e).bind λi=>(tG CI c g).bind λq=>match q with
   | (_,gf)=>(Hs (tS c E B n) b).bind λf=>some (iY i gf f)
  |.While t b [] _=>(B t).bind λf=>(Hs (tS c E B n) b).bind λg=>some (sL f g)|.Expr e p=>(nO c E e).bind (R7 c p.line)|.Raise _ _ _=>some ph|_=>none
def U3(c:Tc):E6:=tT (tE 32 c) 32
def Wn(c:Tc):Stmt->Option (M Fl):=tS c (tE 32 c) (U3 c) 32
noncomputable def Tn:Nat->List Stmt->List (List Stmt)|0,_=>[]|n+1,l=>l.flatMap λs=>match s with|.For _ _ b _ _=>b::Tn n b|.While _ b _ _=>Tn n b|.If _ a b _=>Tn n a++Tn n b|_=>[]
abbrev AH(c:Tc)(j:Nat):=∀f,Hs (Wn c) ((Tn 9<|bC c.st).getD j [])=some f->M Fl
abbrev WC(c:Tc)(f:M Fl):Prop:=Hs (Wn c) (bC c.st)=some f
abbrev bc(c:Tc):=∀f,WC c f->M Fl
end VS
end
section
set_option linter.all false
set_option maxRecDepth 100000
namespace WL
open PySem PySem.Spec PyProof.Rows L2 VP
abbrev MG:=Str->Option Value
def nE(K:W.Frag)(a:Addr)(d:D):Prop:=∃(t:Bool)(ds:Vt)(aO:Array Value)(n:Nat),d=(if t then .tup ds else .lst ds)/\K.lookup a=some ⟨.type<|if t then "tuple" else "list",none,.seq aO n,#[]⟩/\aO.size<=sizeLine/\Paired VS.cy ds aO.toList
open Classical in
noncomputable def D4(K:W.Frag)(a:Addr):Pu:=if h:∃d,nE K a d then some h.choose else none
structure Gb where
 prog:Program
 w:World
 K:W.Frag
 mg:MG
 base:Heap
inductive En where
 |pin (o:Obj) (d:Pu)|ow (d:D) (i:Nat)|cA (a:Addr)|jO (o:Obj)|dg (o:Obj)
def En.k:Option En->Nat|some (.pin _ _)=>0|some (.ow _ _)=>1|some (.cA _)=>2|some (.jO _)=>3|some (.dg _)=>4|none=>5
theorem ek{a b o:Option En}{C:Prop}(h:o=a)(q:o=b)(n:(En.k a == En.k b)=false:=by rfl):C:=by rw[<-h,<-q] at n;simp at n
theorem en{α:Type}{b:α}{C:Prop}{o:Option α}(h:o=none)(q:o=some b):C:=by subst h;cases q
theorem sj{α:Type}{a b:α}{o:Option α}(h:o=some a)(q:o=some b):b=a:=Qe (q.symm.trans h)
theorem AQ{o:Option En}{d e:D}{i j:Nat}(h:o=some (.ow d i))(q:o=some (.ow e j)):e=d/\j=i:=by cases sj h q;exact⟨rfl,rfl⟩
theorem YE{o:Option En}{d e:Pu}{i j:Obj}(h:o=some (.pin i d))(q:o=some (.pin j e)):j=i/\e=d:=by cases sj h q;exact⟨rfl,rfl⟩
theorem iij{o:Option En}{i j:Obj}(h:o=some (.dg i))(q:o=some (.dg j)):j=i:=by cases sj h q;rfl
abbrev Tm:=Addr->Option En
def upd(H:Tm)(a:Addr)(e:En):Tm:=λb=>if b=a then some e else H b
theorem aA:upd H a e a=some e:=YN rfl
theorem aH(h:b≠a):upd H a e b=H b:=YO h
def En.fast:En->Prop|.ow _ _=>False|.cA _=>False|_=>True
def En.soft(S:Addr->Prop):En->Prop|.pin _ _=>False|.jO _=>False|.cA b=>S b|_=>True
def Le(H H':Tm):Prop:=∀a e,H a=some e->e.fast->H' a=some e
theorem Le.refl:Le H H:=λ_ _ e _=>e
theorem Le.trans(a:Le H H1)(b:Le H1 H2):Le H H2:=λ_ _ e f=>b _ _ (a _ _ e f) f
def iA(H H':Tm):Prop:=∀a o d,H a=some (.pin o<|some d)->H' a=some (.pin o<|some d)
theorem Le.p(l:Le H H'):iA H H':=λ_ _ _ h=>l _ _ h trivial
def Rel(H:Tm)(v:Value):D->Prop|.aP=>v=.none|.bl b=>v=.bool b|.int i=>∃t,v=.int i t|.str x=>∃t,v=.str x t|d=>∃a o,v=.ref a/\H a=some (.pin o<|some d)
theorem Rel.p(l:iA H H'){d:D}(r:Rel H v d):Rel H' v d:=by cases d<;>first|exact r|exact Exists.imp (λ_=>Exists.imp λ_=>And.imp id<|l _ _ _) r
theorem Rel.le(l:Le H H'){d:D}(r:Rel H v d):Rel H' v d:=r.p l.p
abbrev aC(H:Tm):SX->Vt->Prop:=Paired (Rel H)
theorem aC.p(l:iA H H')(r:aC H us ds):aC H' us ds:=Paired.mono (λ_ _=>Rel.p l) r
theorem aC.le(l:Le H H')(r:aC H us ds):aC H' us ds:=r.p l.p
inductive jC(H:Tm)(h:Heap)(dx:Addr)(ns:Xa)(ds:Vt):Prop|mk (fs:List (Str×Value)) (k:fs.map (·.1)=ns) (r:aC H (fs.map (·.2)) ds) (z:ns.length<=1000) (mA:MG) (n:h.Ns1 dx mA) (w:(∀f,fs.lookup f=mA f)/\PySem.Within mA ns/\∀l,mA "cells" = some (.ref l)->dx<l)
theorem jC.p(l:iA H H')(x:jC H h dx ns ds):jC H' h dx ns ds:=by obtain⟨fs,k,r,z,mA,n,w⟩:=x;exact⟨fs,k,r.p l,z,mA,n,w⟩
def LstAt(h:Heap)(a:Addr)(aO:Array Value):Prop:=∃n,h.get? a=some {cls:=.type "list",data:=.seq aO n}
theorem LstAt.plain(x:LstAt h a aO):PlainL h a aO:=let ⟨n,e⟩:=x;⟨_,n,e,rfl,rfl,rfl⟩
theorem LstAt.at(x:LstAt h a aO)(k:∀o,h.get? a=some o->h'.get? a=some o):LstAt h' a aO:=let ⟨n,e⟩:=x;⟨n,k _ e⟩
def DxF(H:Tm)(h:Heap)(f:Bool)(a:Addr)(ns:Xa)(ds:Vt):YB->Prop|none=>ns=[]/\ds=[]|some b=>(if f then ∃o,H b=some (.pin o<|some .aP) else H b=some (.cA a))/\b≠a/\jC H h b ns ds
inductive Q2I(g:Gb)(H:Tm)(h:Heap)(f:Bool)(a:Addr)(c:Str)(ns:Xa)(ds:Vt):Prop|mk (C dx:Addr) (m:g.mg c=some (.ref C)) (e:h.get? a=some (W.instObj C dx)) (q:if f then ∃o,H dx=some (.pin o<|some .aP) else H dx=some (.cA a)) (ne:a=dx+1) (w:jC H h dx ns ds)
inductive WH(g:Gb)(H:Tm)(h:Heap)(f:Bool)(a:Addr)(c:Str)(ns:Xa)(ds:Vt):Prop|mk (C:Addr) (dx:YB) (vs:Array Value) (sl:Array (Option Value)) (m:g.mg c=some (.ref C)) (e:h.get? a=some ⟨.ref C,dx,.fields vs,sl⟩) (e2:vs[2]?=some .none) (e1:f=false->vs[1]?=some .none) (q:DxF H h f a ns ds dx)
def fV(g:Gb)(H:Tm)(h:Heap)(f:Bool)(a:Addr):D->Prop|.tup ds=>f=true/\ds.length<=sizeLine/\∃us:SX,aC H us ds/\LH h a us.toArray|.lst ds=>ds.length<=sizeLine/\∃us:SX,aC H us ds/\LstAt h a us.toArray|.ki ks ds=>ks.length<=sizeLine/\(a == sysModules)=false/\∃(vs:List (Key×Value))(ep:Nat),vs.map (·.1)=ks/\aC H (vs.map (·.2)) ds/\h.DictAt (ng g.prog g.w) a vs ep|.ins c ns ds=>Q2I g H h f a c ns ds|.jj c ns ds=>WH g H h f a c ns ds|.aP=>True|_=>False
def kY(g:Gb)(H:Tm)(h:Heap)(a:Addr):En->Prop|.pin o d=>h.get? a=some o/\∀e,d=some e->fV g H h true a e|.ow d i=>fV g H h false a d/\d≠.aP|.cA b=>∃o,h.get? a=some o|.jO o=>∃sl,h.get? a=some {o with slots:=sl}|.dg o=>h.get? a=some o
def nB(g:Gb)(H:Tm)(h:Heap):Prop:=∀a e,H a=some e->kY g H h a e
section
variable{g:Gb}{H H':Tm}{h h':Heap}{a:Addr}
theorem fV.at{d:D}(x:fV g H h f a d)(n:d≠.aP):∃o,h.get? a=some o:=by cases d with|tup ds=>obtain⟨_,_,_,_,o,e,_⟩:=x;exact⟨o,e⟩|lst ds=>obtain⟨_,_,_,p⟩:=x;obtain⟨o,_,e,_⟩:=p.plain;exact⟨o,e⟩|ki ks ds=>obtain⟨_,_,_,_,_,_,o,_,e,_⟩:=x;exact⟨o,e⟩|ins c ns ds=>obtain⟨_,_,_,e,_⟩:=x;exact⟨_,e⟩|jj c ns ds=>obtain⟨_,_,_,_,_,e,_⟩:=x;exact⟨_,e⟩|aP=>exact absurd rfl n|_=>exact x.elim
theorem kY.at{e:En}(x:kY g H h a e):∃o,h.get? a=some o:=by cases e with|pin o d=>exact⟨o,x.1⟩|ow d i=>exact x.1.at x.2|cA b=>exact x|jO o=>obtain⟨_,e⟩:=x;exact⟨_,e⟩|dg o=>exact⟨o,x⟩
theorem nB.lt(x:nB g H h)(e:H a=some q):a<h.objs.size:=let ⟨_,z⟩:=(x a q e).at;Ut z
theorem nB.fresh(x:nB g H h)(e:h.objs.size<=a):H a=none:=by cases q:H a with|none=>rfl|some u=>exact absurd (Hz (x.lt q) e) (Rm _)
theorem fV.mv{d:D}(x:fV g H h f a d)(l:iA H H')(ha:∀o,h.get? a=some o->h'.get? a=some o)(hd:f=false->∀b,H b=some (.cA a)->H' b=some (.cA a))(hk:∀b o,(f=false/\H b=some (.cA a))\/(f=true/\∃q,H b=some (.pin q<|some .aP))->h.get? b=some o->h'.get? b=some o):fV g H' h' f a d:=by
 cases d with
 |tup ds=>obtain⟨y,z,us,r,o,e,c⟩:=x;exact⟨y,z,us,r.p l,o,ha _ e,c⟩|lst ds=>obtain⟨z,us,r,p⟩:=x;exact⟨z,us,r.p l,p.at ha⟩|ki ks ds=>obtain⟨z,y,vs,ep,k,r,o,es,e,c⟩:=x;exact⟨z,y,vs,ep,k,r.p l,o,es,ha _ e,c⟩|ins c ns ds=>
  obtain⟨C,dx,m,e,q,ne,fs,k,r,z,mA,n,w⟩:=x;have q':(f=false/\H dx=some (.cA a))\/(f=true/\∃q,H dx=some (.pin q<|some .aP)):=by
   cases f
   ·exact .inl ⟨rfl,q⟩
   ·exact .inr ⟨rfl,q⟩
  refine⟨C,dx,m,ha _ e,?_,ne,fs,k,r.p l,z,mA,n.at λo=>hk dx o q',w⟩;cases f
  ·exact hd rfl _ q
  ·obtain⟨o,q⟩:=q;exact⟨o,l _ _ _ q⟩
 |jj c ns ds=>
  obtain⟨C,dx,vs,sl,m,e,e2,e1,q⟩:=x;refine⟨C,dx,vs,sl,m,ha _ e,e2,e1,?_⟩;cases dx with
  |none=>exact q|some b=>
   obtain⟨q,ne,fs,k,r,z,mA,n,w⟩:=q;refine⟨?_,ne,fs,k,r.p l,z,mA,n.at λo=>hk b o ?_,w⟩;all_goals cases f
   ·exact hd rfl _ q
   ·obtain⟨o,q⟩:=q;exact⟨o,l _ _ _ q⟩
   ·exact .inl ⟨rfl,q⟩
   ·exact .inr ⟨rfl,q⟩
 |aP=>trivial|_=>exact x.elim
theorem nB.gen(ok:nB g H h)(S:Addr->Prop)(soft:∀x e,S x->H x=some e->e.soft S)(same:∀b,¬S b->H' b=H b)(k:∀b o,¬S b->h.get? b=some o->h'.get? b=some o) (new:iA H H'->∀a e,S a->H' a=some e->kY g H' h' a e):nB g H' h':=λa e q=>by
 have np:∀b o d,H b=some (.pin o d)->¬S b:=λb o d z s=>soft b _ s z;have lp:iA H H':=λb o d z=>(same b<|np b o _ z).trans z;by_cases s:S a;exact new lp a e s q;rw[same a s] at q;have x:=ok a e q;have mv:∀{f:Bool}{d:D},fV g H h f a d->fV g H' h' f a d:=λy=>y.mv lp (λo=>k a o s) (λ_ b z=>(same b λsb=>s<|soft b _ sb z).trans z) λb o z=>k b o λsb=>by
  rcases z with ⟨_,z⟩|⟨_,_,z⟩
  exact s<|soft b _ sb z;exact np b _ _ z sb
 cases e with|pin o d=>exact⟨k _ _ s x.1,λe z=>mv<|x.2 e z⟩|ow d i=>exact⟨mv x.1,x.2⟩|cA b=>obtain⟨o,z⟩:=x;exact⟨o,k _ _ s z⟩|jO o=>obtain⟨sl,z⟩:=x;exact⟨sl,k _ _ s z⟩|dg o=>exact k _ _ s x
end
structure Cx where
 g:Gb
 A:Around
 N:List Str
 env:Env
 outer:List Env
 stack:List Env
 fn:Bool
 calm:Bool
 io:Nat->Addr->Prop
 H₀:Tm
 n₀:Nat
 os:OsState
abbrev Cx.M(X:Cx):Model:=model X.g.prog X.g.w
structure Cx.Ok(X:Cx):Prop where
 mod:Mod X.g.K X.g.mg X.g.base
 kind:X.env.scope.kind=.function
 glob:X.env.globals=mainGlobals
 blt:X.env.builtins=builtinsNs
 inj:∀x y c,X.env.cells.lookup x=some c->X.env.cells.lookup y=some c->x=y
 has:∀x,(X.env.kindOf x=some .cell\/X.env.kindOf x=some .free)->∃c,X.env.cells.lookup x=some c
 hd:X.calm=true->X.A.handled=none
 frames:X.A.frames=some X.stack
 UJ:if X.fn then X.stack=X.env::X.outer/\X.env.frame=some X.env.locals else X.stack=X.outer
 VC:∃fe ol L,X.stack=fe::ol/\fe.frame=some L/\X.env.frame=some L
 bs:∀b o,X.g.base.get? b=some o->X.H₀ b=some (.pin o<|D4 X.g.K b)
 EI:X.g.base.objs.size<=X.n₀
 h0:∀b e,X.H₀ b=some e->b<X.n₀
 fr:∀e∈X.outer,e.scope.kind≠.module/\∃L o,e.frame=some L/\X.g.base.get? L=none/\X.H₀ L=some (.jO o)/\∀vs,o.data≠.fields vs
 lo:X.n₀<=X.env.locals
abbrev Sg:=Str->Option Value
def zv(X:Cx)(H:Tm)(i:Nat)(v:Xf):Sl->Prop|.no=>True|.sh d=>∃u,v=some u/\Rel H u d|.ow d=>∃l,v=some (.ref l)/\H l=some (.ow d i)|.io d=>∃l,v=some (.ref l)/\H l=some (.ow d i)/\X.io i l
def Tg(n:Nat)(H:Tm)(ρ:ax):Prop:=∀l d i,H l=some (.ow d i)->i<n->(ρ[i]?=some (.ow d)\/ρ[i]?=some (.io d))/\∀l' d',H l'=some (.ow d' i)->l'=l
structure Inv(X:Cx)(σ:Sg)(H:Tm)(ρ:ax)(s:Shared):Prop where
 ok:X.Ok
 os:s.os=X.os
 bare:AllBare s.gens
 le:Le X.H₀ H
 nw:∀a e,H a=some e->X.H₀ a=none->X.n₀<=a\/∃o,e=.dg o
 aL:nB X.g H s.heap
 loc:∃m,s.heap.Ns X.env.locals m/\∀x u,ij X.env.scope x->σ x=some u->Look X.env s.heap m x u
 slot:∀i sl,ρ[i]?=some sl->∃x,X.N[i]?=some x/\zv X H i (σ x) sl
 tg:Tg X.N.length H ρ
 fl:H X.env.locals=none
 cell:∀x c,X.env.cells.lookup x=some c->(∃v,s.heap.IsCell c v)/\(H c=none\/X.fn=false/\∃o d,H c=some (.pin o d))
 len:ρ.length=X.N.length
section
variable{X:Cx}{σ:Sg}{H H' H1:Tm}{ρ a9:ax}{s:Shared}{h':Heap}
theorem zv.mv{sl:Sl}(x:zv X H i v sl)(l:iA H H')(ho:∀l d,H l=some (.ow d i)->H' l=some (.ow d i)):zv X H' i v sl:=by cases sl with|no=>trivial|sh d=>obtain⟨u,a,b⟩:=x;exact⟨u,a,b.p l⟩|ow d=>obtain⟨p,a,b⟩:=x;exact⟨p,a,ho _ _ b⟩|io d=>obtain⟨p,a,b,c⟩:=x;exact⟨p,a,ho _ _ b,c⟩
theorem Inv.bk(I:Inv X σ H ρ s)(b:Addr)(o:Obj)(e:X.g.base.get? b=some o):s.heap.get? b=some o:=by have q:=I.ok.bs b o e;exact(I.aL b _<|I.le _ _ q trivial).1
theorem Inv.mod(I:Inv X σ H ρ s):Mod X.g.K X.g.mg X.g.base:=I.ok.mod
theorem Inv.jR(I:Inv X σ H ρ s):X.g.K.In s.heap:=I.mod.lG.keeps I.bk
theorem Inv.lt(I:Inv X σ H ρ s):X.env.locals<s.heap.objs.size:=let ⟨_,hn,_⟩:=I.loc;hn.lt
theorem Inv.Ny(I:Inv X σ H ρ s)(h:s.heap.objs.size<=b):X.H₀ b=none:=by cases q:X.H₀ b with|none=>rfl|some e=>exact absurd (Hz (I.ok.h0 b e q)<|YM (YM I.ok.lo<|Nat.le_of_lt I.lt) h) (Rm _)
theorem Inv.sz(I:Inv X σ H ρ s):X.n₀<=s.heap.objs.size:=YM I.ok.lo (Nat.le_of_lt I.lt)
theorem Inv.Vx(I:Inv X σ H ρ s)(e:X.env.cells.lookup x=some c):c≠X.env.locals:=λz=>by obtain⟨⟨v,o,ho,hd⟩,_⟩:=I.cell x c e;obtain⟨m,⟨o',es,ep,EP,qx,_⟩,_⟩:=I.loc;rw[z,EP] at ho;cases ho;rw[qx] at hd;cases hd
theorem FunFrames.of(aL:nB g H h):∀{l:List Env},(∀e∈l,e.scope.kind≠.module/\∃L o,e.frame=some L/\g.base.get? L=none/\H L=some (.jO o)/\∀vs,o.data≠.fields vs)->h.FunFrames g.base l|[],_=>trivial|e::l,k=>by obtain⟨a,L,o,b,c,d,n⟩:=k e R9;obtain⟨sl,z⟩:=aL L _ d;exact⟨a,⟨L,_,b,c,z,n⟩,FunFrames.of aL λe he=>k e<|Pe _ he⟩
theorem Inv.R6(I:Inv X σ H ρ s):s.heap.FunFrames X.g.base X.outer:=FunFrames.of I.aL λe he=>by obtain⟨a,L,o,b,c,d,n⟩:=I.ok.fr e he;exact⟨a,L,o,b,c,I.le _ _ d trivial,n⟩
theorem Inv.stack(I:Inv X σ H ρ s):s.heap.FunFrames X.g.base X.stack:=by have:=I.ok.UJ;split at this;obtain⟨e,hf⟩:=this;rw[e];obtain⟨m,hn,_⟩:=I.loc;exact .cons (by rw[I.ok.kind];decide) hf hn (Heap.get?_none_of_le<|YM I.ok.EI I.ok.lo) I.R6;rw[this];exact I.R6
theorem Inv.B6(I:Inv X σ H ρ s)(hb:b∈oq X.stack):H b=none\/∃o,H b=some (.jO o):=by
 obtain⟨e,he,hf⟩:=List.mem_filterMap.mp hb;have out:e∈X.outer->∃o,H b=some (.jO o):=λh=>by obtain⟨_,L,o,h1,_,h2,_⟩:=I.ok.fr e h;obtain rfl:=sj hf h1;exact⟨o,I.le _ _ h2 trivial⟩
 have:=I.ok.UJ;split at this;rw[this.1] at he;rcases List.mem_cons.mp he with rfl|he;obtain rfl:=sj this.2 hf;exact .inl I.fl;exact .inr<|out he;rw[this] at he;exact .inr (out he)
theorem Inv.BD(I:Inv X σ H ρ s)(k:∀b o,(b=X.env.locals\/∃x,X.env.cells.lookup x=some b)->s.heap.get? b=some o->∃sl,h'.get? b=some {o with slots:=sl}) : (∃m,h'.Ns X.env.locals m/\∀x u,ij X.env.scope x->σ x=some u->Look X.env h' m x u)/\∀x c,X.env.cells.lookup x=some c->∃v,h'.IsCell c v:=by
 have ck:∀x c v,X.env.cells.lookup x=some c->s.heap.IsCell c v->h'.IsCell c v:=λx c v e ⟨o,ho,hd⟩=>by obtain⟨_,q⟩:=k c o (.inr ⟨x,e⟩) ho;exact⟨_,q,hd⟩
 obtain⟨m,⟨o,es,ep,ho,r⟩,hl⟩:=I.loc;obtain⟨_,q⟩:=k _ o (.inl rfl) ho;refine⟨⟨m,⟨_,es,ep,q,r⟩,λx u v e=>(hl x u v e).imp id λ⟨a,c,b,z⟩=>⟨a,c,b,ck x c _ b z⟩⟩,λx c e=>?_⟩;obtain⟨⟨v,z⟩,_⟩:=I.cell x c e;exact⟨v,ck x c v e z⟩
theorem Inv.gen{t':Nat}(I:Inv X σ H ρ s)(S:Addr->Prop)(hS:∀a,S a->s.heap.objs.size<=a\/∃e,H a=some e/\e.soft S/\∀o,X.H₀ a≠some (.dg o))(same:∀b,¬S b->H' b=H b)
  (k:∀b o,¬S b->s.heap.get? b=some o->h'.get? b=some o) (new:iA H H'->∀a e,S a->H' a=some e->kY X.g H' h' a e)
  (hl:a9.length=ρ.length) (tg:Tg X.N.length H' a9) (sl:iA H H'->∀i t,a9[i]?=some t->∃t',ρ[i]?=some t'/\∀v,zv X H i v t'->zv X H' i v t) (ni:∀a e o,S a->H' a=some e->H a=some (.dg o)->X.n₀<=a\/∃o,e=.dg o):Inv X σ H' a9 {s with heap:=h',toks:=t'}:=by
 have old:∀a,S a->∀e,H a=some e->e.soft S/\∀o,X.H₀ a≠some (.dg o):=λa sa e q=>by rcases hS a sa with z|⟨e',z,r⟩;exact en (I.aL.fresh z) q;obtain rfl:=sj q z;exact r
 have lp:iA H H':=λb o d z=>(same b λsb=>(old b sb _ z).1).trans z;have nL:¬S X.env.locals:=λz=>by rcases hS _ z with z|⟨e,z,_⟩;exact absurd (Hz I.lt z)<|Rm _;exact en I.fl z
 have nC:∀x c,X.env.cells.lookup x=some c->¬S c:=λx c e z=>by obtain⟨⟨v,q⟩,r⟩:=I.cell x c e;rcases hS _ z with z|⟨e,z,y,_⟩;exact absurd (Hz q.lt z)<|Rm _;rcases r with r|⟨_,_,_,r⟩;exact en r z;obtain rfl:=sj r z;exact y
 obtain⟨e1,e2⟩:=I.BD (h':=h') (λb o hb q=>⟨o.slots,k b o (λsb=>hb.elim (λz=>nL<|z ▸ sb) λ⟨x,e⟩=>nC x b e sb) q⟩);refine⟨I.ok,I.os,I.bare,λa e q f=>?_,λa e q n=>?_,I.aL.gen S (λa e sa q=>(old a sa e q).1) same k new,e1,λi t ht=>?_,tg,(same _ nL).trans I.fl,λx c e=>⟨e2 x c e,?_⟩,hl.trans I.len⟩;have q':=I.le a e q f;refine(same a λsa=>?_).trans q';obtain⟨h1,h3⟩:=old a sa e q';cases e with|dg o=>exact h3 _ q|ow d i=>exact f|cA b=>exact f|_=>exact h1
 by_cases sa:S a;rcases hS a sa with z|⟨e',z,_⟩;exact .inl<|YM I.sz z;rcases I.nw a e' z n with y|⟨o,rfl⟩;exact .inl y;exact ni a e o sa q z;exact I.nw a e (by rw[<-same a sa];exact q) n;obtain⟨t',h1,h2⟩:=sl lp i t ht;obtain⟨x,hx,hs⟩:=I.slot i t' h1;exact⟨x,hx,h2 _ hs⟩;rw[same c<|nC x c e];exact(I.cell x c e).2
theorem Inv.kept{t':Nat}(I:Inv X σ H ρ s)(k:∀b o,s.heap.get? b=some o->h'.get? b=some o):Inv X σ H ρ {s with heap:=h',toks:=t'}:=I.gen (λ_=>False) (λ_ z=>z.elim) (λ_ _=>rfl) (λb o _=>k b o) (λ_ _ _ z=>z.elim) rfl I.tg (λ_ i t h=>⟨t,h,λ_ z=>z⟩) λ_ _ _ z=>z.elim
theorem Le.lay(h:H a=none):Le H (upd H a e):=λb q z _=>(aH λy=>by subst y;exact en h z).trans z
theorem Tg.lay(x:Tg n H ρ)(h:H a=none)(he:∀d i,e=.ow d i->n<=i):Tg n (upd H a e) ρ:=λl d i hl hi=>by
 have ne:∀{l d},upd H a e l=some (.ow d i)->l≠a:=λhl z=>by subst z;obtain rfl:=sj aA hl;exact absurd (he _ _ rfl) (Nat.not_le_of_lt hi)
 have:=x l d i ((aH<|ne hl).symm.trans hl) hi;exact⟨this.1,λl' d' h'=>this.2 l' d'<|(aH<|ne h').symm.trans h'⟩
theorem Inv.lay{t':Nat}(I:Inv X σ H ρ s)(k:∀b o,s.heap.get? b=some o->h'.get? b=some o)(ha:s.heap.objs.size<=a)(new:iA H (upd H a e)->kY X.g (upd H a e) h' a e)(he:∀d i,e=.ow d i->X.N.length<=i:=by intro _ _ z;cases z) : Inv X σ (upd H a e) ρ {s with heap:=h',toks:=t'}/\Le H (upd H a e):=by have hn:=I.aL.fresh ha;refine⟨I.gen (·=a) (λb z=>.inl<|z ▸ ha) (λb z=>aH z) (λb o _=>k b o) (λl b q z y=>?_) rfl (I.tg.lay hn he) (λl i t h=>⟨t,h,λL z=>z.mv l λp d q=>(aH λy=>by subst y;exact ek hn q).trans q⟩) λb e o z _ q=>(by subst z;exact ek hn q),Le.lay hn⟩;subst z;obtain rfl:=sj aA y;exact new l
theorem Inv.chg{t':Nat}{d:D}{x:Addr}(I:Inv X σ H ρ s)(hl:H l=some (.ow d i))(hx:x=l\/H x=some (.cA l))(ho:∀b,b≠l->b≠x->H' b=H b)(k:∀b o,b≠x->s.heap.get? b=some o->h'.get? b=some o)
  (new:iA H H'->∀e,H' l=some e->kY X.g H' h' l e) (Yt:x≠l->∀e,H' x=some e->kY X.g H' h' x e) (hr:a9.length=ρ.length) (tg:Tg X.N.length H' a9) (sl:iA H H'->∀j t,a9[j]?=some t->∃t',ρ[j]?=some t'/\∀v,zv X H j v t'->zv X H' j v t) :
  Inv X σ H' a9 {s with heap:=h',toks:=t'}:=by
 have hs:∀{a e},H a=some e->(∀o,e≠.dg o)->∀o,X.H₀ a≠some (.dg o):=λq n o z=>by have:=I.le _ _ z trivial;obtain rfl:=sj q this;exact n _ rfl
 refine I.gen (λb=>b=l\/b=x) (λb z=>.inr ?_) (λb z=>ho b (λy=>z<|.inl y) λy=>z<|.inr y) (λb o z=>k b o λy=>z<|.inr y) (λlp b e z q=>?_) hr tg sl λb e o z _ q=>?_;have h1:∃e,H l=some e/\En.soft (λb=>b=l\/b=x) e/\∀o,X.H₀ l≠some (.dg o):=⟨_,hl,trivial,hs hl (by intro _ z;cases z)⟩;rcases z with rfl|rfl;exact h1;rcases hx with rfl|z;exact h1;exact⟨_,z,.inl rfl,hs z (by intro _ z;cases z)⟩;by_cases y:b=l;subst y;exact new lp e q;rcases z with z|z;exact absurd z y;subst z;exact Yt y e q;rcases z with rfl|rfl;exact ek hl q;rcases hx with rfl|z;exact ek hl q;exact ek z q
theorem Inv.tok(I:Inv X σ H ρ s)(t:Nat):Inv X σ H ρ {s with toks:=t}:=I.kept λ_ _ e=>e
end
end WL
end
section
set_option linter.all false
set_option maxRecDepth 100000
abbrev Wj(X:WL.Cx)(e:PySem.Expr)(l:List PySem.Expr):Prop:=PySem.starEach (e::l) X.env=(false,PySem.eval e X.env)::PySem.starEach l X.env
abbrev G7(X:WL.Cx)(p:PySem.Pos)(l:List PySem.Expr):Prop:=(PySem.backTo p<|PySem.starEach l X.env).any (·.1)=false
namespace WL
open PySem PySem.Spec PyProof.Rows L2 VP
section
variable{X:Cx}{σ:Sg}{H H' H1:Tm}{ρ a9:ax}{s:Shared}{h h':Heap}{g:Gb}{d d':D}
theorem Rel.mk(x:fV g H h f a d)(n:d≠.aP)(e:H' a=some (.pin o<|some d)):Rel H' (.ref a) d:=by cases d with|aP=>exact absurd rfl n|tup|lst|ki|ins|jj=>exact⟨_,_,rfl,e⟩|_=>exact x.elim
theorem Inv.fz(I:Inv X σ H ρ s)(hl:H l=some (.ow d i))(hr:ρ[i]?=some (.ow d)\/X.N.length<=i):∃H' o,Inv X σ H' (ρ.set i<|.sh d) s/\Le H H'/\H' l=some (.pin o<|some d)/\∀b d j,H b=some (.ow d j)->b≠l->H' b=some (.ow d j):=by
 obtain⟨ob,nn⟩:=I.aL l _ hl;obtain⟨o,ho⟩:=ob.at nn;obtain⟨x,ox,hx,hox,fx⟩:∃x ox,(x=l\/H x=some (.cA l))/\s.heap.get? x=some ox/\∀H',iA H H'->(∃o,H' x=some (.pin o<|some .aP))\/x=l->fV X.g H' s.heap true l d:=by
  cases d with
  |ins c ns ds=>obtain⟨C,dx,m,e,q,ne,fs,k,r,z,mA,n,w⟩:=ob;obtain⟨od,_,_,ho,_⟩:=id n;exact⟨dx,od,.inr q,ho,λH' lp hq=>⟨C,dx,m,e,hq.elim id λz=>absurd (z.trans ne) (Nat.succ_ne_self dx).symm,ne,fs,k,r.p lp,z,mA,n,w⟩⟩|jj c ns ds=>obtain⟨C,dx,vs,sl,m,e,e2,e1,q⟩:=ob;cases dx with|none=>exact⟨l,o,.inl rfl,ho,λH' lp hq=>⟨C,none,vs,sl,m,e,e2,(nomatch ·),q⟩⟩|some b=>obtain⟨q,ne,fs,k,r,z,mA,n,w⟩:=q;obtain⟨od,_,_,ho,_⟩:=id n;exact⟨b,od,.inr q,ho,λH' lp hq=>⟨C,some b,vs,sl,m,e,e2,(nomatch ·),hq.elim id λz=>absurd z ne,ne,fs,k,r.p lp,z,mA,n,w⟩⟩
  |tup ds=>cases ob.1|lst ds=>obtain⟨z,us,r,c⟩:=ob;exact⟨l,o,.inl rfl,ho,λH' lp _=>⟨z,us,r.p lp,c⟩⟩|ki ks ds=>obtain⟨z,y,vs,ep,k,r,c⟩:=ob;exact⟨l,o,.inl rfl,ho,λH' lp _=>⟨z,y,vs,ep,k,r.p lp,c⟩⟩|aP=>exact absurd rfl nn|_=>exact ob.elim
 have el:upd (upd H x<|.pin ox<|some .aP) l (.pin o<|some d) l=_:=aA;have ex:x≠l->upd (upd H x<|.pin ox<|some .aP) l (.pin o<|some d) x=_:=λz=>(aH z).trans aA;have eo:∀b,b≠l->b≠x->upd (upd H x<|.pin ox<|some .aP) l (.pin o<|some d) b=H b:=λb z y=>(aH z).trans<|aH y;have back:∀b d' j,H b=some (.ow d' j)->b≠l->upd (upd H x<|.pin ox<|some .aP) l (.pin o<|some d) b=some (.ow d' j):=λb d' j q h1=>(eo b h1 λz=>by subst z;rcases hx with z|z;exact h1 z;exact ek q z).trans q;refine⟨upd (upd H x<|.pin ox<|some .aP) l (.pin o<|some d),o,?_,λa e q f=>?_,el,back⟩<;>generalize upd (upd H x<|.pin ox<|some .aP) l (.pin o<|some d)=H2 at el ex eo back;have nx:∀{b:Addr}{d:D}{j:Nat},H2 b=some (.ow d j)->b≠l/\b≠x/\H b=some (.ow d j):=λ{b d j} q=>by
  have h1:b≠l:=λz=>by subst z;exact ek el q
  have h2:b≠x:=λz=>by subst z;exact ek (ex h1) q
  exact⟨h1,h2,(eo b h1 h2) ▸ q⟩
 have uq:∀l' d' j,j<X.N.length->H l'=some (.ow d' j)->l'≠l->j≠i:=λl' d' j hj q n z=>by subst z;exact n ((I.tg l d j hl hj).2 _ _ q)
 refine I.chg (t':=s.toks) hl hx eo (λ_ _ _ z=>z) (λlp e q=>?_) (λz e q=>?_) Qj (λl' d' j q hj=>?_) λlp j t ht=>?_;obtain rfl:=sj el q;have hq:(∃o,H2 x=some (.pin o<|some .aP))\/x=l:=(Classical.em<|x=l).elim .inr λz=>.inl ⟨_,ex z⟩;exact⟨ho,λe z=>by cases z;exact fx H2 lp hq⟩;obtain rfl:=sj (ex z) q;exact⟨hox,λe z=>by cases z;trivial⟩;obtain⟨a,b,c⟩:=nx q;rw[Hb<|Wl<|uq _ _ _ hj c a];exact⟨(I.tg _ _ _ c hj).1,λl2 d2 q2=>(I.tg _ _ _ c hj).2 _ _ (nx q2).2.2⟩;have hj:j<X.N.length:=by rw[<-I.len];simpa using (List.getElem?_eq_some_iff.mp ht).1
 by_cases e:j=i;subst e;rcases hr with hr|hr;rw[OG (List.getElem?_eq_some_iff.mp hr).1] at ht;cases ht;refine⟨_,hr,λv ⟨l',a,b⟩=>⟨.ref l,?_,Rel.mk ob nn el⟩⟩;rw[<-(I.tg l d j hl hj).2 _ _ b];exact a;exact absurd hj<|Nat.not_lt.mpr hr;rw[Hb<|Wl e] at ht;exact⟨t,ht,λv z=>z.mv lp λp d2 q=>back _ _ _ q λz=>by subst z;obtain⟨rfl,rfl⟩:=AQ hl q;exact e rfl⟩;have h1:a≠l:=λz=>by subst z;obtain rfl:=sj hl q;exact f
 refine(eo a h1 λz=>?_).trans q;subst z;rcases hx with z|z;exact h1 z;obtain rfl:=sj q z;exact f
def yV(d:D):Sl->Sl|.ow _=>.ow d|.io _=>.io d|s=>s
theorem jv(hr:ρ[i]?=some t):cu i d ρ=ρ.set i (yV d t):=by
 unfold cu;rw[hr];have:∀t,ρ[i]?=some t->ρ=ρ.set i t:=λt h=>by obtain⟨h1,h2⟩:=List.getElem?_eq_some_iff.mp h;rw[<-h2,List.set_getElem_self]
 cases t<;>first|rfl|exact this _ hr
theorem Q1O(hr:ρ.length<=i):cu i d ρ=ρ:=by unfold cu;rw[Bv hr]
theorem kO:(cu i d ρ).length=ρ.length:=by unfold cu;split<;>simp
theorem nu(h:j≠i):(cu i d ρ)[j]?=ρ[j]?:=by unfold cu;split<;>simp[List.getElem?_set_ne<|Ne.symm h]
theorem Inv.wr{t':Nat}{x:Addr}(I:Inv X σ H ρ s)(hl:H l=some (.ow d i))(hx:x=l\/H x=some (.cA l))(k:∀b o,b≠x->s.heap.get? b=some o->h'.get? b=some o)(hxx:∃o,h'.get? x=some o)(new:iA H (upd H l<|.ow d' i)->fV X.g (upd H l<|.ow d' i) h' false l d') (nn:d'≠.aP):Inv X σ (upd H l<|.ow d' i) (cu i d' ρ) {s with heap:=h',toks:=t'}/\Le H (upd H l<|.ow d' i):=by
 have uq:∀{l' d' j},j<X.N.length->H l'=some (.ow d' j)->l'≠l->j≠i:=λ{l' d' j} hj q n z=>by subst z;exact n ((I.tg l d j hl hj).2 _ _ q)
 refine⟨I.chg hl hx (λb z _=>aH z) k (λlp e q=>?_) (λz e q=>?_) kO (λl' d2 j q hj=>?_) λlp j t ht=>?_,λa e q f=>(aH λz=>?_).trans q⟩;obtain rfl:=sj aA q;exact⟨new lp,nn⟩;rw[aH z] at q;rcases hx with y|y;exact absurd y z;obtain rfl:=sj y q;exact hxx;by_cases e:l'=l;subst e;rw[aA] at q;cases q;obtain⟨h1,h2⟩:=I.tg l' d i hl hj;refine⟨?_,λl2 d2 q2=>Classical.byContradiction λn=>n<|h2 l2 d2<|(aH n).symm.trans q2⟩;have hi:i<ρ.length:=by rw[I.len];exact hj
 rcases h1 with h1|h1<;>rw[jv h1,OG hi];exact .inl rfl;exact .inr rfl;rw[aH e] at q;obtain⟨h1,h2⟩:=I.tg l' d2 j q hj;rw[nu<|uq hj q e];refine⟨h1,λl2 d3 q2=>?_⟩;by_cases e2:l2=l;subst e2;obtain⟨rfl,rfl⟩:=AQ aA q2;exact absurd rfl<|uq hj q e;exact h2 l2 d3<|(aH e2).symm.trans q2;have hj:j<X.N.length:=by rw[<-I.len,<-kO];exact(List.getElem?_eq_some_iff.mp ht).1
 by_cases e:j=i;subst e;obtain⟨h1,h2⟩:=I.tg l d j hl hj;have hi:j<ρ.length:=by rw[I.len];exact hj
 rcases h1 with h1|h1<;>rw[jv h1,OG hi] at ht<;>cases ht;exact⟨_,h1,λv ⟨l',a,b⟩=>⟨l,by rw[<-h2 _ _ b];exact a,aA⟩⟩;exact⟨_,h1,λv ⟨l',a,b,c⟩=>by have z:=h2 _ _ b;subst z;exact⟨_,a,aA,c⟩⟩;rw[nu e] at ht;exact⟨t,ht,λv z=>z.mv lp λp d2 q=>(aH λz=>by subst z;obtain⟨rfl,rfl⟩:=AQ hl q;exact e rfl).trans q⟩;subst z;obtain rfl:=sj hl q;exact f
theorem Inv.Yi(I:Inv X σ H ρ s)(h:X.N[i]?=some x):i<ρ.length:=by rw[I.len];exact(List.getElem?_eq_some_iff.mp h).1
theorem Inv.give(I:Inv X σ H ρ s)(hf:free ρ[i]?=true):∃H' t,Inv X σ H' (ρ.set i t) s/\Le H H'/\(t=.no\/∃d,t=.sh d)/\∀b d j,H b=some (.ow d j)->j≠i->H' b=some (.ow d j):=by
 cases q:ρ[i]? with
 |none=>rw[q] at hf;cases hf|some t=>
  have e:ρ=ρ.set i t:=by obtain⟨h1,h2⟩:=List.getElem?_eq_some_iff.mp q;rw[<-h2,List.set_getElem_self]
  cases t with
  |no=>exact⟨H,.no,e ▸ I,Le.refl,.inl rfl,λ_ _ _ z _=>z⟩|sh d=>exact⟨H,.sh d,e ▸ I,Le.refl,.inr ⟨d,rfl⟩,λ_ _ _ z _=>z⟩|io d=>rw[q] at hf;cases hf|ow d=>
   obtain⟨x,hx,_⟩:=I.slot i _ q;by_cases h:∃l d',H l=some (.ow d' i);obtain⟨l,d',h⟩:=h;have hi:i<X.N.length:=(List.getElem?_eq_some_iff.mp hx).1;have h1:=(I.tg l d' i h hi).1;rw[q] at h1;have h2:d=d':=by rcases h1 with z|z<;>cases z;rfl
   subst h2;obtain⟨H',o,I',l',_,bk⟩:=I.fz h<|.inl q;exact⟨H',_,I',l',.inr ⟨d,rfl⟩,λb e j z n=>bk b e j z λy=>by subst y;obtain⟨rfl,rfl⟩:=AQ h z;exact n rfl⟩;refine⟨H,.no,?_,Le.refl,.inl rfl,λ_ _ _ z _=>z⟩;refine I.gen (t':=s.toks) (λ_=>False) (λ_ z=>z.elim) (λ_ _=>rfl) (λ_ _ _ z=>z) (λ_ _ _ z=>z.elim) Qj (λl d j hl hj=>?_) (λ_ j t ht=>?_) λ_ _ _ z=>z.elim;have:j≠i:=λz=>h ⟨l,d,z ▸ hl⟩;rw[Hb<|Wl this];exact I.tg l d j hl hj;by_cases z:j=i;subst z;obtain rfl:=sj (OG (List.getElem?_eq_some_iff.mp q).1) ht;exact⟨_,q,λ_ _=>trivial⟩;rw[Hb<|Wl z] at ht;exact⟨t,ht,λ_ z=>z⟩
def Sg.put(σ:Sg)(x:Str)(u:Value):Sg:=λy=>if y=x then some u else σ y
theorem Av{Q:Unit->Shared->Prop}{E:Tv}{M:Model}{A:Around}(I:Inv X σ H ρ s)(hx:Loc X.env.scope x)(hf:X.fn=true\/X.env.scope.names.lookup x=some .local)(h:∀a h' tk,Heap.SameBut a s.heap h'->H a=none->(∃m,h'.Ns X.env.locals m/\∀y v,ij X.env.scope y->σ.put x u y=some v->Look X.env h' m y v)->(∀y c,X.env.cells.lookup y=some c->∃v,h'.IsCell c v)->Q () {s with heap:=h',toks:=tk}):wpAny M A (storeName X.env x u) Q E s:=by
 obtain⟨m,hn,hl⟩:=I.loc;have Xx:(X.env.scope.kind == .class||(X.env.scope.kind == .module&&X.env.locals != X.env.globals))=false:=by rw[I.ok.kind];rfl
 have at_:∀{y v},σ.put x u y=some v->(y=x/\v=u)\/(y≠x/\σ y=some v):=λ{y v} q=>by unfold Sg.put at q;split at q;exact .inl ⟨‹_›,(Qe q).symm⟩;exact .inr ⟨‹_›,q⟩
 rcases hx with hk|hk;refine wpAny_storeName_local hk hn (λh' vC hs=>h _ h' _ hs I.fl ⟨_,vC,λy v vs q=>?_⟩ λy c e=>?_) Xx;rcases at_ q with ⟨rfl,rfl⟩|⟨ne,q⟩
 exact .inl ⟨hk,Qj⟩;rcases hl y v vs q with ⟨k,e⟩|⟨k,c,e,z⟩
 exact .inl ⟨k,by simp[ne,e]⟩;exact .inr ⟨k,c,e,z.sameBut hs<|I.Vx e⟩;obtain⟨⟨v,z⟩,_⟩:=I.cell y c e;exact⟨v,z.sameBut hs<|I.Vx e⟩;have oy:X.fn=true:=hf.elim id λz=>by rw[z] at hk;cases hk
 obtain⟨c,hc⟩:=I.ok.has x<|.inl hk;obtain⟨⟨w',z⟩,r⟩:=I.cell x c hc;have hcn:H c=none:=r.elim id λr=>by rw[oy] at r;cases r.1
 refine wpAny_storeName_cell I.ok.kind hk hc z λh' sX hs=>h c h' s.toks hs hcn ⟨m,hn.sameBut hs (Wl<|I.Vx hc),λy v vs q=>?_⟩ λy c' e=>?_;rcases at_ q with ⟨rfl,rfl⟩|⟨ne,q⟩
 exact .inr ⟨.inl hk,c,hc,sX⟩;rcases hl y v vs q with q|⟨k,c',e,z⟩;exact .inl q;exact .inr ⟨k,c',e,z.sameBut hs λe'=>ne<|I.ok.inj _ _ _ e<|e' ▸ hc⟩;by_cases e':c'=c;subst e';exact⟨_,sX⟩;obtain⟨⟨v,z⟩,_⟩:=I.cell y c' e;exact⟨v,z.sameBut hs e'⟩
theorem Inv.store{Q:Unit->Shared->Prop}{E:Tv}{M:Model}{A:Around}{sl:Sl}(I:Inv X σ H ρ s)(hN:X.N.Nodup)(hi:X.N[i]?=some x)(hx:Loc X.env.scope x)(hf:X.fn=true\/X.env.scope.names.lookup x=some .local)(hr:free ρ[i]?=true)(hv:(∃d,sl=.sh d/\Rel H u d)\/∃d l j,sl=.ow d/\u=.ref l/\H l=some (.ow d j)/\X.N.length<=j) (h:∀s' H',Inv X (σ.put x u) H' (ρ.set i sl) s'->Le H H'->Q () s'):wpAny M A (storeName X.env x u) Q E s:=by
 have Ck:=I.Yi hi;obtain⟨H1,t,I1,l1,ht,bk⟩:=I.give hr;have it:(ρ.set i t)[i]?=some t:=OG Ck;have ZC:i<X.N.length:=(List.getElem?_eq_some_iff.mp hi).1;have noT:∀l d,H1 l≠some (.ow d i):=λl d q=>by have:=(I1.tg l d i q ZC).1;rw[it] at this;rcases ht with rfl|⟨_,rfl⟩<;>rcases this with z|z<;>cases z
 obtain⟨H2,l2,e2,hs,nT,d2⟩:∃H2,Le H1 H2/\(∀b,H2 b=H1 b\/∃d j,H1 b=some (.ow d j)/\X.N.length<=j/\H2 b=some (.ow d i))/\zv X H2 i (some u) sl/\(∀l d,H2 l=some (.ow d i)->sl=.ow d/\u=.ref l)/\∀b c,H1 b=some (.cA c)->H2 b=some (.cA c):=by
  rcases hv with ⟨d,rfl,r⟩|⟨d,l,j,rfl,rfl,q,hj⟩
  exact⟨H1,Le.refl,λb=>.inl rfl,⟨u,rfl,r.le l1⟩,λl d q=>absurd q (noT l d),λ_ _ z=>z⟩;have q1:=bk l d j q<|wq<|Hz ZC hj;refine⟨upd H1 l (.ow d i),λa e z f=>(aH λy=>by subst y;obtain rfl:=sj q1 z;exact f).trans z,λb=>?_,⟨l,rfl,aA⟩,λl' d' z=>?_,λb c z=>(aH λy=>by subst y;exact ek q1 z).trans z⟩;by_cases y:b=l;subst y;exact .inr ⟨d,j,q1,hj,aA⟩;exact .inl<|aH y;by_cases y:l'=l;subst y;rw[aA] at z;cases z;exact⟨rfl,rfl⟩;rw[aH y] at z;exact absurd z (noT l' d')
 have un2:∀b,H1 b=none->H2 b=none:=λb z=>by rcases e2 b with y|⟨_,_,y,_⟩;rw[y];exact z;exact ek z y
 refine Av I1 hx hf λa h' tk sb aN hm hc=>?_;have Z1:nB X.g H1 h':=I1.aL.gen (·=a) (λx e z q=>by subst z;exact en aN q) (λ_ _=>rfl) (λb o z q=>(sb.2 b z).trans q) λ_ b e z q=>by subst z;exact en aN q
 have ok2:nB X.g H2 h':=λb e q=>by
  have mv:∀{f:Bool}{d:D},fV X.g H1 h' f b d->fV X.g H2 h' f b d:=λy=>y.mv l2.p (λ_ z=>z) (λ_ c z=>d2 c b z) λ_ _ _ z=>z;rcases e2 b with y|⟨d,j,y,_,y2⟩;rw[y] at q;have x:=Z1 b e q;cases e with|pin o d=>exact⟨x.1,λe z=>mv<|x.2 e z⟩|ow d i=>exact⟨mv x.1,x.2⟩|_=>exact x
  obtain rfl:=sj y2 q;have x:=Z1 b _ y;exact⟨mv x.1,x.2⟩
 refine h _ H2 ⟨I1.ok,I1.os,I1.bare,I1.le.trans l2,λb e q n=>?_,ok2,hm,λj t2 Qd=>?_,λl d j q hj=>?_,un2 _ I1.fl,λy c e=>?_,by rw[List.length_set];exact I.len⟩<|l1.trans l2;rcases e2 b with y|⟨d,j,y,_⟩;exact I1.nw b e (y ▸ q) n;exact .inl<|(I1.nw b _ y n).elim id λ⟨_,z⟩=>nomatch z;by_cases z:j=i;subst z;obtain rfl:=sj (OG Ck) Qd;exact⟨x,hi,by unfold Sg.put;rw[YN rfl];exact hs⟩;rw[Hb<|Wl z] at Qd;obtain⟨y,hy,hv⟩:=I1.slot j t2 (by rw[Hb<|Wl z];exact Qd);refine⟨y,hy,?_⟩;unfold Sg.put;rw[YO<|show ¬y=x from λe=>z<|oN hN hy<|e ▸ hi];refine hv.mv l2.p λp d q=>?_;have hj:j<X.N.length:=(List.getElem?_eq_some_iff.mp hy).1;rcases e2 p with y|⟨d',j',y,hj',_⟩;rw[y];exact q;obtain⟨rfl,rfl⟩:=AQ q y;exact absurd hj<|Nat.not_lt.mpr hj';by_cases z:j=i;subst z;obtain⟨y,y2⟩:=nT l d q;rw[OG Ck,y];refine⟨.inl rfl,λl' d' q'=>?_⟩;have:=(nT l' d' q').2;rw[y2] at this;cases this;rfl;have old:∀l d,H2 l=some (.ow d j)->H1 l=some (.ow d j):=λl d q=>by rcases e2 l with y|⟨_,_,_,_,y⟩;rw[<-y];exact q;obtain⟨rfl,rfl⟩:=AQ y q;exact absurd rfl z
 obtain⟨a1,a2⟩:=I1.tg l d j (old l d q) hj;rw[Hb<|Wl z] at a1 ⊢;exact⟨a1,λl' d' q'=>a2 l' d'<|old _ _ q'⟩;obtain⟨⟨v,r1⟩,r2⟩:=I1.cell y c e;refine⟨hc y c e,r2.imp (un2 c) λ⟨a,o,d,b⟩=>⟨a,o,d,l2 _ _ b trivial⟩⟩
end
end WL
end
section
set_option linter.all false
set_option maxRecDepth 100000
namespace WL
open PySem PySem.Spec PyProof.Rows L2 VP
def Out{α:Type}:Res α->(α->ax->Prop)->(Xn->ax->Prop)->Prop|.ok a r,P,_=>P a r|.exc x r,_,E=>E x r|.no,_,_=>False
theorem Out.Tp{α β:Type}{f:M α}{g:α->M β}{P:β->ax->Prop}(h:Out (Tp f g r) P E):Out (f r) (λa r'=>Out (g a r') P E) E:=by unfold VP.Tp at h;cases q:f r with|_=>rw[q] at h;exact h
theorem Out.mono{α:Type}{r:Res α}{P P':α->ax->Prop}(h:Out r P E)(hP:∀a r,P a r->P' a r)(hE:∀x r,E x r->E' x r):Out r P' E':=by cases r with|ok a r=>exact hP _ _ h|exc x r=>exact hE _ _ h|no=>exact h
theorem Out.opt{α:Type}{o:Option α}{P:α->ax->Prop}(h:Out (opt o r) P E):∃a,o=some a/\P a r:=by cases o with|none=>exact h.elim|some a=>exact⟨a,rfl,h⟩
abbrev Rl(α β:Type):=Tm->Shared->β->α->Prop
inductive WQ(n:Nat)(H:Tm)(h:Heap)(e:Addr)(vs:Array Value)(v:Value):Prop|mk (T:Addr) (ot:Obj) (ts:Array Value) (h1:vs[1]?=some (.ref T)) (h2:T≠e) (h3:n<=T) (h4:H T=none) (h5:h.get? T=some ot) (h6:ot.data=.fields ts) (h7:ts[3]?=some v)
def Vr(n:Nat)(H:Tm)(h:Heap)(e:Addr)(vs:Array Value):Xf->Prop|none=>vs[1]?=some .none|some v=>WQ n H h e vs v
inductive E8(n:Nat)(H:Tm)(h:Heap)(e:Addr)(c:Value)(dx:YB)(v:Xf):Prop|mk (vs:Array Value) (sl:Array (Option Value)) (h1:h.get? e=some ⟨c,dx,.fields vs,sl⟩) (h2:vs[2]?=some .none) (h3:H e=none) (h4:n<=e) (w:Vr n H h e vs v)
inductive EH(g:Gb)(n:Nat)(H:Tm)(s:Shared)(v:Value)(x:Xn):Prop|mk (e C:Addr) (dx:YB) (hv:v=.ref e) (hm:g.mg x.cls=some (.ref C)) (hx:(dx=none/\x.ns=[]/\x.vs=[])\/∃b o,dx=some b/\H b=some (.pin o<|some .aP)/\jC H s.heap b x.ns x.vs) (w:Xf) (xa:E8 n H s.heap e (.ref C) dx w)
theorem Vr.up{n n':Nat}{w:Xf}(h':n<=n')(x:Vr n' H h e vs w):Vr n H h e vs w:=by cases w with|none=>exact x|some v=>obtain⟨T,ot,ts,t1,t2,t3,t4,t5,t6,t7⟩:=x;exact⟨T,ot,ts,t1,t2,YM h' t3,t4,t5,t6,t7⟩
theorem EH.up{n n':Nat}{g:Gb}{x:Xn}(h:n<=n')(r:EH g n' H s v x):EH g n H s v x:=by obtain⟨e,C,dx,y1,y2,y3,w,vs,sl,z1,z2,z3,z4,z5⟩:=r;exact⟨e,C,dx,y1,y2,y3,w,vs,sl,z1,z2,z3,YM h z4,z5.up h⟩
abbrev XR(X:Cx):Rl Xn Value:=EH X.g X.n₀
section
variable{α β γ:Type}
def OK(X:Cx)(σ:Sg)(H:Tm)(R:Rl α β)(Q:β->Shared->Prop):α->ax->Prop:=λa a9=>∀s' H' b,Inv X σ H' a9 s'->Le H H'->R H' s' b a->Q b s'
def jT(X:Cx)(H:Tm)(R:Rl α β)(Q:β->Shared->Prop):α->ax->Prop:=λa a9=>∀s' cV H' b,Inv X cV H' a9 s'->Le H H'->R H' s' b a->Q b s'
theorem OK.le{R:Rl α β}{a:α}(l:Le H H1)(q:OK X σ H R Q a r):OK X σ H1 R Q a r:=λs' H' b I l' z=>q s' H' b I (l.trans l') z
theorem jT.le{R:Rl α β}{a:α}(l:Le H H1)(q:jT X H R Q a r):jT X H1 R Q a r:=λs' cV H' b I l' z=>q s' cV H' b I (l.trans l') z
theorem jT.x{R:Rl α β}{a:α}(q:jT X H R Q a r):OK X σ H R Q a r:=λs' H' b I l' z=>q s' σ H' b I l' z
def WP(X:Cx)(R:Rl α β)(t:Sem β)(f:M α):Prop:=∀s σ H ρ Q E,Inv X σ H ρ s->Out (f ρ) (OK X σ H R Q) (OK X σ H (XR X) E)->wpAny X.M X.A t Q E s
def Vs(X:Cx)(R:Rl α β)(t:Sem β)(f:M α):Prop:=∀s σ H ρ Q E,Inv X σ H ρ s->Out (f ρ) (jT X H R Q) (jT X H (XR X) E)->wpAny X.M X.A t Q E s
theorem WP.Tp{R:Rl α β}{f:M α}{t:Sem β}{k:α->M γ}{P:γ->ax->Prop}(h:WP X R t f)(I:Inv X σ H ρ s)(o:Out (Tp f k ρ) P E')(hE:∀x r,E' x r->OK X σ H (XR X) E x r)(c:∀s' H' a9 b a,Inv X σ H' a9 s'->Le H H'->R H' s' b a->Out (k a a9) P E'->Q b s'):wpAny X.M X.A t Q E s:=
 h s σ H ρ Q E I (o.Tp.mono (λa r q s' H' b I' l r'=>c s' H' r b a I' l r' q) hE)
theorem WP.mono{R R':Rl α β}{f:M α}{t:Sem β}(h:WP X R t f)(k:∀s σ H ρ b a (Q:Prop),Inv X σ H ρ s->R H s b a->(∀H',Inv X σ H' ρ s->Le H H'->R' H' s b a->Q)->Q):WP X R' t f:=λs σ H ρ Q E I o=>h s σ H ρ Q E I (o.mono (λa r q s' H' b I' l r'=>k s' σ H' r b a _ I' r' λH2 I2 l2 r2=>q s' H2 b I2 (l.trans l2) r2) λ_ _ q=>q)
end
def RV:Rl D Value:=λH _ v d=>Rel H v d
def RW:Rl D Value:=λH _ v d=>Rel H v d\/∃l i,v=.ref l/\H l=some (.ow d i)
def RF(X:Cx):Rl D Value:=λH _ v d=>∃l,v=.ref l/\H l=some (.ow d X.N.length)
def RB:Rl Bool Bool:=λ_ _ b a=>b=a
def RL:Rl (List D) (List Value):=λH _ us ds=>aC H us ds
def RS:Rl Fl Flow:=λH _ f k=>match k with|.nx=>f=.next|.bk=>f=.brk|.ct=>f=.cont|.rt d=>∃v,f=.ret v/\Rel H v d
def PV(X:Cx)(e:Expr)(f:M D):Prop:=WP X RV (eval e X.env) f
def PR(X:Cx)(e:Expr)(f:M D):Prop:=WP X RW (eval e X.env) f
def PF(X:Cx)(e:Expr)(f:M D):Prop:=WP X (RF X) (eval e X.env) f
def PB(X:Cx)(e:Expr)(f:M Bool):Prop:=WP X RB (isTrue e X.env<|eval e X.env) f
def zt(X:Cx)(e:Expr)(f:M Bool):Prop:=∀w,WP X RB (isTrue e X.env w) f
def th(X:Cx)(es:Y2)(f:M (List D)):Prop:=∀pos,WP X RL (spliced<|backTo pos<|starEach es X.env) f
def ja(X:Cx)(st:Stmt)(f:M Fl):Prop:=Vs X RS (exec st X.env) f
def gr(X:Cx)(st:List Stmt)(f:M Fl):Prop:=Vs X RS (execs st X.env) f
section
variable{X:Cx}{e a b c:Expr}{f fa fb fc:M D}{f1 f2:M Bool}{pos:Pos}{σ:Sg}{H:Tm}{ρ:ax}{s:Shared}{Q:Tv}{E:Tv}
theorem zt.pb(h:zt X e f1):PB X e f1:=h _
theorem PV.rd(h:PV X e f):PR X e f:=h.mono λ_ _ _ _ _ _ _ I r k=>k _ I Le.refl (.inl r)
theorem PF.pv(h:PF X e f):PV X e f:=h.mono λs σ H ρ _ d _ I ⟨l,a,b⟩ k=>by obtain⟨H',o,I',l',q,_⟩:=I.fz b<|.inr<|Wd _;rw[List.set_eq_of_length_le (by rw[I.len];exact Wd _)] at I';have z:=I.aL _ _ b;exact k H' I' l' (by rw[a];exact Rel.mk z.1 z.2 q)
theorem bx(I:Inv X σ H ρ s)(hv:ij X.env.scope x)(hu:σ x=some u)(h:Q u s)(hd:(x == ("__debug__" : Str))=false)(eZ:(x == ("__classdict__" : Str))=false):wpAny X.M X.A (eval (.Name x pos) X.env) Q E s:=by
 obtain⟨m,hn,hl⟩:=I.loc;rcases hl x u hv hu with ⟨hk,hm⟩|⟨hk|hk,c,hc,JU⟩
 exact wpAny_Name (wpAny_loadName_local I.ok.kind hk hn hm h) hd;exact wpAny_Name (wpAny_loadName_cell I.ok.kind hk hc JU h) hd;exact wpAny_Name (wpAny_loadName_free I.ok.kind hk hc JU h eZ) hd
theorem Inv.at(I:Inv X σ H ρ s)(hN:X.N[i]?=some x)(hv:ij X.env.scope x)(hr:ρ[i]?=some sl):zv X H i (σ x) sl:=by obtain⟨y,hy,r⟩:=I.slot i sl hr;obtain rfl:=sj hN hy;exact r
theorem iX(i:Nat){x:Str}(hN:X.N[i]?=some x:=by rfl)(hv:ij X.env.scope x:=by exact E3)(hd:RI x:=by decide)(eZ:v8 x:=by decide):PV X (.Name x pos) (aa i):=λs σ H ρ Q E I o=>by unfold aa at o;split at o;rename_i d q;obtain⟨u,lk,r⟩:=I.at hN hv q;exact bx I hv lk (o s H u I Le.refl r) hd eZ;exact o.elim
theorem lN(i:Nat){x:Str}(hN:X.N[i]?=some x:=by rfl)(hv:ij X.env.scope x:=by exact E3)(hd:RI x:=by decide)(eZ:v8 x:=by decide):PR X (.Name x pos) (vE i):=λs σ H ρ Q E I o=>by unfold vE at o;split at o;rename_i d q;obtain⟨u,lk,r⟩:=I.at hN hv q;exact bx I hv lk (o s H u I Le.refl<|.inl r) hd eZ;rename_i d q;obtain⟨l,lk,r⟩:=I.at hN hv q;exact bx I hv lk (o s H _ I Le.refl<|.inr ⟨l,_,rfl,r⟩) hd eZ;rename_i d q;obtain⟨l,lk,r,_⟩:=I.at hN hv q;exact bx I hv lk (o s H _ I Le.refl<|.inr ⟨l,_,rfl,r⟩) hd eZ;exact o.elim
theorem oW{j}:PV X (.Constant (.int i) j pos) (mC<|.int i):=λs σ H ρ Q E I o=>wpAny_Constant_int (o _ H _ (I.tok _) Le.refl ⟨_,rfl⟩)
theorem Q0P{j}:PV X (.Constant (.bool i) j pos) (mC<|.bl i):=λs σ H ρ Q E I o=>Constant_bool (o _ H _ I Le.refl rfl)
theorem DB{j}:PV X (.Constant .none j pos) (mC .aP):=λs σ H ρ Q E I o=>Constant_none (o _ H _ I Le.refl rfl)
theorem ka{j}:PV X (.Constant (.str i) j pos) (mC<|.str i):=λs σ H ρ Q E I o=>Calls.Constant_str (o _ H _ (I.tok _) Le.refl ⟨_,rfl⟩)
def Gl(X:Cx)(x:Str):Prop:=X.env.kindOf x=some .globalImplicit
theorem dB(I:Inv X σ H ρ s)(hg:Gl X x)(hm:X.g.mg x=some u)(h:Q u s)(hd:RI x:=by decide):wpAny X.M X.A (eval (.Name x pos) X.env) Q E s:=Calls.Name_function_global I.ok.kind hg (Calls.loadGlobal_global (by rw[I.ok.glob];exact I.mod.glob.keeps I.bk) hm h) hd
theorem lH(I:Inv X σ H ρ s)(hg:Gl X x)(hm:X.g.mg x=none)(hv:bootBuiltins x=some u)(h:Q u s)(hn:x≠"__name__" := by decide)(hd:RI x:=by decide):wpAny X.M X.A (eval (.Name x pos) X.env) Q E s:=by obtain⟨mb,h1,h2⟩:=I.mod.blt;exact Calls.Name_function_global I.ok.kind hg (Calls.loadGlobal_builtin (by rw[I.ok.glob];exact I.mod.glob.keeps I.bk) hm (by rw[I.ok.blt];exact h1.keeps I.bk) ((h2 x hn).trans hv) h) hd
theorem GX(hg:Gl X x)(hm:X.g.mg x=some u)(r:∀H,Rel H u d)(hd:RI x:=by decide):PV X (.Name x pos) (mC d):=λs σ H ρ Q E I o=>dB I hg hm (o s H u I Le.refl<|r H) hd
abbrev rg(X:Cx)(σ:Sg)(H:Tm)(ρ:ax)(d:D)(Q:Tv):Prop:=∀s' H' w,Inv X σ H' ρ s'->Le H H'->Rel H' w d->Q w s'
def kZ(X:Cx)(t:Value->Value->Sem Value)(g:D->D->Pu):Prop:=∀s σ H ρ v u a b d Q E,Inv X σ H ρ s->Rel H v a->Rel H u b->g a b=some d->rg X σ H ρ d Q->wpAny X.M X.A (t v u) Q E s
def Zc(X:Cx)(t:Value->Sem Value)(g:D->Pu):Prop:=∀s σ H ρ v a d Q E,Inv X σ H ρ s->RW H s v a->g a=some d->rg X σ H ρ d Q->wpAny X.M X.A (t v) Q E s
def Vk(X:Cx)(t:SX->Sem Value)(g:Vt->Pu):Prop:=∀s σ H ρ us ds d Q E,Inv X σ H ρ s->aC H us ds->g ds=some d->rg X σ H ρ d Q->wpAny X.M X.A (t us) Q E s
theorem two{t:Value->Value->Sem Value}{g:D->D->Pu}(ho:kZ X t g)(ha:PV X a fa)(hb:PV X b fb)(I:Inv X σ H ρ s)(o:Out (m2 g fa fb ρ) (OK X σ H RV Q) (OK X σ H (XR X) E)) : wpAny X.M X.A (eval a X.env) (λv s1=>wpAny X.M X.A (eval b X.env) (λu s2=>wpAny X.M X.A (t v u) Q E s2) E s1) E s:=
 ha.Tp I o (λ_ _ q=>q) λs1 H1 aS v d1 I1 l1 r1 o1=>hb.Tp I1 o1 (λ_ _ q=>q.le l1) λs2 H2 pX u d2 I2 l2 r2 o2=>by obtain⟨d,e,q⟩:=o2.opt;exact ho s2 σ H2 pX v u d1 d2 d Q E I2 (r1.le l2) r2 e (q.le<|l1.trans l2)
theorem qK{g:D->D->Pu}(ho:kZ X (binaryOp op) g)(ha:PV X a fa)(hb:PV X b fb):PV X (.BinOp a op b pos) (m2 g fa fb):=λs σ H ρ Q E I o=>wpAny_BinOp (two ho ha hb I o)
theorem wZ{g:D->D->Pu}(ho:kZ X (compareOp op) g)(ha:PV X a fa)(hb:PV X b fb)(hm:behindInMarks op b=false):PV X (.Compare a [op] [b] pos) (m2 g fa fb):=λs σ H ρ Q E I o=>wpAny_Compare1 (two ho ha hb I o) hm
theorem Ui{g:D->Pu}(ho:Zc X (unaryOp op) g)(ha:PV X a fa):PV X (.UnaryOp op a pos) (m1 g fa):=λs σ H ρ Q E I o=>UnaryOp_ (ha.Tp I o (λ_ _ q=>q) λs1 H1 aS v d1 I1 l1 r1 o1=>by obtain⟨d,e,q⟩:=o1.opt;exact ho s1 σ H1 aS v d1 d Q E I1 (.inl r1) e<|q.le l1)
theorem Out.le{α β:Type}{R:Rl α β}{Q:β->Shared->Prop}{r:Res α}(o:Out r (OK X σ H R Q) (OK X σ H (XR X) E))(l:Le H H1):Out r (OK X σ H1 R Q) (OK X σ H1 (XR X) E):=o.mono (λ_ _ q=>q.le l) λ_ _ q=>q.le l
theorem Qu{Q:Bool->Shared->Prop}{H0:Tm}{d:D}(I:Inv X σ H ρ s)(l:Le H0 H)(r:Rel H v d)(o:Out (tB (ret d) ρ) (OK X σ H0 RB Q) E'):wpAny X.M X.A (truthy v) Q E s:=by cases d with|bl k=>cases r;exact WI (o s H k I l rfl)|_=>exact o.elim
theorem se(h:PV X a fa)(he:∀whole,isTrue a X.env whole=(do let v <-whole;standAt a.pos;holding [v]<|truthy v):=by exact A1):PB X a (tB fa):=λs σ H ρ Q E I o=>isTrue_plain (h.Tp I o (λ_ _ q=>q) λs1 H1 aS v d1 I1 l1 r1 o1=>Qu I1 l1 r1 o1) (he _)
theorem wN{g:D->D->Pu}(ho:kZ X (compareOp op) g)(ha:PV X a fa)(hb:PV X b fb)(hm:behindInMarks op b=false):PB X (.Compare a [op] [b] pos) (tB<|m2 g fa fb):=λs σ H ρ Q E I o=>wpAny_isTrue_Compare1 (two ho ha hb I<|Out.mono o.Tp (λd r q s' H' v I' l r'=>Qu I' l r' q) λ_ _ q=>q) hm
theorem r7(h:PB X a f1):PB X (.UnaryOp .Not a pos) (i7 f1):=λs σ H ρ Q E I o=>isTrue_not (h.Tp I o (λ_ _ q=>q) λs1 H1 aS v d1 I1 l1 r1 o1=>by cases r1;exact o1 s1 H1 _ I1 l1 rfl)
variable{rest:Y2}
theorem GF(h:PB X a f1):zt X (.BoolOp .And [a] pos) f1:=λw s σ H ρ Q E I o=>isTrue_and (sT (h s σ H ρ Q E I o) λc s1 e=>by cases c with|true=>exact isTrue_and_nil e|false=>exact e)
theorem wO(h:PB X a f1):zt X (.BoolOp .Or [a] pos) f1:=λw s σ H ρ Q E I o=>isTrue_or (sT (h s σ H ρ Q E I o) λc s1 e=>by cases c with|false=>exact isTrue_or_nil e|true=>exact e)
theorem OH(h1:PB X a f1)(h2:zt X (.BoolOp .And (b::rest) pos) f2):zt X (.BoolOp .And (a::b::rest) pos) (mR f1 f2):=λw s σ H ρ Q E I o=>isTrue_and (h1.Tp I o (λ_ _ q=>q) λs1 H1 aS v d1 I1 l1 r1 o1=>by cases r1;cases v with|true=>exact h2 w s1 σ H1 aS Q E I1 (Out.le o1 l1)|false=>exact o1 s1 H1 false I1 l1 rfl)
theorem yL(h1:PB X a f1)(h2:zt X (.BoolOp .Or (b::rest) pos) f2):zt X (.BoolOp .Or (a::b::rest) pos) (y9 f1 f2):=λw s σ H ρ Q E I o=>isTrue_or (h1.Tp I o (λ_ _ q=>q) λs1 H1 aS v d1 I1 l1 r1 o1=>by cases r1;cases v with|false=>exact h2 w s1 σ H1 aS Q E I1 (Out.le o1 l1)|true=>exact o1 s1 H1 true I1 l1 rfl)
theorem Ue(hc:PB X c f1)(ha:PV X a fa)(hb:PV X b fb):PV X (.IfExp c a b pos) (Ni f1 fa fb):=λs σ H ρ Q E I o=>wpAny_IfExp (hc.Tp I o (λ_ _ q=>q) λs1 H1 aS v d1 I1 l1 r1 o1=>by cases r1;cases v with|true=>exact ha s1 σ H1 aS Q E I1 (Out.le o1 l1)|false=>exact hb s1 σ H1 aS Q E I1<|Out.le o1 l1)
theorem OR(ha:PV X a fa):PV X (.UnaryOp .Not a pos) (TC<|i7<|tB fa):=λs σ H ρ Q E I o=>UnaryOp_ (ha.Tp I o.Tp.Tp (λ_ _ q=>q) λs1 H1 aS v d1 I1 l1 r1 o1=>by cases d1 with|bl k=>cases r1;exact not_of (WI<|o1 s1 H1 _ I1 l1 rfl)|_=>exact o1.elim)
theorem DC{op}(h:PV X a fa):PV X (.BoolOp op [a] pos) fa:=λs σ H ρ Q E I o=>BoolOp_one (h s σ H ρ Q E I o)
theorem wY(ha:PV X a fa)(hb:PV X (.BoolOp .And (b::rest) pos) fb):PV X (.BoolOp .And (a::b::rest) pos) (oK fa fb):=λs σ H ρ Q E I o=>BoolOp_and (ha.Tp I o (λ_ _ q=>q) λs1 H1 aS v d1 I1 l1 r1 o1=>by
 cases d1 with
 |bl k=>cases r1;refine WI ?_;cases k with|true=>exact hb s1 σ H1 aS Q E I1 (Out.le o1 l1)|false=>exact o1 s1 H1 _ I1 l1 rfl
 |_=>exact o1.elim)
theorem Ug(ha:PV X a fa)(hb:PV X (.BoolOp .Or (b::rest) pos) fb):PV X (.BoolOp .Or (a::b::rest) pos) (CS fa fb):=λs σ H ρ Q E I o=>BoolOp_or (ha.Tp I o (λ_ _ q=>q) λs1 H1 aS v d1 I1 l1 r1 o1=>by
 cases d1 with
 |bl k=>cases r1;refine WI ?_;cases k with|false=>exact hb s1 σ H1 aS Q E I1 (Out.le o1 l1)|true=>exact o1 s1 H1 _ I1 l1 rfl
 |_=>exact o1.elim)
end
end WL
end
section
set_option linter.all false
set_option maxRecDepth 100000
namespace WL
open PySem PySem.Spec PyProof.Rows L2 VP
section
variable{X:Cx}{e a b c:Expr}{f fa fb fc:M D}{pos:Pos}{σ:Sg}{H:Tm}{ρ:ax}{s:Shared}{us ws:SX}{ds es:Vt}
theorem q8:gU=sizeLine:=sizeLine_eq.symm
theorem aC.get:∀{us:SX}{ds:Vt}{i:Nat}{d:D},aC H us ds->ds[i]?=some d->∃u,us[i]?=some u/\Rel H u d|_,_,0,_,.cons r _,e=>by cases e;exact⟨_,rfl,r⟩|_,_,i+1,_,.cons _ t,e=>aC.get (i:=i) t e
theorem aC.take:∀{us:SX}{ds:Vt}(n:Nat),aC H us ds->aC H (us.take n) (ds.take n)|_,_,0,_=>.nil|_,_,_+1,.nil=>.nil|_,_,n+1,.cons r t=>.cons r (aC.take n t)
theorem aC.drop:∀{us:SX}{ds:Vt}(n:Nat),aC H us ds->aC H (us.drop n) (ds.drop n)|_,_,0,r=>r|_,_,_+1,.nil=>.nil|_,_,n+1,.cons _ t=>aC.drop n t
theorem aC.app:∀{us ws:SX}{ds es:Vt},aC H us ds->aC H ws es->aC H (us++ws) (ds++es)|_,_,_,_,.nil,s=>s|_,_,_,_,.cons r t,s=>.cons r (aC.app t s)
theorem aC.set(r:Rel H u d):∀{us:SX}{ds:Vt}(i:Nat),aC H us ds->aC H (us.set i u) (ds.set i d)|_,_,_,.nil=>.nil|_,_,0,.cons _ t=>.cons r t|_,_,i+1,.cons q t=>.cons q (aC.set r i t)
theorem Inv.obj{d:D}(I:Inv X σ H ρ s)(r:RW H s v d)(h:gj d=false):∃a f,v=.ref a/\fV X.g H s.heap f a d:=by
 rcases r with r|⟨l,i,e,q⟩;cases d<;>first|(obtain⟨a,o,e,q⟩:=r;exact⟨a,_,e,(I.aL a _ q).2 _ rfl⟩)|cases h
 exact⟨l,_,e,(I.aL l _ q).1⟩
theorem Inv.lst(I:Inv X σ H ρ s)(r:RW H s v (.lst ds)):∃a us,v=.ref a/\aC H us ds/\PlainL s.heap a us.toArray/\ds.length<=sizeLine:=let ⟨a,_,e,z,us,r,p⟩:=I.obj r rfl;⟨a,us,e,r,p.plain,z⟩
theorem Inv.tup(I:Inv X σ H ρ s)(r:RW H s v (.tup ds)):∃a us,v=.ref a/\aC H us ds/\IsTup s.heap a us.toArray/\ds.length<=sizeLine:=let ⟨a,_,e,_,z,us,r,p⟩:=I.obj r rfl;⟨a,us,e,r,p.tup,z⟩
theorem Inv.Ad(t':Nat)(I:Inv X σ H ρ s)(r:aC H us ds)(hz:ds.length<=sizeLine):∃H',Inv X σ H' ρ {s with heap:=s.heap.push {cls:=.type "tuple",data:=.seq us.toArray},toks:=t'}/\Le H H'/\Rel H' (.ref s.heap.objs.size) (.tup ds):=
 have ⟨h1,h2⟩:=I.lay (t':=t') (e:=.pin _<|some<|.tup ds) (λb o e=>VZ _ e) (Wd _) λlp=>⟨Ym _ rfl,λe z=>by cases z;exact⟨rfl,hz,us,r.p lp,_,Ym _ rfl,rfl,⟨_,rfl⟩,rfl⟩⟩
 ⟨_,h1,h2,_,_,rfl,aA⟩
theorem Inv.Ys(t':Nat)(I:Inv X σ H ρ s)(r:aC H us ds)(hz:ds.length<=sizeLine):∃H',Inv X σ H' ρ {s with heap:=s.heap.push {cls:=.type "list",data:=.seq us.toArray},toks:=t'}/\Le H H'/\RF X H' s (.ref s.heap.objs.size) (.lst ds):=
 have ⟨h1,h2⟩:=I.lay (t':=t') (e:=.ow (.lst ds) X.N.length) (λb o e=>VZ _ e) (Wd _) (λlp=>⟨⟨hz,us,r.p lp,_,Ym _ rfl⟩,λz=>nomatch z⟩) λd i z=>by cases z;exact Wd _
 ⟨_,h1,h2,_,rfl,aA⟩
theorem Inv.C6(t':Nat)(I:Inv X σ H ρ s)(r:aC H us ds)(hz:ds.length<=sizeLine):∃H',Inv X σ H' ρ {s with heap:=s.heap.push {cls:=.type "list",data:=.seq us.toArray},toks:=t'}/\Le H H'/\Rel H' (.ref s.heap.objs.size) (.lst ds):=
 have ⟨h1,h2⟩:=I.lay (t':=t') (e:=.pin _<|some<|.lst ds) (λb o e=>VZ _ e) (Wd _) λlp=>⟨Ym _ rfl,λe z=>by cases z;exact⟨hz,us,r.p lp,_,Ym _ rfl⟩⟩
 ⟨_,h1,h2,_,_,rfl,aA⟩
def onI(f:Int->Int->Pu):D->D->Option D|.int i,.int j=>f i j|_,_=>none
theorem Ko{t:Value->Value->Sem Value}{g:Int->Int->Pu}(rule:∀i j a b d s σ H ρ Q E,Inv X σ H ρ s->g i j=some d->rg X σ H ρ d Q->wpAny X.M X.A (t (.int i a)<|.int j b) Q E s):kZ X t (onI g):=λs σ H ρ v u a b d Q E I r1 r2 e k=>by
 cases a with
 |int i=>cases b with|int j=>obtain⟨t1,rfl⟩:=r1;obtain⟨t2,rfl⟩:=r2;exact rule i j t1 t2 d s σ H ρ Q E I e k|_=>cases e
 |_=>cases e
theorem w_sub:kZ X (binaryOp .Sub) gR:=Ko (g:=λi j=>some<|.int<|i-j) λi j a b d s σ H ρ Q E I e k=>by cases e;exact sub_int (k _ H _ (I.tok _) Le.refl ⟨_,rfl⟩)
theorem w_mul:kZ X (binaryOp .Mult) pR:=Ko (g:=λi j=>if (-(2 ^ 64)<i/\i<2 ^ 64)\/(-(2 ^ 64)<j/\j<2 ^ 64) then some (.int<|i*j) else none) λi j a b d s σ H ρ Q E I e k=>by split at e;rename_i h;cases e;exact mul_int (k _ H _ (I.tok _) Le.refl ⟨_,rfl⟩)<|h.elim (λh=>.of_left<|intBits_le_64 h.1 h.2) λh=>.of_right<|intBits_le_64 h.1 h.2;cases e
theorem PI:kZ X (binaryOp .FloorDiv) qt:=Ko (g:=λi j=>if 0<j/\j<1073741824 then some (.int<|i / j) else none) λi j a b d s σ H ρ Q E I e k=>by split at e;rename_i h;cases e;exact floordiv_int Uz (by rw[Int.fdiv_eq_ediv_of_nonneg i Uz];exact k _ H _ (I.tok _) Le.refl ⟨_,rfl⟩)<|.inl<|PyProof.noPylong_small Uz;cases e
theorem w_mod:kZ X (binaryOp .Mod) eJ:=Ko (g:=λi j=>if 0<j then some (.int<|i % j) else none) λi j a b d s σ H ρ Q E I e k=>by split at e;cases e;exact mod_int' Uz (by rw[Int.fmod_eq_emod_of_nonneg i Uz];exact k _ H _ (I.tok _) Le.refl ⟨_,rfl⟩);cases e
theorem w_lt:kZ X (compareOp .Lt) ltI:=Ko (g:=λi j=>some<|.bl<|decide<|i<j) λi j a b d s σ H ρ Q E I e k=>by cases e;exact lt_int (k _ H _ I Le.refl rfl)
theorem Y4:kZ X (compareOp .LtE) CH:=Ko (g:=λi j=>some<|.bl<|decide<|i<=j) λi j a b d s σ H ρ Q E I e k=>by cases e;exact le_int (k _ H _ I Le.refl rfl)
theorem U8:kZ X (compareOp .Gt) Mx:=Ko (g:=λi j=>some<|.bl<|decide<|j<i) λi j a b d s σ H ρ Q E I e k=>by cases e;exact gt_int (k _ H _ I Le.refl rfl)
theorem Y3:kZ X (compareOp .GtE) VH:=Ko (g:=λi j=>some<|.bl<|decide<|j<=i) λi j a b d s σ H ρ Q E I e k=>by cases e;exact ge_int (k _ H _ I Le.refl rfl)
theorem Va:Zc X (unaryOp .USub) rS:=λs σ H ρ v a d Q E I r e k=>by
 cases a with
 |int i=>
  cases e;rcases r with ⟨t,rfl⟩|⟨l,j,_,q⟩
  exact neg_int<|k _ H _ (I.tok _) Le.refl ⟨_,rfl⟩;exact(I.aL l _ q).1.elim
 |_=>cases e
theorem Rel.isNon{d:D}(r:Rel H v d):(v == Value.none)=isNon d:=by cases d<;>first|(cases r;rfl)|(obtain⟨t,rfl⟩:=r;rfl)|(obtain⟨_,_,rfl,_⟩:=r;rfl)
theorem LD:kZ X (compareOp .Is) isND:=λs σ H ρ v u a b d Q E I r1 r2 e k=>by
 unfold isND at e;split at e;rename_i h;cases b with|aP=>cases r2;cases e;exact is_none_gen (k s H _ I Le.refl<|congrArg Value.bool r1.isNon)|_=>cases h
 cases e
theorem Fh{prog:Program}{w:World}{A:Around}{E:Tv}{t b:Addr}{Q:Tv}(ht:IsTup s.heap t (#[]:Array Value))(hb:IsTup s.heap b ws.toArray)(h1:Q (.ref b) s):wpAny (model prog w) A (binaryOp .Add (.ref t)<|.ref b) Q E s:=by obtain⟨⟨cls,dd,data,sl⟩,ho,hc,n,hd⟩:=id ht;obtain⟨⟨W3,VA,data2,Qp⟩,ER,rD,n2,hd2⟩:=id hb;simp only at hc hd rD hd2;subst hc hd rD hd2;exact concat_meets ⟨_,ho,rfl⟩ ⟨_,ER,rfl⟩ noFill_tuple_add seq_tuple_add OU Pw (Cs _ _) (tuple_addW0 t b #[] ws.toArray n n2 dd VA sl Qp rfl) ⟨ho,ER,h1⟩
theorem w_add:kZ X (binaryOp .Add) bq:=λs σ H ρ v u a b d Q E I r1 r2 e k=>by
 cases a with
 |int i=>cases b with|int j=>obtain⟨t1,rfl⟩:=r1;obtain⟨t2,rfl⟩:=r2;cases e;exact add_int (k _ H _ (I.tok _) Le.refl ⟨_,rfl⟩)|_=>cases e
 |tup xs=>
  cases b with
  |tup ys=>
   simp only[bq] at e;split at e;rename_i hl;rw[q8] at hl;cases e;have ⟨p,us,e1,q1,t1,_⟩:=I.tup<|.inl r1;have ⟨q,ws,e2,q2,t2,_⟩:=I.tup<|.inl r2;subst e1 e2;have hz:us.length+ws.length<=sizeLine:=by rw[q1.length,q2.length];exact hl
   by_cases h:us=[];subst h;cases q1;exact Fh t1 t2<|k s H _ I Le.refl r2;refine HT.Fi t1 t2 h (λz=>?_) (λ_=>?_) hz;subst z;cases q2;rw[FU] at k;exact k s H _ I Le.refl r1;obtain⟨H',I',l',r'⟩:=I.Ad s.toks (q1.app q2) (by rw[rL];exact hl);exact k _ H' _ I' l' r';cases e
  |_=>cases e
 |lst xs=>cases b with|lst ys=>simp only[bq] at e;split at e;rename_i hl;rw[q8] at hl;cases e;have ⟨p,us,e1,q1,⟨⟨c1,d1,dt1,sl1⟩,n,ho,hc,_,EM⟩,_⟩:=I.lst<|.inl r1;have ⟨q,ws,e2,q2,⟨⟨c2,d2,dt2,Qp⟩,n2,ER,rD,_,Sr⟩,_⟩:=I.lst<|.inl r2;simp only at hc EM rD Sr;subst e1 e2 hc EM rD Sr;refine concat_meets ⟨_,ho,rfl⟩ ⟨_,ER,rfl⟩ noFill_list_add seq_list_add PySem.F.slot_list_add PySem.F.entry_list_add (PySem.F.args_list_add_2 _ _) (list_addW p q us.toArray ws.toArray n n2 d1 d2 sl1 Qp (by rw[Yl,Yl,q1.length,q2.length];exact hl)) ⟨ho,ER,?_⟩;obtain⟨H',I',l',r'⟩:=I.C6 s.toks (q1.app q2) (by rw[rL];exact hl);rw[List.append_toArray];exact k _ H' _ I' l' r';cases e|_=>cases e
 |_=>cases e
theorem aC.ix{i:Int}(h:aC H us ds)(e:wk ds i=some d):∃j u,Qg us.length i=some j/\us[j]?=some u/\Rel H u d:=by unfold wk at e;rw[<-h.length] at e;have q:mj us.length i=Qg us.length i:=rfl;rw[q] at e;cases z:Qg us.length i with|none=>rw[z] at e;cases e|some j=>rw[z] at e;obtain⟨u,a,b⟩:=h.get e;exact⟨j,u,rfl,a,b⟩
theorem Ey{value slice:Expr}{d1 d2:D}{Q E}(I:Inv X σ H ρ s)(r1:RW H s v d1)(r2:Rel H u d2)(e:aj d1 d2=some d)(k:rg X σ H ρ d Q)(hs:subscripted slice false v u=operate [v,u] (getItem v u)):wpAny X.M X.A (subscriptTail value slice v u) Q E s:=by
 have hn:=oG;cases d1 with
 |lst ds=>cases d2 with|int i=>obtain⟨t,rfl⟩:=r2;obtain⟨a,us,rfl,r,pl,hz⟩:=I.lst r1;obtain⟨j,w,hj,hw,YJ⟩:=r.ix e;obtain⟨h1,h2,h3,h4⟩:=rJ hj;have hl:=r.length;have fin:=k s H w I Le.refl YJ;by_cases h0:0<=i;rw[seqIndex_of h0 h4] at h1;exact item_listR pl.isList h0 Uz (by rw[Qe h1];simpa using hw) fin hs;rw[seqIndex_neg Uz h3] at h1;exact subscriptTail_builtinR (x:=w) pl.isList.typeIs slot_list_getitem.lookup (wpAny_getItem_list_neg (Q:=λr s'=>r=w/\Q r s') pl.isList Uz (by rw[Yl];lia) Uz (by rw[Yl,Qe h1];simpa using hw) ⟨rfl,fin⟩) hs|_=>cases e
 |tup ds=>cases d2 with|int i=>obtain⟨t,rfl⟩:=r2;obtain⟨a,us,rfl,r,pl,hz⟩:=I.tup r1;obtain⟨j,w,hj,hw,YJ⟩:=r.ix e;obtain⟨h1,h2,h3,h4⟩:=rJ hj;have hl:=r.length;exact subscriptTail_builtinR (x:=w) pl.typeIs slot_tuple_getitem.lookup (getItem_tuple (j:=j) (Q:=λr s'=>r=w/\Q r s') pl Uz Uz (by rw[Yl];exact h1) (by simpa using hw) ⟨rfl,k s H w I Le.refl YJ⟩) hs|_=>cases e
 |_=>cases e
theorem mz(ha:PV X a fa)(hb:PV X b fb)(hs:mV b:=by exact OY):PV X (.Subscript a b pos) (m2 aj fa fb):=λs σ H ρ Q E I o=>Subscript_ (ha.Tp I o (λ_ _ q=>q) λs1 H1 aS v d1 I1 l1 r1 o1=>hb.Tp I1 o1 (λ_ _ q=>q.le l1) λs2 H2 pX u d2 I2 l2 r2 o2=>by obtain⟨d,e,q⟩:=o2.opt;exact Ey I2 (.inl<|r1.le l2) r2 e (q.le<|l1.trans l2)<|hs _ _)
theorem Inv.ownAt{d:D}(I:Inv X σ H ρ s)(hN:X.N[j]?=some x)(hv:ij X.env.scope x)(h:own ρ[j]?=some d):∃l,σ x=some (.ref l)/\H l=some (.ow d j):=by unfold own at h;split at h;rename_i d' q;cases h;obtain⟨l,a,b⟩:=I.at hN hv q;exact⟨l,a,b⟩;rename_i d' q;cases h;obtain⟨l,a,b,_⟩:=I.at hN hv q;exact⟨l,a,b⟩;cases h
theorem OQ(j:Nat){x:Str}{p:Pos}(hb:PV X b fb)(hs:mV b:=by exact OY)(hN:X.N[j]?=some x:=by rfl)(hv:ij X.env.scope x:=by exact E3)(hd:RI x:=by decide)(eZ:v8 x:=by decide):PV X (.Subscript (.Name x p) b pos) (iW j fb):=λs σ H ρ Q E I o=>by unfold iW at o;cases q:own ρ[j]? with|none=>rw[q] at o;exact o.elim|some d0=>rw[q] at o;obtain⟨l,hu,_⟩:=I.ownAt hN hv q;refine Subscript_<|bx I hv hu (hb.Tp I o (λ_ _ q=>q) λs1 H1 aS u d1 I1 l1 r1 o1=>?_) hd eZ;unfold Cw at o1;cases q1:own aS[j]? with|none=>rw[q1] at o1;exact o1.elim|some d=>rw[q1] at o1;obtain⟨d2,e,k⟩:=Out.opt o1;obtain⟨l',yt,h'⟩:=I1.ownAt hN hv q1;rw[hu] at yt;cases yt;exact Ey I1 (.inr ⟨_,_,rfl,h'⟩) r1 e (k.le l1) (hs _ _)
end
end WL
end
section
set_option linter.all false
set_option maxRecDepth 100000
namespace WL
open PySem PySem.Spec PyProof.Rows L2 VP
section
variable{X:Cx}{e a b c:Expr}{fe fa fb fc:M D}{pos:Pos}{σ:Sg}{H:Tm}{ρ:ax}{s:Shared}{us ws:SX}{ds es:Vt}
def Q1p:Rl (Option Int) Value:=λ_ _ v o=>IsPart v o
def ti(X:Cx)(e:Option Expr)(f:Option (M D)):Prop:=WP X Q1p (evalPart e X.env) (kK f)
theorem GQ:ti X none none:=λs σ H ρ Q E I o=>by rw[evalPart_none];exact Qv (o s H _ I Le.refl .none)
theorem Q2G(h:PV X e fe):ti X (some e) (some fe):=λs σ H ρ Q E I o=>by rw[evalPart_some];refine h.Tp I o (λ_ _ q=>q) λs1 H1 aS v d1 I1 l1 r1 o1=>?_;cases d1 with|int i=>obtain⟨t,rfl⟩:=r1;exact o1 s1 H1 _ I1 l1 (.int i t)|_=>exact o1.elim
theorem sH(n d:Nat)(o:Vy):HT.eh n d o=gP n d o:=by cases o<;>rfl
theorem aC.cut(h:aC H us ds)(lo hi:Vy):aC H ((us.drop<|HT.eh us.length 0 lo).take<|HT.eh us.length us.length hi-HT.eh us.length 0 lo) (VP.cutD ds lo hi):=by unfold VP.cutD;rw[sH,sH,h.length];exact(h.drop _).take _
theorem ue(ds:Vt)(lo hi:Vy):(VP.cutD ds lo hi).length<=ds.length:=by unfold VP.cutD;rw[Eh,List.length_drop];lia
theorem jF{prog:Program}{w:World}{A:Around}{E:Tv}{t sl:Addr}{items:Array Value}{vl vu:Value}{lo hi:Vy}{Q:Tv}(ht:IsTup s.heap t items)(hs:s.heap.IsSliceOf sl vl vu .none)(pl:IsPart vl lo)(pu:IsPart vu hi)(hw:HT.eh items.size 0 lo=0/\HT.eh items.size items.size hi=items.size) (h:Q (.ref t) s):wpAny (model prog w) A (getItem (.ref t)<|.ref sl) Q E s:=by
 obtain⟨os,MP,zO,lC⟩:=id hs;have Xm:s.TypeIs (.ref sl) "slice" := ⟨os,MP,zO⟩;unfold getItem;try with_reducible refine Tr ?_
 first|refine Qf (Qv ?_)|skip
 refine Qf<|wpAny_sequenceKey ht.typeIs (by decide) ?_;refine Qf<|Rr (name:=Str.ofString "__getitem__") ht.typeIs CP<|Nx CP ht.typeIs entry_tuple_getitem ?_<|args_tuple_getitem _ _;show wpAny _ _ (Builtin.Tuple.tupleItemsOf (.ref t) >>= _) _ _ s;refine Qf<|PyProof.Rows.tupleItemsOf_ ht ?_;refine Qf<|M8 Xm ?_;rw[YN (by decide)];refine Qf<|HT.gQ hs pl pu ?_;have X6:(((HT.eh items.size 0 lo:Nat):Int) == 0&&(1:Int) == 1&&(HT.eh items.size items.size hi-HT.eh items.size 0 lo) == items.size)=true:=by rw[hw.1,hw.2];simp
 show wpAny _ _ (if (((HT.eh items.size 0 lo:Nat):Int) == 0&&(1:Int) == 1&&(HT.eh items.size items.size hi-HT.eh items.size 0 lo) == items.size)=true then _ else _) _ _ s;rw[YN X6];refine Qf ?_;unfold Builtin.Tuple.tupleIsExact;refine Qf<|M8 ht.typeIs<|Qv ?_;rw[YN (by decide)];refine Qf (RP<|Qv ⟨_,rfl,Qv h⟩)
theorem Uh{lo hi:Option Expr}{fl fh:Option (M D)}{p2:Pos}(he:PV X e fe)(hl:ti X lo fl)(hh:ti X hi fh):PV X (.Subscript e (.Slice lo hi none p2) pos) (vF fK fe fl fh):=λs σ H ρ Q E I o=>
 Subscript_ (he.Tp I o (λ_ _ q=>q) λs1 H1 aS v d1 I1 l1 r1 o1=>wpAny_Slice (hl.Tp I1 o1 (λ_ _ q=>q.le l1) λs2 H2 pX vl l I2 l2 p1 o2=>hh.Tp I2 o2 (λ_ _ q=>q.le<|l1.trans l2) λs3 H3 Wx vu h I3 l3 YC o3=>by
  obtain⟨d,e1,q⟩:=o3.opt;rw[evalPart_none];refine Qv ?_;have I4:Inv X σ H3 Wx {s3 with heap:=s3.heap.push {cls:=.type "slice",data:=.fields #[vl,vu,.none]}}:=I3.kept (t':=s3.toks) λb ob q=>VZ _ q;have hs:=Heap.IsSliceOf.new s3.heap vl vu .none;have Yg:=l1.trans<|l2.trans l3;have r4:=r1.le<|l2.trans l3;show wpAny X.M X.A (subscriptTail e (.Slice lo hi none p2) v<|.ref s3.heap.objs.size) Q E {s3 with heap:=s3.heap.push {cls:=.type "slice",data:=.fields #[vl,vu,.none]}};generalize s3.heap.push {cls:=.type "slice",data:=.fields #[vl,vu,.none]}=hp at I4 hs;cases d1 with
   |tup ds=>
    cases e1;have ⟨p,us,e1,r,ht,hz⟩:=I4.tup<|.inl r4;subst e1;have YL:=r.length;refine tail_any (ops:=[.ref s3.heap.objs.size,.ref p]) ht.typeIs PyProof.Rows.slot_tuple_getitem.lookup ?_ (by with_unfolding_all rfl);have rc:=r.cut l h;by_cases hw:HT.eh us.toArray.size 0 l=0/\HT.eh us.toArray.size us.toArray.size h=us.toArray.size;refine jF ht hs p1 YC hw<|q _ H3 _ I4 Yg ?_;have:VP.cutD ds l h=ds:=by rw[Yl,YL,sH,sH] at hw;unfold VP.cutD;rw[hw.1,hw.2];simp
    rw[this];exact r4;refine HT.kA ht hs p1 YC hw ?_ (by rw[Yl,YL];exact hz);obtain⟨H',I',l',r'⟩:=I4.Ad s3.toks rc<|YM (ue ds l h) hz;rw[Yl];exact q _ H' _ I' (Yg.trans l') r'
   |lst ds=>cases e1;have ⟨p,us,e1,r,ht,hz⟩:=I4.lst<|.inl r4;subst e1;have YL:=r.length;refine tail_any (ops:=[.ref s3.heap.objs.size,.ref p]) ht.isList.typeIs slot_list_getitem.lookup ?_ (by with_unfolding_all rfl);refine wpAny_getItem_list_slice ht.isList hs p1 YC .none (by decide) ?_ (by rw[Yl,YL];exact hz);obtain⟨H',I',l',r'⟩:=I4.C6 s3.toks (r.cut l h)<|YM (ue ds l h) hz;rw[pU];exact q _ H' _ I' (Yg.trans l') r'|_=>cases e1))
theorem link{g g':D->D->Pu}{P:D->ax->Prop}{E':Xn->ax->Prop}{op Kn:CmpOp}{Q:Tv}{E:Tv}{N:Tv}(ho:kZ X (compareOp op) g)(EP:kZ X (compareOp Kn) g')(ha:PV X a fa)(hb:PV X b fb)(hc:PV X c fc)(I:Inv X σ H ρ s)
  (o:Out (F8 g g' fa fb fc ρ) P E') (hE:∀x r,E' x r->OK X σ H (XR X) E x r) (hQ:∀s' H' a9 w d,Inv X σ H' a9 s'->Le H H'->Rel H' w d->P d a9->Q w s') (hN:∀s' H' a9,Inv X σ H' a9 s'->Le H H'->P (.bl false) a9->N (.bool false) s') :
  wpAny X.M X.A (eval a X.env) (λv s1=>wpAny X.M X.A (eval b X.env) (λu s2=>wpAny X.M X.A (compareOp op v u) (λz s3=>wpAny X.M X.A (truthy z) (λt s4=>if t=true then wpAny X.M X.A (eval c X.env) (λw s5=>wpAny X.M X.A (compareOp Kn u w) Q E s5) E s4 else N z s4) E s3) E s2) E s1) E s:=
 ha.Tp I o hE λs1 H1 aS v d1 I1 l1 r1 o1=>hb.Tp I1 o1 (λx r q=>(hE x r q).le l1) λs2 H2 pX u d2 I2 l2 r2 o2=>by
  obtain⟨d,e,q⟩:=o2.Tp.opt;refine ho s2 σ H2 pX v u d1 d2 d _ E I2 (r1.le l2) r2 e λs3 H3 w I3 l3 r3=>?_;have l:=l1.trans<|l2.trans l3;cases d with
   |bl k=>cases r3;refine WI ?_;cases k with|true=>refine hc.Tp I3 q (λx r q=>(hE x r q).le l) λs4 H4 EV z d4 I4 l4 r4 o4=>?_;obtain⟨d5,e5,q5⟩:=o4.opt;exact EP s4 σ H4 EV u z d2 d4 d5 Q E I4 (r2.le<|l3.trans l4) r4 e5 λs5 H5 w I5 l5 r5=>hQ s5 H5 EV w d5 I5 (l.trans<|l4.trans l5) r5 q5|false=>exact hN s3 H3 pX I3 l q
   |_=>exact q.elim
theorem Q2C{g g':D->D->Pu}(ho:kZ X (compareOp op) g)(EP:kZ X (compareOp Kn) g')(ha:PV X a fa)(hb:PV X b fb)(hc:PV X c fc)(hm:lastMarks [op,Kn] [b,c]=false:=by exact ED):PV X (.Compare a [op,Kn] [b,c] pos) (F8 g g' fa fb fc):=λs σ H ρ Q E I o=>Compare_chain (sT (link (N:=Q) ho EP ha hb hc I o (λ_ _ q=>q) (λs' H' a9 w d I' l r q=>q s' H' w I' l r) λs' H' a9 I' l q=>q s' H' _ I' l rfl) λv s1 h1=>chain_link (sT h1 λu s2 h2=>sT h2 λz s3 h3=>sT h3 λt s4 h4=>by cases t with|true=>exact chain_last h4|false=>exact h4)) hm
theorem Ds{g g':D->D->Pu}(ho:kZ X (compareOp op) g)(EP:kZ X (compareOp Kn) g')(ha:PV X a fa)(hb:PV X b fb)(hc:PV X c fc)(hm:lastMarks [op,Kn] [b,c]=false:=by exact ED):PB X (.Compare a [op,Kn] [b,c] pos) (tB<|F8 g g' fa fb fc):=λs σ H ρ Q E I o=>isTrue_chain (sT (link (Q:=λw s'=>wpAny X.M X.A (truthy w) Q E s') (N:=λ_ s=>Q false s) ho EP ha hb hc I (Out.Tp o) (λ_ _ q=>q) (λs' H' a9 w d I' l r q=>Qu I' l r q) λs' H' a9 I' l q=>q s' H' _ I' l rfl) λv s1 h1=>test_link (sT h1 λu s2 h2=>sT h2 λz s3 h3=>sT h3 λt s4 h4=>by cases t with|true=>exact test_last h4|false=>exact h4)) hm
mutual
def toPy:D->PyData|.bl b=>.bool b|.int i=>.int i|.str x=>.str x|.tup xs=>.tuple (toPys xs)|.lst xs=>.list (toPys xs)|_=>.none
def toPys:Vt->List PyData|[]=>[]|x::xs=>toPy x::toPys xs
end
theorem Q2L(n:Nat):∀(x y:D),plain n x=true->plain n y=true->PyData.eqv (toPy x) (toPy y)=eqB x y:=by
 induction n with
 |zero=>
  intro x y h1 h2;cases x with
  |aP|bl|int|str=>cases y<;>first|rfl|cases h2
  |_=>cases h1
 |succ n ih=>
  have SV:∀xs ys:Vt,dU n xs=true->dU n ys=true->PyData.eqvAll (toPys xs) (toPys ys)=lB xs ys:=by intro xs;induction xs with|nil=>intro ys _ _;cases ys<;>rfl|cons x xs Yb=>intro ys h1 h2;cases ys with|nil=>rfl|cons y ys=>simp only[dU,Bool.and_eq_true] at h1 h2;show (PyData.eqv (toPy x) (toPy y)&&PyData.eqvAll (toPys xs) (toPys ys))=(eqB x y&&lB xs ys);rw[ih x y h1.1 h2.1,Yb ys h1.2 h2.2]
  intro x y h1 h2;cases x with
  |tup xs=>cases y<;>first|exact SV _ _ h1 h2|rfl|cases h2
  |lst xs=>cases y<;>first|exact SV _ _ h1 h2|rfl|cases h2
  |ki|ins|jj=>cases h1|_=>cases y<;>first|rfl|cases h2
theorem Inv.reads(I:Inv X σ H ρ s)(n:Nat):∀(d:D)(v:Value),plain n d=true->RW H s v d->(∃as,Reads s.heap v (toPy d) as)/\(toPy d).canLay0=true/\(toPy d).depth<=n:=by
 have flat:∀{d v m},gj d=true->plain m d=true->RW H s v d->(∃as,Reads s.heap v (toPy d) as)/\(toPy d).canLay0=true/\(toPy d).depth<=m:=λ{d v m} hf hp r=>by
  rcases r with r|⟨l,i,_,q⟩;cases d with|aP=>cases r;exact⟨⟨_,.none⟩,rfl,ZN _⟩|bl b=>cases r;exact⟨⟨_,.bool b⟩,rfl,ZN _⟩|int i=>obtain⟨t,rfl⟩:=r;exact⟨⟨_,.int i t⟩,rfl,ZN _⟩|str x=>obtain⟨t,rfl⟩:=r;exact⟨⟨_,.str x t⟩,by cases m<;>exact(Array.all_toList.symm).trans hp,ZN _⟩|_=>cases hf
  have:=I.aL l _ q;cases d with|aP=>exact absurd rfl this.2|bl|int|str=>exact this.1.elim|_=>cases hf
 induction n with
 |zero=>intro d v hp r;cases d<;>first|exact flat rfl hp r|cases hp
 |succ n ih=>
  have SV:∀(ds:Vt)(us:SX),dU n ds=true->aC H us ds->(∃as,ReadsAll s.heap us (toPys ds) as)/\PyData.canLayAll0 (toPys ds)=true/\PyData.depthAll (toPys ds)<=n:=by intro ds;induction ds with|nil=>intro us _ r;cases r;exact⟨⟨_,.nil⟩,rfl,ZN _⟩|cons d ds Yb=>intro us hp r;simp only[dU,Bool.and_eq_true] at hp;cases r with|cons r1 r2=>obtain⟨⟨as,ha⟩,h1,h2⟩:=ih d _ hp.1<|.inl r1;obtain⟨⟨bs,hb⟩,h3,h4⟩:=Yb _ hp.2 r2;exact⟨⟨_,.cons ha hb⟩,by show (_&&_)=true;rw[h1,h3];rfl,by show max _ _<=n;lia⟩
  intro d v hp r;cases d with|tup ds=>obtain⟨a,us,rfl,r,⟨o,ho,hc,m,hd⟩,_⟩:=I.tup r;obtain⟨⟨as,ha⟩,h1,h2⟩:=SV ds us hp r;exact⟨⟨_,.tuple ho hc hd (by simpa using ha)⟩,h1,Nat.succ_le_succ h2⟩|lst ds=>obtain⟨a,us,rfl,r,pl,_⟩:=I.lst r;obtain⟨o,ho,hc,m,hd⟩:=pl.isList;obtain⟨⟨as,ha⟩,h1,h2⟩:=SV ds us hp r;exact⟨⟨_,.list ho hc hd (by simpa using ha)⟩,h1,Nat.succ_le_succ h2⟩|ki|ins|jj=>cases hp|_=>exact flat rfl hp r
theorem jy{d:D}(h1:(toPy d).canLay0=true)(h2:(toPy d).depth<=60):SeqAt.shaped (toPy d)=true:=by unfold SeqAt.shaped;rw[h1,Qi Uz];rfl
theorem LA(neg:Bool){Q:Tv}{E:Tv}{d1 d2 d:D}(hu:X.A.units+64<cLine)(I:Inv X σ H ρ s)(r1:RW H s v d1)(r2:RW H s u d2)(e:P7 neg d1 d2=some d)(k:rg X σ H ρ d Q):wpAny X.M X.A (compareOp (if neg then .NotEq else .Eq) v u) Q E s:=by
 have h:plain 60 d1=true/\plain 60 d2=true/\d=.bl (if neg then !eqB d1 d2 else eqB d1 d2):=by
  have e':(if VP.plain 60 d1&&VP.plain 60 d2 then some (D.bl<|if neg then !eqB d1 d2 else eqB d1 d2) else none)=some d:=by cases neg<;>exact e
  split at e';rename_i h;rw[Lp] at h;exact⟨h.1,h.2,(Qe e').symm⟩;cases e'
 obtain⟨p1,p2,rfl⟩:=h;obtain⟨⟨as,ra⟩,a1,a2⟩:=I.reads 60 d1 v p1 r1;obtain⟨⟨bs,rb⟩,b1,b2⟩:=I.reads 60 d2 u p2 r2;have q:=Q2L 60 d1 d2 p1 p2;cases neg;exact SeqAt.compareEq_shaped ra rb (jy a1 a2) (jy b1 b2) hu (by rw[q];exact k s H _ I Le.refl rfl);exact SeqAt.compareNe_shaped ra rb (jy a1 a2) (jy b1 b2) hu (by rw[q];exact k s H _ I Le.refl rfl)
end
end WL
end
section
set_option linter.all false
set_option maxRecDepth 100000
namespace WL
open PySem PySem.Spec PyProof.Rows L2 VP
section
variable{X:Cx}{σ:Sg}{H:Tm}{ρ:ax}{s:Shared}{h':Heap}{Q:Unit->Shared->Prop}{E:Tv}{x:Xn}{e:Addr}
def Kp(X:Cx)(H:Tm)(h h':Heap):Prop:=∀b o,h.get? b=some o->(∀vs,o.data≠.fields vs)\/H b≠none->∃sl,h'.get? b=some {o with slots:=sl}/\(b∉oq X.stack->sl=o.slots)
theorem Kp.trans{h1 h2 h3:Heap}(a:Kp X H h1 h2)(b:Kp X H h2 h3):Kp X H h1 h3:=λc o e n=>by obtain⟨sl,e1,n1⟩:=a c o e n;obtain⟨Hj,e2,n2⟩:=b c _ e1 n;exact⟨Hj,e2,λz=>(n2 z).trans<|n1 z⟩
theorem Inv.mQ{t':Nat}(I:Inv X σ H ρ s)(k:Kp X H s.heap h'):Inv X σ H ρ {s with heap:=h',toks:=t'}:=by
 have kk:∀b q o,H b=some q->(∀o,q≠.jO o)->s.heap.get? b=some o->h'.get? b=some o:=λb q o hb hq e=>by
  obtain⟨sl,e1,n⟩:=k b o e<|.inr (by rw[hb];exactλz=>nomatch z);have:=n λz=>by rcases I.B6 z with y|⟨_,y⟩;exact en y hb;obtain rfl:=sj y hb;exact hq _ rfl
  rw[this] at e1;exact e1
 have aL:nB X.g H h':=λa q hq=>by
  have y:=I.aL a q hq;have mv:∀{f:Bool}{d:D},(∀o,q≠.jO o)->fV X.g H s.heap f a d->fV X.g H h' f a d:=λhn y=>y.mv (λ_ _ _ z=>z) (kk a q · hq hn) (λ_ _ z=>z) λb o z=>by
   rcases z with ⟨_,z⟩|⟨_,_,z⟩
   exact kk b _ o z λ_ z=>nomatch z;exact kk b _ o z λ_ z=>nomatch z
  cases q with|pin o d=>exact⟨kk a _ o hq (λ_ z=>nomatch z) y.1,λe z=>mv (λ_ z=>nomatch z)<|y.2 e z⟩|ow d i=>exact⟨mv (λ_ z=>nomatch z) y.1,y.2⟩|cA b=>obtain⟨o,z⟩:=y;exact⟨o,kk a _ o hq (λ_ z=>nomatch z) z⟩|jO o=>obtain⟨sl,z⟩:=y;obtain⟨Hj,z',_⟩:=k a _ z<|.inr (by rw[hq];exactλz=>nomatch z);exact⟨Hj,z'⟩|dg o=>exact kk a _ o hq (λ_ z=>nomatch z) y
 obtain⟨e1,e2⟩:=I.BD (h':=h') λb o hb q=>by
  have:∀vs,o.data≠.fields vs:=by rcases hb with rfl|⟨x,e⟩;obtain⟨m,⟨o',es,ep,ho,hd,_⟩,_⟩:=I.loc;obtain rfl:=sj q ho;rw[hd];exactλ_ z=>nomatch z;obtain⟨⟨v,o',ho,hd⟩,_⟩:=I.cell x b e;obtain rfl:=sj q ho;rw[hd];exactλ_ z=>nomatch z
  obtain⟨sl,e1,_⟩:=k b o q<|.inl this;exact⟨sl,e1⟩
 exact⟨I.ok,I.os,I.bare,I.le,I.nw,aL,e1,I.slot,I.tg,I.fl,λx c e=>⟨e2 x c e,(I.cell x c e).2⟩,I.len⟩
theorem Kp.upd{a:Addr}{o:Obj}{vs:Array Value}{f:Obj->Obj}{h:Heap}(ha:H a=none)(ho:h.get? a=some o)(hd:o.data=.fields vs):Kp X H h (h.update a f):=λb q e n=>by
 have:b≠a:=λz=>by subst z;obtain rfl:=sj ho e;exact n.elim (λz=>z vs hd) λz=>z ha
 exact⟨q.slots,(Hn _ _<|Wl this).trans e,λ_=>rfl⟩
theorem D7{i v:Value}{c:Value}{dx:YB}{T:Addr}{ot:Obj}{ts vs:Array Value}{sl:Array (Option Value)}(I:Inv X σ H ρ s)
  (he:s.heap.get? e=some ⟨c,dx,.fields vs,sl⟩) (EL:T≠e) (EO:H T=none) (FL:s.heap.get? T=some ot) (hd:ot.data=.fields ts) (h3:ts[3]?=some v)
  (hQ:∀h',Inv X σ H ρ {s with heap:=h'}->Kp X H s.heap h'->h'.get? e=some ⟨c,dx,.fields vs,sl⟩->(∃Wa Az,h'.get? T=some Wa/\Wa.data=.fields Az/\Az[3]?=some i)->Q () {s with heap:=h'}):wpAny X.M X.A (setField (.ref T) 3 i) Q E s:=by
 have hsz:3<ts.size:=(Array.getElem?_eq_some_iff.mp h3).1;have kp:=Kp.upd (X:=X) (f:=Obj.mapFields (·.setIfInBounds 3 i)) EO FL hd;refine AA FL hd hsz (hQ _ (I.mQ (t':=s.toks) kp) kp ((Hn _ _ EL).trans he) ⟨_,_,F2 _ FL<|Em<|NK hd _,NK hd _,by simp[hsz]⟩)
theorem rW{c:Value}{dx:YB}{v:Xf}(I:Inv X σ H ρ s)(x:E8 X.n₀ H s.heap e c dx v)(hQ:∀h' w,Inv X σ H ρ {s with heap:=h'}->Kp X H s.heap h'->E8 X.n₀ H h' e c dx (some w)->Q () {s with heap:=h'}):wpAny X.M X.A (noteFrame (.ref e) X.env) Q E s:=by
 obtain⟨fv,ol,L,hs,Sv,Su⟩:=I.ok.VC;have fo:PySem.frameOf X.env=PySem.frameOf fv:=by unfold PySem.frameOf;rw[Su,Sv]
 have new:∀{s:Shared}{vs:Array Value}{sl:Array (Option Value)}{yn:Bool}{head:Value}{Q:Unit->Shared->Prop},Inv X σ H ρ s->s.heap.get? e=some ⟨c,dx,.fields vs,sl⟩->vs[2]?=some .none->1<vs.size->H e=none->X.n₀<=e ->
   (∀h',Inv X σ H ρ {s with heap:=h'}->Kp X H s.heap h'->E8 X.n₀ H h' e c dx (some<|rawInt L)->Q () {s with heap:=h'}) ->
   wpAny X.M X.A (do let a <-frameOf X.env;let pl <-entryPlaceOf L yn;let b <-EntryCells.newEntry head a .none (rawInt L) .none pl;setField (.ref e) 1 b) Q E s:=by
  intro s vs sl yn head Q I he Co hsz EO JZ hQ;have hl:s.heap.FunFrames X.g.base (fv::ol):=by rw[<-hs];exact I.stack
  have fe:oq X.stack=(fv::ol).filterMap (·.frame):=by rw[hs];rfl
  rw[fo];refine Qf<|wpAny_frameOf_fun (by rw[<-hs];exact I.ok.frames) hl Sv λbz dR=>?_;rw[<-fe] at dR;refine Qf<|wpAny_entryPlaceOf λpl gV=>?_;unfold EntryCells.newEntry newFields;refine Qf<|My ?_<|gV.sizeOk5 _ _ _ _ _;have XB:e∉oq X.stack:=λhm=>by rw[fe] at hm;obtain⟨_,o,ho,hnf⟩:=hl.mem hm;obtain rfl:=sj he ho;exact hnf vs rfl
  have JV:bz.get? e=some ⟨c,dx,.fields vs,sl⟩:=(dR.2.1 e XB).trans he;have h3:([head,.ref L,.none,rawInt L,.none]++(if pl.isEmpty then List.replicate 6 Value.none else pl)).toArray[3]?=some (rawInt L):=Qj;generalize ([head,.ref L,.none,rawInt L,.none]++(if pl.isEmpty then List.replicate 6 Value.none else pl)).toArray=ts at h3;have Cg:=VZ (h:=bz) {cls:=.type "traceback",dict:=none,data:=.fields ts} JV;have k1:Kp X H s.heap (bz.push {cls:=.type "traceback",dict:=none,data:=.fields ts}):=λb o q n=>by by_cases hb:b∈oq X.stack;obtain⟨sl,z⟩:=dR.2.2 b o q;exact⟨sl,VZ _ z,λy=>absurd hb y⟩;exact⟨o.slots,VZ _ ((dR.2.1 b hb).trans q),λ_=>rfl⟩
  have kp:=k1.trans<|Kp.upd (f:=Obj.mapFields (·.setIfInBounds 1<|Value.ref bz.objs.size)) EO Cg rfl;have EL:bz.objs.size≠e:=wq<|Ut JV;refine AA Cg rfl hsz<|hQ _ (I.mQ (t':=s.toks) kp) kp ⟨vs.setIfInBounds 1<|.ref bz.objs.size,sl,?_,by rw[Array.getElem?_setIfInBounds_ne (by decide)];exact Co,EO,JZ,bz.objs.size,{cls:=.type "traceback",dict:=none,data:=.fields ts},ts,by simp[hsz],EL,?_,?_,?_,rfl,h3⟩;rw[F2 _ Cg<|Em<|NK rfl _];rfl;rw[dR.1];exact I.sz;rw[dR.1];exact I.aL.fresh<|Wd _;exact(Hn _ _<|Wl EL).trans (Ym bz rfl)
 unfold noteFrame;simp only[Su];obtain⟨vs,sl,he,Co,EO,JZ,x⟩:=x;cases v with|none=>refine Qf<|VV he rfl x ?_;rw[YO (by decide)];exact new I he Co (Array.getElem?_eq_some_iff.mp x).1 EO JZ λh'=>hQ h' _|some v=>obtain⟨T,ot,ts,h1,EL,Xl,Si,FL,hd,h3⟩:=x;refine Qf<|VV he rfl h1 ?_;rw[YN (show (Value.ref T != Value.none)=true from by simp)];refine Qf<|VV FL hd h3 ?_;by_cases q:(v == rawInt L)=true;rw[YN q];exact Qv<|hQ s.heap _ I (λb o e _=>⟨o.slots,e,λ_=>rfl⟩) ⟨vs,sl,he,Co,EO,JZ,T,ot,ts,h1,EL,Xl,Si,FL,hd,h3⟩;rw[YO q];refine Qf<|D7 (i:=.none) I he EL Si FL hd h3 λh' I' kp Ss _=>?_;exact new I' Ss Co (Array.getElem?_eq_some_iff.mp h1).1 EO JZ λh2 I2 k2 x2=>hQ h2 _ I2 (kp.trans k2) x2
theorem iP{c:Value}{dx:YB}{v:Value}(fr:YB)(I:Inv X σ H ρ s)(x:E8 X.n₀ H s.heap e c dx (some v))(hQ:∀h',Inv X σ H ρ {s with heap:=h'}->Kp X H s.heap h'->E8 X.n₀ H h' e c dx (some<|fr.elim .none λf=>rawInt f)->Q () {s with heap:=h'}):wpAny X.M X.A (setFlight (.ref e) fr) Q E s:=by obtain⟨vs,sl,he,Co,EO,JZ,T,ot,ts,h1,EL,Xl,Si,FL,hd,h3⟩:=x;unfold setFlight;refine Qf<|VV he rfl h1 ?_;rw[YN (show (Value.ref T != Value.none)=true from by simp)];exact D7 I he EL Si FL hd h3 λh' I' kp Ss ⟨Wa,Az,q1,q2,q3⟩=>hQ h' I' kp ⟨vs,sl,Ss,Co,EO,JZ,T,Wa,Az,h1,EL,Xl,Si,q1,q2,q3⟩
theorem jC.kp(kp:Kp X H s.heap h')(f:jC H s.heap b ns ds):jC H h' b ns ds:=by obtain⟨fs,k1,k2,k3,mA,⟨od,es,ep,n1,n2,n3⟩,k4⟩:=f;obtain⟨sl,q,_⟩:=kp b od n1<|.inl (by rw[n2];exactλ_ z=>nomatch z);exact⟨fs,k1,k2,k3,mA,⟨_,es,ep,q,n2,n3⟩,k4⟩
theorem passes(I:Inv X σ H ρ s)(x:XR X H s v xn)(k:∀s',Inv X σ H ρ s'->XR X H s' v xn->E v s'):notedBy X.M X.A X.env (cameBackBy X.M X.A X.env E) v s:=by
 obtain⟨e,C,dx,rfl,hm,hx,w,x⟩:=x;have back:∀{h':Heap} {w},Kp X H s.heap h'->E8 X.n₀ H h' e (.ref C) dx w->XR X H {s with heap:=h'} (.ref e) xn:=λ{h' w} kp x=>by exact⟨e,C,dx,rfl,hm,hx.imp id λ⟨b,o,h1,h2,f⟩=>⟨b,o,h1,h2,f.kp kp⟩,w,x⟩
 refine rW I x λh' w' I' kp x'=>?_;obtain⟨vs,sl,he,_,_,_,T,ot,ts,h1,_⟩:=id x';refine Qf<|VV he rfl h1 ?_;rw[YO Qj];exact iP _ I' x' λh2 I2 k2 x2=>k _ I2 (back (kp.trans k2) x2)
end
end WL
end
section
set_option linter.all false
set_option maxRecDepth 100000
namespace WL
open PySem PySem.Spec PyProof.Rows L2 VP
section
variable{α β γ:Type}
theorem Vs.Tp{R:Rl α β}{f:M α}{t:Sem β}{k:α->M γ}{P:γ->ax->Prop}(h:Vs X R t f)(I:Inv X σ H ρ s)(o:Out (Tp f k ρ) P E')(hE:∀x r,E' x r->jT X H (XR X) E x r)(c:∀s' cV H' a9 b a,Inv X cV H' a9 s'->Le H H'->R H' s' b a->Out (k a a9) P E'->Q b s'):wpAny X.M X.A t Q E s:=
 h s σ H ρ Q E I (o.Tp.mono (λa r q s' cV H' b I' l r'=>c s' cV H' r b a I' l r' q) hE)
theorem Out.Td{R:Rl α β}{Q:β->Shared->Prop}{r:Res α}(o:Out r (jT X H R Q) (jT X H (XR X) E))(l:Le H H1):Out r (jT X H1 R Q) (jT X H1 (XR X) E):=o.mono (λ_ _ q=>q.le l) λ_ _ q=>q.le l
end
section
variable{X:Cx}{st:Stmt}{rest:List Stmt}{e a b c tg VX:Expr}{fe fa fb:M D}{f g:M Fl}{f1:M Bool}{pos:Pos}{σ:Sg}{H:Tm}{ρ:ax}{s:Shared}{Q:Flow->Shared->Prop}{E:Tv}
theorem ay:gr X [] aI:=λs σ H ρ Q E I o=>wpAny_execs_nil (o s σ H _ I Le.refl rfl)
theorem ae(h1:ja X st f)(h2:gr X rest g):gr X (st::rest) (ak f g):=λs σ H ρ Q E I o=>wpAny_execs_cons (h1.Tp I o (λ_ _ q=>q) λs1 Qy H1 aS b k I1 l1 r1 o1=>by cases k with|nx=>cases r1;exact h2 s1 Qy H1 aS Q E I1 (Out.Td o1 l1)|bk=>cases r1;exact o1 s1 Qy H1 _ I1 l1 rfl|ct=>cases r1;exact o1 s1 Qy H1 _ I1 l1 rfl|rt d=>obtain⟨v,rfl,r⟩:=r1;exact o1 s1 Qy H1 _ I1 l1 ⟨v,rfl,r⟩)
theorem Ep{i:Nat}(h:ja X st f):ja X st (AR i f):=λs σ H ρ Q E I o=>by unfold AR VP.Tp Nh at o;cases q:ρ[i]? with|none=>simp only[q] at o;exact o.elim|some t=>simp only[q] at o;cases t with|no=>exact o.elim|io d=>exact o.elim|sh d=>exact h s σ H ρ Q E I o|ow d=>obtain⟨x,_,l,_,hl⟩:=I.slot i _ q;obtain⟨H',_,I',l',_⟩:=I.fz hl<|.inl q;exact h s σ H' _ Q E I' (Out.Td o l')
theorem Inv.quiet(I:Inv X σ H ρ s):interactive X.env=false:=by simp[interactive,I.ok.kind]
theorem fU(he:PV X e fe):ja X (.Return (some e) pos) (aY fe):=λs σ H ρ Q E I o=>wpAny_Return_some (he.Tp I o (λ_ _ q=>q.x) λs1 H1 aS v d1 I1 l1 r1 o1=>o1 s1 σ H1 _ I1 l1 ⟨v,rfl,r1⟩)
theorem cJ{sa sb:List Stmt}(hc:PB X c f1)(ha:gr X sa f)(hb:gr X sb g):ja X (.If c sa sb pos) (ef f1 f g):=λs σ H ρ Q E I o=>wpAny_If (hc.Tp I o (λ_ _ q=>q.x) λs1 H1 aS v d1 I1 l1 r1 o1=>by cases r1;cases v with|true=>exact ha s1 σ H1 aS Q E I1 (Out.Td o1 l1)|false=>exact hb s1 σ H1 aS Q E I1<|Out.Td o1 l1)
def QN(X:Cx)(σ:Sg)(H:Tm)(js:YK)(Q:Unit->Shared->Prop):Unit->ax->Prop:=λ_ a9=>∀s' cV H',Inv X cV H' a9 s'->Le H H'->(∀x,(∀j∈js,X.N[j]?≠some x)->cV x=σ x)->Q () s'
theorem lO{Q:Unit->Shared->Prop}{d:D}{i:Nat}{x:Str}(own:Bool)(I:Inv X σ H ρ s)(hN:X.N.Nodup)(hi:X.N[i]?=some x)(hx:Loc X.env.scope x)(hf:X.fn=true\/X.env.scope.names.lookup x=some .local)(hr:if own then RF X H s v d else Rel H v d)(o:Out ((if own then Aa i d else j7 i d) ρ) (QN X σ H [i] Q) E'):wpAny X.M X.A (storeName X.env x v) Q E s:=by
 have Su:free ρ[i]?=true/\QN X σ H [i] Q () (ρ.set i<|if own then .ow d else .sh d):=by
  have o':Out (if free ρ[i]? then .ok () (ρ.set i<|if own then .ow d else .sh d) else .no) (QN X σ H [i] Q) E':=by cases own<;>exact o
  split at o';exact⟨‹_›,o'⟩;exact o'.elim
 refine I.store hN hi hx hf Su.1 ?_ λs' H' I' l'=>Su.2 s' _ H' I' l' λy z=>YO λ(e:y=x)=>z i R9 (by rw[e];exact hi);cases own;exact .inl ⟨d,rfl,hr⟩;obtain⟨l,a,b⟩:=hr;exact .inr ⟨d,l,_,rfl,a,b,Wd _⟩
theorem Et(i:Nat){x:Str}{Tw:Pos}(hN:X.N.Nodup)(hi:X.N[i]?=some x)(hx:Loc X.env.scope x)(he:PV X e fe)(hs:swapsWith e (some<|.Name x Tw) pos.line X.env=pure false:=by rfl)(hf:X.fn=true\/X.env.scope.names.lookup x=some .local:=by exact Ro):ja X (.Assign [.Name x Tw] e pos) (aM i fe):=λs σ H ρ Q E I o=>wpAny_Assign_Name (he.Tp I o (λ_ _ q=>q.x) λs1 H1 aS v d1 I1 l1 r1 o1=>lO false I1 hN hi hx hf r1<|o1.Tp.mono (λ_ _ q s' cV H' I' l' _=>q s' cV H' _ I' (l1.trans l') rfl) λ_ _ q=>q) hs
theorem Q2X(i:Nat){x:Str}{Tw:Pos}(hN:X.N.Nodup)(hi:X.N[i]?=some x)(hx:Loc X.env.scope x)(he:PF X e fe)(hs:swapsWith e (some<|.Name x Tw) pos.line X.env=pure false:=by rfl)(hf:X.fn=true\/X.env.scope.names.lookup x=some .local:=by exact Ro):ja X (.Assign [.Name x Tw] e pos) (iC i fe):=λs σ H ρ Q E I o=>wpAny_Assign_Name (he.Tp I o (λ_ _ q=>q.x) λs1 H1 aS v d1 I1 l1 r1 o1=>lO true I1 hN hi hx hf r1<|o1.Tp.mono (λ_ _ q s' cV H' I' l' _=>q s' cV H' _ I' (l1.trans l') rfl) λ_ _ q=>q) hs
def vB(X:Cx)(tg:Expr)(js:YK)(g:D->M Unit):Prop:=∀s σ H ρ v d Q E,Inv X σ H ρ s->Rel H v d->Out (g d ρ) (QN X σ H js Q) (jT X H (XR X) E)->wpAny X.M X.A (assign tg X.env v) Q E s
def tq(X:Cx)(ts:Y2)(is:YK):Prop:=∀s σ H ρ vs ds Q E,Inv X σ H ρ s->aC H vs ds->Out (pO is ds ρ) (QN X σ H is Q) (jT X H (XR X) E)->wpAny X.M X.A (assignInOrder ((assignEach ts X.env).map (·.2)) vs) Q E s
theorem zg(i:Nat){x:Str}(hN:X.N.Nodup)(hi:X.N[i]?=some x)(hx:Loc X.env.scope x)(hf:X.fn=true\/X.env.scope.names.lookup x=some .local:=by exact Ro):vB X (.Name x pos) [i] (aq i):=λs σ H ρ v d Q E I r o=>Q8 (lO false I hN hi hx hf r o)
theorem sV:tq X [] []:=λs σ H ρ vs ds Q E I r o=>by cases r with|nil=>exact assignInOrder_nil (o s σ H I Le.refl λ_ _=>rfl)|cons h t=>exact o.elim
theorem vw(i:Nat){is:YK}{x:Str}{es:Y2}(hN:X.N.Nodup)(hi:X.N[i]?=some x)(hx:Loc X.env.scope x)(h2:tq X es is)(hf:X.fn=true\/X.env.scope.names.lookup x=some .local:=by exact Ro) (hs:(assignEach (.Name x pos::es) X.env).map (·.2)=assign (.Name x pos) X.env::(assignEach es X.env).map (·.2):=by rfl):tq X (.Name x pos::es) (i::is):=λs σ H ρ vs ds Q E I r o=>by cases r with|nil=>exact o.elim|cons h t=>rw[hs];exact assignInOrder_cons (Q8<|lO false I hN hi hx hf h<|o.Tp.mono (λ_ _ q s' cV H' I' l' g=>h2 s' cV H' _ _ _ Q E I' (aC.le l' t)<|q.mono (λ_ _ q s2 vK H2 I2 l2 g2=>q s2 vK H2 I2 (l'.trans l2) λx hx=>(g2 x λj hj=>hx j<|Pe _ hj).trans<|g x λj hj=>hx j (by simp at hj;subst hj;exact R9)) λ_ _ q=>q.le l') λ_ _ q=>q)
theorem uF:∀{is:YK}{ds:Vt}{ρ:ax}{P:Unit->ax->Prop}{E:Xn->ax->Prop},Out (pO is ds ρ) P E->ds.length=is.length|[],[],_,_,_,_=>rfl|i::is,d::ds,ρ,P,E,o=>by have o':=o.Tp;unfold j7 at o';split at o';exact congrArg Nat.succ<|uF (is:=is) o';exact o'.elim
theorem xw{es:Y2}{k:Nat}{is:YK}(hc:X.calm=true)(h:tq X es is)(hn:(assignEach es X.env).length=is.length:=by rfl)(jH:(assignEach es X.env).findIdx? (·.1)=none:=by rfl):vB X (.Tuple es k pos) is (fW is):=λs σ H ρ v d Q E I r o=>by cases d with|tup ds=>obtain⟨a,us,rfl,rv,ht,hz⟩:=I.tup<|.inl r;refine assign_Tuple_tuple (I.ok.hd hc) ht (by simp[hn,rv.length,uF o]) jH λh' hx=>?_;have I1:Inv X σ H ρ {s with heap:=h'}:=I.kept (t':=s.toks) λb o e=>hx b o (M1<|Ut e) e;exact h _ σ H ρ _ ds Q E I1 rv o|_=>exact o.elim
def XE(X:Cx)(H:Tm)(E:Tv)(v:Value)(s':Shared):Prop:=∃cV H' a9 x,Inv X cV H' a9 s'/\Le H H'/\XR X H' s' v x/\jT X H (XR X) E x a9
theorem XE.passes(h:XE X H E v s):notedBy X.M X.A X.env (cameBackBy X.M X.A X.env E) v s:=by obtain⟨cV,H',a9,x,I,l,r,k⟩:=h;exact WL.passes I r λs' I' r'=>k s' cV H' v I' l r'
theorem jT.xe{x:Xn}{r:ax}(k:jT X H (XR X) E x r)(l:Le H H1):jT X H1 (XR X) (XE X H E) x r:=λs' cV H' v I' l' r'=>⟨cV,H',_,x,I',l.trans l',r',k⟩
theorem jT.xx{x:Xn}{r:ax}(k:jT X H (XR X) E x r)(l:Le H H1):OK X σ H1 (XR X) (XE X H E) x r:=(k.xe l).x
def Vn(fp:V8)(H H':Tm):Prop:=∀a e,H a=some e->e.fast->(∃o d,e=.pin o d)\/a∈fp->H' a=some e
theorem Le.lf(l:Le H H'):Vn fp H H':=λa e q f _=>l a e q f
theorem Vn.p(l:Vn fp H H'):iA H H':=λ_ _ _ q=>l _ _ q trivial (.inl ⟨_,_,rfl⟩)
def HR(fp:V8)(H H':Tm):Prop:=∀a e,a∉fp->H a=some e->e.fast->H' a=some e
structure tf(g:Gb)(tg:Expr)(it:Addr)(fp:V8)(ds:Vt)(St:Nat->Tm->Prop):Prop where
 le:∀i H H',St i H->Vn fp H H'->St i H'
 item:∀(X:Cx)(σ:Sg)(i:Nat)(H:Tm)(ρ:ax)(s:Shared)(d:D)(Q:Tv)(E:Tv),X.g=g->X.calm=true->Inv X σ H ρ s->(∀b∈fp,X.H₀ b=none)->St i H->ds[i]?=some d->(∀s' H' u,Inv X σ H' ρ s'->HR fp H H'->Rel H' u d->St (i+1) H'->Q u s')->wpAny X.M X.A (pyNext<|.ref it) (λr s1=>∃u,r=some u/\wpAny X.M X.A (letOwnedTupleGo tg (.ref it) u) (λ_ s2=>Q u s2) E s1) E s
 done:∀(X:Cx)(σ:Sg)(H:Tm)(ρ:ax)(s:Shared)(Q:Shared->Prop)(E:Tv),X.g=g->X.calm=true->Inv X σ H ρ s->(∀b∈fp,X.H₀ b=none)->St ds.length H->(∀s' H',Inv X σ H' ρ s'->HR fp H H'->Q s')->wpAny X.M X.A (pyNext<|.ref it) (λr s1=>r=none/\Q s1) E s
 self:∀(A:Around)(s:Shared)(i:Nat)(H:Tm)(Q:Tv)(E:Tv),nB g H s.heap->St i H->Q (.ref it) s->wpAny (model g.prog g.w) A (pyIter<|.ref it) Q E s
def q9(X:Cx)(tg VX:Expr)(f:M (List D)):Prop:=∀s σ H ρ Q E,Inv X σ H ρ s->Out (f ρ) (λds a9=>∀(s':Shared)(H':Tm)(it:Addr)(fp:V8)(St:Nat->Tm->Prop),Inv X σ H' a9 s'->Le H H'->tf X.g tg it fp ds St->St 0 H'->(∀b∈fp,(∃o,H' b=some (.dg o))/\(∀e,H b=some e->¬e.fast)/\X.H₀ b=none)->Q (.ref it) s') (OK X σ H (XR X) E)->wpAny X.M X.A (eval VX X.env) (λv s1=>wpAny X.M X.A (pyIter v) Q E s1) E s
theorem HR.of(l:Le H H1)(x:HR fp H1 H2)(hn:∀b∈fp,∀e,H b=some e->¬e.fast):Le H H2:=λa e q f=>x a e (λz=>hn a z e q f) (l a e q f) f
theorem Eo{it:M (List D)}{gf:D->M Unit}{body:List Stmt}(oy:X.fn=true)(hc:X.calm=true)(hi:q9 X tg VX it)(hg:vB X tg js gf)(hb:gr X body f)(hs:∀x,foldedSetIterable VX X.env x=pure x:=by exact A1):ja X (.For tg VX body [] pos) (iY it gf f):=λs σ H ρ Q E I o=>by
 refine wpAny_For (hi s σ H ρ _ E I<|o.Tp.mono (λds aS o1 s1 H1 Yc fp St I1 l1 T Qs rE=>?_) λ_ _ q=>q.x) hs;have h0:∀b∈fp,X.H₀ b=none:=λb hb=>(rE b hb).2.2;refine codeAny_forLoop_any (λn s'=>∃i cV H' a9,n=ds.length-i/\i<=ds.length/\Inv X cV H' a9 s'/\Le H H'/\St i H'/\Out (loop gf f (ds.drop i) a9) (jT X H RS Q) (jT X H (XR X) E)) ?_ ds.length ⟨0,σ,H1,aS,rfl,ZN _,I1,l1,Qs,o1⟩;rintro n s2 ⟨i,vK,H2,pX,rfl,Sx,I2,l2,nz,o2⟩;have px:∀{α:Type}{t:Sem α}{Q':α->Shared->Prop}{s':Shared},wpAny X.M X.A t Q' (XE X H E) s'->wpAny X.M X.A t Q' (notedBy X.M X.A X.env<|cameBackBy X.M X.A X.env E) s':=λh=>FD h (λ_ _ q=>q) λ_ _ z=>z.passes;by_cases fj:i<ds.length;rw[NX fj] at o2;refine px<|sT (T.item X vK i H2 pX s2 ds[i] (λu s'=>∃H',Inv X vK H' pX s'/\Le H H'/\Rel H' u ds[i]/\St (i+1) H') _ rfl hc I2 h0 nz (by simp[fj]) λs' H' u I' x r st=>⟨H',I',x.of l2 λb hb=>(rE b hb).2.1,r,st⟩) λr s3 hr=>?_;obtain⟨u,hr,h3⟩:=hr;subst hr;refine px<|sT h3 λ_ s4 ⟨H4,I4,l4,r4,Qt⟩=>px<|hg s4 vK H4 pX u _ _ _ I4 r4<|(Out.Tp o2).mono (λ_ AG o5 s5 σ5 H5 I5 l5 _=>?_) λ_ _ q=>q.xe l4;have ZR:=l4.trans l5;refine px<|hb.Tp I5 o5 (λ_ _ q=>q.xe ZR) λs6 td H6 Qx fl k I6 l6 r6 o6=>?_;have V5:=ZR.trans l6;have UI:=T.le _ _ _ Qt (l5.trans l6).lf;cases k with|nx=>cases r6;exact⟨_,Uz,i+1,td,H6,Qx,rfl,fj,I6,V5,UI,o6⟩|ct=>cases r6;exact⟨_,Uz,i+1,td,H6,Qx,rfl,fj,I6,V5,UI,o6⟩|bk=>cases r6;exact o6 s6 td H6 _ I6 V5 rfl|rt d=>obtain⟨v,rfl,r⟩:=r6;exact o6 s6 td H6 _ I6 V5 ⟨v,rfl,r⟩
 have e:i=ds.length:=Uz;subst e;rw[List.drop_length] at o2;refine px<|sT (T.done X vK H2 pX s2 _ _ rfl hc I2 h0 nz λs' H' I' x=>o2 s' vK H' .next I' (x.of l2 λb hb=>(rE b hb).2.1) rfl) λr s3 hr=>?_;obtain⟨hr,h3⟩:=hr;subst hr;exact wpAny_execs_nil h3
end
end WL
end
section
set_option linter.all false
set_option maxRecDepth 100000
namespace WL
open PySem PySem.Spec PyProof.Rows L2 VP
section
variable{X:Cx}{e a b c tg VX:Expr}{es:Y2}{fe fa fb:M D}{f g:M Fl}{ft:M Bool}{pos p:Pos}{x:Str}{σ:Sg}{H:Tm}{ρ:ax}{s:Shared}{ds:Vt}{us:SX}{E:Tv}
theorem vx{body:List Stmt}(oy:X.fn=true)(hc:PB X c ft)(hb:gr X body f):ja X (.While c body [] pos) (sL ft f):=λs σ H ρ Q E I o=>by have px:∀{α:Type}{t:Sem α}{Q':α->Shared->Prop}{s':Shared},wpAny X.M X.A t Q' (XE X H E) s'->wpAny X.M X.A t Q' (notedBy X.M X.A X.env<|cameBackBy X.M X.A X.env E) s':=λh=>FD h (λ_ _ q=>q) λ_ _ z=>z.passes;refine wpAny_While<|codeAny_whileLoop (λn s'=>∃cV H' a9,Inv X cV H' a9 s'/\Le H H'/\Out (gC ft f n a9) (jT X H RS Q) (jT X H (XR X) E)) ?_ 10000 ⟨σ,H,ρ,I,Le.refl,o⟩;rintro n s1 ⟨Qy,H1,aS,I1,l1,o1⟩;cases n with|zero=>exact o1.elim|succ n=>refine px<|hc.Tp I1 o1 (λ_ _ q=>q.xx l1) λs2 H2 pX b d I2 l2 r2 o2=>?_;cases r2;have Yf:=l1.trans l2;cases b with|false=>exact wpAny_execs_nil (o2 s2 Qy H2 .next I2 Yf rfl)|true=>refine px<|hb.Tp I2 o2 (λ_ _ q=>q.xe Yf) λs3 Wy H3 Wx fl k I3 l3 r3 o3=>?_;have l:=Yf.trans l3;cases k with|nx=>cases r3;exact⟨n,M4 n,Wy,H3,Wx,I3,l,o3⟩|ct=>cases r3;exact⟨n,M4 n,Wy,H3,Wx,I3,l,o3⟩|bk=>cases r3;exact o3 s3 Wy H3 _ I3 l rfl|rt d=>obtain⟨v,rfl,r⟩:=r3;exact o3 s3 Wy H3 _ I3 l ⟨v,rfl,r⟩
theorem Inv.lw{aO its':SX}{n:Nat}{f:Array Value->Array Value}{ds':Vt}(I:Inv X σ H ρ s)(hl:H l=some (.ow (.lst ds) i))(e:s.heap.get? l=some {cls:=.type "list",data:=.seq aO.toArray n})(hf:f aO.toArray=its'.toArray)(hv:aC H its' ds')(hz:ds'.length<=sizeLine) : Inv X σ (upd H l<|.ow (.lst ds') i) (cu i (.lst ds') ρ) {s with heap:=s.heap.update l (Obj.mapSeq f)}:=by have q:=PySem.IsL.update e f;rw[hf] at q;exact(I.wr (t':=s.toks) (d':=.lst ds') hl (.inl rfl) (λb o hb z=>(Hn s.heap (Obj.mapSeq f)<|Wl hb).trans z) ⟨_,q⟩ (λlp=>⟨hz,its',hv.p lp,_,q⟩) λz=>nomatch z).1
theorem Le.ow(h:H l=some (.ow d i)):Le H (upd H l<|.ow d' j):=λa e q f=>(aH λz=>by subst z;rw[h] at q;cases q;exact f).trans q
theorem Inv.lo(I:Inv X σ H ρ s)(hl:H l=some (.ow (.lst ds) i)):∃us n,aC H us ds/\s.heap.get? l=some {cls:=.type "list",data:=.seq us.toArray n}/\ds.length<=sizeLine:=let ⟨⟨z,us,r,n,e⟩,_⟩:=I.aL l _ hl;⟨us,n,r,e,z⟩
theorem jA{g:D->Pu}{P:Unit->ax->Prop}{E':Xn->ax->Prop}(o:Out (gM i g ρ) P E'):∃d d',own ρ[i]?=some d/\g d=some d'/\P () (cu i d' ρ):=by unfold gM at o;split at o;rename_i d q;split at o;exact⟨d,_,q,‹_›,o⟩;exact o.elim;exact o.elim
theorem isLst_own{i:Nat}(h:isLst (own ρ[i]?)=true):∃ds,own ρ[i]?=some (.lst ds):=by unfold isLst at h;split at h;exact⟨_,‹_›⟩;cases h
theorem Dq{α:Type}{i:Nat}{R:Rl D Value}{fe:M D}{k:D->M α}{P:α->ax->Prop}{E':Xn->ax->Prop}{Q:Tv}{name:Str}{id:String}{ZO bg:Pos}(slot:Slot "list" name id)(hty:typeOf (.builtin id)=pure (.type "method_descriptor"))(he:WP X R (eval e X.env) fe)(hN:X.N[i]?=some x)(hv:ij X.env.scope x)
  (hd:(x == ("__debug__" : Str))=false) (eZ:(x == ("__classdict__" : Str))=false) (I:Inv X σ H ρ s) (ho:isLst (own ρ[i]?)=true) (o:Out (Tp fe k ρ) P E') (hE:∀x r,E' x r->OK X σ H (XR X) E x r)
  (c:∀s1 H1 aS l v d,Inv X σ H1 aS s1->Le H H1->σ x=some (.ref l)->R H1 s1 v d->Out (k d aS) P E'->wpAny X.M X.A (call (.builtin id) [.ref l,v]) Q E s1)
  (iR:attributeBase (.Name x p) name X.env (eval (.Name x p) X.env)=eval (.Name x p) X.env)
  (we:((backTo bg<|starEach [e] X.env).all (λx=>!x.1)&&(backToKw bg<|keywordEach [] X.env).all (λx=>x.1.isSome)&&decide ([e].length+([]:List Keyword).length+(if ([]:List Keyword).isEmpty then 0 else 1)<30))=true)
  (kC:(ZO.endLine == bg.line)=true) (jH:starEach [e] X.env=[(false,eval e X.env)]):wpAny X.M X.A (eval (.Call (.Attribute (.Name x p) name ZO) [e] [] bg) X.env) Q E s:=by
 obtain⟨ds,hq⟩:=isLst_own ho;obtain⟨l,hu,hl⟩:=I.ownAt hN hv hq;obtain⟨us,n,_,hg,_⟩:=I.lo hl;refine wpAny_Call_method_late iR we kC rfl<|bx I hv hu ⟨"list",id,PySem.F.plainAttrs_list,slot,hty,⟨_,hg,rfl⟩,λa e=>by cases e;exact⟨_,hg,rfl⟩,?_⟩ hd eZ;rw[jH];refine M3 rfl<|Calls.evalArgs_plain ?_;refine VG (he.Tp I o hE λs1 H1 aS v d I1 l1 r1 o1=>Nd<|c s1 H1 aS l v d I1 l1 hu r1 o1)
theorem PD(i:Nat){ZO bg:Pos}(he:PV X e fe)(hN:X.N[i]?=some x:=by rfl)(hv:ij X.env.scope x:=by exact E3)(hd:RI x:=by decide)(eZ:v8 x:=by decide)
  (iR:attributeBase (.Name x p) "append" X.env (eval (.Name x p) X.env)=eval (.Name x p) X.env:=by rfl)
  (we:((backTo bg<|starEach [e] X.env).all (λx=>!x.1)&&(backToKw bg<|keywordEach [] X.env).all (λx=>x.1.isSome)&&decide ([e].length+([]:List Keyword).length+(if ([]:List Keyword).isEmpty then 0 else 1)<30))=true:=by rfl)
  (kC:(ZO.endLine == bg.line)=true:=by rfl) (jH:starEach [e] X.env=[(false,eval e X.env)]:=by rfl) (hs:swapsWith (.Call (.Attribute (.Name x p) "append" ZO) [e] [] bg) none pos.line X.env=pure false:=by rfl) :
  ja X (.Expr (.Call (.Attribute (.Name x p) "append" ZO) [e] [] bg) pos) (jJ i fe):=λs σ H ρ Q E I o=>by
 unfold jJ at o;split at o;refine wpAny_Expr_any (Dq PySem.F.slot_list_append PySem.F.type_list_append he hN hv hd eZ I ‹_› o (λ_ _ q=>q.x) (λs1 H1 aS l v d I1 l1 hu r1 o1=>?_) iR we kC jH) I.quiet hs;obtain⟨d0,d1,q0,q1,k⟩:=jA o1.Tp;obtain⟨l',yt,hl⟩:=I1.ownAt hN hv q0;rw[hu] at yt;cases yt;cases d0 with
 |lst xs=>
  simp only[df] at q1;split at q1;cases q1;obtain⟨us,n,r,hg,_⟩:=I1.lo hl;rename_i X7 _;have hz:us.length<sizeLine:=by rw[r.length,xg];exact X7
  refine vi F.slot_list_append ⟨_,hg,rfl⟩ F.entry_list_append (F.args_list_append_2 _ _) (PySem.list_append l us.toArray n v (by rw[Yl];lia)) ⟨hg,?_⟩;exact k _ _ _ _ (I1.lw (its':=us++[v]) hl hg Qj (r.app<|.cons r1 .nil) (by rw[rL,<-r.length];exact hz)) (l1.trans<|Le.ow hl) rfl;cases q1
 |_=>cases q1
 exact o.elim
theorem OS(i:Nat){ZO bg:Pos}(hN:X.N[i]?=some x:=by rfl)(hv:ij X.env.scope x:=by exact E3)(hd:RI x:=by decide)(eZ:v8 x:=by decide)(iR:attributeBase (.Name x p) "pop" X.env (eval (.Name x p) X.env)=eval (.Name x p) X.env:=by rfl) (kC:(ZO.endLine == bg.line)=true:=by rfl):PV X (.Call (.Attribute (.Name x p) "pop" ZO) [] [] bg) (CT i):=λs σ H ρ Q E I o=>by
 unfold CT at o;split at o;rename_i xs q;split at o;rename_i d q2;obtain⟨l,hu,hl⟩:=I.ownAt hN hv q;obtain⟨us,n,r,hg,z⟩:=I.lo hl;rw[List.getLast?_eq_getElem?] at q2;obtain⟨u,VQ,ru⟩:=r.get q2;refine wpAny_Call_method0_late iR kC<|bx I hv hu ⟨"list",_,PySem.F.plainAttrs_list,PySem.F.slot_list_pop,PySem.F.type_list_pop,⟨_,hg,rfl⟩,λa e=>by cases e;exact⟨_,hg,rfl⟩,M3 rfl<|PySem.evalArgs_none ?_⟩ hd eZ;have hy:us.toArray[us.toArray.size-1]?=some u:=by rw[Yl,r.length];simpa using VQ
 refine vi F.slot_list_pop ⟨_,hg,rfl⟩ F.entry_list_pop (F.args_list_pop_1 _) (MeetsSeq.list_pop_last l us.toArray n u hy (by rw[Yl,r.length];exact z)) ⟨hg,?_⟩;have I2:=I.lw (its':=us.dropLast) hl hg (f:=λa=>a.eraseIdxIfInBounds<|us.toArray.size-1) (by rw[Yl,List.eraseIdxIfInBounds_toArray,Q01]) (ds':=xs.dropLast) (by rw[List.dropLast_eq_take,List.dropLast_eq_take,r.length];exact r.take _) (by rw[List.length_dropLast];lia);exact o _ _ _ I2 (Le.ow hl)<|ru.le<|Le.ow hl;exact o.elim;exact o.elim
theorem Eu(i:Nat){p1 p2 p3:Pos}{fk fv:M D}{value:Expr}(hk:PV X b fk)(MR:PV X value fv)(hN:X.N[i]?=some x:=by rfl)(hv:ij X.env.scope x:=by exact E3)(hd:RI x:=by decide)(eZ:v8 x:=by decide)
  (ha:∀v,assign (.Subscript (.Name x p1) b p2) X.env v=(do
   let ov <-holding [v] (eval (.Name x p1) X.env);let iv <-holding [v,ov] (eval b X.env)
   standAt p2
   holding [v,ov,iv] (setItem ov iv v)
   release [v,ov,iv] []):=by exact A1) (hs:swapsWithSole [.Subscript (.Name x p1) b p2] value p3.line X.env=pure false:=by rfl) (hw:swappedStores [.Subscript (.Name x p1) b p2] value X.env=pure none:=by rfl)
  (h1:(assignEach [.Subscript (.Name x p1) b p2] X.env).map (·.2)=[assign (.Subscript (.Name x p1) b p2) X.env]:=by rfl):ja X (.Assign [.Subscript (.Name x p1) b p2] value p3) (ke i fk fv):=λs σ H ρ Q E I o=>
 wpAny_Assign_stores (MR.Tp I o (λ_ _ q=>q.x) λs1 H1 aS v d1 I1 l1 r1 o1=>by
  rw[h1];show wpAny X.M X.A (assign (.Subscript (.Name x p1) b p2) X.env v) _ E s1;rw[ha];split at o1;rename_i hL;obtain⟨xs,hq⟩:=isLst_own hL;obtain⟨l,hu,hl⟩:=I1.ownAt hN hv hq;refine Qf<|Tr<|bx I1 hv hu (Qf<|Tr<|hk.Tp I1 o1 (λ_ _ q=>(q.le l1).x) λs2 H2 pX iv k I2 l2 r2 o2=>?_) hd eZ;refine Qf<|OE<|Qf<|Tr ?_;obtain⟨d0,d2,q0,q1,kk⟩:=jA o2.Tp;obtain⟨l',yt,pG⟩:=I2.ownAt hN hv q0;rw[hu] at yt;cases yt;cases d0 with
  |lst xs=>
   cases k with
   |int k=>
    simp only[setAt] at q1;cases q2:mj xs.length k with
    |none=>rw[q2] at q1;cases q1|some j=>
     rw[q2] at q1;cases q1;obtain⟨t,rfl⟩:=r2;obtain⟨us,n,r,hg,z⟩:=I2.lo pG;have hj:Qg us.length k=some j:=by rw[r.length];exact q2
     obtain⟨h1,h2,h3,h4⟩:=rJ hj;have hn:=oG;have YL:=r.length;have fin:wpAny X.M X.A (release [v,.ref l,.int k t] []) (λ_=>Q .next) E {s2 with heap:=s2.heap.update l (Obj.mapSeq (·.setIfInBounds j v))}:=wpAny_release<|kk _ _ _ _ (I2.lw (its':=us.set j v) (f:=(·.setIfInBounds j v)) pG hg Qj (aC.set (r1.le l2) j r) (by rw[List.length_set];exact z)) (l1.trans<|l2.trans<|Le.ow pG) rfl;by_cases h0:0<=k;rw[seqIndex_of h0 h4] at h1;exact W.ki_setAt hg h0 Uz (by rw[Yl];exact h4) (by rw[Qe h1];exact fin);rw[seqIndex_neg Uz h3] at h1;exact W.ki_setBack hg Uz (by rw[Yl];exact h3) Uz (by rw[Yl,Qe h1];exact fin)
   |_=>cases q1
  |_=>cases q1
  exact o1.elim) hs hw
theorem a7:th X [] (mL []):=λpos s σ H ρ Q E I o=>Nd (o s H [] I Le.refl .nil)
theorem aB{fl:List (M D)}(ha:PV X e fe)(hr:th X es (mL fl))(hs:Wj X e es:=by rfl):th X (e::es) (mL (fe::fl)):=λpos s σ H ρ Q E I o=>by rw[hs];refine VG (rest:=backTo pos<|starEach es X.env) (ha.Tp I o (λ_ _ q=>q) λs1 H1 aS v d I1 l1 r1 o1=>(hr pos).Tp I1 o1 (λ_ _ q=>q.le l1) λs2 H2 pX us ds I2 l2 r2 o2=>o2 s2 H2 _ I2 (l1.trans l2)<|.cons (r1.le l2) r2)
theorem OT{x1}{fl:List (M D)}(h:th X es (mL fl)):PV X (.Tuple es x1 pos) (bY fl):=λs σ H ρ Q E I o=>wpAny_Tuple_spliced ((h pos).Tp I o (λ_ _ q=>q) λs1 H1 aS us ds I1 l1 r1 o1=>by obtain⟨d,e,q⟩:=o1.opt;unfold Hx at e;split at e;cases e;rename_i hz;rw[<-xg] at hz;obtain⟨H',I',l',r'⟩:=I1.Ad s1.toks r1 hz;exact⟨by rw[r1.length];exact hz,q _ H' _ I' (l1.trans l') r'⟩;cases e)
theorem sf{fl:List (M D)}(h:th X es (mL fl)):PF X (.List es pos) (fX fl):=λs σ H ρ Q E I o=>wpAny_List_spliced ((h pos).Tp I o (λ_ _ q=>q) λs1 H1 aS us ds I1 l1 r1 o1=>by obtain⟨d,e,q⟩:=o1.opt;unfold z7 at e;split at e;cases e;rename_i hz;rw[<-xg] at hz;obtain⟨H',I',l',r'⟩:=I1.Ys s1.toks r1 hz;exact⟨by rw[r1.length];exact hz,q _ H' _ I' (l1.trans l') r'⟩;cases e)
end
end WL
end
section
set_option linter.all false
set_option maxRecDepth 100000
namespace WL
open PySem PySem.Spec PyProof.Rows L2 VP
section
variable{X:Cx}{e a b c tg VX:Expr}{fe fa fb:M D}{pos p:Pos}{x:Str}{σ:Sg}{H:Tm}{ρ:ax}{s:Shared}{ds:Vt}{us:SX}{E:Tv}
theorem Inv.turn{t':Nat}{h':Heap}{H':Tm}{fp:V8}(I:Inv X σ H ρ s)(hf:∀b∈fp,(∃o,H b=some (.dg o))/\X.H₀ b=none)(k:∀b o,b∉fp->s.heap.get? b=some o->h'.get? b=some o)(same:∀b,b∉fp->b<s.heap.objs.size->H' b=H b) (new:iA H H'->∀b e,b∈fp\/s.heap.objs.size<=b->H' b=some e->kY X.g H' h' b e/\(∀d i,e≠.ow d i)/\(b∈fp->∃o,e=.dg o)):Inv X σ H' ρ {s with heap:=h',toks:=t'}/\HR fp H H':=by
 have fj:∀{b e},H b=some e->b<s.heap.objs.size:=λq=>I.aL.lt q;have no:∀{b d i},H b=some (.ow d i)->b∉fp:=λ{b d i} q hb=>by obtain⟨⟨o,z⟩,_⟩:=hf b hb;exact ek q z
 have sm:∀b,¬(b∈fp\/s.heap.objs.size<=b)->H' b=H b:=λb z=>same b (λy=>z<|.inl y)<|Nat.lt_of_not_le λy=>z<|.inr y;have Z3:iA H H'->∀{b d i},H' b=some (.ow d i)->H b=some (.ow d i):=λlp {b d i} q=>by by_cases z:b∈fp\/s.heap.objs.size<=b;exact absurd rfl<|(new lp b _ z q).2.1 d i;rw[<-sm b z];exact q
 have lp:iA H H':=λb o d q=>(sm b λz=>z.elim (λz=>by obtain⟨⟨o,y⟩,_⟩:=hf b z;exact ek q y) λz=>absurd (fj q)<|Nat.not_lt.mpr z).trans q;refine⟨I.gen (λb=>b∈fp\/s.heap.objs.size<=b) (λb z=>z.elim (λz=>.inr ?_) .inl) sm (λb o z=>k b o λy=>z<|.inl y) (λlp b e z q=>(new lp b e z q).1) rfl (λl d i q hi=>?_) (λlp i t ht=>⟨t,ht,λv z=>z.mv lp λl d q=>(sm l λz=>z.elim (no q) λz=>absurd (fj q)<|Nat.not_lt.mpr z).trans q⟩) (λb e o z q y=>?_),λb e nb q f=>(same b nb<|fj q).trans q⟩;obtain⟨⟨o,y⟩,h0⟩:=hf b z;exact⟨_,y,trivial,λo' w=>by exact ek h0 w⟩;obtain⟨h1,h2⟩:=I.tg l d i (Z3 lp q) hi;exact⟨h1,λl' d' q'=>h2 l' d'<|Z3 lp q'⟩;rcases z with z|z;exact .inr<|(new lp b e (.inl z) q).2.2 z;exact absurd (fj y) (Nat.not_lt.mpr z)
def pt(H:Tm)(a:Addr)(e:Option En):Tm:=λb=>if b=a then e else H b
theorem Inv.aF{t':Nat}{h':Heap}(I:Inv X σ H ρ s)(hi:H it=some (.dg o))(h0:X.H₀ it=none)(k:∀b o,b≠it->s.heap.get? b=some o->h'.get? b=some o)(n:Option Obj)(hn:∀o',n=some o'->h'.get? it=some o') : Inv X σ (pt H it<|n.map .dg) ρ {s with heap:=h',toks:=t'}/\HR [it] H (pt H it<|n.map .dg):=
 I.turn (λb hb=>by cases List.mem_singleton.mp hb;exact⟨⟨o,hi⟩,h0⟩) (λb o hb=>k b o λz=>hb (by simp[z])) (λb hb _=>YO λz=>hb (by simp[z])) λlp b e hb q=>by
  by_cases z:b=it;subst z;unfold pt at q;rw[YN rfl] at q;cases n with|none=>cases q|some o'=>cases q;exact⟨hn o' rfl,λ_ _ z=>(nomatch z),λ_=>⟨_,rfl⟩⟩
  unfold pt at q;rw[YO z] at q;rcases hb with hb|hb;exact absurd (List.mem_singleton.mp hb) z;exact en (I.aL.fresh hb) q
def iZ(t:Bool)(ds:Vt):D:=if t then .tup ds else .lst ds
def cX(t:Bool)(h:Heap)(it a:Addr)(i:Nat):Prop:=if t then h.IsTupleIter it a i else h.IsListIter it a i
def rI(t:Bool):String:=if t then "tuple_iterator" else "list_iterator"
theorem cX.of{o:Obj}{h:Heap}{t:Bool}{a:Addr}(e:h.get? it=some o)(hc:o.cls=.type (rI t))(hd:o.data=.fields #[.ref a,.int (i:Nat) 0]):cX t h it a i:=by cases t<;>exact⟨o,e,hc,hd⟩
theorem cX.to{h:Heap}{t:Bool}{a:Addr}(x:cX t h it a i):∃o,h.get? it=some o/\o.cls=.type (rI t)/\o.data=.fields #[.ref a,.int (i:Nat) 0]:=by cases t<;>exact x
def iE(t:Bool)(h:Heap)(a:Addr)(aO:Array Value):Prop:=if t then IsTup h a aO else h.IsList a aO
theorem Inv.seq(t:Bool)(I:Inv X σ H ρ s)(r:RW H s v (iZ t ds)):∃a us,v=.ref a/\aC H us ds/\iE t s.heap a us.toArray/\ds.length<=sizeLine:=by cases t;obtain⟨a,us,e,r,p,z⟩:=I.lst r;exact⟨a,us,e,r,p.isList,z⟩;exact I.tup r
theorem de{d:D}(e:b6 d=some ds):∃t,d=iZ t ds:=by cases d<;>first|(cases e;first|exact⟨true,rfl⟩|exact⟨false,rfl⟩)|cases e
def StS(t:Bool)(it q:Addr)(ds:Vt):Nat->Tm->Prop:=λi H=>(∃o,H it=some (.dg o)/\o.cls=.type (rI t)/\o.data=.fields #[.ref q,.int i 0])/\Rel H (.ref q) (iZ t ds)
theorem MZ(g:Gb)(t:Bool)(q it:Addr):tf g tg it [it] ds (StS t it q ds) where
 le:=λi H H' ⟨⟨o,h1,h2⟩,r⟩ l=>⟨⟨o,l _ _ h1 trivial<|.inr R9,h2⟩,r.p l.p⟩
 item:=λX σ i H ρ s d Q E hg hc I h0 ⟨⟨o,h1,h2,h3⟩,r⟩ hd k=>by
  subst hg;obtain⟨q',us,e,rs,sq,hz⟩:=I.seq t<|.inl r;cases e;obtain⟨u,hu,ru⟩:=rs.get hd;have st:=cX.of (I.aL it _ h1) h2 h3;have fin:∀h',cX t h' it q (i+1)->Heap.SameBut it s.heap h'->wpAny X.M X.A (letOwnedTupleGo tg (.ref it) u) (λ_ s2=>Q u s2) E {s with heap:=h'}:=λh' sZ sb=>by
   obtain⟨o',e',c',d'⟩:=sZ.to;obtain⟨I',l'⟩:=I.aF (t':=s.toks) h1 (h0 it Qj) (λb o hb z=>(sb.2 b hb).trans z) (some o') λ_ z=>by cases z;exact e'
   refine Cb e' c' d' (by cases t<;>decide) (k _ _ u I' l' ?_ ⟨⟨o',YN rfl,c',d'⟩,?_⟩)
   ·exact ru.p λa o d z=>(YO λy=>by subst y;exact ek h1 z).trans z
   ·exact r.p λa o d z=>(YO λy=>by subst y;exact ek h1 z).trans z
  cases t
  ·exact wpAny_pyNext_list_item st sq (x:=u) (by simpa using hu) λh' sZ sb=>⟨u,rfl,fin h' sZ sb⟩
  ·exact wpAny_pyNext_tuple_item st sq (x:=u) (by simpa using hu) λh' sZ sb=>⟨u,rfl,fin h' sZ sb⟩
 done:=λX σ H ρ s Q E hg hc I h0 ⟨⟨o,h1,h2,h3⟩,r⟩ k=>by
  subst hg;obtain⟨q',us,e,rs,sq,hz⟩:=I.seq t<|.inl r;cases e;have st:=cX.of (I.aL it _ h1) h2 h3;have fin:∀h',Heap.ExtBut it s.heap h'->Q {s with heap:=h'}:=λh' eb=>let ⟨I',l'⟩:=I.aF (t':=s.toks) h1 (h0 it Qj) (λb o hb z=>eb b o hb z) none λ_ z=>nomatch z;k _ _ I' l';cases t
  ·exact wpAny_pyNext_list_end (I.ok.hd hc) st sq (by simp[rs.length]) λh' eb=>⟨rfl,fin h' eb⟩
  ·exact wpAny_pyNext_tuple_end (I.ok.hd hc) st sq (by simp[rs.length]) λh' eb=>⟨rfl,fin h' eb⟩
 self:=λA s i H Q E aL ⟨⟨o,h1,h2,h3⟩,r⟩ h=>by
  have st:=cX.of (aL it _ h1) h2 h3;cases t
  ·exact wpAny_pyIter_listiter st h
  ·exact wpAny_pyIter_tupleiter st h
theorem Inv.TL(t':Nat)(I:Inv X σ H ρ s)(o:Obj)(hf:o.isFreed=false:=by rfl):Inv X σ (upd H s.heap.objs.size<|.dg o) ρ {s with heap:=s.heap.push o,toks:=t'}/\Le H (upd H s.heap.objs.size<|.dg o):=I.lay (λb ob e=>VZ _ e) (Wd _) λ_=>Ym _ hf
theorem Inv.AK{H0:Tm}{b:Addr}(I:Inv X σ H ρ s)(l:Le H0 H)(h:s.heap.objs.size<=b):(∀e,H0 b=some e->¬e.fast)/\X.H₀ b=none:=⟨λe q f=>absurd (I.aL.lt<|l _ _ q f)<|Nat.not_lt.mpr h,I.Ny h⟩
theorem sW(h:PV X e fe):q9 X tg e (cR fe):=λs σ H ρ Q E I o=>h.Tp I o (λ_ _ q=>q) λs1 H1 aS v d I1 l1 r1 o1=>by
 obtain⟨ds,e,k⟩:=o1.opt;obtain⟨t,rfl⟩:=de e;obtain⟨q,us,rfl,rs,sq,hz⟩:=I1.seq t<|.inl r1;have fin:∀o:Obj,o.cls=.type (rI t)->o.data=.fields #[.ref q,.int (0:Nat) 0]->o.isFreed=false->Q (.ref s1.heap.objs.size) {s1 with heap:=s1.heap.push o}:=λo hc hd hf=>by obtain⟨I2,l2⟩:=I1.TL s1.toks o hf;refine k _ _ _ [s1.heap.objs.size] _ I2 (l1.trans l2) (MZ X.g t q _) ⟨⟨o,aA,hc,hd⟩,r1.le l2⟩ λb hb=>?_;cases List.mem_singleton.mp hb;exact⟨⟨o,aA⟩,I1.AK l1<|Wd _⟩
 cases t;exact MX sq<|fin _ rfl rfl rfl;exact Pa sq (fin _ rfl rfl rfl)
theorem Q1w(g:Gb)(it:Addr)(lo step:Int)(n:Nat):tf g tg it [it] ((List.range n).map λ(k:Nat)=>.int<|lo+k*step) (λi H=>i<=n/\∃o,H it=some (.dg o)/\∀h:Heap,h.get? it=some o->IsRangeIter h it (lo+(i:Nat)*step) ((n:Int)-(i:Nat)) step) where
 le:=λi H H' ⟨hi,o,h1,h2⟩ l=>⟨hi,o,l _ _ h1 trivial<|.inr R9,h2⟩
 item:=λX σ i H ρ s d Q E hg hc I h0 ⟨hi,o,h1,h2⟩ hd k=>by
  subst hg;have XJ:i<n:=by have:=(List.getElem?_eq_some_iff.mp hd).1;simpa using this
  have qx:d=.int (lo+i*step):=by simpa[XJ] using hd.symm
  subst qx;refine(Walks.range (prog:=X.g.prog) (w:=X.g.w) (I.ok.hd hc) it lo step n).item i s _ _ XJ (h2 _<|I.aL it _ h1) λv h' tk hv sZ kk=>?_;obtain⟨t,rfl⟩:=hv;obtain⟨I',l'⟩:=I.aF (t':=tk) h1 (h0 it Qj) (λb o hb z=>kk b o (by simpa using hb) z) (some _) λ_ z=>by cases z;exact sZ
  refine⟨_,rfl,Cb (s:={s with heap:=h',toks:=tk}) (n:="range_iterator") sZ rfl rfl (by decide)<|k _ _ _ I' l' ⟨t,rfl⟩ ⟨XJ,_,YN rfl,λh e=>?_⟩⟩;exact e
 done:=λX σ H ρ s Q E hg hc I h0 ⟨hi,o,h1,h2⟩ k=>by subst hg;have:=h2 _<|I.aL it _ h1;rw[VE,Hh] at this;exact wpAny_pyNext_range_end (I.ok.hd hc) this Uz λh' eb=>⟨rfl,let ⟨I',l'⟩:=I.aF (t':=s.toks) h1 (h0 it Qj) (λb o hb z=>eb b o hb z) none λ_ z=>nomatch z;k _ _ I' l'⟩
 self:=λA s i H Q E aL ⟨hi,o,h1,h2⟩ h=>wpAny_pyIter_rangeiter (h2 _<|aL it _ h1) h
theorem oZ{Q:Tv}{lo hi step:Int}{t u v:Tok}{tk n:Nat}{H0:Tm}(I:Inv X σ H ρ s)(l0:Le H0 H)(sm:Builtin.Range.small lo hi step=true)(hn:Builtin.Range.rangeSize lo hi step=(n:Int))
  (k:∀(s':Shared)(H':Tm)(it:Addr)(fp:V8)(St:Nat->Tm->Prop),Inv X σ H' ρ s'->Le H0 H'->tf X.g tg it fp ((List.range n).map λ(k:Nat)=>.int<|lo+k*step) St->St 0 H'->(∀b∈fp,(∃o,H' b=some (.dg o))/\(∀e,H0 b=some e->¬e.fast)/\X.H₀ b=none)->Q (.ref it) s') :
  wpAny X.M X.A (pyIter<|.ref s.heap.objs.size) Q E {s with heap:=s.heap.push {cls:=.type "range",data:=.fields #[.int lo t,.int hi u,.int step v]},toks:=tk}:=by
 refine wpAny_pyIter_range (IsRange.new ..) sm ?_;have I1:Inv X σ H ρ {s with heap:=s.heap.push {cls:=.type "range",data:=.fields #[.int lo t,.int hi u,.int step v]},toks:=tk}:=I.kept λb o e=>VZ _ e;obtain⟨I2,l2⟩:=I1.TL tk {cls:=.type "range_iterator",data:=.fields #[rawInt lo,rawInt<|Builtin.Range.rangeSize lo hi step,rawInt step]};refine k _ _ _ [_] _ I2 (l0.trans l2) (Q1w X.g _ lo step n) ⟨ZN _,_,aA,λh e=>?_⟩ λb hb=>by cases List.mem_singleton.mp hb;exact⟨⟨_,aA⟩,I1.AK l0<|Wd _⟩
 rw[hn] at e;show h.get? _=some _;rw[e];simp
theorem aC.one(r:aC H us [d]):∃u,us=[u]/\Rel H u d:=by cases r with|cons r t=>cases t;exact⟨_,rfl,r⟩
theorem fB{fl:List (M D)}{p pos:Pos}(hg:Gl X "range")(hm:X.g.mg "range" = none)(ha:th X [a] (mL fl))(hs:starEach [a] X.env=[(false,eval a X.env)]:=by rfl):q9 X tg (.Call (.Name "range" p) [a] [] pos) (bH fl):=λs σ H ρ Q E I o=>Call_ (lH I hg hm boot_range<|zU ((ha pos).Tp I o (λ_ _ q=>q) λs1 H1 aS us d I1 l1 r1 o1=>by obtain⟨ds,e,k⟩:=o1.opt;unfold sE at e;split at e;rename_i j;obtain⟨u,rfl,t,rfl⟩:=r1.one;split at e;rename_i hb;cases e;refine call_range_1<|oZ (tg:=tg) I1 l1 (small_one Uz Uz hb.1 hb.2) (n:=j.toNat) (by rw[rangeSize_one];split<;>lia) ?_;simp only[Int.mul_one,Int.zero_add];exact k;cases e;cases e) hs rfl)
theorem HF{fl:List (M D)}{p pos:Pos}(hg:Gl X "range")(hm:X.g.mg "range" = none)(ha:th X [a,b,c] (mL fl))(hs:starEach [a,b,c] X.env=[(false,eval a X.env),(false,eval b X.env),(false,eval c X.env)]:=by rfl)(j2:starEach [b,c] X.env=[(false,eval b X.env),(false,eval c X.env)]:=by rfl):q9 X tg (.Call (.Name "range" p) [a,b,c] [] pos) (yF fl):=λs σ H ρ Q E I o=>
 Call_ (lH I hg hm boot_range<|zU ((ha pos).Tp I o (λ_ _ q=>q) λs1 H1 aS us d I1 l1 r1 o1=>by
  obtain⟨ds,e,k⟩:=o1.opt;unfold DP at e;split at e
  ·rename_i i j w;cases r1 with|cons r1 r2=>
   cases r2 with|cons r2 r3=>
   obtain⟨u,rfl,t,rfl⟩:=aC.one r3;obtain⟨t1,rfl⟩:=r1;obtain⟨t2,rfl⟩:=r2;split at e
   ·rename_i hb;obtain⟨rfl,⟨h1,h2⟩,h3,h4⟩:=hb;cases e;refine call_range_3 (by decide) (oZ (tg:=tg) I1 l1 (W.small_down h1 h2 h3 h4) (n:=(i-j).toNat) (by rw[W.rangeSize_downNat]) ?_)<|.inl<|PyProof.noPylong_small (by decide);simp only[Int.mul_neg,Int.mul_one,<-Int.sub_eq_add_neg];exact k
   ·cases e
  ·cases e) (by rw[hs,j2]) (by rw[j2];rfl))
end
end WL
end
section
set_option linter.all false
set_option maxRecDepth 100000
namespace WL
open PySem PySem.Spec PyProof.Rows L2 VP
def jD(fl:ZU)(us:SX):Nat->Addr->Prop:=λi a=>fl[i]?=some true/\us[i]?=some (.ref a)
structure Args(H:Tm)(fl:ZU)(us:SX)(ds:Vt):Prop where
 l1:us.length=fl.length
 l2:ds.length=fl.length
 val:∀(i:Nat) u d,fl[i]?=some false->us[i]?=some u->ds[i]?=some d->Rel H u d
 wy:∀(i:Nat) u d,fl[i]?=some true->us[i]?=some u->ds[i]?=some d->∃l j,u=.ref l/\H l=some (.ow d j)
 uq:∀i j a,jD fl us i a->jD fl us j a->i=j
def raw(fs:V8)(h:Heap)(a:Addr):Option En:=(h.get? a).map λo=>if a∈fs then .jO o else .pin o none
open Classical in
noncomputable def lend(Ln:Nat->Addr->Prop)(fs ex:V8)(h:Heap)(H:Tm):Tm:=λa=>if a∈ex then none else match H a with|some (.pin o d)=>some (.pin o d)|some (.ow d _)=>if k:∃i,Ln i a then some (.ow d k.choose) else raw fs h a|some (.cA b)=>if ∃i,Ln i b then some (.cA b) else raw fs h a|_=>raw fs h a
structure Kf(kf:Addr->Option En->Option En):Prop where
 pin:∀a o d,kf a (some<|.pin o d)=some (.pin o d)
 cA:∀a b,kf a (some<|.cA b)=some (.cA b)
 out:∀a e e',kf a e=some e'->(e=some e'/\((∃o d,e'=.pin o d)\/∃b,e'=.cA b))\/∃d i j,e=some (.ow d i)/\e'=.ow d j
open Classical in
noncomputable def back(n:Nat)(Ln:Nat->Addr->Prop)(kf:Addr->Option En->Option En)(H Hc:Tm):Tm:=λa=>if a<n then(match H a with
  |some (.ow d j)=>if ∃i,Ln i a then kf a (Hc a) else some (.ow d j)|some (.cA b)=>if ∃i,Ln i b then kf a (Hc a) else some (.cA b)|e=>e)
 else kf a (Hc a)
section
variable{Ln:Nat->Addr->Prop}{fs ex:V8}{h h':Heap}{H Hc:Tm}{g:Gb}{n:Nat}{kf:Addr->Option En->Option En}
theorem cQ{e:En}(q:lend Ln fs ex h H a=some e):a∉ex/\((∃o d,e=.pin o d/\H a=some (.pin o d))\/(∃d j i,e=.ow d i/\H a=some (.ow d j)/\Ln i a)\/(∃b i,e=.cA b/\H a=some (.cA b)/\Ln i b)\/(raw fs h a=some e/\e.fast)):=by
 have rf:raw fs h a=some e->e.fast:=λz=>by unfold raw at z;cases y:h.get? a with|none=>rw[y] at z;cases z|some o=>rw[y] at z;cases z;split<;>trivial
 unfold lend at q;split at q;cases q;refine⟨‹_›,?_⟩;split at q;cases q;exact .inl ⟨_,_,rfl,‹_›⟩;split at q;rename_i d j z k;cases q;exact .inr<|.inl ⟨_,_,_,rfl,‹_›,k.choose_spec⟩;exact .inr<|.inr<|.inr ⟨q,rf q⟩;split at q;rename_i b z k;cases q;obtain⟨i,k⟩:=k;exact .inr<|.inr<|.inl ⟨_,i,rfl,‹_›,k⟩;exact .inr<|.inr<|.inr ⟨q,rf q⟩;exact .inr (.inr<|.inr ⟨q,rf q⟩)
theorem fM(hx:a∉ex)(q:H a=some (.pin o d)):lend Ln fs ex h H a=some (.pin o d):=by unfold lend;rw[YO hx,q]
theorem yC(hx:a∉ex)(q:H a=some (.ow d j))(k:Ln i a)(u:∀i' ,Ln i' a->i'=i):lend Ln fs ex h H a=some (.ow d i):=by have k':∃i,Ln i a:=⟨i,k⟩;unfold lend;rw[YO hx];simp only[q,dif_pos k',u _ k'.choose_spec]
theorem kG(hx:a∉ex)(n1:∀o d,H a≠some (.pin o d))(n2:∀d j i,H a=some (.ow d j)->¬Ln i a)(n3:∀b i,H a=some (.cA b)->¬Ln i b):lend Ln fs ex h H a=raw fs h a:=by unfold lend;rw[YO hx];split;exact absurd ‹_›<|n1 _ _;exact dif_neg λ⟨i,k⟩=>n2 _ _ i ‹_› k;exact YO λ⟨i,k⟩=>n3 _ i ‹_› k;rfl
theorem w7(e:h.get? a=some o):raw fs h a=some (if a∈fs then .jO o else .pin o none):=by unfold raw;rw[e];rfl
theorem yB(ok:nB g H h)(hex:∀a∈ex,H a=none):nB g (lend Ln fs ex h H) h:=λa e q=>by
 have nx:∀{b e},H b=some e->b∉ex:=λz y=>by exact en (hex _ y) z
 have lp:iA H (lend Ln fs ex h H):=λb o d z=>fM (nx z) z;rcases (cQ q).2 with ⟨o,d,rfl,z⟩|⟨d,j,i,rfl,z,k⟩|⟨b,i,rfl,z,k⟩|⟨z,_⟩
 have x:=ok a _ z;exact⟨x.1,λe y=>(x.2 e y).mv lp (λ_ z=>z) (λz=>nomatch z) λ_ _ _ z=>z⟩;have x:=ok a _ z;refine⟨x.1.mv lp (λ_ z=>z) (λ_ b y=>?_) λ_ _ _ z=>z,x.2⟩;unfold lend;rw[YO<|nx y,y];exact YN ⟨i,k⟩;exact ok a _ z;unfold raw at z;cases y:h.get? a with|none=>rw[y] at z;cases z|some o=>rw[y] at z;cases z;show kY g _ h a<|if a∈fs then .jO o else .pin o none;split;exact⟨o.slots,y⟩;exact⟨y,λ_ z=>nomatch z⟩
theorem xI(kk:Kf kf)(ok:nB g H h)(hex:∀a∈ex,H a=none)(hn:n=h.objs.size)(Ql:nB g Hc h')(le:Le (lend Ln fs ex h H) Hc)(Sw:∀b∈fs,H b=none\/∃o,H b=some (.jO o))(nw:∀a e,Hc a=some e->lend Ln fs ex h H a=none->n<=a\/∃o,e=.dg o) : nB g (back n Ln kf H Hc) h'/\Le H (back n Ln kf H Hc)/\(∀b o,h.get? b=some o->H b=none->b∉ex->∃sl,h'.get? b=some {o with slots:=sl}/\(b∉fs->sl=o.slots))/\iA Hc (back n Ln kf H Hc)/\∀a d i,Hc a=some (.ow d i)->back n Ln kf H Hc a=kf a (Hc a):=by
 have nx:∀{b e},H b=some e->b∉ex:=λz y=>by exact en (hex _ y) z
 have kp:∀{a o},a∉ex->h.get? a=some o->(∀o d,H a≠some (.pin o d))->(∀d j i,H a=some (.ow d j)->¬Ln i a)->(∀b i,H a=some (.cA b)->¬Ln i b)->∃sl,h'.get? a=some {o with slots:=sl}/\(a∉fs->sl=o.slots):=λ{a o} ha e n1 n2 n3=>by have q:lend Ln fs ex h H a=_:=(kG ha n1 n2 n3).trans<|w7 e;by_cases hb:a∈fs;rw[YN hb] at q;obtain⟨sl,z⟩:=Ql a _<|le a _ q trivial;exact⟨sl,z,λy=>absurd hb y⟩;rw[YO hb] at q;exact⟨o.slots,(Ql a _<|le a _ q trivial).1,λ_=>rfl⟩
 have lt:∀{a e},H a=some e->a<n:=λq=>hn ▸ ok.lt q;have OM:∀{a o d},H a=some (.pin o d)->back n Ln kf H Hc a=some (.pin o d):=λq=>by unfold back;rw[YN<|lt q,q]
 have AP:∀{a e},H a=some e->(∀d j i,e=.ow d j->¬Ln i a)->(∀b i,e=.cA b->¬Ln i b)->back n Ln kf H Hc a=some e:=λ{a e} q n2 n3=>by unfold back;rw[YN<|lt q,q];cases e with|ow d j=>exact YO λ⟨i,k⟩=>n2 _ _ i rfl k|cA b=>exact YO λ⟨i,k⟩=>n3 _ i rfl k|_=>rfl
 have wu:∀{a d j i},H a=some (.ow d j)->Ln i a->back n Ln kf H Hc a=kf a (Hc a):=λq k=>by unfold back;rw[YN<|lt q,q];exact YN ⟨_,k⟩
 have Kd:∀{a b i},H a=some (.cA b)->Ln i b->back n Ln kf H Hc a=kf a (Hc a):=λq k=>by unfold back;rw[YN<|lt q,q];exact YN ⟨_,k⟩
 have new:∀{a},¬a<n->back n Ln kf H Hc a=kf a (Hc a):=λfj=>by unfold back;exact YO fj
 have keep:∀{a e},Hc a=some e->(∀o,e≠.jO o)->(∀o,e≠.dg o)->(∀o,e≠.pin o none)->back n Ln kf H Hc a=kf a (Hc a)\/∃o d,e=.pin o d/\back n Ln kf H Hc a=some (.pin o d):=λ{a e} q f1 f2 f3=>by
  by_cases fj:a<n;cases z:lend Ln fs ex h H a with
  |none=>rcases nw a _ q z with y|⟨o,rfl⟩;exact absurd fj<|Nat.not_lt.mpr y;exact absurd rfl (f2 o)
  |some e'=>
   rcases (cQ z).2 with ⟨o',d',rfl,y⟩|⟨d',j,i,rfl,y,k⟩|⟨b,i,rfl,y,k⟩|⟨y,f⟩
   have:=le a _ z trivial;obtain rfl:=sj q this;exact .inr ⟨_,_,rfl,OM y⟩;exact .inl<|wu y k;exact .inl<|Kd y k;have:=le a _ z f;obtain rfl:=sj q this;unfold raw at y;cases w:h.get? a with|none=>rw[w] at y;cases y|some o=>rw[w] at y;have y':=Qe y;split at y';exact absurd y'.symm<|f1 o;exact absurd y'.symm (f3 o)
  exact .inl (new fj)
 have lp:iA Hc (back n Ln kf H Hc):=λa o d q=>(keep q (λ_ z=>nomatch z) (λ_ z=>nomatch z) λ_ z=>by cases z).elim (λz=>by rw[z,q];exact kk.pin a o _) λ⟨_,_,y,z⟩=>by cases y;exact z
 have W6:∀{a b},Hc b=some (.cA a)->back n Ln kf H Hc b=some (.cA a):=λ{a b} q=>(keep q (λ_ z=>nomatch z) (λ_ z=>nomatch z) λ_ z=>nomatch z).elim (λz=>by rw[z,q];exact kk.cA b a) λ⟨_,_,y,_⟩=>nomatch y;have ZT:iA H (back n Ln kf H Hc):=λa o d q=>OM q;have V4:∀{a o e},H a=some e->h.get? a=some o->(∀o d,e≠.pin o d)->(∀d j i,e=.ow d j->¬Ln i a)->(∀b i,e=.cA b->¬Ln i b)->(∀o,e≠.jO o)->h'.get? a=some o:=λ{a o e} q w n1 n2 n3 n4=>by obtain⟨sl,z,y⟩:=kp (nx q) w (λo d z=>n1 o d (by obtain rfl:=sj q z;rfl)) (λd j i z=>n2 d j i (by obtain rfl:=sj q z;rfl)) λb i z=>n3 b i (by obtain rfl:=sj q z;rfl);rw[y λhb=>(Sw a hb).elim (λz=>by rw[q] at z;cases z) λ⟨o,z⟩=>by obtain rfl:=sj q z;exact n4 o rfl] at z;exact z
 have pk:∀{a o d},H a=some (.pin o d)->h'.get? a=some o:=λq=>(Ql _ _<|le _ _ (fM (nx q) q) trivial).1;have kE:∀{a e},kf a (Hc a)=some e->kY g (back n Ln kf H Hc) h' a e:=λ{a e} q=>by
  rcases kk.out a _ e q with ⟨w,⟨o,d,rfl⟩|⟨b,rfl⟩⟩|⟨d,i,j,w,rfl⟩
  have y:=Ql a _ w;exact⟨y.1,λe z=>(y.2 e z).mv lp (λ_ z=>z) (λz=>nomatch z) λ_ _ _ z=>z⟩;exact Ql a _ w;have y:=Ql a _ w;exact⟨y.1.mv lp (λ_ z=>z) (λ_ b z=>W6 z) λ_ _ _ z=>z,y.2⟩
 refine⟨λa e q=>?_,λa e q f=>AP q (by rintro d j i rfl;exact f.elim) (by rintro b i rfl;exact f.elim),λb o e z hx=>kp hx e (by rw[z];exactλ_ _ z=>nomatch z) (by rw[z];exactλ_ _ _ z=>nomatch z) (by rw[z];exactλ_ _ z=>nomatch z),lp,λa d i q=>(keep q (λ_ z=>nomatch z) (λ_ z=>nomatch z) λ_ z=>nomatch z).elim id λ⟨_,_,y,_⟩=>nomatch y⟩;by_cases fj:a<n;cases z:H a with
 |none=>unfold back at q;rw[YN fj,z] at q;cases q|some e0=>
  have x:=ok a e0 z;cases e0 with
  |pin o d=>
   obtain rfl:=sj (OM z) q;refine⟨pk z,λe y=>(x.2 e y).mv ZT (λo' w=>?_) (λz=>nomatch z) λb o' w y=>?_⟩;obtain rfl:=sj x.1 w;exact pk z;rcases w with ⟨w,_⟩|⟨_,_,w⟩
   cases w;obtain rfl:=sj ((ok b _ w).1) y;exact pk w
  |ow d j=>
   by_cases k:∃i,Ln i a;obtain⟨i,k⟩:=k;rw[wu z k] at q;exact kE q;have k':∀i,¬Ln i a:=λi y=>k ⟨i,y⟩;obtain rfl:=sj (AP z (λ_ _ i _=>k' i) (by rintro _ _ z;cases z)) q;refine⟨x.1.mv ZT (λo w=>V4 z w (λ_ _ z=>nomatch z) (λ_ _ i _=>k' i) (λ_ _ z=>nomatch z) λ_ z=>nomatch z) (λ_ b w=>AP w (by rintro _ _ _ w;cases w) (by intro c i w;cases w;exact k' i)) λb o w y=>?_,x.2⟩;rcases w with ⟨_,w⟩|⟨w,_⟩
   exact V4 w y (λ_ _ z=>nomatch z) (λ_ _ _ z=>nomatch z) (λc i z=>by cases z;exact k' i) λ_ z=>nomatch z;cases w
  |cA b=>by_cases k:∃i,Ln i b;obtain⟨i,k⟩:=k;rw[Kd z k] at q;exact kE q;have k':∀i,¬Ln i b:=λi y=>k ⟨i,y⟩;obtain rfl:=sj (AP z (by rintro _ _ _ z;cases z) (by intro c i w;cases w;exact k' i)) q;obtain⟨o,w⟩:=x;exact⟨o,V4 z w (λ_ _ z=>nomatch z) (λ_ _ _ z=>nomatch z) (λc i z=>by cases z;exact k' i) λ_ z=>nomatch z⟩|jO o=>obtain rfl:=sj (AP z (by rintro _ _ _ z;cases z) (by rintro _ _ z;cases z)) q;obtain⟨sl,w⟩:=x;obtain⟨Hj,w',_⟩:=kp (nx z) w (by rw[z];exactλ_ _ z=>nomatch z) (by rw[z];exactλ_ _ _ z=>nomatch z) (by rw[z];exactλ_ _ z=>nomatch z);exact⟨Hj,w'⟩|dg o=>obtain rfl:=sj (AP z (by rintro _ _ _ z;cases z) (by rintro _ _ z;cases z)) q;exact V4 z x (λ_ _ z=>nomatch z) (λ_ _ _ z=>nomatch z) (λ_ _ z=>nomatch z) λ_ z=>nomatch z
 rw[new fj] at q;exact kE q
end
end WL
end
section
set_option linter.all false
set_option maxRecDepth 100000
namespace WL
open PySem PySem.Spec PyProof.Rows L2 VP
structure AU(g:Gb)(A:Around)(outer:List Env)(s:Shared)(H:Tm):Prop where
 frames:A.frames=some outer
 mod:Mod g.K g.mg g.base
 bs:∀b o,g.base.get? b=some o->H b=some (.pin o<|D4 g.K b)
 EI:g.base.objs.size<=s.heap.objs.size
 fr:∀e∈outer,e.scope.kind≠.module/\∃L o,e.frame=some L/\g.base.get? L=none/\s.heap.get? L=some o/\∀vs,o.data≠.fields vs
 B6:∀b∈oq outer,H b=none\/∃o,H b=some (.jO o)
 aL:nB g H s.heap
 bare:AllBare s.gens
def qA:ZU->Vt->Nat->Option D|true::_,d::_,0=>some d|true::bs,_::ds,i+1=>qA bs ds i|false::bs,ds,i+1=>qA bs ds i|_,_,_=>none
structure After(g:Gb)(outer:List Env)(H:Tm)(s:Shared)(fl:ZU)(us:SX)(ios:Vt)(H':Tm)(s':Shared):Prop where
 os:s'.os=s.os
 bare:AllBare s'.gens
 aL:nB g H' s'.heap
 le:Le H H'
 unt:∀b o,s.heap.get? b=some o->H b=none->∃sl,s'.heap.get? b=some {o with slots:=sl}/\(b∉oq outer->sl=o.slots)
 nn:∀a e,H' a=some e->H a≠none\/s.heap.objs.size<=a
 ow:∀a d j,H a=some (.ow d j)->(∀i,¬jD fl us i a)->H' a=some (.ow d j)
 Z5:∀a d j,H' a=some (.ow d j)->∃d0,H a=some (.ow d0 j)
 wu:∀i a d j,jD fl us i a->H a=some (.ow d j)->∃d',qA fl ios i=some d'/\H' a=some (.ow d' j)
def Q14:FR->(D->Vt->Prop)->(Xn->Vt->Prop)->Prop|.ok d ios,P,_=>P d ios|.exc x ios,_,E=>E x ios|.no,_,_=>False
def pY(c:Bool)(g:Gb)(k:Nat)(f:Addr)(fd:FuncData)(ps:Xa)(fl:ZU)(fn:Fn):Prop:=∀(A:Around)(outer:List Env)(s:Shared)(H:Tm)(us:SX)(ds:Vt)(args:PySem.Args)(R:Result->Shared->Prop),cond c (bA k A) (VS.fE k A)->AU g A outer s H->BindsTo s fd args (ps.zip us)->Args H fl us ds->Q14 (fn ds) (λd ios=>∀s' H' v,After g outer H s fl us ios H' s'->Rel H' v d->R (.ok<|.ret v) s') (λx ios=>∀s' H' v,After g outer H s fl us ios H' s'->EH g s.heap.objs.size H' s' v x->R (.error v) s')->codeAny (model g.prog g.w) A (.call (.ref f) args) R s
abbrev pJ(g:Gb)(k:Nat)(f:Addr)(fd:FuncData)(ps:Xa)(fl:ZU)(fn:Fn):Prop:=pY true g k f fd ps fl fn
def Vz(c:Bool)(g:Gb)(N:Xa)(fl:ZU)(us:SX)(P8:Str)(scope:Scope)(f:Addr)(cd:Value)(A:Around)(outer:List Env)(s:Shared)(H:Tm):Cx where
 g:=g
 A:=A.deeper (envOfC P8 scope s.heap.objs.size f cd)
 N:=N
 env:=envOfC P8 scope s.heap.objs.size f cd
 outer:=outer
 stack:=envOfC P8 scope s.heap.objs.size f cd::outer
 fn:=true
 calm:=c
 io:=jD fl us
 H₀:=lend (jD fl us) (oq outer) [] s.heap H
 n₀:=s.heap.objs.size
 os:=s.os
noncomputable abbrev RQ(g:Gb)(N:Xa)(fl:ZU)(us:SX)(P8:Str)(scope:Scope)(f:Addr)(cd:Value)(A:Around)(outer:List Env)(s:Shared)(H:Tm):Cx:=Vz true g N fl us P8 scope f cd A outer s H
section
variable{g:Gb}{N ps:Xa}{fl:ZU}{us:SX}{ds:Vt}{P8:Str}{scope:Scope}{f:Addr}{cd:Value}{A:Around}{outer:List Env}{s:Shared}{H:Tm}
theorem pA:∀{n:Nat}{fl:ZU}{ds:Vt},fl.length=ds.length->∀(i:Nat)(s:Sl),(aU n fl ds)[i]?=some s->(∃b d,fl[i]?=some b/\ds[i]?=some d/\s=(if b then .io d else .sh d))\/s=.no|n,[],[],_,i,s,h=>by simp only[aU] at h;exact .inr (List.eq_of_mem_replicate<|Rb h)|n,b::bs,d::ds,hl,0,s,h=>by simp[aU] at h;exact .inl ⟨b,d,rfl,rfl,h.symm⟩|n,b::bs,d::ds,hl,i+1,s,h=>pA (fl:=bs) (ds:=ds) (Nat.succ.inj hl) i s (by simpa[aU] using h)
theorem kg:∀{n:Nat}{fl:ZU}{ds:Vt},fl.length=ds.length->fl.length<=n->(aU n fl ds).length=n|n,[],[],_,_=>by simp[aU]|n,b::bs,d::ds,hl,hn=>by simp only[List.length_cons] at hn;simp only[aU,List.length_cons];rw[kg (Nat.succ.inj hl) Uz];lia
theorem qW:∀{n:Nat}{fl:ZU}{ds:Vt}{i:Nat}{d:D},fl[i]?=some true->ds[i]?=some d->(aU n fl ds)[i]?=some (.io d)|n,b::bs,d::ds,0,e,h1,h2=>by simp at h1 h2;subst h1 h2;rfl|n,b::bs,d::ds,i+1,e,h1,h2=>by simpa[aU] using qW (n:=n-1) (fl:=bs) (ds:=ds) (i:=i) (by simpa using h1) (by simpa using h2)
theorem xB{ps:Xa}{us:SX}{i:Nat}{x:Str}{u:Value}(nd:ps.Nodup)(h1:ps[i]?=some x)(h2:us[i]?=some u):(ps.zip us).lookup x=some u:=by induction ps generalizing us i with|nil=>cases h1|cons p ps ih=>cases us with|nil=>cases h2|cons v us=>rw[List.zip_cons_cons,wR];cases i with|zero=>cases h1;cases h2;rw[beq_self_eq_true]|succ i=>rw[beq_eq_false_iff_ne.mpr λ(z:x=p)=>(List.nodup_cons.mp nd).1<|z ▸ Rb h1];exact ih (List.nodup_cons.mp nd).2 h1 h2
theorem zX{ps:Xa}{us:SX}{x:Str}{u:Value}(h:(ps.zip us).lookup x=some u):∃i:Nat,ps[i]?=some x/\us[i]?=some u:=by induction ps generalizing us with|nil=>cases h|cons p ps ih=>cases us with|nil=>cases h|cons v us=>rw[List.zip_cons_cons,wR] at h;cases z:x == p with|true=>rw[z] at h;obtain rfl:=Qe h;obtain rfl:=eq_of_beq z;exact⟨0,rfl,rfl⟩|false=>rw[z] at h;obtain⟨i,a,b⟩:=ih h;exact⟨i+1,a,b⟩
theorem zS{c:Bool}{s1:Shared}(S:dZ N ps scope)(hd:c=true->A.handled=none)(e0:AU g A outer s H)(hp:fl.length=ps.length)(a:Args H fl us ds)
  (x:InCallC s s.heap.objs.size (bindL (envOfC P8 scope s.heap.objs.size f cd).kindOf (ps.zip us) λ_=>none) (cellsFrom (s.heap.objs.size+1) scope.names []) (bindC (envOfC P8 scope s.heap.objs.size f cd).kindOf (ps.zip us) λ_=>none) s1) :
  Inv (Vz c g N fl us P8 scope f cd A outer s H) (λx=>(ps.zip us).lookup x) (lend (jD fl us) (oq outer) [] s.heap H) (aU N.length fl ds) s1:=by
 have gV:ps.length<=N.length:=by have:=congrArg List.length S.pre;rw[Eh] at this;lia
 have Yq:ps.Nodup:=by rw[<-S.pre];exact S.nd.sublist (List.take_sublist _ _)
 obtain⟨h1,tk,rfl,hk⟩:=x.done;have nl:∀a:Addr,a∉([]:V8):=λa z=>nomatch z;have ok:=yB (Ln:=jD fl us) (fs:=oq outer) (ex:=[]) e0.aL λa z=>absurd z<|nl a;have fresh:∀{b},s.heap.objs.size<=b->lend (jD fl us) (oq outer) [] s.heap H b=none:=λh=>ok.fresh h;have pN:∀{i:Nat} {y},N[i]?=some y->i<ps.length->ps[i]?=some y:=λh1 h2=>by rw[<-S.pre,C7 h2];exact h1
 refine⟨⟨e0.mod,S.kind,rfl,rfl,λy z c h1 h2=>name_of_addr x.apart (Og h1) (Og h2),λy hy=>?_,hd,Around.frames_deeper e0.frames,⟨rfl,rfl⟩,⟨_,_,_,rfl,rfl,rfl⟩,λb o e=>?_,e0.EI,λb e q=>ok.lt q,λe he=>?_,Wd _⟩,rfl,e0.bare,Le.refl,λb e q n=>(nomatch q.symm.trans n),λb e q=>?_,⟨_,x.toInCall.ns,λy u v q=>?_⟩,λi sl q=>?_,λl d i q hi=>?_,fresh (Wd _),λy c h=>⟨⟨_,x.cell y c h⟩,.inl<|fresh<|Nat.le_of_lt<|x.above y c<|Og h⟩,kg (by rw[a.l2]) (by rw[hp];exact gV)⟩;have hy:scope.names.lookup y=some .cell\/scope.names.lookup y=some .free:=hy;rcases hy with hy|hy;exact tV hy;exact absurd rfl<|S.NB _<|Og hy;exact fM (nl _)<|e0.bs b o e;obtain⟨a1,L,o,a2,a3,a4,a5⟩:=e0.fr e he;have hm:L∈oq outer:=List.mem_filterMap.mpr ⟨e,he,a2⟩;refine⟨a1,L,o,a2,a3,?_,a5⟩;have n:=e0.B6 L hm;show lend (jD fl us) (oq outer) [] s.heap H L=_;rw[kG (nl _) (λo d z=>by rcases n with n|⟨_,n⟩<;>(exact ek n z)) (λd j i z=>by rcases n with n|⟨_,n⟩<;>(exact ek n z)) (λd j z=>by rcases n with n|⟨_,n⟩<;>(exact ek n z))];unfold raw;rw[a4];exact congrArg some<|YN hm;exact ok.gen (h':=h1) (λ_=>False) (λ_ _ z=>z.elim) (λ_ _=>rfl) (λb o _=>hk b o) (λ_ _ _ z=>z.elim) b e q;obtain⟨i,h1,h2⟩:=zX q;rcases S.par y (Rb h1) with k|k;exact .inl ⟨k,qe Yq h1 h2 k⟩;obtain⟨c,e⟩:=tV (n:=s.heap.objs.size+1) k;refine .inr ⟨.inl k,c,e,?_⟩;have q:=x.cell y c e;rw[qb Yq h1 h2 (by show scope.names.lookup y≠_;rw[k];decide)] at q;exact q;have hi:i<N.length:=by rw[<-kg (n:=N.length) (fl:=fl) (ds:=ds) a.l2.symm (by rw[hp];exact gV)];exact(List.getElem?_eq_some_iff.mp q).1
 have Zy:N[i]?=some N[i]:=Te hi;refine⟨N[i],Zy,?_⟩;rcases pA a.l2.symm i sl q with ⟨b,d,h1,h2,rfl⟩|rfl
 have Ck:i<us.length:=by rw[a.l1];exact(List.getElem?_eq_some_iff.mp h1).1
 have hu:us[i]?=some us[i]:=by simp[Ck]
 have lk:=xB Yq (pN Zy (by rw[<-hp,<-a.l1];exact Ck)) hu;cases b with|false=>exact⟨us[i],lk,(a.val i _ d h1 hu h2).p λb o d z=>fM (nl _) z⟩|true=>obtain⟨l,j,e,hl⟩:=a.wy i _ d h1 hu h2;rw[e] at lk hu;exact⟨l,lk,yC (nl _) hl ⟨h1,hu⟩ λi' k=>a.uq i' i l k ⟨h1,hu⟩,h1,hu⟩
 trivial;rcases (cQ q).2 with ⟨o,d',z,_⟩|⟨d',j,i',z,y,k⟩|⟨b,i',z,_⟩|⟨_,z⟩
 cases z;cases z;have Ck:i<ds.length:=by rw[a.l2];exact(List.getElem?_eq_some_iff.mp k.1).1
 obtain⟨l',j',e',pG⟩:=a.wy i _ ds[i] k.1 k.2 (by simp[Ck]);cases e';rw[y] at pG;injection pG with pG;injection pG with h3 h4;refine⟨.inr (qW k.1 (by rw[h3];simp[Ck])),λl2 d2 q2=>?_⟩;rcases (cQ q2).2 with ⟨_,_,z,_⟩|⟨_,_,_,z,_,k2⟩|⟨_,_,z,_⟩|⟨_,z⟩
 cases z;cases z;have:=k.2;rw[k2.2] at this;cases this;rfl;cases z;exact z.elim;cases z;exact z.elim
theorem oE:∀{fl:ZU}{ρ:ax}{ios:Vt}{i:Nat},bp fl ρ=some ios->fl[i]?=some true->∃d,qA fl ios i=some d/\ρ[i]?=some (.io d)
|true::bs,.io d::r,ios,i,h,hi=>by simp only[bp] at h;cases q:bp bs r with|none=>rw[q] at h;cases h|some ab2=>rw[q] at h;cases h;cases i with|zero=>exact⟨d,rfl,rfl⟩|succ i=>exact oE (i:=i) q hi
|false::bs,_::r,ios,i+1,h,hi=>oE (fl:=bs) (i:=i) h hi|[],_,_,i,_,hi=>by simp at hi
open Classical in
noncomputable def S7(Ln:Nat->Addr->Prop)(H:Tm)(a:Addr):Option En->Option En
|some (.pin o d)=>some (.pin o d)|some (.cA b)=>some (.cA b)|some (.ow d _)=>match H a with
  |some (.ow _ j)=>if ∃i,Ln i a then some (.ow d j) else none|_=>none
 |_=>none
theorem wm{Ln:Nat->Addr->Prop}{e:Option En}(h:S7 Ln H a e=some (.ow d j)):∃d0,H a=some (.ow d0 j):=by unfold S7 at h;split at h;cases h;cases h;split at h;split at h;cases h;exact⟨_,‹_›⟩;cases h;cases h;cases h
theorem Q1n{Ln:Nat->Addr->Prop}:Kf (S7 Ln H):=⟨λ_ _ _=>rfl,λ_ _=>rfl,λa e e' h=>by unfold S7 at h;split at h;cases h;exact .inl ⟨rfl,.inl ⟨_,_,rfl⟩⟩;cases h;exact .inl ⟨rfl,.inr ⟨_,rfl⟩⟩;split at h;split at h;cases h;exact .inr ⟨_,_,_,rfl,rfl⟩;cases h;cases h;cases h⟩
theorem nJ{c:Bool}{s':Shared}{cV:Sg}{Hc:Tm}{a9:ax}{ios:Vt}(S:dZ N ps scope)(hp:fl.length=ps.length)(e0:AU g A outer s H)(J:Inv (Vz c g N fl us P8 scope f cd A outer s H) cV Hc a9 s')(hi:bp fl a9=some ios) : ∃H',After g outer H s fl us ios H' s'/\iA Hc H'/\∀b,s.heap.objs.size<=b->Hc b=none->H' b=none:=by
 have ZG:∀i l d j,jD fl us i l->H l=some (.ow d j)->∃d',qA fl ios i=some d'/\Hc l=some (.ow d' i):=λi l d j k q=>by obtain⟨d',h1,h2⟩:=oE hi k.1;obtain⟨x,hx,r⟩:=J.slot i _ h2;obtain⟨l',_,h3,h4⟩:=r;have:=k.2;rw[h4.2] at this;cases this;exact⟨d',h1,h3⟩
 obtain⟨h1,h2,h3,h4,_⟩:=xI (n:=s.heap.objs.size) (Ln:=jD fl us) (ex:=[]) (fs:=oq outer) (Q1n (Ln:=jD fl us) (H:=H)) e0.aL (λa z=>(nomatch z)) rfl J.aL J.le e0.B6 J.nw;refine⟨_,⟨J.os,J.bare,h1,h2,λb o e z=>h3 b o e z (λy=>nomatch y),λa e q=>?_,λa d j q k=>?_,λa d j q=>?_,λi a d j k q=>?_⟩,h4,λb hb q=>?_⟩;by_cases fj:a<s.heap.objs.size;refine .inl λz=>?_;unfold back at q;rw[YN fj,z] at q;cases q;exact .inr<|Nat.le_of_not_lt fj;unfold back;rw[YN<|e0.aL.lt q,q];exact YO λ⟨i,z⟩=>k i z;unfold back at q;split at q;split at q;rename_i d0 j0 z;split at q;exact wm q;cases q;exact⟨_,z⟩;split at q;exact wm q;cases q;rename_i n _;exact absurd q<|n d j;exact wm q;obtain⟨d',z,y⟩:=ZG i a d j k q;refine⟨d',z,?_⟩;unfold back;rw[YN<|e0.aL.lt q];simp only[q];rw[YN ⟨i,k⟩,y];unfold S7;simp only[q];exact YN ⟨i,k⟩;unfold back;rw[YO<|Nat.not_lt.mpr hb,q];rfl
theorem rmC{c:Bool}(hr:cond c (bA (k+1) A) (VS.fE (k+1) A)):A.depth<recursionLimit/\(c=true->A.handled=none)/\∀env,cond c (bA k<|A.deeper env) (VS.fE k<|A.deeper env):=by cases c;exact⟨VS.fE.depth hr,(λz=>nomatch z),λenv=>VS.fE.deeper hr env⟩;exact⟨bA.depth hr,λ_=>bA.hd hr,λenv=>bA.deeper hr env⟩
theorem Mu{c:Bool}{x:Str}{st:Stmt}{fd:FuncData}{k:Nat}{body:M Fl}(Fu:EF g.K x P8 st f fd)(S:dZ N ps (az st))(hl:fl.length=ps.length)(Cf:∀us jK A outer s H,cond c (bA k<|A.deeper<|envOfC P8 (az st) s.heap.objs.size f jK) (VS.fE k<|A.deeper<|envOfC P8 (az st) s.heap.objs.size f jK)->gr (Vz c g N fl us P8 (az st) f jK A outer s H) (bC st) body):pY c g (k+1) f fd ps fl (defn N.length fl body):=λA outer s H us ds args R hr e0 hb a h=>by
 obtain⟨rd,rh,rdd⟩:=rmC hr;obtain⟨oc,od,kV,doc,pm,an,jK,ct,Ot,rfl,lk,eZ⟩:=Fu.ex;have keep:∀b o,g.base.get? b=some o->s.heap.get? b=some o:=λb o e=>(e0.aL b _<|e0.bs b o e).1;have KX:g.K.In s.heap:=e0.mod.lG.keeps keep;have lim:s.heap.NoLimit:=e0.mod.nolimit.keeps keep;have SE:∀y∈ps.zip us,(az st).names.lookup y.1=some .local\/((az st).names.lookup y.1=some .cell/\((cellsFrom (s.heap.objs.size+1) (az st).names []).lookup y.1).isSome=true):=λ⟨n,v⟩ hy=>by rcases S.par n (CE hy).1 with q|q;exact .inl q;exact .inr ⟨q,W.cellsFrom_some _ _ _<|.inl q⟩
 refine codeAny_call_function rd (KX _ _ lk) rfl S.co S.gen rfl (W.codeRec_of KX eZ)<|hb _ _ _ _ ?_;refine wpAny_newFunctionEnv_cells S.kind SE λenv he s1 x=>?_;subst he;refine⟨lim.keeps x.toInCall.keep,codeAny_func ?_⟩;have I:=zS (cd:=jK) S rh e0 hl a x;refine Cf us jK A outer s H (rdd _) s1 _ _ _ _ _ I ?_;unfold defn at h;rw[YN a.l2] at h;generalize body (aU N.length fl ds)=B at h;cases B with
  |no=>exact h.elim|exc z a9=>cases q:bp fl a9 with|none=>simp only[q] at h;exact h.elim|some ios=>simp only[q] at h;intro s' cV H' v J _ r;obtain⟨e,C,dx,rfl,hm,hx,w,x⟩:=r;show wpAny _ _ (leaving _ _) _ _ _;refine Qf<|rW J x λh1 w1 J1 k1 x1=>iP none J1 x1 λh2 J2 k2 x2=>?_;obtain⟨H2,af,lp,fr⟩:=nJ S hl e0 J2 q;obtain⟨vs,sl,e1,e2,e3,e4,T,ot,ts,t1,t2,t3,t4,t5,t6,t7⟩:=x2;refine h _ H2 _ af ⟨e,C,dx,rfl,hm,hx.imp id ?_,some _,vs,sl,e1,e2,fr e e4 e3,e4,T,ot,ts,t1,t2,t3,fr T t3 t4,t5,t6,t7⟩;rintro⟨b,o,y1,y2,f⟩;exact⟨b,o,y1,lp _ _ _ y2,((f.kp k1).kp (s:={s' with heap:=h1}) k2).p lp⟩
  |ok fl' a9=>
   cases fl' with
   |bk=>exact h.elim|ct=>exact h.elim|nx=>cases q:bp fl a9 with|none=>simp only[q] at h;exact h.elim|some ios=>simp only[q] at h;intro s' cV H' v J _ r;cases r;obtain⟨H2,af,_⟩:=nJ S hl e0 J q;exact h s' H2 .none af rfl
   |rt d=>cases q:bp fl a9 with|none=>simp only[q] at h;exact h.elim|some ios=>simp only[q] at h;intro s' cV H' v J _ r;obtain⟨u,rfl,r⟩:=r;obtain⟨H2,af,lp,_⟩:=nJ S hl e0 J q;exact h s' H2 u af (r.p lp)
theorem JL{x:Str}{st:Stmt}{fd:FuncData}{k:Nat}{body:M Fl}(Fu:EF g.K x P8 st f fd)(S:dZ N ps (az st))(hl:fl.length=ps.length)(Cf:∀us jK A outer s H,bA k (A.deeper<|envOfC P8 (az st) s.heap.objs.size f jK)->gr (RQ g N fl us P8 (az st) f jK A outer s H) (bC st) body):pJ g (k+1) f fd ps fl (defn N.length fl body):=Mu Fu S hl Cf
end
end WL
end
section
set_option linter.all false
set_option maxRecDepth 100000
namespace WL
open PySem PySem.Spec PyProof.Rows L2 VP
def jU:AV->Bool|.val _=>false|.io _=>true
def HS(X:Cx)(σ:Sg)(H:Tm)(u:Value):AV->Prop|.val d=>Rel H u d|.io j=>∃x l,X.N[j]?=some x/\ij X.env.scope x/\u=.ref l/\σ x=some (.ref l)
def RA(X:Cx)(σ:Sg):Rl (List AV) (List Value):=λH _=>Paired (HS X σ H)
def zr(X:Cx)(es:Y2)(as:List VP.Arg):Prop:=∀pos s σ H ρ Q E,Inv X σ H ρ s->Out (aV as ρ) (OK X σ H (RA X σ) Q) (OK X σ H (XR X) E)->wpAny X.M X.A (spliced<|backTo pos<|starEach es X.env) Q E s
section
variable{X:Cx}{σ:Sg}{H H':Tm}{ρ:ax}{s s':Shared}{vs:List AV}{us:SX}{ds ios:Vt}
theorem HS.le(l:Le H H'){v:AV}(r:HS X σ H u v):HS X σ H' u v:=by cases v with|val d=>exact Rel.le l r|io j=>exact r
theorem Paired.at{α β:Type}{R:α->β->Prop}{xs:List α}{ys:List β}{i:Nat}{x:α}{y:β}(r:Paired R xs ys)(e1:xs[i]?=some x)(e2:ys[i]?=some y):R x y:=by induction r generalizing i with|nil=>cases e1|cons r _ ih=>cases i with|zero=>cases e1;cases e2;exact r|succ i=>exact ih e1 e2
theorem jV:∀{vs:List AV}{ds:Vt}{i:Nat}{v:AV},gu vs ρ=some ds->vs[i]?=some v->∃d,ds[i]?=some d/\match v with
 |.val d'=>d=d'|.io j=>own ρ[j]?=some d
|.val d::vs,ds,i,v,h,hi=>by simp only[gu] at h;cases q:gu vs ρ with|none=>rw[q] at h;cases h|some es=>rw[q] at h;cases h;cases i with|zero=>cases hi;exact⟨d,rfl,rfl⟩|succ i=>exact jV (i:=i) q hi
|.io j::vs,ds,i,v,h,hi=>by simp only[gu] at h;cases q0:own ρ[j]? with|none=>rw[q0] at h;cases h|some d0=>rw[q0] at h;cases q:gu vs ρ with|none=>rw[q] at h;cases h|some es=>rw[q] at h;cases h;cases i with|zero=>cases hi;exact⟨d0,rfl,q0⟩|succ i=>exact jV (i:=i) q hi
|[],_,i,_,_,hi=>by simp at hi
theorem rl:∀{vs:List AV}{ds:Vt},gu vs ρ=some ds->ds.length=vs.length
|[],_,h=>by cases h;rfl|.val d::vs,ds,h=>by simp only[gu] at h;cases q:gu vs ρ with|none=>rw[q] at h;cases h|some es=>rw[q] at h;cases h;exact congrArg Nat.succ (rl q)
|.io j::vs,ds,h=>by
 simp only[gu] at h;split at h;cases q:gu vs ρ with|none=>rw[q] at h;cases h|some es=>rw[q] at h;cases h;exact congrArg Nat.succ (rl q)
 cases h
theorem eF:∀{vs:List AV}{i j:Nat},vs[i]?=some (.io j)->j∈bI vs|.val d::vs,i+1,j,h=>eF (vs:=vs) (i:=i) h|.io k::vs,0,j,h=>by cases h;exact R9|.io k::vs,i+1,j,h=>Pe _ (eF (vs:=vs) (i:=i) h)|.val d::vs,0,j,h=>by cases h
theorem nh:∀{vs:List AV}{j:Nat},j∈bI vs->∃i:Nat,vs[i]?=some (.io j)|.val d::vs,j,h=>let ⟨i,q⟩:=nh (vs:=vs) h;⟨i+1,q⟩|.io k::vs,j,h=>by rcases List.mem_cons.mp h with rfl|h;exact⟨0,rfl⟩;obtain⟨i,q⟩:=nh (vs:=vs) h;exact⟨i+1,q⟩
theorem rH:∀{vs:List AV}{i i' j:Nat},(bI vs).Nodup->vs[i]?=some (.io j)->vs[i']?=some (.io j)->i=i'|.val d::vs,i+1,i'+1,j,n,h,h'=>congrArg Nat.succ (rH (vs:=vs) n h h')|.val d::vs,0,_,j,n,h,_=>by cases h|.val d::vs,_,0,j,n,_,h=>by cases h|.io k::vs,0,0,j,n,h,h'=>rfl|.io k::vs,0,i'+1,j,n,h,h'=>by cases h;exact absurd (eF (vs:=vs) (i:=i') h') (List.nodup_cons.mp n).1|.io k::vs,i+1,0,j,n,h,h'=>by cases h';exact absurd (eF (vs:=vs) (i:=i) h) (List.nodup_cons.mp n).1|.io k::vs,i+1,i'+1,j,n,h,h'=>congrArg Nat.succ (rH (vs:=vs) (List.nodup_cons.mp n).2 h h')
theorem kN:(cu j d ρ)[j]?=(ρ[j]?).map (yV d):=by cases q:ρ[j]? with|none=>unfold cu;simp only[q];rfl|some t=>rw[jv q,OG (List.getElem?_eq_some_iff.mp q).1];rfl
theorem dW:∀(js:YK)(ds:Vt)(r:ax),(putAll js ds r).length=r.length|[],_,_=>rfl|_::_,[],_=>rfl|j::js,d::ds,r=>(dW js ds _).trans kO
theorem hX:∀{js:YK}{ds:Vt}{r:ax}{i:Nat},i∉js->(putAll js ds r)[i]?=r[i]?|[],_,_,_,_=>rfl|_::_,[],_,_,_=>rfl|j::js,d::ds,r,i,h=>(hX λz=>h<|Pe _ z).trans (nu λe=>h<|e ▸ R9)
theorem ju:∀{vs:List AV}{ios:Vt}{r:ax}{i j:Nat}{d:D},(bI vs).Nodup->vs[i]?=some (.io j)->qA (vs.map jU) ios i=some d->(putAll (bI vs) ios r)[j]?=(r[j]?).map (yV d)|.val d::vs,ios,r,i+1,j,e,n,h,q=>ju (vs:=vs) (i:=i) n h q|.val d::vs,ios,r,0,j,e,n,h,q=>by cases h|.io k::vs,d::ios,r,0,j,e,n,h,q=>by cases h;cases q;exact(hX (List.nodup_cons.mp n).1).trans kN|.io k::vs,d::ios,r,i+1,j,e,n,h,q=>by have ne:j≠k:=λz=>(List.nodup_cons.mp n).1<|z ▸ eF (vs:=vs) (i:=i) h;exact(ju (vs:=vs) (i:=i) (List.nodup_cons.mp n).2 h q).trans (by rw[nu ne])|.io k::vs,[],r,i,j,e,n,h,q=>by cases i<;>cases q
theorem Inv.after{fl:ZU}{a9:ax}(I:Inv X σ H ρ s)(af:After X.g X.stack H s fl us ios H' s')(hl:a9.length=ρ.length)(X8:∀(j:Nat) t,ρ[j]?=some t->(a9[j]?=some t/\∀a d,H a=some (.ow d j)->H' a=some (.ow d j))\/∃d',a9[j]?=some (yV d' t)/\∀a d,H a=some (.ow d j)->H' a=some (.ow d' j)):Inv X σ H' a9 s':=by
 have nn:∀{a},H a=none->a<s.heap.objs.size->H' a=none:=λ{a} h fj=>by cases q:H' a with|none=>rfl|some e=>exact(af.nn a e q).elim (λz=>absurd h z) λz=>absurd fj (Nat.not_lt.mpr z)
 obtain⟨e1,e2⟩:=I.BD (h':=s'.heap) λb o hb q=>by have:H b=none\/∃o' d,H b=some (.pin o' d):=hb.elim (λz=>.inl<|z ▸ I.fl) λ⟨x,e⟩=>(I.cell x b e).2.imp id And.right;rcases this with z|⟨o',d,z⟩;obtain⟨sl,y,_⟩:=af.unt b o q z;exact⟨sl,y⟩;have y:=(af.aL b _<|af.le _ _ z trivial).1;obtain rfl:=sj ((I.aL b _ z).1) q;exact⟨_,y⟩
 refine⟨I.ok,af.os.trans I.os,af.bare,I.le.trans af.le,λa e q n=>?_,af.aL,e1,λj t ht=>?_,λl d j q hj=>?_,nn I.fl I.lt,λx c e=>⟨e2 x c e,?_⟩,hl.trans I.len⟩;rcases af.nn a e q with z|z;cases y:H a with|none=>exact absurd y z|some e'=>rcases I.nw a e' y n with w|⟨o,rfl⟩;exact .inl w;have w:=af.le a _ y trivial;obtain rfl:=sj q w;exact .inr ⟨o,rfl⟩
 exact .inl<|YM I.sz z;have hj:j<ρ.length:=by rw[<-hl];exact(List.getElem?_eq_some_iff.mp ht).1
 have h0:ρ[j]?=some ρ[j]:=Te hj;obtain⟨x,hx,r⟩:=I.slot j _ h0;refine⟨x,hx,?_⟩;rcases X8 j _ h0 with ⟨h1,h2⟩|⟨d',h1,h2⟩
 obtain rfl:=sj h1 ht;exact r.mv af.le.p h2;obtain rfl:=sj h1 ht;generalize ρ[j]=t0 at r;cases t0 with|no=>trivial|sh d=>obtain⟨u,a,b⟩:=r;exact⟨u,a,b.le af.le⟩|ow d=>obtain⟨l,a,b⟩:=r;exact⟨l,a,h2 _ _ b⟩|io d=>obtain⟨l,a,b,c⟩:=r;exact⟨l,a,h2 _ _ b,c⟩
 obtain⟨d0,y⟩:=af.Z5 l d j q;obtain⟨h1,h2⟩:=I.tg l d0 j y hj;refine⟨?_,λl' d' q'=>let ⟨d1,y'⟩:=af.Z5 l' d' j q';h2 l' d1 y'⟩;have h0:ρ[j]?=some (.ow d0)\/ρ[j]?=some (.io d0):=h1;rcases h0 with h0|h0;rcases X8 j _ h0 with ⟨a,b⟩|⟨d',a,b⟩
 have:=b l d0 y;rw[q] at this;cases this;exact .inl a;have:=b l d0 y;rw[q] at this;cases this;exact .inl a;rcases X8 j _ h0 with ⟨a,b⟩|⟨d',a,b⟩
 have:=b l d0 y;rw[q] at this;cases this;exact .inr a;have:=b l d0 y;rw[q] at this;cases this;exact .inr a;rcases (I.cell x c e).2 with z|⟨f,o,d,z⟩;obtain⟨⟨v,y⟩,_⟩:=I.cell x c e;exact .inl<|nn z y.lt;exact .inr ⟨f,o,d,af.le _ _ z trivial⟩
theorem Inv.BE(I:Inv X σ H ρ s):AU X.g X.A X.stack s H:=by refine⟨I.ok.frames,I.ok.mod,λb o e=>?_,YM I.ok.EI I.sz,λe he=>?_,λb hb=>I.B6 hb,I.aL,I.bare⟩;exact I.le _ _ (I.ok.bs b o e) trivial;have:=I.stack;generalize X.stack=l at this he;clear I;induction l with|nil=>cases he|cons c r ih=>obtain⟨h1,⟨L,o,h2,h3,h4,h5⟩,h6⟩:=this;rcases List.mem_cons.mp he with rfl|he;exact⟨h1,L,o,h2,h3,h4,h5⟩;exact ih h6 he
theorem jd(I:Inv X σ H ρ s)(ra:RA X σ H s us vs)(h:gu vs ρ=some ds)(nd:(bI vs).Nodup):Args H (vs.map jU) us ds/\(∀i a,jD (vs.map jU) us i a->∃j d,vs[i]?=some (.io j)/\own ρ[j]?=some d/\H a=some (.ow d j)):=by
 have at_:∀{i:Nat} {b},(vs.map jU)[i]?=some b->∃v,vs[i]?=some v/\jU v=b:=λ{i b} q=>by rw[Nn] at q;cases z:vs[i]? with|none=>rw[z] at q;cases q|some v=>rw[z] at q;exact⟨v,rfl,Qe q⟩
 have io:∀{i:Nat} {j u d},vs[i]?=some (.io j)->us[i]?=some u->ds[i]?=some d->∃l,u=.ref l/\own ρ[j]?=some d/\H l=some (.ow d j):=λ{i j u d} q hu hd=>by obtain⟨x,l,hx,hv,e,hs⟩:=Paired.at ra hu q;obtain⟨d',h1,h2⟩:=jV h q;obtain rfl:=sj hd h1;obtain⟨l',h3,h4⟩:=I.ownAt hx hv h2;rw[hs] at h3;cases h3;exact⟨l,e,h2,h4⟩
 have wy:∀i a,jD (vs.map jU) us i a->∃j d,vs[i]?=some (.io j)/\own ρ[j]?=some d/\H a=some (.ow d j):=λi a k=>by obtain⟨v,hv,e⟩:=at_ k.1;cases v with|val d=>cases e|io j=>obtain⟨d,hd,_⟩:=jV h hv;obtain⟨l,e,h2,h4⟩:=io hv k.2 hd;cases e;exact⟨j,d,hv,h2,h4⟩
 refine⟨⟨by rw[VE,ra.length],by rw[VE,rl h],λi u d q hu hd=>?_,λi u d q hu hd=>?_,λi i' a k k'=>?_⟩,wy⟩;obtain⟨v,hv,e⟩:=at_ q;cases v with|val d'=>obtain⟨d2,h1,h2⟩:=jV h hv;obtain rfl:=sj hd h1;cases h2;exact Paired.at (R:=HS X σ H) ra hu hv|io j=>cases e
 obtain⟨v,hv,e⟩:=at_ q;cases v with|val d'=>cases e|io j=>obtain⟨l,e,_,h4⟩:=io hv hu hd;exact⟨l,j,e,h4⟩
 obtain⟨j,d,h1,_,h2⟩:=wy i a k;obtain⟨j',d',Se,_,h2'⟩:=wy i' a k';obtain⟨rfl,rfl⟩:=AQ h2 h2';exact rH nd h1 Se
theorem nI(I:Inv X σ H ρ s)(ra:RA X σ H s us vs)(h:gu vs ρ=some ds)(nd:(bI vs).Nodup)(af:After X.g X.stack H s (vs.map jU) us ios H' s'):Inv X σ H' (putAll (bI vs) ios ρ) s':=by
 obtain⟨_,wy⟩:=jd I ra h nd;refine I.after af (dW _ _ _) λj t ht=>?_;by_cases hj:j∈bI vs;obtain⟨i,hi⟩:=nh hj;obtain⟨d,hd,ho⟩:=jV h hi;have SD:i<us.length:=by rw[ra.length];exact(List.getElem?_eq_some_iff.mp hi).1
 obtain⟨x,l,hx,hv,e,hs⟩:=Paired.at ra (Te SD) hi;obtain⟨l',h3,h4⟩:=I.ownAt hx hv ho;rw[hs] at h3;cases h3;obtain⟨d',h5,h6⟩:=af.wu i l d j ⟨by rw[Nn,hi];rfl,by rw[<-e];exact Te SD⟩ h4;refine .inr ⟨d',by rw[ju nd hi h5,ht];rfl,λa d2 q=>?_⟩;rw[(I.tg l d j h4 (List.getElem?_eq_some_iff.mp hx).1).2 _ _ q];exact h6;refine .inl ⟨by rw[hX hj];exact ht,λa d q=>af.ow a d j q λi k=>?_⟩;obtain⟨j',d',h1,_,h2⟩:=wy i a k;obtain⟨rfl,rfl⟩:=AQ q h2;exact hj (eF h1)
end
end WL
end
section
set_option linter.all false
set_option maxRecDepth 100000
namespace WL
open PySem PySem.Spec PyProof.Rows L2 VP
section
variable{X:Cx}{e a b o value:Expr}{es:Y2}{fa fe fo:M D}{as:List VP.Arg}{pos p ZO:Pos}{x c m:Str}{σ:Sg}{H:Tm}{ρ:ax}{s:Shared}{ds:Vt}{us:SX}{Q:Tv}{E:Tv}
variable{k:Nat}{fA C:Addr}{fd:FuncData}{ps:Xa}{fl:ZU}{fs:Fn}{cs:Xa}{f:Str}
theorem jr:zr X [] []:=λpos s σ H ρ Q E I o=>Nd (o s H [] I Le.refl .nil)
theorem RA.le(l:Le H H')(r:Paired (HS X σ H) us vs):Paired (HS X σ H') us vs:=Paired.mono (λ_ _=>HS.le l) r
theorem hW(ha:PV X a fa)(hr:zr X es as)(hs:Wj X a es:=by rfl):zr X (a::es) (.val fa::as):=λpos s σ H ρ Q E I o=>by rw[hs];exact VG (rest:=backTo pos<|starEach es X.env) (ha.Tp I o (λ_ _ q=>q) λs1 H1 aS v d I1 l1 r1 o1=>hr pos s1 σ H1 aS _ E I1<|o1.Tp.mono (λvs r q s2 H2 us I2 l2 r2=>q s2 H2 _ I2 (l1.trans l2)<|.cons (Rel.le l2 r1) r2) λ_ _ q=>q.le l1)
theorem Q0k(j:Nat){x:Str}(hr:zr X es as)(hN:X.N[j]?=some x:=by rfl)(hv:ij X.env.scope x:=by exact E3)(hd:RI x:=by decide)(eZ:v8 x:=by decide)(hs:starEach (.Name x pos::es) X.env=(false,eval (.Name x pos) X.env)::starEach es X.env:=by rfl):zr X (.Name x pos::es) (.io j::as):=λTw s σ H ρ Q E I o=>by
 rw[hs];simp only[aV] at o;split at o;rename_i h;cases q:own ρ[j]? with|none=>rw[q] at h;cases h|some d=>obtain⟨l,hu,_⟩:=I.ownAt hN hv q;exact VG (rest:=backTo Tw<|starEach es X.env) (bx I hv hu (hr Tw s σ H ρ _ E I<|o.Tp.mono (λvs r q s2 H2 us I2 l2 r2=>q s2 H2 _ I2 l2<|.cons ⟨x,l,hN,hv,rfl,hu⟩ r2) λ_ _ q=>q) hd eZ)
 exact o.elim
theorem eI:∀{as:List VP.Arg}{ρ a9:ax}{vs:List AV},aV as ρ=.ok vs a9->vs.map jU=as.map VP.Arg.isIo|[],_,_,_,h=>by cases h;rfl|.val f::as,ρ,a9,vs,h=>by simp only[aV,VP.Tp] at h;split at h;split at h;cases h;rename_i q;rw[Yk,Yk,eI q];rfl;cases h;cases h;cases h;cases h|.io j::as,ρ,a9,vs,h=>by simp only[aV,VP.Tp] at h;split at h;split at h;cases h;rename_i q;rw[Yk,Yk,eI q];rfl;cases h;cases h;cases h
theorem w8{cc:Bool}{A:Around}{R:Result->Shared->Prop}{vs:List AV}{P:D->ax->Prop}{E':Xn->ax->Prop}(F:pY cc X.g k fA fd ps (vs.map jU) fs)(hr:cond cc (bA k A) (VS.fE k A))(hA:A.frames=X.A.frames)(hb:Binds X.g.K fd ps [])(vD:(vs.map jU).length=ps.length)(I:Inv X σ H ρ s)(ra:RA X σ H s us vs)(o:Out (oL fs vs ρ) P E')(hQ:∀s' H' a9 v d,Inv X σ H' a9 s'->Le H H'->Rel H' v d->(∀a e,H' a=some e->H a≠none\/s.heap.objs.size<=a)->P d a9->R (.ok<|.ret v) s') (hE:∀s' H' a9 v x,Inv X σ H' a9 s'->Le H H'->XR X H' s' v x->E' x a9->R (.error v) s'):codeAny X.M A (.call (.ref fA) ⟨us,[]⟩) R s:=by unfold oL at o;split at o;rename_i ds hd;split at o;rename_i nd;have yo:=hb s us I.jR (by rw[FU,<-vD,VE];exact ra.length);rw[FU] at yo;obtain⟨ar,_⟩:=jd I ra hd nd;have e0:=I.BE;refine F A X.stack s H us ds _ R hr ⟨hA.trans e0.frames,e0.mod,e0.bs,e0.EI,e0.fr,e0.B6,e0.aL,e0.bare⟩ yo ar ?_;split at o;rename_i d ios q;rw[q];exactλs' H' v af r=>hQ s' H' _ v d (nI I ra hd nd af) af.le r af.nn o;rename_i x ios q;rw[q];exactλs' H' v af r=>hE s' H' _ v x (nI I ra hd nd af) af.le (r.up I.sz) o;exact o.elim;exact o.elim;exact o.elim
theorem GV{cc:Bool}(F:pY cc X.g k fA fd ps fl fs)(hr:cond cc (bA k X.A) (VS.fE k X.A))(hg:Gl X x)(hm:X.g.mg x=some (.ref fA))(hk:W.keepIn X.g.K (.ref fA)=true)(hb:Binds X.g.K fd ps [])(vD:fl.length=ps.length)
  (ha:zr X (e::es) as) (yp:as.map VP.Arg.isIo=fl:=by rfl) (jP:RI x:=by decide) (he:Wj X e es:=by rfl) (gV:G7 X pos es:=by rfl) :
  PV X (.Call (.Name x p) (e::es) [] pos) (aw fs as):=λs σ H ρ Q E I o=>by
 refine Dw<|dB I hg hm ?_ jP;refine tI (h₀:=X.g.base) I.ok.mod.lG hk (ha pos s σ H ρ _ E I ?_) he gV;unfold aw VP.Tp at o;cases q:aV as ρ with|no=>rw[q] at o;exact o.elim|exc xx aS=>rw[q] at o;exact o|ok vs aS=>rw[q] at o;intro s1 H1 us I1 l1 r1;have hv:=(eI q).trans yp;subst hv;exact⟨I1.jR,wpAny_call<|w8 F hr rfl hb vD I1 r1 o (λs' H' a9 v d I' l' r' _ k=>k s' H' v I' (l1.trans l') r') λs' H' a9 v x I' l' r' k=>k s' H' v I' (l1.trans l') r'⟩
theorem Rel.handed{d:D}(r:Rel H u d):W.handedIn u=true:=by cases d<;>first|(cases r;rfl)|(obtain⟨t,rfl⟩:=r;rfl)|(obtain⟨_,_,rfl,_⟩:=r;rfl)
theorem oH{f:Str}{d:D}:∀{fs:List (Str×Value)}{ds:Vt},aC H (fs.map (·.2)) ds->((fs.map (·.1)).zip ds).lookup f=some d->∃v,fs.lookup f=some v/\Rel H v d|[],_,.nil,h=>by cases h| (n,v)::fs,_,.cons h t,q=>by simp only[List.map_cons,List.zip_cons_cons,List.lookup_cons] at q ⊢;split at q;cases q;exact⟨v,rfl,h⟩;exact oH t q
theorem oV(T:VS.AX X.g.K X.g.mg cs f)(ha:PR X e fe)(hb:attributeBase e f X.env (eval e X.env)=eval e X.env:=by rfl):PV X (.Attribute e f pos) (m1 (gw cs f) fe):=λs σ H ρ Q E I o=>xE hb (ha.Tp I o (λ_ _ q=>q) λs1 H1 aS v d I1 l1 r1 o1=>by obtain⟨d,e1,q⟩:=o1.opt;rename_i d1;cases d1 with|ins c ns vs=>simp only[gw] at e1;split at e1;rename_i hc;obtain⟨C,hm,hC,hn⟩:=T c (by simpa using hc);obtain⟨a,ff,rfl,C',dx,h1,h2,h3,h4,fs,rfl,r,_,mA,h5,h6,_⟩:=I1.obj r1 rfl;rw[hm] at h1;cases h1;obtain⟨u,lu,ru⟩:=oH r e1;exact get_map I1.jR ⟨h2,h5,λz=>absurd (z.trans h4) (Nat.succ_ne_self dx).symm⟩ (hC.get f) hC.hd hn ((h6 f).symm.trans lu) ru.handed<|q _ H1 u (I1.tok _) l1 ru;cases e1|_=>cases e1)
def mP(f:Str)(v:Value):List (Str×Value)->List (Str×Value)|[]=>[(f,v)]| (g,x)::r=>if g=f then(g,v)::r else(g,x)::mP f v r
theorem oU{f:Str}{v:Value}{d:D}(h:Rel H v d):∀{fs:List (Str×Value)}{ds:Vt},aC H (fs.map (·.2)) ds->(mP f v fs).map (·.1)=(dI f d (fs.map (·.1)) ds).1/\aC H ((mP f v fs).map (·.2)) (dI f d (fs.map (·.1)) ds).2/\(mP f v fs).length<=fs.length+1/\(∀g,(mP f v fs).lookup g=if g=f then some v else fs.lookup g)/\f∈(mP f v fs).map (·.1)/\∀g,g∈fs.map (·.1)->g∈(mP f v fs).map (·.1)
|[],_,.nil=>⟨rfl,.cons h .nil,Wd _,λg=>by rw[mP,wR];by_cases e:g=f;(subst e;simp);(rw[beq_eq_false_iff_ne.mpr e,YO e]),by simp[mP],λg h=>by simp at h⟩| (n,w)::fs,_,.cons q t=>by obtain⟨i1,i2,i3,i4,i5,i6⟩:=oU (f:=f) h t;simp only[mP,List.map_cons,dI];split;rename_i e;subst e;exact⟨rfl,.cons h t,Dx _,λg=>by rw[wR,wR];by_cases e:g=n;(subst e;simp);(rw[beq_eq_false_iff_ne.mpr e,YO e]),Qj,λg z=>z⟩;rename_i e;refine⟨by simp[i1],.cons q i2,Nat.succ_le_succ i3,λg=>?_,Pe _ i5,λg z=>(List.mem_cons.mp z).elim (λz=>z ▸ R9) λz=>Pe _<|i6 g z⟩;rw[wR,wR,i4 g];by_cases e2:g=n;subst e2;simp[e];simp[beq_eq_false_iff_ne.mpr e2]
def WR(X:Cx)(f:Str)(i:Nat)(R:Rl D Value):Prop:=∀s σ H ρ v d (Q:Prop),Inv X σ H ρ s->i<X.N.length->R H s v d->(∀H',Inv X σ H' ρ s->Le H H'->Rel H' v d->(f="cells" -> ∀l l' d,H' l=some (.ow d i)->v=.ref l'->l<=l')->Q)->Q
theorem zh{R:Rl D Value}(i:Nat){Tw p':Pos}(hR:WR X f i R)(T:VS.AX X.g.K X.g.mg cs f)(MR:WP X R (eval value X.env) fe)(hN:X.N[i]?=some x:=by rfl)(hv:ij X.env.scope x:=by exact E3)(hd:RI x:=by decide)(eZ:v8 x:=by decide)(hs:swapsWith value (some<|.Attribute (.Name x p') f Tw) pos.line X.env=pure false:=by rfl) : ja X (.Assign [.Attribute (.Name x p') f Tw] value pos) (mD i cs f fe):=λs σ H ρ Q E I o=>
 plainObj_wpAny_Assign_Attribute (MR.Tp I o (λ_ _ q=>q.x) λs1 H0 aS u d1 I0 l0 r0 o1=>by
  refine hR _ _ _ _ _ _ _ I0 (List.getElem?_eq_some_iff.mp hN).1 r0 λH1 I1 l01 r1 hc=>?_;have l1:=l0.trans l01;obtain⟨d,d',q0,q1,k⟩:=jA o1.Tp;obtain⟨l,hu,hl⟩:=I1.ownAt hN hv q0;refine bx I1 hv hu ?_ hd eZ;cases d with
   |ins c ns vs=>
    simp only[mE] at q1;split at q1;rename_i zO;rw[Lp] at zO;cases q1;obtain⟨C,hm,hC,hn⟩:=T c (by simpa using zO.1);obtain⟨⟨C',dx,h1,h2,h3,h4,fs,rfl,r,h8,mA,h5,h6,h7,VJ⟩,_⟩:=I1.aL l _ hl;rw[hm] at h1;cases h1;have h9:fs.length<1000:=by simpa using P0 zO.2
    refine Hi I1.jR ⟨h2,h5,λz=>absurd (z.trans h4) (Nat.succ_ne_self dx).symm⟩ hC.sa hC.po hn.za hC.hd h7 (by rw[VE,xg];lia) λh' O' sb=>?_;have lo:Le H1 _:=Le.ow (d':=.ins c (dI f d1 (fs.map (·.1)) vs).1 (dI f d1 (fs.map (·.1)) vs).2) (j:=i) hl;obtain⟨p1,p2,p3,p4,p5,p6⟩:=oU (f:=f) (r1.le lo)<|aC.le lo r;have qx:∃o,h'.get? dx=some o:=let ⟨o,_,_,e',_⟩:=O'.ns;⟨o,e'⟩;have hq:∀g,(if g=f then some u else mA g)≠none->g∈(dI f d1 (fs.map (·.1)) vs).1:=λg hg=>by rw[<-p1];by_cases q:g=f;rw[q];exact p5;rw[YO q] at hg;exact p6 g (h7 g hg)
    have pG:∀l',(if "cells" = f then some u else mA "cells")=some (.ref l')->dx<l':=λl' z=>by by_cases hf : "cells" = f;obtain rfl:=sj (YN hf) z;have:=hc hf.symm l l' _ hl rfl;rw[h4] at this;exact this;rw[YO hf] at z;exact VJ l' z
    obtain⟨I2,l2⟩:=I1.wr (t':=s1.toks+2) (h':=h') (d':=.ins c (dI f d1 (fs.map (·.1)) vs).1 (dI f d1 (fs.map (·.1)) vs).2) hl (.inr h3) (λb q hb z=>(sb.2 b hb).trans z) qx (λlp=>⟨C,dx,hm,O'.obj,(aH (λz=>absurd (z.trans h4) (Nat.succ_ne_self dx).symm)).trans h3,h4,mP f u fs,p1,p2,by rw[<-p1,VE];lia,_,O'.ns,λg=>by rw[p4 g,h6 g],hq,pG⟩) λz=>nomatch z;exact k _ _ _ _ I2 (l1.trans l2) rfl;cases q1
   |_=>cases q1) hs
theorem lookup_none:∀{fs:List (Str×Value)},(fs.map (·.1)).contains m=false->fs.lookup m=none|[],_=>rfl| (n,v)::fs,h=>by simp only[List.map_cons,List.contains_cons,Bool.or_eq_false_iff] at h;rw[wR,h.1];exact lookup_none h.2
theorem G3{pl:Sem Bool}(sY:X.g.mg c=some (.ref C))(cl:AS X.g.K C)(hm:Meth X.g.K C m fA)(F:pJ X.g k fA fd ps (false::fl) fs)(hr:bA k X.A)(hb:Binds X.g.K fd ps [])(vD:(false::fl).length=ps.length)
  (ho:PV X o fo) (ha:zr X (e::es) as) (yp:as.map VP.Arg.isIo=fl:=by rfl)
  (jH:Wj X e es:=by rfl) (gV:G7 X pos es:=by rfl)
  (ht:eval (.Call (.Attribute o m ZO) (e::es) [] pos) X.env=(do
   let ov <-eval o X.env
   standAt ZO.atName
   let (f,first) <-holding [ov] (getMethod ov m pl)
   callWith pos f first (backTo pos<|starEach (e::es) X.env)<|backToKw pos<|keywordEach [] X.env):=by rfl) :
  PV X (.Call (.Attribute o m ZO) (e::es) [] pos) (gL c m fs fo as):=λs σ H ρ Q E I oo=>by
 refine W.methodCall_KW (pl:=pl) (ho.Tp I oo (λ_ _ q=>q) λs1 H1 aS u d1 I1 l1 r1 o1=>?_) ht;cases hi:qz c m d1 with
 |false=>rw[hi] at o1;exact o1.elim|true=>
  rw[hi] at o1;cases d1 with
  |ins c' ns vs=>
   simp only[qz,Bool.and_eq_true,Bool.not_eq_true'] at hi;have sX:c'=c:=by simpa using hi.1
   subst sX;obtain⟨a,ff,rfl,C',dx,h1,h2,h3,h4,fs',rfl,r,_,mA,h5,h6,_⟩:=I1.obj (.inl r1) rfl;rw[sY] at h1;cases h1;refine Ca I1.jR ⟨h2,h5,λz=>absurd (z.trans h4) (Nat.succ_ne_self dx).symm⟩ (cl.get m) hm.at_ hm.fn ((h6 m).symm.trans<|lookup_none hi.2) ?_;refine tI (first:=[.ref a]) (h₀:=X.g.base) I1.ok.mod.lG hm.kp (ha pos s1 σ H1 aS _ E I1 ?_) jH gV;have o2:Out (Tp (aV as) (λvs'=>oL fs (.val _::vs')) aS) _ _:=o1;unfold VP.Tp at o2;cases q:aV as aS with|no=>rw[q] at o2;exact o2.elim|exc xx pX=>rw[q] at o2;exact OK.le l1 o2|ok av pX=>rw[q] at o2;intro s2 H2 us I2 l2 r2;have hv:=(eI q).trans yp;subst hv;exact⟨I2.jR,wpAny_call<|w8 (vs:=.val _::av) F hr rfl hb vD I2 (.cons (Rel.le l2 r1) r2) o2 (λs' H' a9 v d I' l' r' _ k=>k s' H' v I' (l1.trans<|l2.trans l') r') λs' H' a9 v x I' l' r' k=>k s' H' v I' (l1.trans<|l2.trans l') r'⟩
  |_=>cases hi
end
end WL
end
section
set_option linter.all false
set_option maxRecDepth 100000
namespace WL
open PySem PySem.Spec PyProof.Rows L2 VP
section
variable{X:Cx}{e a b o value:Expr}{es:Y2}{fa fe fo:M D}{as:List VP.Arg}{pos p ZO:Pos}{x c m:Str}{σ:Sg}{H H':Tm}{ρ:ax}{s s':Shared}{ds ios:Vt}{us:SX}{Q:Tv}{E:Tv}{vs:List AV}
variable{k:Nat}{fA C:Addr}{fd:FuncData}{ps:Xa}{fl:ZU}{fs:Fn}{cs:Xa}{f:Str}{t:Sl}
theorem nN:∀{vs:List AV}{ds:Vt},ρ.length∉bI vs->gu vs (ρ++[t])=some ds->gu vs ρ=some ds
|[],_,_,h=>h|.val d::vs,ds,n,h=>by simp only[gu] at h ⊢;cases q:gu vs (ρ++[t]) with|none=>rw[q] at h;cases h|some es=>rw[q] at h;rw[nN (vs:=vs) n q];exact h
|.io j::vs,ds,n,h=>by
 simp only[gu] at h ⊢;have nj:j≠ρ.length:=λz=>n<|z ▸ R9;have e:(ρ++[t])[j]?=ρ[j]?\/(ρ++[t])[j]?=none:=by rcases Nat.lt_or_gt_of_ne nj with z|z;exact .inl<|zF z;exact .inr (Bv (by simp;lia))
 rcases e with e|e;rw[e] at h;cases q:gu vs (ρ++[t]) with|none=>rw[q] at h;cases o:own ρ[j]?<;>rw[o] at h<;>cases h|some es=>rw[q] at h;rw[nN (vs:=vs) (λz=>n<|Pe _ z) q];exact h
 rw[e] at h;cases h
theorem Ai{j:Nat}{d:D}(h:j≠ρ.length):cu j d (ρ++[t])=cu j d ρ++[t]:=by rcases Nat.lt_or_gt_of_ne h with z|z;have q:ρ[j]?=some ρ[j]:=Te z;rw[jv q,jv<|(zF z).trans q,List.set_append_left _ _ z];have q:ρ[j]?=none:=Bv<|Nat.le_of_lt z;have q':(ρ++[t])[j]?=none:=Bv (by simp;lia);unfold cu;simp only[q,q']
theorem putAll_snoc:∀{js:YK}{ds:Vt}{ρ:ax},ρ.length∉js->putAll js ds (ρ++[t])=putAll js ds ρ++[t]|[],_,_,_=>rfl|_::_,[],_,_=>rfl|j::js,d::ds,ρ,h=>by show putAll js ds (cu j d<|ρ++[t])=putAll js ds (cu j d ρ)++[t];rw[Ai λz=>h<|z ▸ R9];exact putAll_snoc (by rw[kO];exactλz=>h<|Pe _ z)
theorem jb{x:Addr}{d0 d':D}(I:Inv X σ H ρ s)(ra:RA X σ H s us vs)(h:gu vs ρ=some ds)(nd:(bI vs).Nodup)(hx:H x=some (.ow d0 X.N.length))(af:After X.g X.stack H s (true::vs.map jU) (.ref x::us) (d'::ios) H' s'):Inv X σ H' (putAll (bI vs) ios ρ) s':=by
 obtain⟨_,wy⟩:=jd I ra h nd;refine I.after af (dW _ _ _) λj t ht=>?_;have ZD:j<X.N.length:=by rw[<-I.len];exact(List.getElem?_eq_some_iff.mp ht).1
 by_cases hj:j∈bI vs;obtain⟨i,hi⟩:=nh hj;obtain⟨d,hd,ho⟩:=jV h hi;have SD:i<us.length:=by rw[ra.length];exact(List.getElem?_eq_some_iff.mp hi).1
 obtain⟨y,l,hy,hv,e,hs⟩:=Paired.at ra (Te SD) hi;obtain⟨l',h3,h4⟩:=I.ownAt hy hv ho;rw[hs] at h3;cases h3;obtain⟨d',h5,h6⟩:=af.wu (i+1) l d j ⟨by rw[List.getElem?_cons_succ,Nn,hi];rfl,by rw[<-e];exact Te SD⟩ h4;refine .inr ⟨d',by rw[ju nd hi h5,ht];rfl,λa d2 q=>?_⟩;rw[(I.tg l d j h4 ZD).2 _ _ q];exact h6;refine .inl ⟨by rw[hX hj];exact ht,λa d q=>af.ow a d j q λi k=>?_⟩;cases i with|zero=>have:=k.2;cases this;obtain⟨rfl,rfl⟩:=AQ hx q;exact absurd ZD (Rm _)|succ i=>obtain⟨j',d',h1,_,h2⟩:=wy i a k;obtain⟨rfl,rfl⟩:=AQ q h2;exact hj (eF h1)
theorem Inv.Yr(I:Inv X σ H ρ s)(hm:X.g.mg c=some (.ref C)):∃H',Inv X σ H' ρ {s with heap:=(s.heap.push W.emptyDict).push (W.instObj C s.heap.objs.size)}/\Le H H'/\H' (s.heap.objs.size+1)=some (.ow (.ins c [] []) X.N.length):=by
 obtain⟨I1,l1⟩:=I.lay (t':=s.toks) (h':=s.heap.push W.emptyDict) (a:=s.heap.objs.size) (e:=.cA<|s.heap.objs.size+1) (λb o e=>VZ _ e) (Wd _) λlp=>⟨_,Ym _ rfl⟩;have hs:(s.heap.push W.emptyDict).objs.size=s.heap.objs.size+1:=by simp[Heap.push]
 have n1:=Heap.Ns1.of_empty<|show (s.heap.push W.emptyDict).Ns s.heap.objs.size (λ_=>none) from⟨W.emptyDict,#[],_,Ym s.heap rfl,rfl,(λe he=>absurd he Qj),λ_=>rfl⟩;have ne:s.heap.objs.size≠s.heap.objs.size+1:=M1<|M4 _;obtain⟨I2,l2⟩:=I1.lay (t':=s.toks) (h':=(s.heap.push W.emptyDict).push<|W.instObj C s.heap.objs.size) (a:=s.heap.objs.size+1) (e:=.ow (.ins c [] []) X.N.length) (λb o e=>VZ _ e) (Nat.le_of_eq hs) (λlp=>⟨⟨C,s.heap.objs.size,hm,by rw[<-hs];exact Ym _ rfl,(aH ne).trans aA,rfl,[],rfl,.nil,ZN _,_,n1.at λo e=>VZ _ e,λf=>rfl,λf z=>absurd rfl z,λ_ z=>nomatch z⟩,λz=>nomatch z⟩) λd i z=>by cases z;exact Wd _
 exact⟨_,I2,l1.trans l2,aA⟩
theorem Args.cons{x:Addr}{d0:D}{j:Nat}(a:Args H fl us ds)(hx:H x=some (.ow d0 j))(ne:∀i,¬jD fl us i x):Args H (true::fl) (.ref x::us) (d0::ds):=by
 refine⟨congrArg Nat.succ a.l1,congrArg Nat.succ a.l2,λi u d h1 h2 h3=>?_,λi u d h1 h2 h3=>?_,λi i' b k k'=>?_⟩;cases i with|zero=>cases h1|succ i=>exact a.val i u d h1 h2 h3
 cases i with|zero=>cases h2;cases h3;exact⟨x,j,rfl,hx⟩|succ i=>exact a.wy i u d h1 h2 h3
 cases i with
 |zero=>cases i' with|zero=>rfl|succ i'=>have:=k.2;cases this;exact absurd k' (ne i')
 |succ i=>cases i' with|zero=>have:=k'.2;cases this;exact absurd k (ne i)|succ i'=>exact congrArg Nat.succ (a.uq i i' b k k')
theorem GJ(M:Mk X.g.K C fA)(F:pJ X.g k fA fd ps (true::fl) fs)(hr:bA (k+1) X.A)(hg:Gl X c)(hm:X.g.mg c=some (.ref C))(hb:Binds X.g.K fd ps [])(vD:(true::fl).length=ps.length)
  (ha:zr X (e::es) as) (yp:as.map VP.Arg.isIo=fl:=by rfl) (jP:RI c:=by decide) (he:Wj X e es:=by rfl) (gV:G7 X pos es:=by rfl) :
  PF X (.Call (.Name c p) (e::es) [] pos) (jS c fs as):=λs σ H ρ Q E I o=>by
 refine Dw<|dB I hg hm ?_ jP;refine tI (h₀:=X.g.base) I.ok.mod.lG M.kp (ha pos s σ H ρ _ E I ?_) he gV;unfold jS VP.Tp at o;cases q:aV as ρ with
 |no=>rw[q] at o;exact o.elim|exc xx aS=>rw[q] at o;exact o|ok vs aS=>
  rw[q] at o;intro s1 H1 us I1 l1 r1;refine⟨I1.jR,?_⟩;have hv:=(eI q).trans yp;subst hv;obtain⟨H2,I2,l2,hx⟩:=I1.Yr (c:=c) hm;have len:aS.length=X.N.length:=I1.len;have o':Out (z9 c fs vs aS) (OK X σ H (RF X) Q) (OK X σ H (XR X) E):=o;have av0:gu (.io aS.length::vs) (aS++[.ow<|.ins c [] []])=(gu vs<|aS++[.ow<|.ins c [] []]).map (.ins c [] []::·):=by simp only[gu];rw[Oy<|Wd _,Nat.sub_self];rfl
  unfold z9 oL at o';simp only[av0] at o';cases q1:gu vs (aS++[.ow<|.ins c [] []]) with
  |none=>simp only[q1,Option.map_none] at o';exact o'.elim|some ds=>
   simp only[q1,Option.map_some] at o';by_cases nd:(bI (.io aS.length::vs)).Nodup;rw[YN nd] at o';obtain⟨n1,n2⟩:=List.nodup_cons.mp<|show (aS.length::bI vs).Nodup from nd;have q2:=nN n1 q1;have pa:∀d' ios,putAll (bI (.io aS.length::vs)) (d'::ios) (aS++[.ow<|.ins c [] []])=putAll (bI vs) ios aS++[.ow d']:=λd' ios=>by show putAll (bI vs) ios (cu aS.length d'<|aS++[.ow<|.ins c [] []])=_;rw[jv (t:=.ow<|.ins c [] []) (by rw[Oy<|Wd _,Nat.sub_self];rfl),List.set_append_right _ _<|Wd _,Nat.sub_self];exact putAll_snoc n1
   have r2:=RA.le l2 r1;obtain⟨ar,wy⟩:=jd I2 r2 q2 n2;have PZ:=ar.cons hx λi k=>by obtain⟨j,d,h1,h2,h3⟩:=wy i _ k;obtain⟨rfl,rfl⟩:=AQ hx h3;rw[Bv<|Nat.le_of_eq len] at h2;cases h2
   have ln:∀{ios H3 s3},After X.g X.stack H2 {s1 with heap:=(s1.heap.push W.emptyDict).push (W.instObj C s1.heap.objs.size)} (true::vs.map jU) (.ref (s1.heap.objs.size+1)::us) ios H3 s3->∃d' r,ios=d'::r/\H3 (s1.heap.objs.size+1)=some (.ow d' X.N.length):=λ{ios H3 s3} af=>by obtain⟨d',h1,h2⟩:=af.wu 0 _ _ _ ⟨rfl,rfl⟩ hx;cases ios with|nil=>cases h1|cons d r=>cases h1;exact⟨_,_,rfl,h2⟩
   have e0:=I2.BE;have yo:=hb _ (Value.ref (s1.heap.objs.size+1)::us) I2.jR (by rw[FU,<-vD];simpa using r1.length);rw[FU] at yo;have tl:∀{r:ax}{t:Sl},r.length=aS.length->(r++[t])[aS.length]?=some t/\(r++[t]).take aS.length=r:=λ{r t} h=>by rw[<-h];exact⟨Qj,Qj⟩
   refine wpAny_call<|C0 (f:=fA) I1.jR M.makes M.init (beq_iff_eq.mp M.fn)<|F _ X.stack _ H2 _ _ _ _ (hr.make C us []) ⟨e0.frames,e0.mod,e0.bs,e0.EI,e0.fr,e0.B6,e0.aL,e0.bare⟩ yo PZ ?_;cases q3:fs (.ins c [] []::ds) with|no=>rw[q3] at o';exact o'.elim|exc x ios=>rw[q3] at o';intro s3 H3 v af xr;obtain⟨d',r,rfl,h3⟩:=ln af;simp only[pa,(tl<|dW _ _ _).2] at o';exact o' s3 H3 v (jb I2 r2 q2 n2 hx af) (l1.trans<|l2.trans af.le) (xr.up I2.sz)|ok d ios=>rw[q3] at o';intro s3 H3 v af rv;obtain⟨d',r,rfl,h3⟩:=ln af;cases d with|aP=>cases rv;simp only[pa,(tl<|dW _ _ _).2,(tl<|dW _ _ _).1] at o';exact⟨rfl,o' s3 H3 _ (jb I2 r2 q2 n2 hx af) (l1.trans<|l2.trans af.le) ⟨_,rfl,h3⟩⟩|_=>exact o'.elim
   rw[YO nd] at o';exact o'.elim
theorem Q19{subs:PE}{d1 d:D}(I:Inv X σ H ρ s)(r:RW H s v d1)(e:zT subs d1=some d):∃c b a C' dx od,v=.ref a/\(c,b)∈subs/\d=.bl b/\X.g.mg c=some (.ref C')/\s.heap.get? a=some (W.instObj C' dx)/\s.heap.get? dx=some od:=by
 cases d1 with
 |ins c' ns vs=>simp only[zT] at e;cases e1:subs.lookup c' with|none=>rw[e1] at e;cases e|some b=>rw[e1] at e;cases e;obtain⟨a,ff,rfl,C',dx,h1,h2,_,_,_,_,_,_,mA,h5,_⟩:=I.obj r rfl;obtain⟨od,_,_,MN,_⟩:=h5;exact⟨c',b,a,C',dx,od,rfl,Og e1,rfl,h1,h2,MN⟩
 |_=>cases e
end
end WL
end
section
set_option linter.all false
set_option maxRecDepth 100000
namespace WL
open PySem PySem.Spec PyProof.Rows L2 VP
def bf(t:Bool)(id:String):Value:=if t then .type id else .builtin id
section
variable{X:Cx}{e a b o:Expr}{es:Y2}{fa fb fe fo:M D}{pos p ZO bg:Pos}{x c m:Str}{σ:Sg}{H H':Tm}{ρ:ax}{s s':Shared}{ds:Vt}{us:SX}{Q:Tv}{E:Tv}{id:String}{fl:List (M D)}
theorem bB(t:Bool)(I:Inv X σ H ρ s)(hg:Gl X x)(hm:X.g.mg x=none)(hv:bootBuiltins x=some (bf t id))(ha:wpAny X.M X.A (spliced<|backTo pos<|starEach (e::es) X.env) (λus s1=>wpAny X.M X.A (call (bf t id) us) Q E s1) E s)(hn:x≠"__name__") (jP:(x == ("__debug__" : Str))=false) (he:Wj X e es) (gV:G7 X pos es):wpAny X.M X.A (eval (.Call (.Name x p) (e::es) [] pos) X.env) Q E s:=by refine Dw<|lH I hg hm hv ?_ hn jP;cases t;exact PyProof.Rows.callWith_builtin1 ha he gV;exact zU ha he gV
def HQ(X:Cx)(f:Value)(R:Rl D Value)(g:D->Pu):Prop:=∀s σ H ρ v a d Q E,Inv X σ H ρ s->RW H s v a->g a=some d->OK X σ H R Q d ρ->wpAny X.M X.A (call f [v]) Q E s
theorem b8{R:Rl D Value}{g:D->Pu}(t:Bool)(h:HQ X (bf t id) R g)(hg:Gl X x)(hm:X.g.mg x=none)(hv:bootBuiltins x=some (bf t id))(ha:PR X a fa)(hn:x≠"__name__" := by decide)(jP:RI x:=by decide)(hs:Wj X a []:=by rfl):WP X R (eval (.Call (.Name x p) [a] [] pos) X.env) (m1 g fa):=λs σ H ρ Q E I o=>by refine bB t I hg hm hv ?_ hn jP hs rfl;rw[hs];refine VG<|ha.Tp I o (λ_ _ q=>q) λs1 H1 aS v d I1 l1 r1 o1=>Nd ?_;obtain⟨d',e1,q⟩:=o1.opt;exact h s1 σ H1 aS v d d' Q E I1 r1 e1 (q.le l1)
theorem pF{g:Vt->Pu}(t:Bool)(h:Vk X (λus=>call (bf t id) us) g)(hg:Gl X x)(hm:X.g.mg x=none)(hv:bootBuiltins x=some (bf t id))(ha:th X (e::es) (mL fl))(hn:x≠"__name__" := by decide)(jP:RI x:=by decide)(he:Wj X e es:=by rfl) (gV:G7 X pos es:=by rfl):PV X (.Call (.Name x p) (e::es) [] pos) (mF g fl):=λs σ H ρ Q E I o=>by refine bB t I hg hm hv ?_ hn jP he gV;refine(ha pos).Tp I o (λ_ _ q=>q) λs1 H1 aS us d I1 l1 r1 o1=>?_;obtain⟨d',e1,q⟩:=o1.opt;exact h s1 σ H1 aS us d d' Q E I1 r1 e1 (q.le l1)
theorem pj{g:Vt->D}{d d':D}(e:(b6 d).map g=some d'):∃t ds,d=iZ t ds/\d'=g ds:=by cases q:b6 d with|none=>rw[q] at e;cases e|some ds=>rw[q] at e;cases e;obtain⟨t,h⟩:=de q;exact⟨t,ds,h,rfl⟩
theorem f_len:HQ X (bf false "len") RV bG:=λs σ H ρ v a d Q E I r e k=>by obtain⟨t,ds,rfl,rfl⟩:=pj (g:=λds=>.int ds.length) (d:=a) (d':=d) (by cases a<;>first|exact e|cases e);obtain⟨q,us,rfl,rr,sq,hz⟩:=I.seq t r;have hn:=oG;have hl:=rr.length;have k':∀tk t,Q (.int us.length tk) {s with toks:=t}:=λtk t=>k _ H (.int us.length tk) (I.tok t) Le.refl ⟨_,by rw[hl]⟩;cases t;exact Calls.call_len_list sq (by simp only[List.size_toArray]<;>lia) (by simpa using k' _ _);exact len_tuple sq (by simp only[List.size_toArray]<;>lia) (by simpa using k' _ _)
theorem f_tup:HQ X (bf true "tuple") RV fS:=λs σ H ρ v a d Q E I r e k=>by obtain⟨t,ds,rfl,rfl⟩:=pj (g:=λds=>.tup ds) (d:=a) (d':=d) (by cases a<;>first|exact e|cases e);obtain⟨q,us,rfl,rr,sq,hz⟩:=I.seq t r;have hl:=rr.length;cases t;refine call_tuple_list sq (λh' kp=>?_) (by simp only[List.size_toArray]<;>lia);obtain⟨H',I',l',r'⟩:=(I.kept (t':=s.toks) kp).Ad s.toks rr hz;exact k _ H' _ I' l' r';refine call_tuple_same sq<|k s H _ I Le.refl ?_;rcases r with r|⟨l,i,e1,hl⟩;exact r;cases (I.aL l _ hl).1.1
def RN(X:Cx):Rl D Value:=λH _ v d=>∃l,v=.ref l/\H l=some (.ow d X.N.length)/\∀b e,H b=some e->b<=l
theorem PN.pf(h:WP X (RN X) (eval e X.env) fe):PF X e fe:=h.mono λ_ _ _ _ _ _ _ I ⟨l,a,b,_⟩ k=>k _ I Le.refl ⟨l,a,b⟩
theorem toF_ne{f:Str}(hf:f≠"cells"):WR X f i RV:=λs σ H ρ v d Q I hi r k=>k H I Le.refl r λz=>absurd z hf
theorem toF_new{f:Str}:WR X f i (RN X):=λs σ H ρ v d Q I hi ⟨l,hv,hl,hm⟩ k=>by
 obtain⟨H',o,I',l',q,bk⟩:=I.fz hl<|.inr<|Wd _;rw[List.set_eq_of_length_le (by rw[I.len];exact Wd _)] at I';have z:=I.aL _ _ hl;refine k H' I' l' (by rw[hv];exact Rel.mk z.1 z.2 q) λ_ b b' e hb yo=>?_;rw[hv] at yo;cases yo;obtain⟨t1,t2⟩:=I'.tg b e i hb hi;have:∃lx,H lx=some (.ow e i):=by rcases t1 with q1|q1<;>obtain⟨x,_,w⟩:=I.slot i _ q1;obtain⟨lx,_,w⟩:=w;exact⟨lx,w⟩;obtain⟨lx,_,w,_⟩:=w;exact⟨lx,w⟩
 obtain⟨lx,w⟩:=this;cases t2 lx _ (bk lx _ _ w λz=>by rw[z,hl] at w;cases w;exact absurd hi<|Rm _);exact hm _ _ w
theorem JI:HQ X (bf true "list") (RN X) gK:=λs σ H ρ v a d Q E I r e k=>by
 obtain⟨t,ds,rfl,rfl⟩:=pj (g:=λds=>.lst ds) (d:=a) (d':=d) (by cases a<;>first|exact e|cases e);obtain⟨q,us,rfl,rr,sq,hz⟩:=I.seq t r;have hl:=rr.length;obtain⟨ob,ho,hc,n,hd⟩:∃ob,s.heap.get? q=some ob/\ob.cls=.type (if t then "tuple" else "list")/\∃n,ob.data=.seq us.toArray n:=by cases t;exact sq;exact sq
 refine call_list_seq q (T:=if t then "tuple" else "list") (by cases t;exact .inl rfl;exact .inr rfl) ho hc hd (λh' c' kp e'=>?_) (by simp only[List.size_toArray]<;>lia);obtain⟨I',l'⟩:=I.lay (t':=s.toks) (h':=h') (a:=s.heap.objs.size) (e:=.ow (.lst ds) X.N.length) kp (Wd _) (λlp=>⟨⟨hz,us,rr.p lp,c',e'⟩,λz=>nomatch z⟩) λd i z=>by cases z;exact Wd _
 refine k _ _ _ I' l' ⟨_,rfl,aA,λb e q=>?_⟩;by_cases y:b=s.heap.objs.size;exact Nat.le_of_eq y;rw[aH y] at q;exact Nat.le_of_lt (I.aL.lt q)
theorem iS{us:SX}{ds:Vt}{ns:UX}(r:aC H us ds)(e:b4 ds=some ns):IntsAre us ns:=by
 induction r generalizing ns with
 |nil=>cases e;exact .nil|@cons u d us ds h t ih=>
  cases d with
  |int i=>obtain⟨tk,rfl⟩:=h;simp only[b4] at e;cases q:b4 ds with|none=>rw[q] at e;cases e|some ns=>rw[q] at e;cases e;exact .cons i tk (ih q)
  |_=>cases e
theorem qN:∀{us:SX}{ns:UX},IntsAre us ns->aC H us (ns.map .int)|_,_,.nil=>.nil|_,_,.cons n t h=>.cons ⟨t,rfl⟩ (qN h)
theorem R1(hc:X.calm=true):HQ X (bf false "sum") RV DW:=λs σ H ρ v a d Q E I r e k=>by
 unfold DW at e;cases e1:b6 a with
 |none=>rw[e1] at e;cases e|some ds=>
  simp only[e1] at e;cases e2:b4 ds with
  |none=>rw[e2] at e;cases e|some ns=>
   rw[e2] at e;cases e;obtain⟨t,rfl⟩:=de e1;obtain⟨q,us,rfl,rr,sq,hz⟩:=I.seq t r;have hi:=iS rr e2;have hh:X.A.handled=none:=I.ok.hd hc;obtain⟨ys,ey⟩:=hi.allInts.items;have es:preSum (numAt ys) ys.size=ns.sum:=by rw[preSum_eq,xv Qj];have:=nums_intItems ys;rw[<-ey] at this;rw[<-this,show us.toArray.toList=us from rfl,hi.numsOf]
   cases t;have UG:s.heap.IsList q us.toArray:=sq;rw[ey] at UG;exact sum_intListG hh UG λh' tk t' hk=>by rw[es];exact k _ H _ (I.kept hk) Le.refl ⟨_,rfl⟩
   have UG:s.heap.IsTuple q us.toArray:=sq;rw[ey] at UG;exact W.ktm_sumG hh UG λh' tk t' hk=>by rw[es];exact k _ H _ (I.kept hk) Le.refl ⟨_,rfl⟩
theorem Mn:HQ X (bf false "sorted") RV qR:=λs σ H ρ v a d Q E I r e k=>by
 unfold qR at e;cases e1:b6 a with
 |none=>rw[e1] at e;cases e|some ds=>
  simp only[e1] at e;cases e2:b4 ds with
  |none=>rw[e2] at e;cases e|some ns=>
   simp only[e2] at e;split at e;rename_i VL;cases e;obtain⟨t,rfl⟩:=de e1;obtain⟨q,us,rfl,rr,sq,hz⟩:=I.seq t r;have hi:=iS rr e2;have fin:∀(out:Array Value)(ET:UX),IntsAre out.toList ET->ET.Perm ns->ET.Pairwise (·<=·)->Q (.ref<|s.heap.objs.size+1) {s with heap:=sortedAll s.heap us out}:=λout ET a1 a2 a3=>by
    have e:=vh a2 a3;subst e;obtain⟨c,hc⟩:=sortedAll_at s.heap us out;have z:((sortI ns).map D.int).length<=sizeLine:=by rw[VE,a2.length_eq,xg];lia
    obtain⟨I',l'⟩:=I.lay (t':=s.toks) (h':=sortedAll s.heap us out) (a:=s.heap.objs.size+1) (e:=.pin _<|some<|.lst<|(sortI ns).map .int) (λb o e=>sortedAll_old e) (Dx _) λlp=>⟨hc,λe z'=>by cases z';exact⟨z,out.toList,(qN a1).p lp,c,hc⟩⟩;exact k _ _ _ I' l' ⟨_,_,rfl,aA⟩
   have hl:us.length<64:=by rw[<-hi.length] at VL;exact VL
   cases t;exact sorted_ints sq hi hl fin;exact VS.sN sq hi hl fin;cases e
theorem f_int:Vk X (λus=>call (bf true "int") us) intD:=λs σ H ρ us ds d Q E I r e k=>by unfold VP.intD at e;split at e;cases e;obtain⟨u,rfl,t,rfl⟩:=r.one;exact call_int_int<|k _ H _ I Le.refl ⟨_,rfl⟩;cases e;obtain⟨u,rfl,r1⟩:=r.one;cases r1;exact call_int_bool<|k _ H _ (I.tok _) Le.refl ⟨_,rfl⟩;cases e
theorem aC.two(r:aC H us [d,d']):∃u v,us=[u,v]/\Rel H u d/\Rel H v d':=by cases r with|cons r t=>cases t with|cons r' t=>cases t;exact⟨_,_,rfl,r,r'⟩
theorem RZ(hc:X.calm=true):Vk X (λus=>call (bf false "max") us) maxD:=λs σ H ρ us ds d Q E I r e k=>by unfold maxD at e;split at e;rename_i i j;cases e;obtain⟨u,v,rfl,⟨t,rfl⟩,⟨t',rfl⟩⟩:=r.two;refine max_two_ints (I.ok.hd hc) λh' tk kp=>k _ H _ (I.kept kp) Le.refl ?_;by_cases hj:j > i;rw[YN hj,YN hj];exact⟨_,rfl⟩;rw[YO hj,YO hj];exact⟨_,rfl⟩;cases e
theorem xY(hc:X.calm=true)(al:Bool):HQ X (bf false<|if al then "all" else "any") RV (nK al):=λs σ H ρ v a d Q E I r e k=>by
 cases a with
 |lst ds=>
  simp only[nK] at e;cases e2:iG ds with
  |none=>rw[e2] at e;cases e|some bs=>
   rw[e2] at e;cases e;obtain⟨q,us,rfl,rr,pl,hz⟩:=I.lst r;have eu:us=bs.map Value.bool:=by
    clear hz pl r k;induction rr generalizing bs with
    |nil=>cases e2;rfl|cons h t ih=>
     rename_i d _ _;cases d with
     |bl b=>simp only[iG] at e2;cases q:iG _ with|none=>rw[q] at e2;cases e2|some bs=>rw[q] at e2;cases e2;rw[ih bs q];cases h;rfl
     |_=>cases e2
   subst eu;have lt:q<s.heap.objs.size:=by obtain⟨o,e,_⟩:=pl.isList;exact Ut e
   have hh:X.A.in1.handled=none:=I.ok.hd hc;have W:=Walks.list (prog:=X.g.prog) (w:=X.g.w) (A:=X.A.in1) hh s.heap.objs.size q (M1 lt) (bs.map Value.bool).toArray;have st:(λi (h:Heap)=>h.IsListIter s.heap.objs.size q i/\h.IsList q (bs.map Value.bool).toArray) 0 (s.heap.push {cls:=.type "list_iterator",data:=.fields #[.ref q,.int 0 0]}):=⟨⟨_,Ym _ rfl,rfl,rfl⟩,pl.isList.push _⟩;have tr:TruthOf X.g.prog X.g.w X.A.in1 (λi v=>(bs.map Value.bool).toArray[i]?=some v) (λi=>bs.getD i false):=λi v s Q E hP hQ=>by
    have VM:bs[i]?.map Value.bool=some v:=by simpa using hP
    cases e:bs[i]? with
    |none=>rw[e] at VM;cases VM|some b=>
     rw[e] at VM;cases VM;have:bs.getD i false=b:=by simp[e]
     dsimp only at hQ;rw[this] at hQ;exact WI hQ
   have kp:∀(h':Heap),(∀b o,b∉[s.heap.objs.size]->(s.heap.push {cls:=.type "list_iterator",data:=.fields #[.ref q,.int 0 0]}).get? b=some o->h'.get? b=some o)->∀b o,s.heap.get? b=some o->h'.get? b=some o:=λh' hk b o e=>hk b o (by simp[Nat.ne_of_lt<|Heap.lt_size e])<|VZ _ e;have hsz:(bs.map Value.bool).toArray.size=bs.length:=Qj;cases al with|true=>refine call_all_walk<|MX pl.isList ⟨_,_,_,_,_,_,_,rfl,W,st,tr,λh' tk hk=>?_⟩;rw[hsz,(VS.range_all bs).1];exact k _ H _ (I.kept<|kp h' hk) Le.refl rfl|false=>refine call_any_walk<|MX pl.isList ⟨_,_,_,_,_,_,_,rfl,W,st,tr,λh' tk hk=>?_⟩;rw[hsz,(VS.range_all bs).2];exact k _ H _ (I.kept<|kp h' hk) Le.refl rfl
 |_=>cases e
end
end WL
end
section
set_option linter.all false
set_option maxRecDepth 100000
namespace WL
open PySem PySem.Spec PyProof.Rows L2 VP
section
variable{X:Cx}{e a b o:Expr}{es:Y2}{fa fb fe fo:M D}{pos p ZO bg:Pos}{x c m:Str}{σ:Sg}{H H':Tm}{ρ:ax}{s s':Shared}{ds:Vt}{us:SX}{Q:Tv}{E:Tv}{id:String}{fl:List (M D)}
def Vw(neg:Bool):CmpOp:=if neg then .NotEq else .Eq
theorem w_eq(neg:Bool)(hu:X.A.units+64<cLine):kZ X (compareOp<|Vw neg) (P7 neg):=λs σ H ρ v u a b d Q E I r1 r2 e k=>LA neg hu I (.inl r1) (.inl r2) e k
theorem Mm(neg:Bool){P:D->ax->Prop}{E':Xn->ax->Prop}(hu:X.A.units+64<cLine)(j:Nat)(hb:PV X b fb)(hN:X.N[j]?=some x)(hv:ij X.env.scope x)(hd:(x == ("__debug__" : Str))=false)(eZ:(x == ("__classdict__" : Str))=false)(I:Inv X σ H ρ s)(o:Out (qF (P7 neg) j fb ρ) P E')(hE:∀x r,E' x r->OK X σ H (XR X) E x r) (hP:∀d aS s' H' w,Inv X σ H' aS s'->Le H H'->Rel H' w d->P d aS->Q w s'):wpAny X.M X.A (eval (.Name x p) X.env) (λu s1=>wpAny X.M X.A (eval b X.env) (λv s2=>wpAny X.M X.A (compareOp (Vw neg) u v) Q E s2) E s1) E s:=by
 unfold qF at o;by_cases ho:(own ρ[j]?).isSome=true;rw[YN ho] at o;obtain⟨d0,ho⟩:=Option.isSome_iff_exists.mp ho;obtain⟨l,yt,hl⟩:=I.ownAt hN hv ho;refine bx I hv yt (hb.Tp I o hE λs1 H1 aS v d I1 l1 r1 o1=>?_) hd eZ;unfold tZ at o1;cases q:own aS[j]? with|none=>rw[q] at o1;exact o1.elim|some d2=>rw[q] at o1;obtain⟨l',VQ,pG⟩:=I1.ownAt hN hv q;rw[yt] at VQ;cases VQ;obtain⟨d,e,k⟩:=o1.opt;exact LA neg hu I1 (.inr ⟨l,j,rfl,pG⟩) (.inl r1) e λs' H' w I' l' r'=>hP d aS s' H' w I' (l1.trans l') r' k
 rw[YO ho] at o;exact o.elim
theorem OI(neg:Bool)(hu:X.A.units+64<cLine)(j:Nat){x:Str}{p:Pos}(hb:PV X b fb)(hm:behindInMarks (Vw neg) b=false)(hN:X.N[j]?=some x:=by rfl)(hv:ij X.env.scope x:=by exact E3)(hd:RI x:=by decide)(eZ:v8 x:=by decide):PB X (.Compare (.Name x p) [Vw neg] [b] pos) (tB<|qF (P7 neg) j fb):=λs σ H ρ Q E I o=>wpAny_isTrue_Compare1 (Mm neg hu j hb hN hv hd eZ I o.Tp (λ_ _ q=>q) λd aS s' H' w I' l' r' k=>Qu I' l' r' k) hm
def toV:D->V|.bl b=>.bl b|.int i=>.int i|.str x=>.str x|_=>.aP
theorem toV_rel{d:D}(f:gj d=true)(r:Rel H u d):RelV (toV d) u:=by cases d<;>first|exact r|cases f
theorem toV_flat(d:D):ma (toV d)=true:=by cases d<;>rfl
theorem toV_eq{d e:D}(f:gj d=true)(g:gj e=true):Fs (toV d) (toV e)=eqB d e:=by cases d<;>first|(cases f;done)|(cases e<;>first|(cases g;done)|rfl)
theorem toV_all:∀{us:SX}{ds:Vt},aC H us ds->ds.all gj=true->Vals (ds.map toV) us/\(ds.map toV).all ma=true|_,_,.nil,_=>⟨.nil,rfl⟩|_,_,.cons h t,f=>by rw[zY,Lp] at f;obtain⟨i1,i2⟩:=toV_all t f.2;exact⟨.cons (toV_rel f.1 h) i1,by rw[Yk,zY,toV_flat,i2];rfl⟩
theorem any_eq{d:D}(f:gj d=true):∀{ds:Vt},ds.all gj=true->((ds.map toV).any λy=>Fs y<|toV d)=ds.any λy=>eqB y d|[],_=>rfl|y::ds,g=>by rw[zY,Lp] at g;rw[Yk,HA,HA,any_eq f g.2,toV_eq g.1 f]
theorem LB(neg:Bool){d1 d2 d:D}(I:Inv X σ H ρ s)(r1:Rel H v d1)(r2:RW H s u d2)(e:inD neg d1 d2=some d)(k:rg X σ H ρ d Q):wpAny X.M X.A (compareOp (if neg then .NotIn else .In) v u) Q E s:=by
 unfold inD at e;cases e1:b6 d2 with
 |none=>rw[e1] at e;cases e|some ds=>
  simp only[e1] at e;split at e;rename_i hf;rw[Lp] at hf;cases e;obtain⟨t,rfl⟩:=de e1;obtain⟨q,us,rfl,rr,sq,hz⟩:=I.seq t r2;obtain⟨i1,i2⟩:=toV_all rr hf.2;have rx:=toV_rel hf.1 r1;have mem:=λw (hw:w∈us.toArray)=>uS (A:=X.A.in1) (s:=s) rx (toV_flat d1) i1 i2 w (by simpa using hw);have ea:us.toArray.any (EK<|toV d1)=ds.any λy=>eqB y d1:=by rw[show us.toArray.any (EK<|toV d1)=us.any (EK<|toV d1) by simp,xD i1 i2,any_eq hf.1 hf.2]
  cases neg<;>cases t;exact SeqAt.in_listAt (EK<|toV d1) sq mem<|k s H _ I Le.refl (by rw[ea];rfl);exact SeqAt.in_tupleAt (EK<|toV d1) sq mem<|k s H _ I Le.refl (by rw[ea];rfl);exact SeqAt.notIn_listAt (EK<|toV d1) sq mem<|k s H _ I Le.refl (by rw[ea];rfl);exact SeqAt.notIn_tupleAt (EK<|toV d1) sq mem<|k s H _ I Le.refl (by rw[ea];rfl);cases e
theorem U9:kZ X (compareOp .In) (inD false):=λs σ H ρ v u a b d Q E I r1 r2 e k=>LB false I r1 (.inl r2) e k
theorem MU(neg:Bool){P:D->ax->Prop}{E':Xn->ax->Prop}(j:Nat)(ha:PV X a fa)(hN:X.N[j]?=some x)(hv:ij X.env.scope x)(hd:(x == ("__debug__" : Str))=false)(eZ:(x == ("__classdict__" : Str))=false)(I:Inv X σ H ρ s)(o:Out (F9 neg fa j ρ) P E')(hE:∀x r,E' x r->OK X σ H (XR X) E x r) (hP:∀d aS s' H' w,Inv X σ H' aS s'->Le H H'->Rel H' w d->P d aS->Q w s'):wpAny X.M X.A (eval a X.env) (λu s1=>wpAny X.M X.A (eval (.Name x p) X.env) (λv s2=>wpAny X.M X.A (compareOp (if neg then .NotIn else .In) u v) Q E s2) E s1) E s:=
 ha.Tp I o hE λs1 H1 aS v d I1 l1 r1 o1=>by unfold Cq at o1;cases q:own aS[j]? with|none=>rw[q] at o1;exact o1.elim|some d2=>rw[q] at o1;obtain⟨l,hu,hl⟩:=I1.ownAt hN hv q;obtain⟨d,e,k⟩:=Out.opt o1;exact bx I1 hv hu (LB neg I1 r1 (.inr ⟨l,j,rfl,hl⟩) e λs' H' w I' l' r'=>hP d aS s' H' w I' (l1.trans l') r' k) hd eZ
theorem Ag(j:Nat)(ha:PV X a fa)(hm:behindInMarks .NotIn (.Name x p)=false)(hN:X.N[j]?=some x:=by rfl)(hv:ij X.env.scope x:=by exact E3)(hd:RI x:=by decide)(eZ:v8 x:=by decide):PB X (.Compare a [.NotIn] [.Name x p] pos) (tB<|F9 true fa j):=λs σ H ρ Q E I o=>wpAny_isTrue_Compare1 (MU true j ha hN hv hd eZ I o.Tp (λ_ _ q=>q) λd aS s' H' w I' l' r' k=>Qu I' l' r' k) hm
theorem cy.rel{d:D}(h:VS.cy d v):Rel H v d:=by cases d<;>first|exact h|exact h.elim
theorem cy.uq{d e:D}(h:VS.cy d v)(g:VS.cy e v):d=e:=by
 cases d with
 |aP=>cases e<;>first|exact g.elim|rfl|(cases h;cases g;done)|(cases h;obtain⟨_,z⟩:=g;cases z)
 |bl k=>cases e<;>first|exact g.elim|(cases h;cases g;rfl)|(cases h;cases g;done)|(cases h;obtain⟨_,z⟩:=g;cases z)
 |int i=>obtain⟨t,h⟩:=h;subst h;cases e<;>first|exact g.elim|(cases g;done)|(obtain⟨_,z⟩:=g;injection z with z;rw[z])|(obtain⟨_,z⟩:=g;cases z)
 |str i=>obtain⟨t,h⟩:=h;subst h;cases e<;>first|exact g.elim|(cases g;done)|(obtain⟨_,z⟩:=g;injection z with z;rw[z])|(obtain⟨_,z⟩:=g;cases z)
 |_=>exact h.elim
theorem Q0U{ds es:Vt}{us:SX}(h:Paired VS.cy ds us)(h':Paired VS.cy es us):ds=es:=by induction h generalizing es with|nil=>cases h';rfl|cons h t ih=>cases h' with|cons h' t'=>rw[cy.uq h h',ih t']
theorem nE.uq{K:W.Frag}{a:Addr}{d e:D}(h:nE K a d)(h':nE K a e):d=e:=by
 obtain⟨t,ds,aO,n,rfl,h1,_,h3⟩:=h;obtain⟨t',es,its',n',rfl,Se,_,Mz⟩:=h';rw[h1] at Se;have et:t=t':=by injection Se with z;injection z with z;injection z with z;cases t<;>cases t'<;>first|rfl|exact absurd z (by decide)
 subst et;cases Se;rw[Q0U h3 Mz]
theorem D5{K:W.Frag}{a:Addr}{d:D}(h:nE K a d):D4 K a=some d:=by have hx:∃d,nE K a d:=⟨_,h⟩;unfold D4;rw[dif_pos hx,hx.choose_spec.uq h]
theorem vn{K:W.Frag}{a:Addr}{d:D}(h:D4 K a=some d):nE K a d:=by unfold D4 at h;split at h;rename_i hx;cases h;exact hx.choose_spec;cases h
theorem pK.rel{d:D}(h:VS.pK X.g.K d v)(I:Inv X σ H ρ s):Rel H v d:=by rcases h with h|⟨ds,q,aO,n,rfl,rfl,h1,h2,h3⟩;exact cy.rel h;have tk:=D5 (K:=X.g.K) (a:=q) (d:=.tup ds) ⟨true,ds,aO,n,rfl,h1,h2,h3⟩;have:=I.le _ _ (I.ok.bs q _<|I.ok.mod.lG _ _ h1) trivial;rw[tk] at this;exact⟨_,_,rfl,this⟩
theorem Q0x{d:D}(hm:VS.Y8 X.g.mg x d)(hg:Gl X x)(hd:RI x:=by decide):PV X (.Name x pos) (mC d):=let ⟨_,h1,h2⟩:=hm;GX hg h1 (λ_=>cy.rel h2) hd
theorem nv{t:List (Str×D)}{ab:Xa}{p:Pos}(T:VS.E4 X.g.w X.g.K X.g.mg x t ab)(hg:Gl X x)(hb:PV X b fb)(jP:RI x:=by decide)
  (hs:∀(q:Addr)(k:Str)(tk:Tok),subscripted b false (.ref q) (.str k tk)=operate [.ref q,.str k tk] (getItem (.ref q)<|.str k tk):=by intro _ _ _;with_unfolding_all rfl) :
  PV X (.Subscript (.Name x p) b pos) (m1 (Aw t) fb):=λs σ H ρ Q E I o=>by
 obtain⟨q,es,n,hm,_,hl,hk,hv,_⟩:=T.ex;refine Subscript_<|dB I hg hm (hb.Tp I o (λ_ _ q=>q) λs1 H1 aS v d1 I1 l1 r1 o1=>?_) jP;obtain⟨d,e1,q1⟩:=o1.opt;cases d1 with|str k=>obtain⟨tk,rfl⟩:=r1;obtain⟨v,hn,fl⟩:=hv k d e1;have MK:=W.mapOf_K (prog:=X.g.prog) (w:=X.g.w) I1.jR hl hk;exact PyProof.Rows.tail_any MK.typeIs slot_dict_getitem.lookup (wpAny_getItem_of (strKind_is X.g.prog X.g.w k tk) MK (W.find_K hl hn)<|q1 _ H1 _ (I1.tok _) l1<|pK.rel fl I1) (hs q k tk)|_=>cases e1
theorem HM(neg:Bool){t:List (Str×D)}{ab:Xa}{q:Addr}{es:Array DictEntry}{n:Nat}(lo:(q == sysModules)=false)(hl:X.g.K.lookup q=some ⟨.type "dict",none,.dict es n,#[]⟩)(hk:W.KeysLit X.g.w.params es.toList)(hv:∀k d,t.lookup k=some d->∃v,W.nsIn X.g.K q k=some (some v)/\VS.pK X.g.K d v) (Xo:∀k∈ab,W.nsIn X.g.K q k=some none) {d1 d:D} (I:Inv X σ H ρ s) (r1:Rel H v d1) (e1:sR neg t ab d1=some d) (k:rg X σ H ρ d Q):wpAny X.M X.A (compareOp (if neg then .NotIn else .In) v<|.ref q) Q E s:=by
 cases d1 with
 |str z=>
  obtain⟨tk,rfl⟩:=r1;simp only[sR] at e1;obtain⟨r,hn,rfl⟩:∃r:Xf,W.nsIn X.g.K q z=some r/\d=.bl (if neg then !r.isSome else r.isSome):=by cases e2:t.lookup z with|some d2=>rw[e2] at e1;cases e1;obtain⟨v,hn,_⟩:=hv z d2 e2;exact⟨some v,hn,by cases neg<;>rfl⟩|none=>rw[e2] at e1;dsimp only at e1;split at e1;rename_i hm;cases e1;exact⟨none,Xo z (by simpa using hm),by cases neg<;>rfl⟩;cases e1
  have MK:=W.mapOf_K (prog:=X.g.prog) (w:=X.g.w) I.jR hl hk;cases neg;exact wpAny_in_of (strKind_is X.g.prog X.g.w z tk) lo MK (by rw[W.find_K hl hn];exact k _ H _ (I.tok _) Le.refl rfl);exact wpAny_notIn_of (strKind_is X.g.prog X.g.w z tk) lo MK (by rw[W.find_K hl hn];exact k _ H _ (I.tok _) Le.refl rfl)
 |_=>cases e1
theorem Q1l{t:List (Str×D)}{ab:Xa}(T:VS.E4 X.g.w X.g.K X.g.mg x t ab)(hg:Gl X x)(ha:PV X a fa)(hm:behindInMarks .In (.Name x p)=false)(jP:RI x:=by decide):PB X (.Compare a [.In] [.Name x p] pos) (tB<|m1 (sR false t ab) fa):=λs σ H ρ Q E I o=>by obtain⟨q,es,n,h1,lo,hl,hk,hv,Xo⟩:=T.ex;refine wpAny_isTrue_Compare1 (ha.Tp I o.Tp (λ_ _ q=>q) λs1 H1 aS v d1 I1 l1 r1 o1=>?_) hm;obtain⟨d,e1,q1⟩:=o1.opt;exact dB I1 hg h1 (HM false lo hl hk hv Xo I1 r1 e1 λs' H' w I' l' r'=>Qu I' (l1.trans l') r' q1) jP
end
end WL
end
section
set_option linter.all false
set_option maxRecDepth 100000
namespace WL
open PySem PySem.Spec PyProof.Rows L2 VP
section
variable{X:Cx}{e a b o:Expr}{es:Y2}{fa fb fe fo:M D}{pos p ZO bg:Pos}{x c m:Str}{σ:Sg}{H H':Tm}{ρ:ax}{s s':Shared}{ds:Vt}{us:SX}{Q:Tv}{E:Tv}{id:String}{fl:List (M D)}
theorem aC.rep(r:aC H us ds):∀n:Nat,aC H (List.replicate n us).flatten (List.replicate n ds).flatten|0=>.nil|n+1=>by rw[GH,GH,NI,NI];exact r.app (r.rep n)
theorem sA(aO:SX)(m:Nat):List.foldl (λx1 x2=>x1++x2) #[] (List.replicate m aO.toArray)=(List.replicate m aO).flatten.toArray:=by have:=foldl_rep aO m [];rw[G2] at this;exact this
theorem PK{k:Int}{d:D}(I:Inv X σ H ρ s)(r1:Rel H v (.tup ds))(r2:Rel H u (.int k))(e:wF (.tup ds) (.int k)=some d)(q:rg X σ H ρ d Q):wpAny X.M X.A (binaryOp .Mult v u) Q E s:=by
 simp only[wF] at e;split at e;rename_i hc;cases e;obtain⟨t,rfl⟩:=r2;obtain⟨l,aO,rfl,r,pt,_⟩:=I.tup<|.inl r1;obtain⟨⟨cls,dd,data,sl⟩,e,sY,n,hd⟩:=id pt;simp only at sY hd;subst sY hd;have hl:=r.length;have hb:(gU:Int)=16777216:=rfl;have hz:=hc.2.2;rw[q8] at hz;have h12:=hc.1;have h22:=hc.2.1;have hr:¬(decide (k < -(2 ^ 63))||decide (k>=2 ^ 63))=true:=by simp only[Bool.or_eq_true,decide_eq_true_eq,not_or];lia
 refine wpAny_binaryOp_repeat_ref (T:="tuple") (U:="int") (by decide) ⟨_,e,rfl⟩ (λs'=>typeIs_int s' k t) VS.noFill_tuple_mul PySem.F.fills_int_mul PySem.F.slot_int_rmul VS.sD PySem.F.slot_int_index.lookup<|vi PySem.F.slot_int_rmul (typeIs_int s k t) PySem.F.entry_int_rmul (PySem.F.args_int_rmul_2 _ _) (VS.oC k t l aO.toArray n dd sl) ⟨e,rfl,⟨_,e,rfl⟩,?_⟩;have new:∀Y1,aC H Y1 (List.replicate k.toNat ds).flatten->Q (.ref s.heap.objs.size) {s with heap:=s.heap.push {cls:=.type "tuple",data:=.seq Y1.toArray},toks:=s.toks}:=λY1 r'=>by obtain⟨H',I',l',rr⟩:=I.Ad s.toks r' (by rw[len_rep,Nat.mul_comm];exact hz);exact q _ H' _ I' l' rr
 by_cases c1:(aO.toArray.isEmpty||k == 1)=true;refine vi GR ⟨_,e,rfl⟩ Dy (Pc _ _) (VS.xq l aO.toArray n dd sl k t hr c1) ⟨e,q _ H _ I Le.refl ?_⟩;have:(List.replicate k.toNat ds).flatten=ds:=by
  rw[Cv] at c1;rcases c1 with c1|c1;have z:aO=[]:=by simpa using c1
  subst z;cases r;exact List.eq_nil_of_length_eq_zero (by rw[len_rep];simp);have:k=1:=by simpa using c1
  subst this;simp
 rw[this];exact r1;by_cases c2:(decide (k<=0)||aO.toArray.isEmpty)=true;refine vi GR ⟨_,e,rfl⟩ Dy (Pc _ _) (VS.Q0j l aO.toArray n dd sl k t hr c1 c2) ⟨e,?_⟩;have hk:k.toNat=0:=by rw[Cv] at c1 c2;rcases c2 with c2|c2;have:=P0 c2;lia;exact absurd (.inl c2) c1
 exact new [] (by rw[hk];exact .nil);have hk:0<k:=by
  rw[Cv,not_or] at c2;have:=of_decide_eq_false (Bool.eq_false_iff.mpr c2.1)
  lia
 have hm:((aO.toArray.size:Nat):Int)*k=((ds.length*k.toNat:Nat):Int):=by rw[Yl,hl,Int.natCast_mul,Int.toNat_of_nonneg Uz]
 have hb:(sizeLine:Nat)<=16777216:=by decide
 refine vi GR ⟨_,e,rfl⟩ Dy (Pc _ _) (VS.xu l aO.toArray n dd sl k t hr c1 c2 (by rw[hm];lia) (by rw[hm];unfold Builtin.Tuple.tupleTooMany;simp only[decide_eq_true_eq];lia) (by rw[sA,Yl,len_rep,hl,Nat.mul_comm];exact hz)) ⟨e,?_⟩;rw[sA];exact new _<|r.rep _;cases e
theorem Ez:kZ X (binaryOp .Mult) wF:=λs σ H ρ v u a b d Q E I r1 r2 e k=>by
 cases a with
 |int i=>cases b with|int j=>exact w_mul s σ H ρ v u _ _ d Q E I r1 r2 e k|_=>cases e
 |tup ds=>cases b with|int j=>exact PK I r1 r2 e k|_=>cases e
 |_=>cases e
theorem Gv{R:Rl D Value}{d1 d2 d:D}(new:∀t' us ds s σ H ρ,Inv X σ H ρ s->aC H us ds->ds.length<=sizeLine->∃H',Inv X σ H' ρ {s with heap:=s.heap.push {cls:=.type "list",data:=.seq us.toArray},toks:=t'}/\Le H H'/\∀s',R H' s' (.ref s.heap.objs.size)<|.lst ds)(I:Inv X σ H ρ s)(r1:Rel H v d1)(r2:Rel H u d2)(e:mulL d1 d2=some d)(q:OK X σ H R Q d ρ):wpAny X.M X.A (binaryOp .Mult v u) Q E s:=by
 cases d1<;>cases d2<;>try (simp only[mulL,reduceCtorEq] at e;done)
 rename_i ds k;simp only[mulL] at e;split at e
 ·rename_i hc;cases e;obtain⟨t,rfl⟩:=r2;obtain⟨l,aO,rfl,r,⟨⟨cls,dd,data,sl⟩,n,e,sY,ZA,hd⟩,_⟩:=I.lst<|.inl r1;simp only at sY ZA hd;subst sY ZA hd;have hl:=r.length;have hb:(gU:Int)=16777216:=rfl;have hz:=hc.2.2;rw[q8] at hz;have h12:=hc.1;have h22:=hc.2.1;have YL:aO.toArray.size*k.toNat<=sizeLine:=by rw[Yl,hl];exact hz
  have Xw:¬aO.toArray.size*k.toNat > (2 ^ 63-1) / 8:=by
   have:(sizeLine:Nat)<=(2 ^ 63-1) / 8:=by decide
   lia
  have XF:¬(!Builtin.List.listFitsIndex k)=true:=by rw[fitsIndex_both Uz Uz];exact MJ
  have SJ:¬Builtin.List.listTooLong (aO.toArray.size*k.toNat)=true:=by rw[Q0y YL];exact MJ
  have XW:List.foldl (λx1 x2=>x1++x2) #[] (List.replicate (if aO.toArray.isEmpty=true then 0 else k.toNat) aO.toArray)=(List.replicate k.toNat aO).flatten.toArray:=by rw[sA];cases aO with|nil=>simp|cons a r'=>rw[YO Qj]
  refine wpAny_binaryOp_repeat_ref (T:="list") (U:="int") (by decide) ⟨_,e,rfl⟩ (λs'=>typeIs_int s' k t) noFill_list_mul PySem.F.fills_int_mul PySem.F.slot_int_rmul repeat_list PySem.F.slot_int_index.lookup<|vi PySem.F.slot_int_rmul (typeIs_int s k t) PySem.F.entry_int_rmul (PySem.F.args_int_rmul_2 _ _) (VS.Q1M k t l aO.toArray n sl) ⟨e,rfl,⟨_,e,rfl⟩,vi PySem.F.slot_list_mul ⟨_,e,rfl⟩ PySem.F.entry_list_mul (PySem.F.args_list_mul_2 _ _) (VS.Q1G l aO.toArray n sl k t XF Xw SJ) ⟨e,?_⟩⟩;rw[XW];obtain⟨H',I',l',rr⟩:=new s.toks _ _ s σ H ρ I (r.rep k.toNat) (by rw[len_rep,Nat.mul_comm];exact hz);exact q _ H' _ I' l' (rr _)
 ·cases e
theorem PJ:kZ X (binaryOp .Mult) mulL:=λs σ H ρ v u a b d Q E I r1 r2 e k=>Gv (R:=RV) (λt' us ds s σ H ρ I r hz=>let ⟨H',I',l',rr⟩:=I.C6 t' r hz;⟨H',I',l',λ_=>rr⟩) I r1 r2 e k
theorem G1{subs:PE}{pT:Pos}(T:VS.QD X.g.K X.g.mg c subs)(hg:Gl X "isinstance")(hm:X.g.mg "isinstance" = none)(FH:Gl X c)(ha:PR X a fa)(Xy:RI c:=by decide)
  (hs:starEach [a,.Name c pT] X.env=(false,eval a X.env)::starEach [.Name c pT] X.env:=by rfl) (j2:starEach [.Name c pT] X.env=(false,eval (.Name c pT) X.env)::starEach [] X.env:=by rfl) (gV:(backTo pos<|starEach [.Name c pT] X.env).any (·.1)=false:=by rfl) :
  PV X (.Call (.Name "isinstance" p) [a,.Name c pT] [] pos) (m1 (zT subs) fa):=λs σ H ρ Q E I o=>by
 obtain⟨C,hC,FP⟩:=T.ex;refine bB (id:="isinstance") false I hg hm boot_isinstance ?_ (by decide) (by decide) hs gV;rw[hs,j2];refine VG<|ha.Tp I o (λ_ _ q=>q) λs1 H1 aS v d1 I1 l1 r1 o1=>VG<|dB I1 FH hC (Nd ?_) Xy;obtain⟨d,e,q⟩:=o1.opt;obtain⟨c',b,a',C',dx,od,rfl,hb,rfl,h1,h2,h3⟩:=Q19 I1 r1 e;obtain⟨D,hD,f,hb⟩:=FP _ hb;rw[h1] at hD;cases hD;exact W.kia_one (W.kitx_own f.pg f.hd f.fi T.sp T.tk f.mr) I1.jR ⟨h2,rfl,rfl,h3⟩ hb (λz=>nomatch z) λtk=>q _ H1 _ (I1.tok tk) l1 rfl
end
end WL
end
section
set_option linter.all false
set_option maxRecDepth 100000
namespace WL
open PySem PySem.Spec PyProof.Rows L2 VP
section
variable{X:Cx}{e a b o:Expr}{es:Y2}{fa fb fe fo:M D}{pos p p' Tw ZO bg kp:Pos}{x c m:Str}{σ:Sg}{H H':Tm}{ρ:ax}{s s':Shared}{ds:Vt}{us:SX}{Q:Tv}{E:Tv}{id:String}{fl:List (M D)}
abbrev WM(aO:SX):Nat->Value->Prop:=λi v=>aO.toArray[aO.toArray.size-1-i]?=some v
structure WN(X:Cx)(it q:Addr)(aO:SX)(T:String)(St:Nat->Heap->Prop):Prop where
 two:VS.GA.E7 T
 walk:∀A:Around,A.handled=none->WalksS X.g.prog X.g.w A it [it,q] [it] (λa b=>b=a) aO.toArray.size (WM aO) (λi s=>St i s.heap)
 ty:∀(i:Nat)(s:Shared),St i s.heap->s.TypeIs (.ref it) T
 hint:∀A:Around,VS.GA.Hint X.g.prog X.g.w A it St
theorem va(t:Bool)(I:Inv X σ H ρ s)(r:RW H s v (iZ t ds))(k:∀o tk T St q aO,aC H aO ds->ds.length<=sizeLine->WN X s.heap.objs.size q aO T St->St 0 (s.heap.push o)->q<s.heap.objs.size->Q (.ref s.heap.objs.size) {s with heap:=s.heap.push o,toks:=tk}):wpAny X.M X.A (call (.type "reversed") [v]) Q E s:=by
 obtain⟨q,aO,rfl,rr,sq,hz⟩:=I.seq t r;have hsz:aO.toArray.size<=sizeLine:=by rw[Yl,rr.length];exact hz
 cases t with
 |false=>
  have pl:s.heap.IsList q aO.toArray:=sq;have lt:q<s.heap.objs.size:=by obtain⟨o,e,_⟩:=pl;exact Ut e
  exact call_reversed_list pl (k _ s.toks "list_reverseiterator" (VS.GA.Zb s.heap.objs.size q aO.toArray) q aO rr hz ⟨.inl rfl,λA hh=>(Walks.listRev hh s.heap.objs.size q (M1 lt) aO.toArray).toS,λi s st=>st.2.1.typeIs,λA=>VS.GA.Sz⟩ ⟨ZN _,⟨_,Ym _ rfl,rfl,by simp[revObj]⟩,pl.at λo e=>VZ _ e⟩ lt)
 |true=>
  have pt:IsTup s.heap q aO.toArray:=sq;have lt:q<s.heap.objs.size:=by obtain⟨o,e,_⟩:=pt;exact Ut e
  exact VS.RV.make pt hsz λtk=>k _ tk "reversed" (VS.GA.WO s.heap.objs.size q aO.toArray) q aO rr hz ⟨.inr rfl,λA hh=>(VS.GA.Q1g hh s.heap.objs.size q (M1 lt) aO.toArray hsz).toS,λi s st=>st.2.1.typeIs,λA=>VS.GA.SA hsz⟩ ⟨ZN _,⟨_,Ym _ rfl,rfl,by simp[VS.RV.obj]⟩,let ⟨o,e,r⟩:=pt;⟨o,VZ _ e,r⟩⟩ lt
theorem aC.reverse:∀{us:SX}{ds:Vt},aC H us ds->aC H us.reverse ds.reverse|_,_,.nil=>.nil|_,_,.cons h t=>by rw[GI,GI];exact(aC.reverse t).app (.cons h .nil)
theorem yQ(hg:Gl X "reversed")(hm:X.g.mg "reversed" = none)(FH:Gl X "tuple")(ML:X.g.mg "tuple" = none)(ha:PR X a fa)(hc:X.calm=true:=by rfl)(hs:starEach [a] X.env=[(false,eval a X.env)]:=by rfl)(j2:starEach [.Call (.Name "reversed" p) [a] [] pos] X.env=[(false,eval (.Call (.Name "reversed" p) [a] [] pos) X.env)]:=by rfl):PV X (.Call (.Name "tuple" p') [.Call (.Name "reversed" p) [a] [] pos] [] Tw) (m1 u9 fa):=λs σ H ρ Q E I o=>by
 refine bB (id:="tuple") true I FH ML boot_tuple ?_ (by decide) (by decide) j2 rfl;rw[j2];refine VG<|bB (id:="reversed") true I hg hm boot_reversed ?_ (by decide) (by decide) hs rfl;rw[hs];refine VG<|ha.Tp I o (λ_ _ q=>q) λs1 H1 aS v d1 I1 l1 r1 o1=>Nd ?_;obtain⟨d,e,q⟩:=o1.opt;obtain⟨t,ds,rfl,rfl⟩:=pj e;refine va t I1 r1 λo tk T St q' aO rr hz W st lt=>Nd ?_;have hsz:aO.toArray.size<=sizeLine:=by rw[Yl,rr.length];exact hz
 refine VS.GA.vR (T:=T) (St:=St) (s:={s1 with heap:=s1.heap.push o,toks:=tk}) W.two (W.walk _<|I1.ok.hd hc) W.ty (W.hint _) st (λb hb=>?_) Qj hsz λs' acc m hi=>?_;simp only[List.mem_cons,List.not_mem_nil,or_false] at hb;have hp:(s1.heap.push o).objs.size=s1.heap.objs.size+1:=by simp[Heap.push]
 show b<(s1.heap.push o).objs.size;rcases hb with rfl|rfl<;>rw[hp]<;>lia;obtain⟨hp,g,d,Wo,os⟩:=s';obtain⟨m1,m2,m3,m4,m5⟩:=m;simp only at m1 m2 m3 m4 m5;subst m2 m3 m4;rw[VS.qC hi];have I2:=I1.kept (t':=Wo) (h':=hp) λb ob e=>m1 b ob (by simp[Nat.ne_of_lt<|Heap.lt_size e])<|VZ _ e;obtain⟨H',I',l',r'⟩:=I2.Ad Wo (aC.reverse rr) (by rw[List.length_reverse];exact hz);exact q _ H' _ I' (l1.trans l') r'
theorem Q1L(hg:Gl X "reversed")(hm:X.g.mg "reversed" = none)(FH:Gl X "list")(ML:X.g.mg "list" = none)(ha:PR X a fa)(hc:X.calm=true:=by rfl)(hs:starEach [a] X.env=[(false,eval a X.env)]:=by rfl)(j2:starEach [.Call (.Name "reversed" p) [a] [] pos] X.env=[(false,eval (.Call (.Name "reversed" p) [a] [] pos) X.env)]:=by rfl):PF X (.Call (.Name "list" p') [.Call (.Name "reversed" p) [a] [] pos] [] Tw) (m1 G6 fa):=λs σ H ρ Q E I o=>by
 refine bB (id:="list") true I FH ML boot_list ?_ (by decide) (by decide) j2 rfl;rw[j2];refine VG<|bB (id:="reversed") true I hg hm boot_reversed ?_ (by decide) (by decide) hs rfl;rw[hs];refine VG<|ha.Tp I o (λ_ _ q=>q) λs1 H1 aS v d1 I1 l1 r1 o1=>Nd ?_;obtain⟨d,e,q⟩:=o1.opt;obtain⟨t,ds,rfl,rfl⟩:=pj e;refine va t I1 r1 λo tk T St q' aO rr hz W st lt=>Nd ?_;have hsz:aO.toArray.size<=sizeLine:=by rw[Yl,rr.length];exact hz
 have hp:(s1.heap.push o).objs.size=s1.heap.objs.size+1:=by simp[Heap.push]
 refine VS.GA.zG (T:=T) (St:=St) (s:={s1 with heap:=s1.heap.push o,toks:=tk}) W.two (W.walk _<|I1.ok.hd hc) W.ty (W.hint _) st (λb hb=>?_) Qj hsz λs' acc c m hl hi=>?_;simp only[List.mem_cons,List.not_mem_nil,or_false] at hb;show b<(s1.heap.push o).objs.size;rcases hb with rfl|rfl<;>rw[hp]<;>lia;obtain⟨h',g,d,Wo,os⟩:=s';obtain⟨m1,m2,m3,m4,m5⟩:=m;simp only at m1 m2 m3 m4 m5 hl;subst m2 m3 m4;rw[VS.qC hi] at hl;obtain⟨I',l'⟩:=I1.lay (t':=Wo) (h':=h') (a:=(s1.heap.push o).objs.size) (e:=.ow (.lst ds.reverse) X.N.length) (λb ob e=>m1 b ob (by have:=Ut e;rw[hp];simp;lia)<|VZ _<|VZ _ e) (by rw[hp];exact Dx _) (λlp=>⟨⟨by rw[List.length_reverse];exact hz,_,(aC.reverse rr).p lp,c,hl⟩,λz=>nomatch z⟩) λd i z=>by cases z;exact Wd _
 exact q _ _ _ I' (l1.trans l') ⟨_,rfl,aA⟩
theorem Al(n:Nat)(lo:Nat)(us:SX)(hl:us.length=n)(h:∀(j:Nat)(v:Value),us[j]?=some v->∃t,v=.int ((lo+j:Nat):Int) t):aC H us ((List.range' lo n).map λ(k:Nat)=>D.int k):=by induction n generalizing lo us with|zero=>obtain rfl:=List.length_eq_zero_iff.mp hl;exact .nil|succ n ih=>cases us with|nil=>cases hl|cons u us=>rw[List.range'_succ,Yk];refine .cons (h 0 u rfl)<|ih (lo+1) us (Nat.succ.inj hl) λj v e=>?_;obtain⟨t,e⟩:=h (j+1) v e;exact⟨t,by rw[e,show lo+1+j=lo+(j+1) by lia]⟩
theorem Q26(hg:Gl X "range")(hm:X.g.mg "range" = none)(FH:Gl X "list")(ML:X.g.mg "list" = none)(ha:th X [a] (mL fl))(hc:X.calm=true:=by rfl)(hs:starEach [a] X.env=[(false,eval a X.env)]:=by rfl)(j2:starEach [.Call (.Name "range" p) [a] [] pos] X.env=[(false,eval (.Call (.Name "range" p) [a] [] pos) X.env)]:=by rfl):PF X (.Call (.Name "list" p') [.Call (.Name "range" p) [a] [] pos] [] Tw) (mF CL fl):=λs σ H ρ Q E I o=>by
 refine bB (id:="list") true I FH ML boot_list ?_ (by decide) (by decide) j2 rfl;rw[j2];refine VG<|bB (id:="range") true I hg hm boot_range ?_ (by decide) (by decide) hs rfl;refine(ha pos).Tp I o (λ_ _ q=>q) λs1 H1 aS us ds I1 l1 r1 o1=>?_;obtain⟨d,e,q⟩:=o1.opt;unfold CL at e;split at e;rename_i j;split at e;rename_i hb;cases e;obtain⟨u,rfl,t,rfl⟩:=r1.one;refine call_range_1<|Nd ?_;refine call_list_range (n:=j.toNat) (I1.ok.hd hc) (IsRange.new ..) (small_one Uz Uz Uz Uz) (by rw[rangeSize_one];split<;>lia) Uz λh' tk acc c hk ho hi=>?_;have hv:aC H1 acc.toList ((List.range j.toNat).map λ(k:Nat)=>D.int k):=by rw[List.range_eq_range'];refine Al _ _ _ (by simpa using hi.1) λi v e=>?_;obtain⟨t,e⟩:=hi.2 i v (by simpa using e);exact⟨t,by rw[e];simp⟩
 obtain⟨I',l'⟩:=I1.lay (t':=tk) (h':=h') (e:=.ow (.lst<|(List.range j.toNat).map λ(k:Nat)=>D.int k) X.N.length) (λb ob e=>hk b ob<|VZ _ e) (by rw[size_push'];exact Dx _) (λlp=>⟨⟨by rw[VE,Hh,xg];lia,_,hv.p lp,c,ho⟩,λz=>nomatch z⟩) λd i z=>by cases z;exact Wd _
 exact q _ _ _ I' (l1.trans l') ⟨_,rfl,aA⟩;cases e;cases e
theorem cZ:∀ns:UX,b4 (ns.map D.int)=some ns|[]=>rfl|n::ns=>by simp only[List.map_cons,b4,cZ ns];rfl
theorem GY(ho:PV X o fo)(he:PV X e fe)
  (iR:attributeBase o "index" X.env (eval o X.env)=eval o X.env:=by rfl)
  (we:((backTo bg<|starEach [e] X.env).all (λx=>!x.1)&&(backToKw bg<|keywordEach [] X.env).all (λx=>x.1.isSome)&&decide ([e].length+([]:List Keyword).length+(if ([]:List Keyword).isEmpty then 0 else 1)<30))=true:=by rfl)
  (kC:(ZO.endLine == bg.line)=true:=by rfl) (jH:starEach [e] X.env=[(false,eval e X.env)]:=by rfl):PV X (.Call (.Attribute o "index" ZO) [e] [] bg) (uN fo fe):=λs σ H ρ Q E I oo=>by
 refine wpAny_Call_method_late iR we kC rfl<|ho.Tp I oo (λ_ _ q=>q) λs1 H1 aS v d1 I1 l1 r1 o1=>?_;cases d1 with
 |lst ds=>
  obtain⟨l,aO,rfl,rr,pl,hz⟩:=I1.lst<|.inl r1;obtain⟨ob,n,hg,hc,hd,EM⟩:=id pl;refine⟨"list","list.index",PySem.F.plainAttrs_list,PySem.F.slot_list_index,PySem.F.type_list_index,⟨_,hg,hc⟩,λa e=>by cases e;exact⟨_,hg,hd⟩,?_⟩;rw[jH];refine M3 rfl<|Calls.evalArgs_plain<|VG<|he.Tp I1 o1 (λ_ _ q=>q.le l1) λs2 H2 pX u d2 I2 l2 r2 o2=>Nd ?_;obtain⟨d,e1,q⟩:=o2.opt;obtain⟨ns,k,rfl,rfl,hk,rfl⟩:=VS.yw e1;obtain⟨t,rfl⟩:=r2;obtain⟨l',aO,z,r,⟨⟨c,dd,dt,sl⟩,n,hg,hc,hd,EM⟩,hz⟩:=I2.lst<|.inl<|r1.le l2;cases z;simp only at hc EM hd;subst hc EM hd;have hi:IntsAre aO ns:=iS r<|cZ ns;have YL:=hi.length;have hj:ns.idxOf k<ns.length:=List.idxOf_lt_length_iff.mpr hk;have ZG:=oG;refine vi PySem.F.slot_list_index ⟨_,hg,rfl⟩ PySem.F.entry_list_index (PySem.F.args_list_index_2 _ _) (PySem.SeqAt.list_indexAt l aO.toArray n none sl (.int k t) (isInt k) (ns.idxOf k) (by simpa[YL] using hj) ?_ ?_ ?_) ⟨hg,λy hy=>(eq_isInt k t hi y (by simpa using hy)).at _ _,?_⟩;rw[VE] at hz;have:sizeLine<2 ^ 63-1:=by decide
  lia
  show isInt k aO[ns.idxOf k]=true;rw[isInt_at k hi _ Uz hj];simpa using List.getElem_idxOf hj;intro j uH fj;show isInt k aO[j]=false;rw[isInt_at k hi j (by simpa using uH) Uz];exact ne_of_lt_idxOf fj _;exact q _ H2 _ (I2.kept (t':=s2.toks+1) λ_ _ e=>e) (l1.trans l2) ⟨_,rfl⟩
 |_=>exact o1.elim
theorem Q1B(hc:X.calm=true)(AM:Gl X "max")(hm:X.g.mg "max" = none)(hv:bootBuiltins "max" = some (.builtin "max"))(ha:PV X a fa)(hb:PV X b fb)
  (hs:Wj X a []:=by rfl)
  (he:backTo pos (starEach [a] X.env)=(false,eval a X.env)::backTo pos (starEach [] X.env):=by rfl) (hp:(backTo pos<|starEach [a] X.env).any (·.1)=false:=by rfl)
  (hk1:(backToKw pos<|keywordEach [⟨some "default",b,kp⟩] X.env).all (·.1.isSome)=true:=by rfl) (hk2:(backToKw pos<|keywordEach [⟨some "default",b,kp⟩] X.env).any (·.1.isNone)=false:=by rfl)
  (hk3:(backToKw pos<|keywordEach [⟨some "default",b,kp⟩] X.env).filterMap (·.1)=[("default" : Str)]:=by rfl) :
  PV X (.Call (.Name "max" p) [a] [⟨some "default",b,kp⟩] pos) (m2 lI fa fb):=λs σ H ρ Q E I o=>by
 refine Dw<|lH I AM hm hv ?_ (by decide) (by decide);refine callWith_kw ?_ he hp hk1 hk2;rw[hs];refine VG<|ha.Tp I o (λ_ _ q=>q) λs1 H1 aS v d1 I1 l1 r1 o1=>Nd ?_;refine kws_cons<|hb.Tp I1 o1 (λ_ _ q=>q.le l1) λs2 H2 pX dv d2 I2 l2 r2 o2=>kws_nil ?_;rw[hk3];obtain⟨d,e,q⟩:=o2.opt;cases d1 with
 |tup ds=>
  simp only[lI] at e;cases e2:b4 ds with
  |none=>rw[e2] at e;cases e|some ns=>
   rw[e2] at e;obtain⟨l,aO,rfl,rr,pt,hz⟩:=I2.tup<|.inl<|r1.le l2;refine VS.zH (I2.ok.hd hc) pt (iS rr e2) λv h' tk yu ZP=>?_;rcases yu with ⟨rfl,rfl⟩|⟨i,is,t,rfl,rfl⟩
   cases e;exact q _ H2 _ (I2.kept ZP) (l1.trans l2) r2;cases e;exact q _ H2 _ (I2.kept ZP) (l1.trans l2) ⟨t,rfl⟩
 |_=>simp only[lI,reduceCtorEq] at e
end
end WL
end
section
set_option linter.all false
set_option maxRecDepth 100000
namespace WL
open PySem PySem.Spec PyProof.Rows L2 VP
def E1(n:Nat)(H:Tm):Nat->Addr->Prop:=λi a=>i<n/\∃d,H a=some (.ow d i)
def aJ(X:Cx)(scope:Scope)(C:Addr)(N':Xa)(s:Shared)(H:Tm)(ex:V8):Cx:={X with env:=compEnvC scope (VS.jE X.env.cells scope.names []) C X.env,N:=N',outer:=X.stack,fn:=false,H₀:=lend (E1 X.N.length H) (oq X.stack) ex s.heap H,n₀:=s.heap.objs.size}
structure bF(X:Cx)(scope:Scope)(N':Xa):Prop where
 kind:scope.kind=.function
 Vu:VS.gZ X.env.scope.names scope.names X.N N'=true
 nd:N'.Nodup
noncomputable def vf(N N':Xa)(σ:Sg)(D:Addr):Sg:=λx=>if N'.idxOf x<N.length then(N[N'.idxOf x]?).bind σ else if N'.idxOf x=N'.length-1 then some (.ref D) else none
section
variable{X:Cx}{scope:Scope}{N':Xa}{σ:Sg}{H H1:Tm}{ρ:ax}{s s2:Shared}{fp:V8}{bz:Heap}{D C:Addr}{tk n:Nat}
theorem oA{l:Xa}(nd:l.Nodup)(h:l[i]?=some x):l.idxOf x=i:=by obtain⟨h1,h2⟩:=List.getElem?_eq_some_iff.mp h;rw[<-h2];exact List.Nodup.idxOf_getElem nd i h1
theorem bF.v(c:bF X scope N'):∀{p},p∈scope.names->(p.2=.free->X.env.kindOf p.1=some .cell\/X.env.kindOf p.1=some .free)/\p.2≠.cell/\(p.2=.local->scope.names.lookup p.1=some .local):=λ{p} hp=>by have h:=c.Vu;unfold VS.gZ at h;simp only[Bool.and_eq_true,List.all_eq_true] at h;have q:=h.1.1.1.1 p hp;refine⟨λhf=>?_,by simpa using q.1.1,λhl=>?_⟩;have q:=q.1.2;rw[hf] at q;simp at q;exact q;have q:=q.2;rw[hl] at q;simpa using q
theorem bF.len(c:bF X scope N'):X.N.length+1<=N'.length:=by have h:=c.Vu;unfold VS.gZ at h;simp only[Bool.and_eq_true] at h;exact P0 h.2
theorem bF.acc(c:bF X scope N')(hx:N'[N'.length-1]?=some x):scope.names.lookup x=none:=by have h:=c.Vu;unfold VS.gZ at h;simp only[Bool.and_eq_true] at h;have q:=h.1.2;rw[hx] at q;simpa using q
theorem bF.at(c:bF X scope N')(hi:i<X.N.length)(hx:N'[i]?=some x):scope.names.lookup x≠some .local/\(scope.names.lookup x=none\/X.N[i]?=some x):=by have h:=c.Vu;unfold VS.gZ at h;simp only[Bool.and_eq_true,List.all_eq_true] at h;have q:=h.1.1.2 i<|List.mem_range.mpr hi;rw[hx] at q;simp only[Bool.and_eq_true,Bool.or_eq_true] at q;refine⟨by simpa using q.1,?_⟩;rcases q.2 with z|z;exact .inl (by simpa using z);exact .inr (by simpa using z)
theorem bF.look(c:bF X scope N')(ok:X.Ok)(hx:scope.names.lookup x=some .free) : ((relabel scope X.env).names.lookup x=some .cell\/(relabel scope X.env).names.lookup x=some .free)/\(X.env.kindOf x=some .cell\/X.env.kindOf x=some .free)/\∃a,X.env.cells.lookup x=some a/\(VS.jE X.env.cells scope.names []).lookup x=some a:=by have hm:=Og hx;have hk:=(c.v hm).1 rfl;obtain⟨a,ha⟩:=ok.has x hk;refine⟨?_,hk,a,ha,VS.zI ha hm⟩;rw[VS.dJ,hx];simp only[Option.map_some];split;exact .inl rfl;exact .inr rfl
theorem bF.Kb(c:bF X scope N')(hv:ij (relabel scope X.env) x)(nl:scope.names.lookup x≠some .local):scope.names.lookup x=some .free:=by
 have yu:(relabel scope X.env).names.lookup x=some .local\/(relabel scope X.env).names.lookup x=some .cell\/(relabel scope X.env).names.lookup x=some .free:=hv;rw[VS.dJ] at yu;cases q:scope.names.lookup x with
 |none=>rw[q] at yu;rcases yu with z|z|z<;>cases z
 |some k=>rw[q] at yu nl;have nc:=(c.v<|Og q).2.1;simp only[Option.map_some] at yu;split at yu;rename_i hh;simp at hh;rw[hh.1.1];rcases yu with z|z|z;exact absurd z nl;exact absurd (Qe z) nc;exact z
theorem Inv.L7(I:Inv X σ H ρ s)(e:X.env.cells.lookup x=some c):c∉oq X.stack:=λhb=>by
 obtain⟨en,he,hf⟩:=List.mem_filterMap.mp hb;have out:en∉X.outer:=λh=>by obtain⟨_,L,o,h1,_,h2,_⟩:=I.ok.fr en h;rw[hf] at h1;cases h1;have q:=I.le _ _ h2 trivial;rcases (I.cell x c e).2 with z|⟨_,_,_,z⟩<;>(rw[q] at z;cases z)
 have:=I.ok.UJ;split at this;rw[this.1] at he;rcases List.mem_cons.mp he with rfl|he;rw[this.2] at hf;cases hf;exact I.Vx e rfl;exact out he;rw[this] at he;exact out he
def cq(H:Tm)(fp:V8):Tm:=λa=>if a∈fp then none else H a
def eR(X:Cx)(N':Xa)(s:Shared)(H:Tm)(fp:V8)(D:Addr):Tm:=λa=>if a=D then some (.ow (.lst [])<|N'.length-1) else if a∈fp then H a else lend (E1 X.N.length<|cq H fp) (oq X.stack) fp s.heap (cq H fp) a
theorem Bz(I:Inv X σ H ρ s)(hf:∀b∈fp,∃o,H b=some (.dg o)):nB X.g (cq H fp) s.heap:=I.aL.gen (·∈fp) (λx e z q=>by obtain⟨o,y⟩:=hf x z;rw[y] at q;cases q;trivial) (λb z=>YO z) (λ_ _ _ z=>z) λ_ a e z q=>by unfold cq at q;rw[YN z] at q;cases q
theorem vY(c:bF X scope N')(I:Inv X σ H ρ s)(hf:∀b∈fp,(∃o,H b=some (.dg o))/\X.H₀ b=none)
  (hD:D=s.heap.objs.size) (hC:C=s.heap.objs.size+1) (old:∀b o,s.heap.get? b=some o->bz.get? b=some o) (SN:bz.Ns C λ_=>none) (hl:bz.get? D=some {cls:=.type "list",data:=.seq #[] 0}) (hn:X.N.length+n+1=N'.length) :
  Inv (aJ X scope C N' s (cq H fp) fp) (vf X.N N' σ D) (eR X N' s H fp D) (ρ++List.replicate n .no++[.ow<|.lst []]) {s with heap:=bz,toks:=tk}:=by
 have Yx:=Bz I λb hb=>(hf b hb).1;have hex:∀a∈fp,cq H fp a=none:=λa z=>YN z;have TN:=yB (Ln:=E1 X.N.length<|cq H fp) (fs:=oq X.stack) Yx hex;have JK:∀b∈fp,b<s.heap.objs.size:=λb hb=>by obtain⟨⟨o,z⟩,_⟩:=hf b hb;exact I.aL.lt z
 have nD:∀{a},a<s.heap.objs.size->a≠D:=λh z=>by rw[z,hD] at h;exact Rm _ h
 have NA:∀{a e},H a=some e->(∀o,e≠.dg o)->a∉fp:=λq z y=>by obtain⟨⟨o,w⟩,_⟩:=hf _ y;rw[q] at w;cases w;exact z o rfl
 have mJ:∀{a},a∉fp->cq H fp a=H a:=λz=>YO z;have st:∀{a},a≠D->a∉fp->eR X N' s H fp D a=lend (E1 X.N.length<|cq H fp) (oq X.stack) fp s.heap (cq H fp) a:=λh1 h2=>by unfold eR;rw[YO h1,YO h2]
 have YR:eR X N' s H fp D D=some (.ow (.lst [])<|N'.length-1):=YN rfl;have YS:∀{a},a∈fp->eR X N' s H fp D a=H a:=λh=>by unfold eR;rw[YO<|nD<|JK _ h,YN h]
 have Ua:∀{a o d},H a=some (.pin o d)->eR X N' s H fp D a=some (.pin o d):=λq=>by have y:=NA q λ_ z=>nomatch z;rw[st (nD<|I.aL.lt q) y];exact fM y ((mJ y).trans q)
 have lp:iA H (eR X N' s H fp D):=λa o d q=>Ua q;have owB:∀{a d i},H a=some (.ow d i)->i<X.N.length->eR X N' s H fp D a=some (.ow d i):=λq hi=>by have y:=NA q λ_ z=>nomatch z;have q':=(mJ y).trans q;rw[st (nD<|I.aL.lt q) y];exact yC y q' ⟨hi,_,q'⟩ λi' ⟨_,d',z⟩=>by rw[q'] at z;cases z;rfl
 have clt:∀{x a},X.env.cells.lookup x=some a->a<s.heap.objs.size:=λe=>by obtain⟨⟨v,q⟩,_⟩:=I.cell _ _ e;exact q.lt
 have Ke:ρ.length=X.N.length:=I.len;have atB:∀{i:Nat} {x},N'[i]?=some x->i<X.N.length->vf X.N N' σ D x=(X.N[i]?).bind σ:=λh1 h2=>by unfold vf;rw[oA c.nd h1,YN h2]
 have hLf:∀b o,s.heap.get? b=some o->b∈oq X.stack->lend (E1 X.N.length<|cq H fp) (oq X.stack) fp s.heap (cq H fp) b=some (.jO o)/\b∉fp:=λb o e hb=>by
  have y:b∉fp:=λz=>by obtain⟨⟨o,w⟩,_⟩:=hf _ z;rcases I.B6 hb with q|⟨_,q⟩<;>(rw[w] at q;cases q)
  have q:=I.B6 hb;rw[<-mJ y] at q;refine⟨?_,y⟩;rw[kG y (λo d z=>by rcases q with q|⟨_,q⟩<;>(rw[q] at z;cases z)) (λd j i z=>by rcases q with q|⟨_,q⟩<;>(rw[q] at z;cases z)) (λd j z=>by rcases q with q|⟨_,q⟩<;>(rw[q] at z;cases z)),w7 e,YN hb]
 refine⟨⟨I.ok.mod,c.kind,I.ok.glob,I.ok.blt,λx y a h1 h2=>I.ok.inj x y a (VS.gb h1) (VS.gb h2),λx hx=>?_,I.ok.hd,I.ok.frames,rfl,I.ok.VC,λb o e=>?_,YM I.ok.EI I.sz,λb e q=>TN.lt q,λe he=>?_,hC ▸ Dx _⟩,I.os,I.bare,λa e q f=>?_,λa e q z=>?_,?_,⟨_,SN,λx u hv q=>?_⟩,λi sl q=>?_,λl d i q hi=>?_,?_,λx a e=>?_,?_⟩;have hv:ij (relabel scope X.env) x:=.inr hx;obtain⟨_,_,a,_,z⟩:=c.look I.ok (c.Kb hv λz=>by have FQ:(relabel scope X.env).names.lookup x=some .cell\/(relabel scope X.env).names.lookup x=some .free:=hx;rw[VS.dJ,z] at FQ;rcases FQ with y|y<;>cases y);exact⟨a,z⟩;have q:=I.le _ _ (I.ok.bs b o e) trivial;have y:=NA q λ_ z=>nomatch z;exact fM y<|(mJ y).trans q;obtain⟨h1,L,o,h2,h3,h4,h5⟩:=I.BE.fr e he;exact⟨h1,L,o,h2,h3,(hLf L o h4<|List.mem_filterMap.mpr ⟨e,he,h2⟩).1,h5⟩;have hx:=(cQ q).1;exact(st (nD<|TN.lt q) hx).trans q;by_cases h1:a=D;exact .inl (by rw[h1,hD];exact Wd _);by_cases h2:a∈fp;obtain⟨⟨o,w⟩,_⟩:=hf a h2;rw[YS h2,w] at q;cases q;exact .inr ⟨o,rfl⟩;rw[st h1 h2] at q;have z':lend (E1 X.N.length<|cq H fp) (oq X.stack) fp s.heap (cq H fp) a=none:=z;rw[q] at z';cases z';refine TN.gen (λa=>a=D\/a∈fp) (λx e z q=>?_) (λb z=>st (λy=>z<|.inl y) λy=>z<|.inr y) (λb o _=>old b o) λ_ a e z q=>?_;rcases z with rfl|z;rw[TN.fresh (by rw[hD];exact Wd _)] at q;cases q;exact absurd z (cQ q).1;rcases z with rfl|z;rw[YR] at q;cases q;exact⟨⟨ZN _,[],.nil,0,hl⟩,λz=>nomatch z⟩;obtain⟨⟨o,w⟩,_⟩:=hf a z;rw[YS z,w] at q;cases q;exact old _ _<|I.aL a _ w;have hq:N'.idxOf x<N'.length:=by unfold vf at q;split at q;have:=c.len;lia;split at q;have:=c.len;lia;cases q
 have hx:N'[N'.idxOf x]?=some x:=by rw[Te hq];exact congrArg some (List.getElem_idxOf hq)
 unfold vf at q;split at q;rename_i hi;obtain⟨n1,n2⟩:=c.at hi hx;have JW:=c.Kb hv n1;have hN:X.N[N'.idxOf x]?=some x:=n2.elim (λz=>by rw[JW] at z;cases z) id;rw[hN] at q;obtain⟨k1,k2,a,k3,k4⟩:=c.look I.ok JW;obtain⟨m,hm,pG⟩:=I.loc;refine .inr ⟨k1,a,k4,?_⟩;rcases pG x u (k2.elim (λz=>.inr<|.inl z) λz=>.inr<|.inr z) q with ⟨z,_⟩|⟨_,a',z1,z2⟩
 rcases k2 with k2|k2<;>(rw[k2] at z;cases z);rw[k3] at z1;cases z1;obtain⟨ob,y1,y2⟩:=z2;exact⟨ob,old _ _ y1,y2⟩;split at q;rename_i hi;rw[hi] at hx;have z:=c.acc hx;have yu:(relabel scope X.env).names.lookup x=some .local\/(relabel scope X.env).names.lookup x=some .cell\/(relabel scope X.env).names.lookup x=some .free:=hv;rw[VS.dJ,z] at yu;rcases yu with y|y|y<;>cases y;cases q;have Ck:i<N'.length:=by have:=(List.getElem?_eq_some_iff.mp q).1;simp at this;lia
 have hx:N'[i]?=some N'[i]:=Te Ck;refine⟨N'[i],hx,?_⟩;by_cases hi:i<X.N.length;rw[zF (by simp;lia),zF Uz] at q;obtain⟨y,hy,r⟩:=I.slot i sl q;rw[atB hx hi,hy];exact zv.mv (X:=X) r lp λl d z=>owB z hi;by_cases Sx:i<X.N.length+n;rw[zF (by simp;lia),Oy Uz,CQ] at q;split at q;cases q;trivial;cases q;have e:i=N'.length-1:=Uz;rw[Oy (by simp;lia)] at q;have e2:i-(ρ++List.replicate n Sl.no).length=0:=by simp;lia
 rw[e2] at q;cases q;refine⟨D,?_,by rw[e];exact YR⟩;unfold vf;rw[oA c.nd hx,YO hi,YN e];have sp:∀{l d i},eR X N' s H fp D l=some (.ow d i)->(l=D/\d=.lst []/\i=N'.length-1)\/(i<X.N.length/\H l=some (.ow d i)):=λ{l d i} q=>by
  by_cases h1:l=D;subst h1;rw[YR] at q;cases q;exact .inl ⟨rfl,rfl,rfl⟩;by_cases h2:l∈fp;obtain⟨⟨o,w⟩,_⟩:=hf l h2;rw[YS h2,w] at q;cases q;rw[st h1 h2] at q;rcases (cQ q).2 with ⟨_,_,z,_⟩|⟨d',j,i',z,y,XI,d2,w⟩|⟨_,_,z,_⟩|⟨_,z⟩
  cases z;cases z;rw[y] at w;cases w;exact .inr ⟨XI,(mJ h2).symm.trans y⟩;cases z;exact z.elim
 have hN:=c.len;rcases sp q with ⟨rfl,rfl,rfl⟩|⟨XI,q'⟩
 refine⟨.inl ?_,λl' d' q2=>?_⟩;rw[Oy (by simp;lia)];have e2:N'.length-1-(ρ++List.replicate n Sl.no).length=0:=by simp;lia
 rw[e2];rfl;rcases sp q2 with ⟨z,_⟩|⟨z,_⟩
 exact z
 lia
 obtain⟨h1,h2⟩:=I.tg l d i q' XI;refine⟨?_,λl' d' q2=>?_⟩;rw[zF (by simp;lia),zF Uz];exact h1;rcases sp q2 with ⟨_,_,z⟩|⟨_,z⟩
 lia
 exact h2 l' d' z;show eR X N' s H fp D C=none;have h1:C≠D:=by rw[hC,hD];exact wq (M4 _)
 have h2:C∉fp:=λz=>by have:=JK _ z;rw[hC] at this;lia
 rw[st h1 h2];exact TN.fresh (by rw[hC];exact Dx _);have e':=VS.gb e;obtain⟨⟨v,ob,y1,y2⟩,z⟩:=I.cell x a e';refine⟨⟨v,ob,old _ _ y1,y2⟩,.inr ⟨rfl,?_⟩⟩;rcases z with z|⟨_,o,d,z⟩;have h2:a∉fp:=λy=>by obtain⟨⟨o,w⟩,_⟩:=hf a y;rw[z] at w;cases w
 refine⟨ob,none,(st (nD<|clt e') h2).trans ?_⟩;have z':=(mJ h2).trans z;rw[kG h2 (by rw[z'];exactλ_ _ z=>nomatch z) (by rw[z'];exactλ_ _ _ z=>nomatch z) (by rw[z'];exactλ_ _ z=>nomatch z),w7 y1,YO<|I.L7 e'];exact⟨o,d,Ua z⟩;show (ρ++_++_).length=N'.length;simp;lia
end
end WL
end
section
set_option linter.all false
set_option maxRecDepth 100000
namespace WL
open PySem PySem.Spec PyProof.Rows L2 VP
def Qk(n m:Nat)(_:Addr):Option En->Option En|some (.pin o d)=>some (.pin o d)|some (.cA b)=>some (.cA b)|some (.ow d i)=>if i<n then some (.ow d i) else if i=m then some (.ow d n) else none|_=>none
theorem Nz:Kf (Qk n m):=⟨λ_ _ _=>rfl,λ_ _=>rfl,λa e e' h=>by unfold Qk at h;split at h;cases h;exact .inl ⟨rfl,.inl ⟨_,_,rfl⟩⟩;cases h;exact .inl ⟨rfl,.inr ⟨_,rfl⟩⟩;split at h;cases h;exact .inr ⟨_,_,_,rfl,rfl⟩;split at h;cases h;exact .inr ⟨_,_,_,rfl,rfl⟩;cases h;cases h⟩
theorem wG(h:Qk n m a e=some (.ow d i))(hi:i<n):e=some (.ow d i):=by unfold Qk at h;split at h;cases h;cases h;split at h;cases h;rfl;split at h;cases h;exact absurd hi<|Rm _;cases h;cases h
section
variable{X:Cx}{scope:Scope}{N':Xa}{σ cV:Sg}{H Hc:Tm}{ρ a9:ax}{s s':Shared}{fp:V8}{bz h':Heap}{D C:Addr}{tk n:Nat}
theorem ub(c:bF X scope N')(I:Inv X σ H ρ s)(hf:∀b∈fp,(∃o,H b=some (.dg o))/\X.H₀ b=none)(hn:X.N.length+n+1=N'.length)(J:Inv (aJ X scope C N' s (cq H fp) fp) cV Hc a9 s')
  (VT:∀(i:Nat) x,N'[i]?=some x->i<X.N.length\/i=N'.length-1->cV x=vf X.N N' σ D x) :
  ∃H4,Inv X σ H4 (a9.take X.N.length) s'/\Le (cq H fp) H4/\iA Hc H4/\(∀b,s.heap.objs.size<=b->Hc b=none->H4 b=none)/\∀d,a9[X.N.length+n]?=some (.ow d)->H4 D=some (.ow d X.N.length):=by
 have Yx:=Bz I λb hb=>(hf b hb).1;have NA:∀{a e},H a=some e->(∀o,e≠.dg o)->a∉fp:=λq z y=>by obtain⟨⟨o,w⟩,_⟩:=hf _ y;obtain rfl:=sj q w;exact z o rfl
 have mJ:∀{a},a∉fp->cq H fp a=H a:=λz=>YO z;have W4:∀{a e},cq H fp a=some e->a∉fp/\H a=some e:=λ{a e} q=>by by_cases z:a∈fp;unfold cq at q;exact en (YN z) q;exact⟨z,(mJ z).symm.trans q⟩
 have vG:∀{a},H a=none->cq H fp a=none:=λ{a} z=>by unfold cq;split;rfl;exact z
 obtain⟨h1,h2,h3,h4,h5⟩:=xI (Ln:=E1 X.N.length<|cq H fp) (fs:=oq X.stack) (Nz (n:=X.N.length) (m:=N'.length-1)) Yx (λa z=>YN z) rfl J.aL J.le (λb hb=>by rcases I.B6 hb with z|⟨o,z⟩;exact .inl<|vG z;exact .inr ⟨o,(mJ<|NA z λ_ y=>nomatch y).trans z⟩) J.nw;have SH:a9.length=N'.length:=J.len;have hN':=c.len;have Z4:∀{l d i},back s.heap.objs.size (E1 X.N.length<|cq H fp) (Qk X.N.length<|N'.length-1) (cq H fp) Hc l=some (.ow d i)->i<X.N.length->Hc l=some (.ow d i):=λ{l d i} q hi=>by unfold back at q;split at q;split at q;rename_i d0 j0 z;split at q;exact wG q hi;rename_i nk;cases q;exact absurd ⟨i,hi,_,z⟩ nk;split at q;exact wG q hi;cases q;rename_i n1 _;exact absurd q<|n1 d i;exact wG q hi
 have Kl:∀{a},a<s.heap.objs.size->H a=none->back s.heap.objs.size (E1 X.N.length<|cq H fp) (Qk X.N.length<|N'.length-1) (cq H fp) Hc a=none:=λfj z=>by unfold back;rw[YN fj,vG z]
 have nl:X.env.locals∉fp:=λy=>by obtain⟨⟨o,w⟩,_⟩:=hf _ y;exact ek I.fl w
 refine⟨_,?_,h2,h4,λb hb z=>?_,λd q=>?_⟩;obtain⟨e1,e2⟩:=I.BD (h':=s'.heap) λb o hb q=>by
  have:(H b=none/\b∉fp)\/∃o' d,H b=some (.pin o' d):=by rcases hb with rfl|⟨x,e⟩;exact .inl ⟨I.fl,nl⟩;rcases (I.cell x b e).2 with z|⟨_,z⟩;exact .inl ⟨z,λy=>by obtain⟨⟨o,w⟩,_⟩:=hf _ y;exact ek z w⟩;exact .inr z
  rcases this with ⟨z,y⟩|⟨o',d,z⟩
  obtain⟨sl,y,_⟩:=h3 b o q (vG z) y;exact⟨sl,y⟩;have y:=(h1 b _<|h2 b _ ((mJ<|NA z λ_ y=>nomatch y).trans z) trivial).1;obtain rfl:=sj ((I.aL b _ z).1) q;exact⟨_,y⟩
 refine⟨I.ok,J.os.trans rfl,J.bare,λa e q f=>h2 a e ((mJ λy=>by exact en ((hf a y).2) q).trans<|I.le a e q f) f,λa e q z=>?_,h1,e1,λi sl q=>?_,λl d i q hi=>?_,Kl I.lt I.fl,λx c e=>⟨e2 x c e,?_⟩,by rw[Eh,SH];lia⟩;by_cases fj:a<s.heap.objs.size;cases y:cq H fp a with|none=>unfold back at q;rw[YN fj,y] at q;cases q|some e1=>rcases I.nw a e1 (W4 y).2 z with w|⟨o,rfl⟩;exact .inl w;have w:=h2 a _ y trivial;obtain rfl:=sj q w;exact .inr ⟨o,rfl⟩
 exact .inl<|YM I.sz<|Nat.le_of_not_lt fj;have hi:i<X.N.length:=by have:=(List.getElem?_eq_some_iff.mp q).1;rw[Eh] at this;lia
 rw[C7 hi] at q;obtain⟨y,hy,r⟩:=J.slot i sl q;have hN:X.N[i]?=some X.N[i]:=Te hi;refine⟨X.N[i],hN,?_⟩;have e:cV y=σ X.N[i]:=by rw[VT i y hy<|.inl hi];unfold vf;rw[oA c.nd hy,YN hi,hN];rfl
 rw[e] at r;exact zv.mv (X:=X) r h4 λl d z=>by rw[h5 l d i z,z];exact YN hi
 obtain⟨z1,z2⟩:=J.tg l d i (Z4 q hi) (by show i<N'.length;lia);exact⟨by rw[C7 hi];exact z1,λl' d' q'=>z2 l' d'<|Z4 q' hi⟩;rcases (I.cell x c e).2 with z|⟨f,o,d,z⟩;obtain⟨⟨v,y⟩,_⟩:=I.cell x c e;exact .inl<|Kl y.lt z;exact .inr ⟨f,o,d,h2 _ _ ((mJ<|NA z λ_ y=>nomatch y).trans z) trivial⟩;unfold back;rw[YO<|Nat.not_lt.mpr hb,z];rfl;obtain⟨y,hy,l,e,r⟩:=J.slot _ _ q;have hy:N'[X.N.length+n]?=some y:=hy;have em:X.N.length+n=N'.length-1:=Uz;rw[VT _ y hy<|.inr em] at e;unfold vf at e;rw[oA c.nd hy,YO Uz,YN em] at e;cases e;rw[h5 _ _ _ r,r];show (if _ then _ else if _ then _ else _)=_;rw[YO Uz,YN em]
theorem Inv.but(I:Inv X σ H ρ s)(hC:H C=none)(h0:C≠X.env.locals)(h1:∀x,X.env.cells.lookup x≠some C)(k:∀b o,b≠C->s.heap.get? b=some o->h'.get? b=some o):Inv X σ H ρ {s with heap:=h'}:=by obtain⟨e1,e2⟩:=I.BD (h':=h') λb o hb q=>⟨o.slots,k b o (λz=>by subst z;exact hb.elim h0 λ⟨x,e⟩=>h1 x e) q⟩;exact⟨I.ok,I.os,I.bare,I.le,I.nw,I.aL.gen (·=C) (λx e z q=>by subst z;exact en hC q) (λ_ _=>rfl) (λb o z=>k b o z) (λ_ a e z q=>by subst z;exact en hC q),e1,I.slot,I.tg,I.fl,λx c e=>⟨e2 x c e,(I.cell x c e).2⟩,I.len⟩
def zu(X:Cx)(ifs:Y2)(f:M Bool):Prop:=WP X RB (forIn ifs true λc r=>if r=true then do let ok <-isTrue c X.env (eval c X.env);pure (ForInStep.yield ok) else pure<|ForInStep.yield r) f
theorem jt:zu X [] (ret true):=λs σ H ρ Q E I o=>wpAny_tests_nil (o s H true I Le.refl rfl)
theorem so{e:Expr}{f:M Bool}(h:PB X e f):zu X [e] f:=λs σ H ρ Q E I o=>wpAny_tests_one (h s σ H ρ Q E I o)
theorem Inv.YA{d:VP.D}{x:Str}(I:Inv X σ H ρ s)(hN:X.N[j]?=some x)(h:own ρ[j]?=some d):∃l,σ x=some (.ref l)/\H l=some (.ow d j):=by cases q:ρ[j]? with|none=>rw[q] at h;cases h|some t=>rw[q] at h;obtain⟨y,hy,r⟩:=I.slot j t q;obtain rfl:=sj hN hy;cases t with|ow e=>cases h;exact r|io e=>cases h;obtain⟨l,a,b,_⟩:=r;exact⟨l,a,b⟩|_=>cases h
end
end WL
end
section
set_option linter.all false
set_option maxRecDepth 100000
namespace WL
open PySem PySem.Spec PyProof.Rows L2 VP
section
variable{X:Cx}{elt tg VX:Expr}{ifs:Y2}{pos:Pos}{it:M (List D)}{gf:D->M Unit}{ft:M Bool}{fe:M D}{js:YK}{scope:Scope}{N':Xa}{σ:Sg}{H:Tm}{ρ:ax}{s:Shared}{E:Tv}
def QJ(js:YK)(N':Xa)(cV Ve:Sg):Prop:=∀x,(∀j∈js,N'[j]?≠some x)->cV x=Ve x
def WE(k m:Nat)(P:D->ax->Prop):Unit->ax->Prop:=λ_ r=>∃d,r[k]?=some (.ow d)/\P d (r.take m)
def WD(m:Nat)(Ex:Xn->ax->Prop):Xn->ax->Prop:=λx r=>Ex x (r.take m)
inductive WG(XX:Cx)(Ve:Sg)(js:YK)(N':Xa)(K:Xn->ax->Prop)(v:Value)(s:Shared):Prop|mk (cV:Sg) (Hc:Tm) (a9:ax) (x:Xn) (J:Inv XX cV Hc a9 s) (r:XR XX Hc s v x) (n:QJ js N' cV Ve) (k:K x a9)
inductive QA(XX:Cx)(Ve:Sg)(js:YK)(N':Xa)(St:Nat->Tm->Prop)(ds:Vt)(O:Nat->ax->Prop)(m:Nat)(s:Shared):Prop|mk (i:Nat) (cV:Sg) (H':Tm) (a9:ax) (hm:m=ds.length-i) (hi:i<=ds.length) (I:Inv XX cV H' a9 s) (st:St i H') (n:QJ js N' cV Ve) (o:O i a9)
theorem lz(n:Nat){use:Option (Value->Sem Unit)}{QQ:Tv}{P:D->ax->Prop}{Ex:Xn->ax->Prop}
  (hc:X.calm=true) (c:bF X scope N') (hn:X.N.length+n+1=N'.length) (hi:q9 X tg VX it) (zP:∀d r x r',gf d r≠.exc x r') (uH:∀j∈js,X.N.length<=j/\j<X.N.length+n)
  (hg:∀C s H ex,vB (aJ X scope C N' s H ex) tg js gf) (ht:∀C s H ex,zu (aJ X scope C N' s H ex) ifs ft) (he:∀C s H ex,PV (aJ X scope C N' s H ex) elt fe)
  (hs:∀x,foldedSetIterable VX X.env x=pure x) (I:Inv X σ H ρ s) (o:Out (aD n it gf ft fe ρ) P Ex) (hE:∀x r,Ex x r->OK X σ H (XR X) E x r)
  (MF:∀s5 H4 AG d l C mm,Inv X σ H4 AG s5->Le H H4->H4 l=some (.ow d X.N.length)->P d AG->s5.heap.Ns C mm->H4 C=none->C≠X.env.locals->(∀x,X.env.cells.lookup x≠some C)->X.H₀ C=none->X.n₀<=C->compPost X.M X.A E use QQ (.ref l) C (.ok .next) s5) :
  wpAny X.M X.A (comprehension (.ListComp elt [⟨tg,VX,ifs,0⟩] scope pos) scope X.env (firstIterPos [⟨tg,VX,ifs,0⟩] pos) (newList []) (firstAsync [⟨tg,VX,ifs,0⟩]) (firstIter [⟨tg,VX,ifs,0⟩] X.env) use) QQ E s:=by
 refine wpAny_comprehension_free (use:=use) rfl hs (VS.mI λp hp hf=>I.ok.has p.1<|(c.v hp).1 hf) c.kind (λy hy hl=>(c.v hy).2.2 hl) ?_;refine hi s σ H ρ _ E I<|o.Tp.mono (λds aS o1 s2 H2 Yc fp St I2 l2 T nz rE=>?_) λx r q=>hE x r q;have hf:∀b∈fp,(∃o,H2 b=some (.dg o))/\X.H₀ b=none:=λb hb=>⟨(rE b hb).1,(rE b hb).2.2⟩;refine My<|wpAny_newFunctionEnv (λy hy=>(c.v hy).2.1) (by intro y hy;simp at hy) (λbz rG oz=>?_) c.kind;dsimp only at rG oz ⊢;generalize Xj:s2.heap.push {cls:=.type "list",dict:=none,data:=.seq ([]:SX).toArray}=HP at rG oz ⊢;have hC:HP.objs.size=s2.heap.objs.size+1:=by rw[<-Xj,Nl]
 have Xi:s2.heap.objs.size≠HP.objs.size:=by rw[hC];exact M1 (M4 _)
 have old:∀b o,s2.heap.get? b=some o->bz.get? b=some o:=λb o e=>oz.extBut b o (by have:=Ut e;rw[hC];exact M1<|LP this)<|VZ _<|Xj ▸ VZ _ e;have hl:bz.get? s2.heap.objs.size=some {cls:=.type "list",data:=.seq #[] 0}:=oz.extBut _ _ Xi<|VZ _<|Xj ▸ Ym _ rfl;generalize hCC:HP.objs.size=C at rG oz hC Xi ⊢;generalize FF:s2.heap.objs.size=DD at hC Xi hl ⊢;have SN:bz.Ns C λ_=>none:=by simpa using rG
 have ZV:C≠X.env.locals:=λz=>by have:=I2.lt;rw[<-z,hC,<-FF] at this;lia
 have ZW:∀x,X.env.cells.lookup x≠some C:=λx z=>by obtain⟨⟨v,q⟩,_⟩:=I2.cell x C z;have:=q.lt;rw[hC,<-FF] at this;lia
 have I3:=vY (n:=n) (tk:=s2.toks+([]:List (Str×Value)).length) c I2 hf FF.symm (FF ▸ hC) old SN hl hn;have ZQ:Le H (cq H2 fp):=λa e q f=>(YO λz=>(rE a z).2.1 e q f).trans<|l2 a e q f;have Ke:aS.length=X.N.length:=I2.len;unfold inner at o1;rw[Ke] at o1;generalize AL:aJ X scope C N' s2 (cq H2 fp) fp=XX at I3;have eM:XX.M=X.M:=by rw[<-AL];rfl
 have eA:XX.A=X.A:=by rw[<-AL];rfl
 have hg':vB XX tg js gf:=AL ▸ hg _ _ _ _;have ES:zu XX ifs ft:=AL ▸ ht _ _ _ _;have Ss:PV XX elt fe:=AL ▸ he _ _ _ _;have eN:XX.N=N':=by rw[<-AL];rfl
 have Ou:∀{cV:Sg},QJ js N' cV (vf X.N N' σ DD)->∀(i:Nat) x,N'[i]?=some x->i<X.N.length\/i=N'.length-1->cV x=vf X.N N' σ DD x:=λh i x hx hi=>h x λj hj z=>by
  have:=oN c.nd hx z;have:=uH j hj
  lia
 generalize Zx:WG XX (vf X.N N' σ DD) js N' (λx r=>OK X σ H (XR X) E x<|r.take X.N.length)=EB;have pass:∀v s',EB v s'->notedBy X.M X.A XX.env (λx An=>compPost X.M X.A E use QQ (.ref DD) C (.error x) An) v s':=λv s' hb=>by
  subst Zx;obtain⟨cV,Hc,a9,xn,J,⟨e,Y7,dx,rfl,hm,hx,w,x⟩,VT,ok⟩:=hb;have nt:=rW (Q:=λ_ An=>compPost X.M X.A E use QQ (.ref DD) C (.error<|.ref e) An) (E:=λx An=>compPost X.M X.A E use QQ (.ref DD) C (.error x) An) J x λh' w' J' kp x'=>?_;rw[eM,eA] at nt;exact nt;obtain⟨mm,AN,_⟩:=J'.loc;subst AL;refine⟨mm,AN,λFE sb W2 sY=>?_⟩;obtain⟨H4,I4,l4,Qh,Xd,_⟩:=ub (D:=DD) c I2 hf hn J'<|Ou VT;have hC4:H4 C=none:=Xd C (by rw[FF,hC];exact Dx _) J'.fl;have I5:=I4.but (h':=FE) hC4 ZV ZW λb o hb e=>(sb.2 b hb).trans e;obtain⟨vs,sl,z1,z2,z3,z4,Tt,ot,ts,t1,t2,t3,t4,t5,t6,t7⟩:=x';have XT:h'.Ns C mm:=AN;have dC:∀{b o} {vs:Array Value},h'.get? b=some o->o.data=.fields vs->b≠C:=λ{b o vs} e d z=>by obtain⟨o',es,ep,ho,hd,_⟩:=XT;subst z;obtain rfl:=sj e ho;rw[d] at hd;cases hd
  have x5:E8 X.n₀ H4 FE e (.ref Y7) dx (some w'):=⟨vs,sl,(sb.2 e<|dC z1 rfl).trans z1,z2,Xd e z4 z3,YM I2.sz z4,Tt,ot,ts,t1,t2,YM I2.sz t3,Xd Tt t3 t4,(sb.2 Tt<|dC t5 t6).trans t5,t6,t7⟩;unfold PySem.passOn;refine Qf<|VV ((sb.2 e<|dC z1 rfl).trans z1) rfl t1 ?_;rw[YO Qj];refine Qf<|iP W2.frame I5 x5 λh6 I6 kp6 x6=>wpAny_throw<|ok _ H4 _ I6 (ZQ.trans l4) ⟨e,Y7,dx,rfl,hm,hx.imp id ?_,_,x6⟩;rintro⟨b,o,y1,y2,f⟩;have nb:b≠C:=λz=>by have fl:Hc C=none:=J'.fl;rw[z,fl] at y2;cases y2
  refine⟨b,o,y1,Qh _ _ _ y2,jC.kp (s:={s' with heap:=FE}) kp6 ?_⟩;obtain⟨fs,w1,w2,w3,mA,w4,w5⟩:=f.kp kp;exact⟨fs,w1,w2.p Qh,w3,mA,w4.at λo e=>(sb.2 b nb).trans e,w5⟩
 have px:∀{α:Type}{t:Sem α}{Q':α->Shared->Prop}{s':Shared},wpAny XX.M XX.A t Q' EB s'->wpAny X.M X.A t Q' (notedBy X.M X.A XX.env (λx An=>compPost X.M X.A E use QQ (.ref DD) C (.error x) An)) s':=λh=>by rw[eM,eA] at h;exact FD h (λ_ _ q=>q) pass
 have hNm:XX.N[X.N.length+n]?=some N'[X.N.length+n]:=by rw[eN];exact Te Uz
 have eg:XX.g=X.g:=by rw[<-AL];rfl
 have Zp:XX.calm=true:=by rw[<-AL];exact hc
 have h0:∀b∈fp,XX.H₀ b=none:=λb hb=>by rw[<-AL];exact YN hb
 have yE:∀s3:Shared,s3={s2 with heap:=bz,toks:=s2.toks+([]:List (Str×Value)).length}->codeAny X.M X.A (.compLoop (.ListComp elt [⟨tg,VX,ifs,0⟩] scope pos) 0 (.ref Yc) (.ref DD) XX.env) (compPost X.M X.A E use QQ (.ref DD) C) s3:=by
  rintro s3 rfl;generalize hO:(λi a9=>Out (turns (X.N.length+n) gf ft fe (ds.drop i) a9) (WE (X.N.length+n) X.N.length P)<|WD X.N.length Ex)=O;refine codeAny_loop rfl (QA XX (vf X.N N' σ DD) js N' St ds O) (λm s4 hI=>?_) ds.length ⟨0,_,_,_,Qj,ZN _,I3,?_,λ_ _=>rfl,?_⟩;show wpAny _ X.A ((compTurn (.ListComp elt [⟨tg,VX,ifs,0⟩] scope pos) 0 (.ref Yc) (.ref DD) XX.env).onRaise (λx=>do noteFrame x XX.env;theTreesLotGoes x)) _ _ s4;refine wpAny_noted ?_;rw[compTurn_list];obtain⟨i,Wz,H4,EV,rfl,hi4,I4,Qt,SR,o4⟩:=hI;rw[<-hO] at o4;by_cases fj:i<ds.length;rw[NX fj] at o4;have again:∀{s7:Shared}{EE:Sg}{H7:Tm}{Vd:ax},Inv XX EE H7 Vd s7->St (i+1) H7->QJ js N' EE (vf X.N N' σ DD)->O (i+1) Vd->∃m,m<ds.length-i/\QA XX (vf X.N N' σ DD) js N' St ds O m s7:=λ{s7 EE H7 Vd} I7 st7 h7 o7=>⟨ds.length-(i+1),Uz,i+1,EE,H7,Vd,rfl,fj,I7,st7,h7,o7⟩;refine Qf<|OE<|Qf<|px<|sT (T.item XX Wz i H4 EV s4 ds[i] (λu s'=>∃H',Inv XX Wz H' EV s'/\Rel H' u ds[i]/\St (i+1) H') EB eg Zp I4 h0 Qt (by simp[fj]) λs' H' u I' x r st=>⟨H',I',r,st⟩) λr s5 hr=>?_;obtain⟨u,hr,h5⟩:=hr;subst hr;refine Qf<|px<|sT h5 λ_ s6 ⟨H6,I6,r6,UI⟩=>Qf<|px<|hg' s6 Wz H6 EV u ds[i] _ _ I6 r6 ?_;have o5:=Out.Tp o4;cases qg:gf ds[i] EV with
   |no=>rw[qg] at o5;exact o5.elim|exc x r=>exact absurd qg (zP _ _ _ _)|ok uu Vd=>
    rw[qg] at o5;intro s7 EE H7 I7 l7 g7;have FT:QJ js N' EE (vf X.N N' σ DD):=λx hx=>(g7 x λj hj=>by rw[eN];exact hx j hj).trans<|SR x hx;have ee:∀{H':Tm}(x:Xn)(r:ax),Ex x (r.take X.N.length)->OK XX EE H' (XR XX) EB x r:=λx r q s' H' b I' _ xr=>Zx ▸ ⟨EE,H',r,x,I',xr,FT,hE _ _ q⟩;refine Qf<|px<|ES.Tp I7 o5 (λx r q=>ee x r q) λs8 H8 ρ8 b a I8 l8 r8 o8=>?_;cases r8;cases b with
     |false=>exact Qv ⟨rfl,again I8 (T.le _ _ _ UI (l7.trans l8).lf) FT<|hO ▸ o8⟩|true=>
      refine Qf<|Qf<|px<|Ss.Tp I8 o8 (λx r q=>ee x r q) λs9 H9 ρ9 v d9 I9 l9 r9 o9=>?_;obtain⟨d0,d1,q0,q1,k9⟩:=jA o9.Tp;obtain⟨l,hu,XO⟩:=I9.YA hNm q0;have e9:EE N'[X.N.length+n]=some (.ref DD):=by have hx:N'[X.N.length+n]?=some N'[X.N.length+n]:=Te Uz;rw[Ou FT _ _ hx<|.inr Uz];unfold vf;rw[oA c.nd hx,YO Uz,YN Uz]
      rw[e9] at hu;cases hu;cases d0 with
      |lst xs=>
       simp only[df] at q1;split at q1;rename_i X7;cases q1;obtain⟨us,nn,r,AM,_⟩:=I9.lo XO;have hz:us.length<sizeLine:=by rw[r.length,xg];exact X7
       refine Qf<|vi F.slot_list_append ⟨_,AM,rfl⟩ F.entry_list_append (F.args_list_append_2 _ _) (PySem.list_append DD us.toArray nn v (by rw[Yl];lia)) ⟨AM,?_⟩;exact Qv<|Qv ⟨rfl,again (I9.lw (its':=us++[v]) XO AM Qj (r.app<|.cons r9 .nil) (by rw[rL,<-r.length];exact hz)) (T.le _ _ _ UI (((l7.trans l8).trans l9).trans<|Le.ow XO).lf) FT<|hO ▸ k9⟩;cases q1
      |_=>cases q1
  have ei:i=ds.length:=Uz;subst ei;rw[List.drop_length] at o4;obtain⟨d,hd,post⟩:∃d,EV[X.N.length+n]?=some (.ow d)/\P d (EV.take X.N.length):=o4;refine Qf<|OE<|Qf<|px<|sT (T.done XX Wz H4 EV s4 (λs'=>compPost X.M X.A E use QQ (.ref DD) C (.ok .next) s') EB eg Zp I4 h0 Qt λs' H' I' x=>?_) λr s5 hr=>?_;subst AL;obtain⟨H5,I5,l5,_,fr5,JR⟩:=ub (D:=DD) c I2 hf hn I'<|Ou SR;obtain⟨mm,AN,_⟩:=I'.loc;exact MF s' H5 _ d DD C mm I5 (ZQ.trans l5) (JR d hd) post AN (fr5 C (by rw[FF,hC];exact Dx _) I'.fl) ZV ZW (I2.Ny (by rw[FF,hC];exact Dx _))<|YM I2.sz (by rw[FF,hC];exact Dx _);obtain⟨hr,h5⟩:=hr;subst hr;exact Qv h5;refine T.le _ _ _ nz λa e q f hx=>?_;have lt:=I2.aL.lt q;have nD:a≠DD:=λz=>by rw[z,<-FF] at lt;exact Rm _ lt
  unfold eR;rw[YO nD];split;exact q;rename_i nf;rcases hx with ⟨o,d,rfl⟩|z
  exact fM nf<|(YO nf).trans q;exact absurd z nf;rw[<-hO];simp only[List.drop_zero];cases q:turns (X.N.length+n) gf ft fe ds (aS++List.replicate n .no++[.ow<|.lst []]) with|no=>simp only[q] at o1;exact o1.elim|exc x r=>simp only[q] at o1;exact o1|ok u r=>simp only[q] at o1;show ∃d,r[X.N.length+n]?=some (.ow d)/\_;cases q2:r[X.N.length+n]? with|none=>simp only[q2] at o1;exact o1.elim|some t=>simp only[q2] at o1;cases t with|ow d=>exact⟨d,rfl,o1⟩|no=>exact o1.elim|sh d=>exact o1.elim|io d=>exact o1.elim
 have XY:nB X.g H2 bz:=I2.aL.gen (λ_=>False) (λ_ _ z=>z.elim) (λ_ _=>rfl) (λb o _=>old b o) λ_ _ _ z=>z.elim;subst AL;exact codeAny_compStart_list (yE _ rfl) (T.self X.A _ 0 H2 _ _ XY nz<|yE _ rfl)
theorem Inv.mark{o:Obj}{C:Addr}(I:Inv X σ H ρ s)(hC:H C=none)(h0:C≠X.env.locals)(h1:∀x,X.env.cells.lookup x≠some C)(h2:X.n₀<=C)(e:s.heap.get? C=some o):Inv X σ (upd H C<|.dg o) ρ s/\Le H (upd H C<|.dg o):=by have l:Le H (upd H C<|.dg o):=Le.lay hC;refine⟨⟨I.ok,I.os,I.bare,I.le.trans l,λa e q n=>?_,I.aL.gen (·=C) (λx e z q=>by subst z;exact en hC q) (λb z=>aH z) (λ_ _ _ z=>z) (λ_ a q z y=>by subst z;obtain rfl:=sj aA y;exact e),I.loc,λi sl q=>?_,I.tg.lay hC (λ_ _ z=>nomatch z),(aH<|Wl h0).trans I.fl,λx c e=>?_,I.len⟩,l⟩;by_cases z:a=C;exact .inl<|z ▸ h2;rw[aH z] at q;exact I.nw a e q n;obtain⟨x,hx,r⟩:=I.slot i sl q;exact⟨x,hx,r.mv l.p λp d y=>(aH λz=>by subst z;exact ek hC y).trans y⟩;have:c≠C:=λz=>h1 x<|z ▸ e;rw[aH this];exact I.cell x c e
theorem yM(n:Nat)(hc:X.calm=true)(c:bF X scope N')(hn:X.N.length+n+1=N'.length)(hi:q9 X tg VX it)(zP:∀d r x r',gf d r≠.exc x r')(uH:∀j∈js,X.N.length<=j/\j<X.N.length+n)
  (hg:∀C s H ex,vB (aJ X scope C N' s H ex) tg js gf) (ht:∀C s H ex,zu (aJ X scope C N' s H ex) ifs ft) (he:∀C s H ex,PV (aJ X scope C N' s H ex) elt fe)
  (hs:∀x,foldedSetIterable VX X.env x=pure x:=by exact A1):PF X (.ListComp elt [⟨tg,VX,ifs,0⟩] scope pos) (aD n it gf ft fe):=λs σ H ρ Q E I o=>by
 rw[eval_ListComp];exact lz (use:=none) n hc c hn hi zP uH hg ht he hs I o (λx r q=>q) λs5 H4 AG d l C mm I4 l4 hD post AN hC h0 h1 _ _=>⟨mm,AN,λh' sb=>post _ H4 _ (I4.but hC h0 h1 λb o hb e=>(sb.2 b hb).trans e) l4 ⟨l,rfl,hD⟩⟩
theorem uc(own:Bool){i:Nat}{y:Str}{py:Pos}{Q:Flow->Shared->Prop}{d:D}{l C:Addr}{mm:Str->Xf}{H4:Tm}(hN:X.N.Nodup)(hy:X.N[i]?=some y)(hx:Loc X.env.scope y)(hf:X.fn=true\/X.env.scope.names.lookup y=some .local)(I4:Inv X σ H4 ρ s)(l4:Le H H4)(hD:H4 l=some (.ow d X.N.length))
  (post:Out (xc (if own then Aa i d else j7 i d) ρ) (jT X H RS Q) (jT X H (XR X) E)) (AN:s.heap.Ns C mm) (hC:H4 C=none) (h0:C≠X.env.locals) (h1:∀x,X.env.cells.lookup x≠some C) (h2:X.H₀ C=none) (h3:X.n₀<=C) :
  wpAny X.M X.A (assign (.Name y py) X.env<|.ref l) (λ_ An=>∃m,An.heap.Ns C m/\∀h',Heap.SameBut C An.heap h'->Q .next {An with heap:=h'}) E s:=by
 obtain⟨oc,es,ep,hoc,hdc,hrc⟩:=AN;obtain⟨I5,l5⟩:=I4.mark hC h0 h1 h3 hoc;have JR:upd H4 C (.dg oc) l=some (.ow d X.N.length):=(aH λz=>by subst z;rw[hC] at hD;cases hD).trans hD;have fin:∀{td:Sg}{H6:Tm}{Qx:ax}{s6:Shared},Inv X td H6 Qx s6->Le (upd H4 C<|.dg oc) H6->jT X H RS Q .nx Qx->∃m,s6.heap.Ns C m/\∀h',Heap.SameBut C s6.heap h'->Q .next {s6 with heap:=h'}:=λ{td H6 Qx s6} I6 l6 k=>by
  have q6:=l6 C _ aA trivial;have e6:s6.heap.get? C=some oc:=I6.aL C _ q6;refine⟨mm,⟨oc,es,ep,e6,hdc,hrc⟩,λh' sb=>?_⟩;obtain⟨I7,l7⟩:=I6.aF (t':=s6.toks) q6 h2 (λ_ _ _ e=>e) none (λ_ z=>nomatch z);have hn7:pt H6 C none C=none:=YN rfl;refine k _ td _ .next (I7.but hn7 h0 h1 λb o hb e=>(sb.2 b hb).trans e) (λa e q f=>?_) rfl;have q4:=l4 a e q f;have na:a≠C:=λz=>by subst z;exact en hC q4
  exact(YO na).trans (l6 a e ((aH na).trans q4) f)
 refine Q8 ?_;cases own with|true=>exact lO true I5 hN hy hx hf ⟨l,rfl,JR⟩ (post.Tp.mono (λ_ _ q s' cV H' I' l' _=>fin I' l' q) λ_ _ q=>q)|false=>obtain⟨H6,o6,I6,l6,h6,_⟩:=I5.fz JR<|.inr<|Wd _;rw[List.set_eq_of_length_le (by rw[I5.len];exact Wd _)] at I6;exact lO false I6 hN hy hx hf (by cases d with|lst ds=>exact⟨l,o6,rfl,h6⟩|tup ds=>exact⟨l,o6,rfl,h6⟩|ki ks ds=>exact⟨l,o6,rfl,h6⟩|ins c ns ds=>exact⟨l,o6,rfl,h6⟩|jj c ns ds=>exact⟨l,o6,rfl,h6⟩|_=>exact absurd (I5.aL l _ JR).1 (by first|exactλz=>z.elim|exactλ_=>(I5.aL l _ JR).2 rfl)) (post.Tp.mono (λ_ _ q s' cV H' I' l' _=>fin I' (l6.trans l') q) λ_ _ q=>q)
theorem jX(own:Bool)(n i:Nat){y:Str}{py pw:Pos}(hc:X.calm=true)(c:bF X scope N')(hn:X.N.length+n+1=N'.length)(hi:q9 X tg VX it)(zP:∀d r x r',gf d r≠.exc x r')(uH:∀j∈js,X.N.length<=j/\j<X.N.length+n)
  (hg:∀C s H ex,vB (aJ X scope C N' s H ex) tg js gf) (ht:∀C s H ex,zu (aJ X scope C N' s H ex) ifs ft) (he:∀C s H ex,PV (aJ X scope C N' s H ex) elt fe)
  (hN:X.N.Nodup) (hy:X.N[i]?=some y) (hx:Loc X.env.scope y) (yq:swapsWith (.ListComp elt [⟨tg,VX,ifs,0⟩] scope pos) (some<|.Name y py) pw.line X.env=pure true)
  (hs:∀x,foldedSetIterable VX X.env x=pure x) (hf:X.fn=true\/X.env.scope.names.lookup y=some .local):ja X (.Assign [.Name y py] (.ListComp elt [⟨tg,VX,ifs,0⟩] scope pos) pw) (Tp (aD n it gf ft fe) λd=>xc<|if own then Aa i d else j7 i d):=λs σ H ρ Q E I o=>by
 rw[exec_Assign_Name_used _ _ _ _ yq];refine Qf<|OE<|Qf ?_;show wpAny _ X.A (do let _ <-comprehension (.ListComp elt [⟨tg,VX,ifs,0⟩] scope pos) scope X.env _ (newList []) false (firstIter [⟨tg,VX,ifs,0⟩] X.env) (some<|assign (.Name y py) X.env)) _ _ s;refine Qf<|FD (lz (use:=some<|assign (.Name y py) X.env) (QQ:=λ_ s'=>Q .next s') n hc c hn hi zP uH hg ht he hs I o.Tp (λx r q=>q.x) λs5 H4 AG d l C mm I4 l4 hD post AN hC h0 h1 h2 h3=>?_) (λ_ s' hq=>Qv<|Qv hq) λ_ _ e=>e;exact uc own hN hy hx hf I4 l4 hD post AN hC h0 h1 h2 h3
end
end WL
end
section
set_option linter.all false
set_option maxRecDepth 100000
namespace WL
open PySem PySem.Spec PyProof.Rows L2 VP
section
variable{X:Cx}{σ:Sg}{H:Tm}{ρ:ax}{s:Shared}{g:Gb}{tg:Expr}{it:Addr}{fp:V8}{ds:Vt}{tn:Nat->Heap->Prop}{P:Tm->Prop}
def mQ(fp:V8)(h':Heap)(H:Tm):Tm:=λb=>if b∈fp then(h'.get? b).map .dg else H b
def QP(fp:V8)(tn:Nat->Heap->Prop)(P:Tm->Prop):Nat->Tm->Prop:=λi H=>(∀b∈fp,∃o,H b=some (.dg o))/\(∃h,(∀b∈fp,∀o,H b=some (.dg o)->h.get? b=some o)/\tn i h)/\P H
def Val(H:Tm)(s:Shared)(h':Heap)(u:Value)(d:D):Prop:=Rel H u d\/∃d1 d2 u1 u2,d=.tup [d1,d2]/\u=.ref s.heap.objs.size/\IsPair h' s.heap.objs.size u1 u2/\Rel H u1 d1/\Rel H u2 d2
structure QG(fp:V8)(tn:Nat->Heap->Prop):Prop where
 keep:∀i h h',tn i h->(∀b∈fp,∀o,h.get? b=some o->h'.get? b=some o)->tn i h'
 obj:∀i h,tn i h->∀b∈fp,∃o,h.get? b=some o
theorem wi(L:QG fp tn)(hP:∀H H',P H->iA H H'->P H')
  (step:∀(X:Cx)(σ:Sg)(i:Nat)(H:Tm)(ρ:ax)(s:Shared)(d:D)(Q:Tv)(E:Tv),X.g=g->X.calm=true->Inv X σ H ρ s->tn i s.heap->P H->ds[i]?=some d->(∀h' tk u,tn (i+1) h'->(∀b o,b∉fp->s.heap.get? b=some o->h'.get? b=some o)->Val H s h' u d->Q u {s with heap:=h',toks:=tk})->wpAny X.M X.A (pyNext<|.ref it) (λr s1=>∃u,r=some u/\wpAny X.M X.A (letOwnedTupleGo tg (.ref it) u) (λ_ s2=>Q u s2) E s1) E s)
  (stop:∀(X:Cx)(σ:Sg)(H:Tm)(ρ:ax)(s:Shared)(Q:Shared->Prop)(E:Tv),X.g=g->X.calm=true->Inv X σ H ρ s->tn ds.length s.heap->P H->(∀h' tk,(∀b o,b∉fp->s.heap.get? b=some o->h'.get? b=some o)->Q {s with heap:=h',toks:=tk})->wpAny X.M X.A (pyNext<|.ref it) (λr s1=>r=none/\Q s1) E s)
  (self:∀(A:Around)(s:Shared)(i:Nat)(Q:Tv)(E:Tv),tn i s.heap->Q (.ref it) s->wpAny (model g.prog g.w) A (pyIter<|.ref it) Q E s):tf g tg it fp ds (QP fp tn P) where
 le:=λi H H' ⟨h1,⟨h,h2,h3⟩,h4⟩ l=>by have e:∀b∈fp,∀o,H b=some (.dg o)->H' b=some (.dg o):=λb hb o q=>l _ _ q trivial<|.inr hb;exact⟨λb hb=>let ⟨o,q⟩:=h1 b hb;⟨o,e b hb o q⟩,⟨h,λb hb o q=>(by obtain⟨o2,q2⟩:=h1 b hb;obtain rfl:=iij (e b hb o2 q2) q;exact h2 b hb _ q2),h3⟩,hP _ _ h4 l.p⟩
 item:=λX σ i H ρ s d Q E hg hc I h0 ⟨h1,⟨h,h2,h3⟩,h4⟩ hd k=>by
  have t:tn i s.heap:=L.keep i h _ h3 λb hb o e=>by obtain⟨o',q⟩:=h1 b hb;obtain rfl:=sj (h2 b hb o' q) e;exact I.aL b _ q
  refine step X σ i H ρ s d Q E hg hc I t h4 hd λh' tk u t' kp val=>?_;have JK:∀b∈fp,b<s.heap.objs.size:=λb hb=>let ⟨o,q⟩:=h1 b hb;I.aL.lt q;have rc:∀b∈fp,∃o,h'.get? b=some o:=L.obj _ _ t';have fin:∀H',(∀b,b∈fp->H' b=(h'.get? b).map .dg)->(∀b,b∉fp->b<s.heap.objs.size->H' b=H b)->(iA H H'->∀b e,s.heap.objs.size<=b->H' b=some e->kY X.g H' h' b e/\∀d i,e≠.ow d i)->Rel H' u d->Q u {s with heap:=h',toks:=tk}:=λH' e1 e2 e3 r=>by
   obtain⟨I',l'⟩:=I.turn (t':=tk) (h':=h') (H':=H') (fp:=fp) (λb hb=>⟨h1 b hb,h0 b hb⟩) kp e2 λlp b e hb q=>by
    by_cases z:b∈fp
    ·rw[e1 b z] at q;obtain⟨o,w⟩:=rc b z;rw[w] at q;cases q;exact⟨w,λ_ _ z=>(nomatch z),λ_=>⟨_,rfl⟩⟩
    ·rcases hb with hb|hb
     ·exact absurd hb z
     ·obtain⟨w1,w2⟩:=e3 lp b e hb q;exact⟨w1,w2,λy=>absurd y z⟩
   have lp:iA H H':=λa o d q=>(e2 a (λz=>by obtain⟨o',y⟩:=h1 a z;exact ek q y)<|I.aL.lt q).trans q;refine k _ H' u I' l' r ⟨λb hb=>let ⟨o,w⟩:=rc b hb;⟨o,by rw[e1 b hb,w];rfl⟩,⟨h',λb hb o q=>?_,t'⟩,hP _ _ h4 lp⟩;obtain⟨o',w⟩:=rc b hb;rw[e1 b hb,w] at q;cases q;exact w
  rcases val with r|⟨d1,d2,u1,u2,rfl,rfl,pr,r1,r2⟩
  ·refine fin (mQ fp h' H) (λb hb=>YN hb) (λb hb _=>YO hb) (λ_ b e hb q=>?_) (r.p λa o d q=>?_)
   ·unfold mQ at q;rw[YO λz=>absurd (JK b z)<|Nat.not_lt.mpr hb,I.aL.fresh hb] at q;cases q
   ·exact(YO λz=>by obtain⟨o',y⟩:=h1 a z;exact ek q y).trans q
  ·have ns:s.heap.objs.size∉fp:=λz=>Rm _<|JK _ z;refine fin (upd (mQ fp h' H) s.heap.objs.size<|.pin {cls:=.type "tuple",data:=.seq #[u1,u2]}<|some<|.tup [d1,d2]) (λb hb=>(aH λ(z:b=s.heap.objs.size)=>ns (by rw[<-z];exact hb)).trans<|YN hb) (λb hb fj=>(aH<|M1 fj).trans<|YO hb) (λlp b e hb q=>?_) ⟨_,_,rfl,aA⟩;by_cases z:b=s.heap.objs.size
   ·subst z;obtain rfl:=sj aA q;exact⟨⟨pr,λe z=>by cases z;exact⟨rfl,by show 2<=sizeLine;decide,[u1,u2],.cons (r1.p lp)<|.cons (r2.p lp) .nil,_,pr,rfl,⟨_,rfl⟩,rfl⟩⟩,λ_ _ z=>nomatch z⟩
   ·rw[aH z] at q;unfold mQ at q;rw[YO λz=>absurd (JK b z)<|Nat.not_lt.mpr hb,I.aL.fresh hb] at q;cases q
 done:=λX σ H ρ s Q E hg hc I h0 ⟨h1,⟨h,h2,h3⟩,h4⟩ k=>by
  have t:tn ds.length s.heap:=L.keep _ h _ h3 λb hb o e=>by obtain⟨o',q⟩:=h1 b hb;obtain rfl:=sj (h2 b hb o' q) e;exact I.aL b _ q
  refine stop X σ H ρ s Q E hg hc I t h4 λh' tk kp=>?_;obtain⟨I',l'⟩:=I.turn (t':=tk) (h':=h') (H':=cq H fp) (fp:=fp) (λb hb=>⟨h1 b hb,h0 b hb⟩) kp (λb hb _=>YO hb) λlp b e hb q=>by
   by_cases z:b∈fp
   ·unfold cq at q;exact en (YN z) q
   ·rcases hb with hb|hb
    ·exact absurd hb z
    ·unfold cq at q;rw[YO z,I.aL.fresh hb] at q;cases q
  exact k _ _ I' l'
 self:=λA s i H Q E aL ⟨h1,⟨h,h2,h3⟩,h4⟩ hq=>self A s i Q E (L.keep i h _ h3 λb hb o e=>by obtain⟨o',q⟩:=h1 b hb;obtain rfl:=sj (h2 b hb o' q) e;exact aL b _ q) hq
theorem wj{H0:Tm}{h':Heap}{tk:Nat}(L:QG fp tn)(hP:∀H H',P H->iA H H'->P H')(I:Inv X σ H ρ s)(l0:Le H0 H)(k:∀b o,s.heap.get? b=some o->h'.get? b=some o)(hf:∀b∈fp,s.heap.objs.size<=b)(t:tn 0 h')(p:P H) : ∃H',Inv X σ H' ρ {s with heap:=h',toks:=tk}/\Le H H'/\QP fp tn P 0 H'/\∀b∈fp,(∃o,H' b=some (.dg o))/\(∀e,H0 b=some e->¬e.fast)/\X.H₀ b=none:=by
 have rc:=L.obj _ _ t;have hn:∀b∈fp,H b=none:=λb hb=>I.aL.fresh<|hf b hb;have e1:∀b,b∈fp->mQ fp h' H b=(h'.get? b).map .dg:=λb hb=>YN hb;have e2:∀b,b∉fp->mQ fp h' H b=H b:=λb hb=>YO hb;have l:Le H (mQ fp h' H):=λa e q f=>(e2 a λz=>by exact en (hn a z) q).trans q;refine⟨mQ fp h' H,I.gen (·∈fp) (λb hb=>.inl<|hf b hb) e2 (λb o _=>k b o) (λlp b e hb q=>?_) rfl (λl' d i q hi=>?_) (λlp i t h=>⟨t,h,λv z=>z.mv lp λp d q=>(e2 p λz=>by exact ek (hn p z) q).trans q⟩) (λb e o hb q z=>by exact ek (hn b hb) z),l,⟨λb hb=>let ⟨o,w⟩:=rc b hb;⟨o,by rw[e1 b hb,w];rfl⟩,⟨h',λb hb o q=>?_,t⟩,hP _ _ p l.p⟩,λb hb=>⟨let ⟨o,w⟩:=rc b hb;⟨o,by rw[e1 b hb,w];rfl⟩,I.AK l0<|hf b hb⟩⟩;obtain⟨o,w⟩:=rc b hb;rw[e1 b hb,w] at q;cases q;exact w;have ne:∀{l d},mQ fp h' H l=some (.ow d i)->l∉fp:=λ{l d} q z=>by obtain⟨o,w⟩:=rc l z;rw[e1 l z,w] at q;cases q
 obtain⟨z1,z2⟩:=I.tg l' d i ((e2 l'<|ne q).symm.trans q) hi;exact⟨z1,λl2 d2 q2=>z2 l2 d2<|(e2 l2<|ne q2).symm.trans q2⟩;obtain⟨o',w⟩:=rc b hb;rw[e1 b hb,w] at q;cases q;exact w
end
section
variable{X:Cx}{a b e:Expr}{fa fe:M D}{tg:Expr}{p pos:Pos}{σ:Sg}{H:Tm}{ρ:ax}{s:Shared}{ds:Vt}{q it:Addr}{t:Bool}
def CC(t:Bool)(it q:Addr)(n:Nat):Nat->Heap->Prop:=λi h=>i<=n/\VS.lU t it q ((n:Int)-1-i) h
theorem S9{n:Nat}:QG [it] (CC t it q n):=⟨λi h h' st k=>⟨st.1,st.2.at λo e=>k it Qj o e⟩,λi h st b hb=>by cases List.mem_singleton.mp hb;obtain⟨o,_,_,e,_⟩:=st.2.obj;exact⟨o,e⟩⟩
theorem MY(g:Gb):tf g tg it [it] ds.reverse (QP [it] (CC t it q ds.length) λH=>Rel H (.ref q)<|iZ t ds):=
 wi S9 (λH H' r l=>r.p l) (λX σ i H ρ s d Q E hg hc I st r hd k=>by
  subst hg;obtain⟨q',us,e,rs,sq,hz⟩:=I.seq t<|.inl r;cases e;have hi:i<ds.length:=by simpa using (List.getElem?_eq_some_iff.mp hd).1
  rw[WA hi] at hd;obtain⟨u,hu,ru⟩:=rs.get hd;have e1:(ds.length:Int)-1-(i:Int)=((ds.length-1-i:Nat):Int):=Uz;have e2:((ds.length-1-i:Nat):Int)-1=(ds.length:Int)-1-((i+1:Nat):Int):=Uz;have nz:=st.2;rw[e1] at nz;have fin:∀h' tk,VS.lU t it q (((ds.length-1-i:Nat):Int)-1) h'->Heap.SameBut it s.heap h'->wpAny X.M X.A (letOwnedTupleGo tg (.ref it) u) (λ_ s2=>Q u s2) E {s with heap:=h',toks:=tk}:=λh' tk sZ sb=>by rw[e2] at sZ;obtain⟨o,nm,vs,e,c,d,nc⟩:=sZ.obj;exact Cb (s:={s with heap:=h',toks:=tk}) e c d nc (k h' tk u ⟨hi,sZ⟩ (λb o hb e=>(sb.2 b λz=>hb (by simp[z])).trans e)<|.inl ru)
  cases t with|false=>exact wpAny_pyNext_rev_item nz sq (x:=u) (by simpa using hu) λh' sZ sb=>⟨u,rfl,fin h' s.toks sZ sb⟩|true=>exact VS.RV.next_item nz sq (x:=u) (by simpa using hu) (by rw[Yl,rs.length];exact hz) λh' tk sZ sb=>⟨u,rfl,fin h' tk sZ sb⟩)
 (λX σ H ρ s Q E hg hc I st r k=>by subst hg;have nz:=st.2;rw[List.length_reverse,show (ds.length:Int)-1-(ds.length:Int)=-1 by lia] at nz;have kp:∀h',Heap.ExtBut it s.heap h'->∀b o,b∉[it]->s.heap.get? b=some o->h'.get? b=some o:=λh' eb b o hb e=>eb b o (λz=>hb (by simp[z])) e;cases t with|false=>exact wpAny_pyNext_rev_end (I.ok.hd hc) nz λh' eb=>⟨rfl,k h' s.toks<|kp h' eb⟩|true=>exact VS.RV.next_end (I.ok.hd hc) nz λh' eb=>⟨rfl,k h' s.toks<|kp h' eb⟩)
 λA s i Q E st h=>by cases t with|false=>exact wpAny_pyIter_revIter st.2 h|true=>exact VS.RV.lE st.2 h
theorem Pz(hg:Gl X "reversed")(hm:X.g.mg "reversed" = none)(ha:PV X a fa)(hs:starEach [a] X.env=[(false,eval a X.env)]:=by rfl):q9 X tg (.Call (.Name "reversed" p) [a] [] pos) (CU fa):=λs σ H ρ Q E I o=>by
 refine bB (id:="reversed") true I hg hm boot_reversed ?_ (by decide) (by decide) hs rfl;rw[hs];refine VG<|ha.Tp I o (λ_ _ q=>q) λs1 H1 aS v d1 I1 l1 r1 o1=>Nd ?_;obtain⟨es,e,k⟩:=o1.opt;cases e1:b6 d1 with
 |none=>rw[e1] at e;cases e|some ds=>
  rw[e1] at e;cases e;obtain⟨t,rfl⟩:=de e1;obtain⟨q,us,rfl,rs,sq,hz⟩:=I1.seq t<|.inl r1;have hl:us.toArray.size=ds.length:=by rw[Yl,rs.length]
  have fin:∀h' tk,(∀b o,s1.heap.get? b=some o->h'.get? b=some o)->VS.lU t s1.heap.objs.size q ((ds.length:Int)-1) h'->Q (.ref s1.heap.objs.size) {s1 with heap:=h',toks:=tk}:=λh' tk kp ri=>by obtain⟨H2,I2,l2,nz,f2⟩:=wj (tk:=tk) (S9 (t:=t) (it:=s1.heap.objs.size) (q:=q) (n:=ds.length)) (P:=λH=>Rel H (.ref q)<|iZ t ds) (λH H' r l=>r.p l) I1 l1 kp (λb hb=>by cases List.mem_singleton.mp hb;exact Wd _) ⟨ZN _,by simpa using ri⟩ r1;exact k _ H2 _ _ _ I2 (l1.trans l2) (MY X.g) nz f2
  cases t with|false=>refine call_reversed_list sq ?_;rw[hl];have ri:Heap.IsRevIter (s1.heap.push<|revObj q<|(ds.length:Int)-1) s1.heap.objs.size q ((ds.length:Int)-1):=⟨_,Ym _ rfl,rfl,rfl⟩;exact wpAny_pyIter_revIter (s:={s1 with heap:=_}) ri (fin _ s1.toks (λb o e=>VZ _ e) ri)|true=>refine VS.RV.make sq (by rw[hl];exact hz) λtk=>?_;rw[hl];have ri:VS.RV.Is (s1.heap.push<|VS.RV.obj q<|(ds.length:Int)-1) s1.heap.objs.size q ((ds.length:Int)-1):=⟨_,Ym _ rfl,rfl,rfl⟩;exact VS.RV.lE (s:={s1 with heap:=_,toks:=tk}) ri (fin _ tk (λb o e=>VZ _ e) ri)
end
end WL
end
section
set_option linter.all false
set_option maxRecDepth 100000
namespace WL
open PySem PySem.Spec PyProof.Rows L2 VP
section
variable{X:Cx}{a b e:Expr}{fa fe:M D}{es:Y2}{k:Nat}{vo p pos:Pos}{σ:Sg}{H:Tm}{ρ:ax}{s:Shared}{P5 P6 ds:Vt}{q it:Addr}{t t1 t2:Bool}{z TI TO i1 i2 p1 p2:Addr}
theorem iE.v(x:iE t h q us):VS.iE t h q us:=by cases t<;>exact x
def Ab(z TI TO i1 i2:Addr)(t1 t2:Bool)(p1 p2:Addr):Nat->Heap->Prop:=λi h=>IsZip h z TI TO .none/\IsPair h TI (.ref i1) (.ref i2)/\(∃a c,IsPair h TO a c)/\VS.cX t1 i1 p1 i h/\VS.cX t2 i2 p2 i h
theorem Ta:QG [z,TI,TO,i1,i2] (Ab z TI TO i1 i2 t1 t2 p1 p2):=⟨λi h h' ⟨hz,ym,⟨a,c,zM⟩,h1,h2⟩ kk=>⟨kk z Qj _ hz,kk TI Qj _ ym,⟨a,c,kk TO Qj _ zM⟩,h1.at λo e=>kk i1 Qj o e,h2.at λo e=>kk i2 Qj o e⟩,λi h ⟨hz,ym,⟨a,c,zM⟩,h1,h2⟩ b hb=>by simp only[List.mem_cons,List.not_mem_nil,or_false] at hb;rcases hb with rfl|rfl|rfl|rfl|rfl;exact⟨_,hz⟩;exact⟨_,ym⟩;exact⟨_,zM⟩;exact let ⟨o,e,_⟩:=h1.obj;⟨o,e⟩;exact let ⟨o,e,_⟩:=h2.obj;⟨o,e⟩⟩
theorem Q1x(g:Gb)(D:VS.rk z TI TO i1 i2 [i1,p1] [i2,p2])(n1:p1≠i1)(n2:p2≠i2):tf g (.Tuple es k vo) z [z,TI,TO,i1,i2] (List.zipWith (λx y=>VP.D.tup [x,y]) P5 P6) (QP [z,TI,TO,i1,i2] (Ab z TI TO i1 i2 t1 t2 p1 p2) λH=>Rel H (.ref p1) (iZ t1 P5)/\Rel H (.ref p2) (iZ t2 P6)):=
 wi Ta (λH H' r l=>⟨r.1.p l,r.2.p l⟩) (λX σ i H ρ s d Q E hg hc I st r hd kq=>by
  subst hg;obtain⟨hz,ym,⟨a,c,zM⟩,h1,h2⟩:=st;obtain⟨_,Ly,e,We,Qq,_⟩:=I.seq t1<|.inl r.1;cases e;obtain⟨_,Px,e,Wg,Qr,_⟩:=I.seq t2<|.inl r.2;cases e;rw[List.getElem?_zipWith] at hd;cases e1:P5[i]? with
  |none=>rw[e1] at hd;cases hd|some d1=>
   cases e2:P6[i]? with
   |none=>rw[e1,e2] at hd;cases hd|some d2=>
    rw[e1,e2] at hd;cases hd;obtain⟨u,hu,ru⟩:=We.get e1;obtain⟨v,hv,rv⟩:=Wg.get e2;have hh:X.A.handled=none:=I.ok.hd hc;have hT:s.TypeIs (.ref z) "zip" := ⟨_,hz,rfl⟩;unfold pyNext;have Kg:i<Ly.toArray.size:=by have:=(List.getElem?_eq_some_iff.mp hu).1;simpa using this
    have Nf:i<Px.toArray.size:=by have:=(List.getElem?_eq_some_iff.mp hv).1;simpa using this
    refine Qf<|Rp<|Rr (name:=Str.ofString "__next__") hT rU<|Nx rU hT PySem.F.entry_zip_next (VS.AF (VS.jh (by exact hh) t1 i1 p1 n1 Ly.toArray) (VS.jh (by exact hh) t2 i2 p2 n2 Px.toArray) D hz ym zM ⟨h1,Qq.v⟩ ⟨h2,Qr.v⟩ Kg Nf λx' y' h' tk px py z1 o1 w1 w2 pr kp=>Qv ?_)<|PySem.F.args_zip_next_1 _;have ex:x'=u:=by
     have:Ly.toArray[i]?=some u:=by simpa using hu
     rw[this] at px;exact(Qe px).symm
    have ey:y'=v:=by
     have:Px.toArray[i]?=some v:=by simpa using hv
     rw[this] at py;exact(Qe py).symm
    subst ex ey;refine⟨_,rfl,wpAny_letOwnedTupleGo_zip z1 λFE z2 sb=>?_⟩;replace sb:Heap.SameBut z h' FE:=sb;have Pj:z≠s.heap.objs.size:=M1<|Ut hz;refine kq FE tk _ ⟨z2,sb.extBut _ _ D.TIz (kp _ _ D.TIz D.TITO D.TIi1 D.TIi2 ym),⟨_,_,sb.extBut _ _ D.TOz o1⟩,w1.1.at λo e=>sb.extBut _ o D.i1z e,w2.1.at λo e=>sb.extBut _ o D.i2z e⟩ (λc o sX e=>?_)<|.inr ⟨d1,d2,_,_,rfl,rfl,sb.extBut _ _ (Wl Pj) pr,ru,rv⟩;simp only[List.mem_cons,List.not_mem_nil,or_false,not_or] at sX;exact sb.extBut c o sX.1<|kp c o sX.1 sX.2.2.1 sX.2.2.2.1 sX.2.2.2.2 e)
 (λX σ H ρ s Q E hg hc I st r kq=>by
  subst hg;obtain⟨hz,ym,⟨a,c,zM⟩,h1,h2⟩:=st;obtain⟨_,Ly,e,We,Qq,_⟩:=I.seq t1<|.inl r.1;cases e;obtain⟨_,Px,e,Wg,Qr,_⟩:=I.seq t2<|.inl r.2;cases e;have l1:=We.length;have l2:=Wg.length;have hh:X.A.handled=none:=I.ok.hd hc;have hT:s.TypeIs (.ref z) "zip" := ⟨_,hz,rfl⟩;have he:(List.zipWith (λx y=>VP.D.tup [x,y]) P5 P6).length=Ly.toArray.size\/((List.zipWith (λx y=>VP.D.tup [x,y]) P5 P6).length<Ly.toArray.size/\(List.zipWith (λx y=>VP.D.tup [x,y]) P5 P6).length=Px.toArray.size):=by simp;lia
  unfold pyNext;refine Qf<|Rp<|Rr (name:=Str.ofString "__next__") hT rU<|Nx rU hT PySem.F.entry_zip_next (VS.Q0R (m:=0) (by exact hh) (VS.jh (by exact hh) t1 i1 p1 n1 Ly.toArray) (VS.jh (by exact hh) t2 i2 p2 n2 Px.toArray) D hz ym zM ⟨h1,Qq.v⟩ ⟨h2,Qr.v⟩ he λh' e tk hk he=>?_)<|PySem.F.args_zip_next_1 _;obtain⟨o,ho,sX⟩:=he;refine Qf<|zD (T:="StopIteration") (b:=true) ⟨o,ho,sX⟩ isSubtype_stop ?_;refine Qv ⟨rfl,kq h' tk λc o uG e=>?_⟩;simp only[List.mem_cons,List.not_mem_nil,or_false,not_or] at uG;exact hk c o uG.1 uG.2.2.1 uG.2.2.2.1 uG.2.2.2.2 e)
 λA s i Q E ⟨hz,_⟩ h=>wpAny_pyIter_zip hz h
theorem xy{fl:List (M D)}(hg:Gl X "zip")(hm:X.g.mg "zip" = none)(ha:th X [a,b] (mL fl))(hs:starEach [a,b] X.env=[(false,eval a X.env),(false,eval b X.env)]:=by rfl)(j2:starEach [b] X.env=[(false,eval b X.env)]:=by rfl) : q9 X (.Tuple es k vo) (.Call (.Name "zip" p) [a,b] [] pos) (uQ fl):=λs σ H ρ Q E I o=>by
 refine bB (id:="zip") true I hg hm boot_zip ?_ (by decide) (by decide) (hs.trans<|congrArg (_::·) j2.symm)<|(congrArg (λl=>(backTo pos l).any (·.1)) j2).trans rfl;refine(ha pos).Tp I o (λ_ _ q=>q) λs1 H1 aS us ds I1 l1 r1 o1=>?_;obtain⟨ds',e,kq⟩:=o1.opt;unfold xA at e;split at e;rename_i c d;cases e1:b6 c with
  |none=>rw[e1] at e;cases e|some cs=>
   cases e2:b6 d with
   |none=>rw[e1,e2] at e;cases e|some W7=>
    rw[e1,e2] at e;cases e;obtain⟨u1,u2,rfl,ra,rb⟩:=r1.two;obtain⟨t1,rfl⟩:=de e1;obtain⟨t2,rfl⟩:=de e2;obtain⟨p1,Ly,rfl,We,Qq,_⟩:=I1.seq t1<|.inl ra;obtain⟨p2,Px,rfl,Wg,Qr,_⟩:=I1.seq t2<|.inl rb;have lt:∀{t:Bool}{q:Addr}{aO:Array Value},iE t s1.heap q aO->q<s1.heap.objs.size:=λ{t q aO} z=>by cases t;obtain⟨o,e,_⟩:=(show Heap.IsList _ _ _ from z);exact Ut e;obtain⟨o,e,_⟩:=(show Heap.IsTuple _ _ _ from z);exact Ut e
    have Kg:=lt Qq;have Nf:=lt Qr;refine VS.Bp Qq.v Qr.v λh' hz ym zM hi1 Sx hk=>wpAny_pyIter_zip hz ?_;have ne:∀{q:Addr}(j:Nat),q<s1.heap.objs.size->q≠s1.heap.objs.size+j:=λ{q} j hq=>M1<|Hz hq<|Nat.le_add_right _ _;have D:VS.rk (s1.heap.objs.size+4) (s1.heap.objs.size+2) (s1.heap.objs.size+3) s1.heap.objs.size (s1.heap.objs.size+1) [s1.heap.objs.size,p1] [s1.heap.objs.size+1,p2]:=by have a1:=ne 4 Kg;have a2:=ne 3 Kg;have a3:=ne 1 Kg;have b1:=ne 4 Nf;have b2:=ne 3 Nf;have b3:=ne 0 Nf;refine⟨Qj,Qj,Qj,Qj,Qj,Qj,Qj,Qj,Qj,Qj,?_,?_,?_,?_,?_,?_⟩;simp[Ne.symm a1];simp[Ne.symm b1];simp[Ne.symm a2];simp[Ne.symm b2];simp;exact Wl b3;simp[Ne.symm a3]
    obtain⟨H2,I2,l2,nz,f2⟩:=wj (tk:=s1.toks) (Ta (z:=s1.heap.objs.size+4) (TI:=s1.heap.objs.size+2) (TO:=s1.heap.objs.size+3) (i1:=s1.heap.objs.size) (i2:=s1.heap.objs.size+1) (t1:=t1) (t2:=t2) (p1:=p1) (p2:=p2)) (P:=λH=>Rel H (.ref p1) (iZ t1 cs)/\Rel H (.ref p2) (iZ t2 W7)) (λH H' r l=>⟨r.1.p l,r.2.p l⟩) I1 l1 hk (λb hb=>by simp only[List.mem_cons,List.not_mem_nil,or_false] at hb;rcases hb with rfl|rfl|rfl|rfl|rfl<;>lia) ⟨hz,ym,⟨_,_,zM⟩,hi1,Sx⟩ ⟨ra,rb⟩;exact kq _ H2 _ _ _ I2 (l1.trans l2) (Q1x X.g D (ne 0 Kg)<|ne 1 Nf) nz f2
 cases e
def HC(e it p:Addr):Nat->Heap->Prop:=λi h=>(∃old,IsEnum h e it i old)/\h.IsListIter it p i
theorem S8{e it p:Addr}:QG [e,it] (HC e it p):=⟨λi h h' ⟨⟨old,he⟩,hi⟩ kk=>⟨⟨old,kk e Qj _ he⟩,hi.at λo q=>kk it Qj o q⟩,λi h ⟨⟨old,he⟩,o,hi,_⟩ b hb=>by simp only[List.mem_cons,List.not_mem_nil,or_false] at hb;rcases hb with rfl|rfl;exact⟨_,he⟩;exact⟨_,hi⟩⟩
theorem FV(g:Gb){e it p:Addr}(n1:p≠it)(n2:e≠it)(n3:e≠p):tf g (.Tuple es k vo) e [e,it] (ko ds) (QP [e,it] (HC e it p) λH=>Rel H (.ref p)<|.lst ds):=
 wi S8 (λH H' r l=>r.p l) (λX σ i H ρ s d Q E hg hc I st r hd kq=>by
  subst hg;obtain⟨⟨old,he⟩,hi⟩:=st;obtain⟨_,us,ee,rs,pl,_⟩:=I.lst<|.inl r;cases ee;unfold ko at hd;rw[List.getElem?_zipWith] at hd;cases e1:ds[i]? with
  |none=>rw[e1] at hd;cases e2:(List.range ds.length)[i]?<;>rw[e2] at hd<;>cases hd|some d1=>
   rw[e1,El (List.getElem?_eq_some_iff.mp e1).1] at hd;cases hd;obtain⟨u,hu,ru⟩:=rs.get e1;have hh:X.A.handled=none:=I.ok.hd hc;have Kg:i<us.toArray.size:=by have:=(List.getElem?_eq_some_iff.mp hu).1;simpa using this
   refine wpAny_pyNext_enum_itemD (Draws.list (by exact hh) it p n1 us.toArray) he ⟨hi,pl.isList⟩ Kg n2 (by simp[n2,n3]) λx' h' tk px ho sZ pr hsz kp=>?_;have ex:x'=u:=by
    have:us.toArray[i]?=some u:=by simpa using hu
    rw[this] at px;exact(Qe px).symm
   subst ex;refine⟨_,rfl,wpAny_letOwnedTupleGo_enum ho λFE z2 sb=>?_⟩;replace sb:Heap.SameBut e h' FE:=sb;have Pj:e≠s.heap.objs.size:=M1<|Ut he;refine kq FE (tk+1) _ ⟨⟨_,by simpa using z2⟩,sZ.1.at λo q=>sb.extBut _ o (Wl n2) q⟩ (λc o sX q=>?_)<|.inr ⟨.int i,d1,_,_,rfl,rfl,sb.extBut _ _ (Wl Pj) pr,⟨_,rfl⟩,ru⟩;simp only[List.mem_cons,List.not_mem_nil,or_false,not_or] at sX;exact sb.extBut c o sX.1<|kp c o sX.1 sX.2 q)
 (λX σ H ρ s Q E hg hc I st r kq=>by
  subst hg;obtain⟨⟨old,he⟩,hi⟩:=st;obtain⟨_,us,ee,rs,pl,_⟩:=I.lst<|.inl r;cases ee;have hh:X.A.handled=none:=I.ok.hd hc;have ee:(ko ds).length=us.toArray.size:=by simp[ko,rs.length]
  rw[ee] at he hi;refine wpAny_pyNext_enum_endD (Draws.list (by exact hh) it p n1 us.toArray) he ⟨hi,pl.isList⟩ λh' hk=>⟨rfl,kq h' s.toks λc o uG q=>?_⟩;simp only[List.mem_cons,List.not_mem_nil,or_false,not_or] at uG;exact hk c o uG.2 q)
 λA s i Q E st h=>by obtain⟨⟨old,he⟩,_⟩:=st;exact wpAny_pyIter_enum he h
theorem isL{fl:List (M D)}(hg:Gl X "enumerate")(hm:X.g.mg "enumerate" = none)(ha:th X [a] (mL fl))(hs:starEach [a] X.env=[(false,eval a X.env)]:=by rfl) : q9 X (.Tuple es k vo) (.Call (.Name "enumerate" p) [a] [] pos) (uM fl):=λs σ H ρ Q E I o=>by
 refine bB (id:="enumerate") true I hg hm VS.boot_enumerate ?_ (by decide) (by decide) hs rfl;refine(ha pos).Tp I o (λ_ _ q=>q) λs1 H1 aS us ds I1 l1 r1 o1=>?_;obtain⟨ds',e,kq⟩:=o1.opt;unfold nW at e;split at e;rename_i xs;cases e;obtain⟨u,rfl,ra⟩:=r1.one;obtain⟨q,aO,rfl,rs,pl,_⟩:=I1.lst<|.inl ra;obtain⟨⟨c0,d0,dt0,sl0⟩,n,hq,Xv,Zz,Sq⟩:=pl;simp only at Xv Zz Sq;subst Xv Zz Sq;have lt:q<s1.heap.objs.size:=Ut hq;refine callType_new PySem.F.called_enumerate (by decide) (PySem.F.typeCall_enumerate_1 _) (PySem.F.newCall_enumerate_1 _) (λobj=>Pn obj _) PySem.F.entry_enumerate_new (VS.wD q aO.toArray n sl0) ⟨hq,⟨_,Ym _ rfl,rfl⟩,?_⟩;have sz:(s1.heap.push {cls:=.type "list_iterator",data:=.fields #[.ref q,.int 0 0]}).objs.size=s1.heap.objs.size+1:=Nl ..;have he:IsEnum ((s1.heap.push {cls:=.type "list_iterator",data:=.fields #[.ref q,.int 0 0]}).push {cls:=.type "enumerate",data:=.fields #[.none,.bool false,.ref s1.heap.objs.size,rawInt 0,.none,.none]}) (s1.heap.objs.size+1) s1.heap.objs.size 0 .none:=by rw[<-sz];exact Ym _ rfl
 rw[sz];refine wpAny_pyIter_enum he ?_;obtain⟨H2,I2,l2,nz,f2⟩:=wj (tk:=s1.toks) (S8 (e:=s1.heap.objs.size+1) (it:=s1.heap.objs.size) (p:=q)) (P:=λH=>Rel H (.ref q)<|.lst xs) (λH H' r l=>r.p l) I1 l1 (λb o e=>VZ _<|VZ _ e) (λb hb=>by simp only[List.mem_cons,List.not_mem_nil,or_false] at hb;rcases hb with rfl|rfl<;>lia) ⟨⟨_,he⟩,⟨_,VZ _<|Ym _ rfl,rfl,rfl⟩⟩ ra;exact kq _ H2 _ _ _ I2 (l1.trans l2) (FV X.g (M1 lt) Qj<|wq<|LP lt) nz f2;cases e
end
end WL
end
section
set_option linter.all false
set_option maxRecDepth 100000
namespace WL
open PySem PySem.Spec PyProof.Rows L2 VP
section
variable{H:Tm}{k:Key}{v:Value}{x d:D}
theorem AB{p:Key×Value}{vs:List (Key×Value)}(e:p.1=k):valueAt (p::vs) k=some p.2:=by unfold valueAt;rw[List.find?_cons_of_pos (by simpa using e)];rfl
theorem Q1y{p:Key×Value}{vs:List (Key×Value)}(e:¬p.1=k):valueAt (p::vs) k=valueAt vs k:=by unfold valueAt;rw[List.find?_cons_of_neg (by simpa using e)]
theorem xQ:∀{vs:List (Key×Value)}{ds:Vt},aC H (vs.map (·.2)) ds->match RT (vs.map (·.1)) ds k with
 |some d=>∃v,valueAt vs k=some v/\Rel H v d|none=>valueAt vs k=none
|[],_,.nil=>rfl|p::vs,_,.cons h t=>by rw[Yk,RT];by_cases c:p.1=k;rw[YN c];exact⟨p.2,AB c,h⟩;rw[YO c,Q1y c];exact xQ t
theorem xk{vs:List (Key×Value)}{p:Key×Value}(hn:¬k∈vs.map (·.1))(e:p.1=k):stored (p::vs) k v=(p.1,v)::vs:=by unfold stored;rw[YN (by simp[e])];simp only[List.map_cons,if_pos e];congr 1;refine(List.map_congr_left λq hq=>?_).trans<|List.map_id vs;exact YO λ(z:q.1=k)=>hn (by rw[<-z];exact List.mem_map_of_mem hq)
theorem xi{vs:List (Key×Value)}{p:Key×Value}(e:¬p.1=k):stored (p::vs) k v=p::stored vs k v:=by unfold stored;simp only[List.any_cons,VY e,Bool.false_or];split;simp[e];rfl
theorem xU(hx:Rel H v x):∀{vs:List (Key×Value)}{ds:Vt},(vs.map (·.1)).Nodup->aC H (vs.map (·.2)) ds->(stored vs k v).map (·.1)=(BA k x (vs.map (·.1)) ds).1/\aC H ((stored vs k v).map (·.2)) (BA k x (vs.map (·.1)) ds).2/\(stored vs k v).length<=vs.length+1|[],_,_,.nil=>⟨rfl,.cons hx .nil,Wd _⟩|p::vs,_,hn,.cons h t=>by have vC:=List.nodup_cons.mp hn;rw[Yk,BA];by_cases c:p.1=k;rw[YN c,xk (c ▸ vC.1) c];exact⟨rfl,.cons hx t,Dx _⟩;rw[YO c,xi c];obtain⟨h1,h2,h3⟩:=xU hx vC.2 t;exact⟨by rw[Yk,h1],.cons h h2,Nat.succ_le_succ h3⟩
end
section
variable{X:Cx}{e a b c value:Expr}{fa fb fe fk fv:M D}{pos p:Pos}{x:Str}{tg:Expr}{σ:Sg}{H:Tm}{ρ:ax}{s:Shared}{ks:List Key}{ds:Vt}{Q:Tv}{E:Tv}
theorem Inv.ki(I:Inv X σ H ρ s)(r:RW H s v (.ki ks ds)):∃a vs ep,v=.ref a/\ks.length<=sizeLine/\(a == sysModules)=false/\vs.map (·.1)=ks/\aC H (vs.map (·.2)) ds/\s.heap.DictAt (ng X.g.prog X.g.w) a vs ep:=let ⟨a,_,e,z,y,vs,ep,k,r,d⟩:=I.obj r rfl;⟨a,vs,ep,e,z,y,k,r,d⟩
theorem GW(ha:PV X a fa)(hb:PV X b fb)(hs:QK b:=by exact OY):PV X (.Subscript a b pos) (m2 RR fa fb):=λs σ H ρ Q E I o=>
 Hl PySem.F.slot_dict_getitem.lookup hs (ha.Tp I o (λ_ _ q=>q) λs1 H1 aS u d1 I1 l1 r1 o1=>hb.Tp I1 o1 (λ_ _ q=>q.le l1) λs2 H2 pX iv d2 I2 l2 r2 o2=>by
  obtain⟨d,e,q⟩:=o2.opt;cases d1 with
  |ki ks ds=>cases d2 with|int k=>obtain⟨l,vs,ep,rfl,z,hd,rfl,rr,dd⟩:=I2.ki<|.inl<|r1.le l2;have:=xQ (k:=.inl k) rr;rw[show RT _ _ _=some d from e] at this;obtain⟨v,hv,rv⟩:=this;obtain⟨t,rfl⟩:=r2;exact⟨dd.dictOf.typeIs,wpAny_getItem_of (mw _ _ k t) dd.dictOf.mapOf hv<|q _ H2 v (I2.tok _) (l1.trans l2) rv⟩|_=>cases e
  |_=>cases e)
theorem Inv.big(I:Inv X σ H ρ s):sysModules<s.heap.objs.size:=by have h:mainGlobals<s.heap.objs.size:=(I.mod.glob.keeps I.bk).lt;exact Nat.lt_trans (by decide) h
theorem Q1J:PF X (.Dict [] [] pos) (mC<|.ki [] []):=λs σ H ρ Q E I o=>by
 have dd:(s.heap.push {cls:=.type "dict",data:=.dict #[]}).DictAt (ng X.g.prog X.g.w) s.heap.objs.size [] 0:=⟨_,_,Ym _ rfl,⟨rfl,rfl,rfl⟩,rfl,λ_ h=>(by simp at h),.nil,Qj⟩;obtain⟨I',l'⟩:=I.lay (t':=s.toks) (h':=s.heap.push {cls:=.type "dict",data:=.dict #[]}) (a:=s.heap.objs.size) (e:=.ow (.ki [] []) X.N.length) (λb o e=>VZ _ e) (Wd _) (λlp=>⟨⟨ZN _,beq_eq_false_iff_ne.mpr<|Wl<|M1 I.big,[],0,rfl,.nil,dd⟩,λz=>nomatch z⟩) λd i z=>by cases z;exact Wd _
 exact wpAny_Dict_empty (o _ _ _ I' l' ⟨_,rfl,aA⟩)
theorem HK(i:Nat){p1 p2:Pos}(hk:PV X b fk)(MR:PV X value fv)(hN:X.N[i]?=some x:=by rfl)(hv:ij X.env.scope x:=by exact E3)(hd:RI x:=by decide)(eZ:v8 x:=by decide) (hs:swapsWith value (some<|.Subscript (.Name x p1) b p2) pos.line X.env=pure false:=by rfl):ja X (.Assign [.Subscript (.Name x p1) b p2] value pos) (Ll i fk fv):=λs σ H ρ Q E I o=>
 wpAny_Assign_Subscript (MR.Tp I o (λ_ _ q=>q.x) λs1 H1 aS v d1 I1 l1 r1 o1=>by
  split at o1;rename_i ho;obtain⟨d0,ho⟩:=Option.isSome_iff_exists.mp ho;obtain⟨l,hu,hl⟩:=I1.ownAt hN hv ho;refine bx I1 hv hu (hk.Tp I1 o1 (λ_ _ q=>q.x.le l1) λs2 H2 pX iv d2 I2 l2 r2 o2=>?_) hd eZ;obtain⟨d3,d4,q0,q1,kq⟩:=jA o2.Tp;obtain⟨l',yt,pG⟩:=I2.ownAt hN hv q0;rw[hu] at yt;cases yt;cases d3 with
  |ki ks ds=>cases d2 with|int k=>simp only[putD] at q1;split at q1;rename_i fj;cases q1;obtain⟨t,rfl⟩:=r2;obtain⟨⟨z,hsm,vs,ep,rfl,rr,dd⟩,_⟩:=I2.aL l _ pG;have Nf:=Le.ow (d':=.ki (BA (.inl k) d1 (vs.map (·.1)) ds).1 (BA (.inl k) d1 (vs.map (·.1)) ds).2) (j:=i) pG;refine wpAny_setItem_pairs (hsz:=by simpa using z) (mw _ _ k t) dd.dictOf λh' Zn sb=>?_;obtain⟨ep',da⟩:=Zn.dictAt;obtain⟨h1,h2,h3⟩:=xU (k:=.inl k) (r1.le l2) dd.nodup rr;have hq:∃o,h'.get? l=some o:=let ⟨o,_,e,_⟩:=da;⟨o,e⟩;obtain⟨I3,l3⟩:=I2.wr (t':=s2.toks+1) (h':=h') (d':=.ki (BA (.inl k) d1 (vs.map (·.1)) ds).1 (BA (.inl k) d1 (vs.map (·.1)) ds).2) pG (.inl rfl) (λb q hb z=>(sb.2 b hb).trans z) hq (λlp=>⟨by rw[<-h1,VE];have:(vs.map (·.1)).length<1000:=fj;rw[VE] at this;exact YM h3<|YM this (by decide),hsm,_,ep',h1,h2.p lp,da⟩) λz=>nomatch z;exact kq _ _ _ _ I3 ((l1.trans l2).trans l3) rfl;cases q1|_=>simp only[putD,reduceCtorEq] at q1
  |_=>simp only[putD,reduceCtorEq] at q1
  exact o1.elim) hs
end
end WL
end
section
set_option linter.all false
set_option maxRecDepth 100000
namespace WL
open PySem PySem.Spec PyProof.Rows L2 VP
def dM(w:Bool)(n:Nat)(h:Heap)(H:Tm):Tm:=λa=>match H a with|some (.ow d i)=>(h.get? a).map λo=>.pin o (if w&&decide (i<n) then some d else none)|some (.cA _)=>(h.get? a).map λo=>.pin o (if w then some .aP else none)|e=>e
def Ef(w:Bool):Sl->Sl:=if w then gq else hide
def R2(w:Bool)(n:Nat):Option En->Option En|some (.pin o<|some d)=>if w&&!GZ d then none else some (.pin o<|some d)|some (.pin o none)=>some (.pin o none)|some (.ow (.lst ds) i)=>if w&&noLs ds&&decide (n<=i) then some (.ow (.lst ds) i) else none|_=>none
def aX(w:Bool)(n:Nat)(H H4:Tm):Tm:=λa=>match H a with|some e=>some e|none=>R2 w n (H4 a)
section
variable{X:Cx}{σ cV:Sg}{H H4:Tm}{ρ AG:ax}{s s5:Shared}{w:Bool}{n:Nat}
theorem Inv.Eg(w:Bool)(I:Inv X σ H ρ s):Inv X σ (dM w X.N.length s.heap H) (ρ.map<|Ef w) s:=by
 have fast:∀{a e},H a=some e->e.fast->dM w X.N.length s.heap H a=some e:=λ{a e} q f=>by unfold dM;rw[q];cases e with|ow _ _=>exact f.elim|cA _=>exact f.elim|_=>rfl
 have owv:∀{a d i o},H a=some (.ow d i)->s.heap.get? a=some o->dM w X.N.length s.heap H a=some (.pin o<|if w&&decide (i<X.N.length) then some d else none):=λq z=>by unfold dM;rw[q];show Option.map _ _=_;rw[z];rfl
 have Mi:∀{a b o},H a=some (.cA b)->s.heap.get? a=some o->dM w X.N.length s.heap H a=some (.pin o<|if w then some .aP else none):=λq z=>by unfold dM;rw[q];show Option.map _ _=_;rw[z];rfl
 have inv:∀{a e},dM w X.N.length s.heap H a=some e->(H a=some e/\e.fast)\/(∃d i o,H a=some (.ow d i)/\s.heap.get? a=some o/\e=.pin o (if w&&decide (i<X.N.length) then some d else none))\/(∃b o,H a=some (.cA b)/\s.heap.get? a=some o/\e=.pin o (if w then some .aP else none)):=λ{a e} q=>by cases z:H a with|none=>unfold dM at q;rw[z] at q;cases q|some e0=>obtain⟨o,ho⟩:=(I.aL a _ z).at;cases e0 with|ow d i=>obtain rfl:=sj (owv z ho) q;exact .inr (.inl ⟨d,i,o,rfl,ho,rfl⟩)|cA b=>obtain rfl:=sj (Mi z ho) q;exact .inr (.inr ⟨b,o,rfl,ho,rfl⟩)|_=>obtain rfl:=sj (fast z trivial) q;exact .inl ⟨rfl,trivial⟩
 have lp:iA H (dM w X.N.length s.heap H):=λa o d q=>fast q trivial;refine⟨I.ok,I.os,I.bare,λa e q f=>fast (I.le a e q f) f,λa e q z=>?_,λa e q=>?_,I.loc,λi sl q=>?_,λl d i q hi=>?_,?_,λx c e=>⟨(I.cell x c e).1,?_⟩,by rw[VE];exact I.len⟩;rcases inv q with ⟨y,_⟩|⟨d,i,o,y,_⟩|⟨b,o,y,_⟩
 exact I.nw a e y z;exact .inl<|(I.nw a _ y z).elim id λ⟨_,z⟩=>nomatch z;exact .inl<|(I.nw a _ y z).elim id λ⟨_,z⟩=>nomatch z;rcases inv q with ⟨y,f⟩|⟨d,i,o,y,ho,rfl⟩|⟨b,o,y,ho,rfl⟩
 have x:=I.aL a e y;cases e with|pin o d=>exact⟨x.1,λe z=>(x.2 e z).mv lp (λ_ z=>z) (λz=>nomatch z) λ_ _ _ z=>z⟩|ow _ _=>exact f.elim|cA _=>exact f.elim|_=>exact x
 refine⟨ho,λe z=>?_⟩;split at z;rename_i hw;have hw:=((Lp _ _).mp hw).1;cases z;obtain⟨ob,nn⟩:=I.aL a _ y;cases d with
 |ins c ns ds=>obtain⟨C,dx,m,e,q,ne,fs,k,r,z,mA,n,w'⟩:=ob;obtain⟨od,_,_,MN,_⟩:=id n;exact⟨C,dx,m,e,⟨od,by have z:=Mi q MN;rw[hw] at z ⊢;exact z⟩,ne,fs,k,r.p lp,z,mA,n,w'⟩|jj c ns ds=>obtain⟨C,dx,vs,sl,m,e,e2,e1,q⟩:=ob;refine⟨C,dx,vs,sl,m,e,e2,(nomatch ·),?_⟩;cases dx with|none=>exact q|some b=>obtain⟨q,ne,fs,k,r,z,mA,n,w'⟩:=q;obtain⟨od,_,_,MN,_⟩:=id n;exact⟨⟨od,by have z:=Mi q MN;rw[hw] at z ⊢;exact z⟩,ne,fs,k,r.p lp,z,mA,n,w'⟩
 |tup ds=>cases ob.1|lst ds=>obtain⟨z,us,r,c⟩:=ob;exact⟨z,us,r.p lp,c⟩|ki ks ds=>obtain⟨z,y,vs,ep,k,r,c⟩:=ob;exact⟨z,y,vs,ep,k,r.p lp,c⟩|aP=>exact absurd rfl nn|_=>exact ob.elim
 cases z;exact⟨ho,λe z=>by cases w<;>cases z;trivial⟩;rw[Nn] at q;cases z:ρ[i]? with
 |none=>rw[z] at q;cases q|some t=>
  rw[z] at q;have e:Ef w t=sl:=Qe q;subst e;obtain⟨x,hx,r⟩:=I.slot i t z;have hi:i<X.N.length:=(List.getElem?_eq_some_iff.mp hx).1;refine⟨x,hx,?_⟩;have own:∀{d l},σ x=some (.ref l)->H l=some (.ow d i)->zv X (dM true X.N.length s.heap H) i (σ x) (.sh d):=λ{d l} e q=>by
   obtain⟨ob,nn⟩:=I.aL l _ q;obtain⟨o,ho⟩:=ob.at nn;have q':dM true X.N.length s.heap H l=some (.pin o<|some d):=by unfold dM;rw[q];show Option.map _ _=_;rw[ho];simp[hi]
   refine⟨.ref l,e,?_⟩;cases d with|lst ds=>exact⟨l,o,rfl,q'⟩|tup ds=>exact⟨l,o,rfl,q'⟩|ki ks ds=>exact⟨l,o,rfl,q'⟩|ins c ns ds=>exact⟨l,o,rfl,q'⟩|jj c ns ds=>exact⟨l,o,rfl,q'⟩|aP=>exact absurd rfl nn|_=>exact ob.elim
  cases w with
  |true=>cases t with|no=>trivial|sh d=>obtain⟨u,a,b⟩:=r;exact⟨u,a,b.p lp⟩|ow d=>obtain⟨l,a,b⟩:=r;exact own a b|io d=>obtain⟨l,a,b,_⟩:=r;exact own a b
  |false=>cases t with|no=>trivial|sh d=>obtain⟨u,a,b⟩:=r;exact⟨u,a,b.p lp⟩|ow d=>trivial|io d=>trivial
 rcases inv q with ⟨y,f⟩|⟨_,_,_,_,_,z⟩|⟨_,_,_,_,z⟩
 exact f.elim;cases z;cases z;unfold dM;rw[I.fl];rcases (I.cell x c e).2 with z|⟨f,o,d,z⟩;exact .inl (by unfold dM;rw[z]);exact .inr ⟨f,o,d,fast z trivial⟩
theorem bP(I:Inv X σ H ρ s)(J:Inv X cV H4 AG s5)(l:Le (dM w X.N.length s.heap H) H4){a:Addr}{e:En}{o:Obj}(q:H a=some e)(ho:s.heap.get? a=some o)(hf:∀o,e≠.jO o):s5.heap.get? a=some o/\(e.fast->H4 a=some e)/\(∀d i,e=.ow d i->H4 a=some (.pin o<|if w&&decide (i<X.N.length) then some d else none))/\(∀b,e=.cA b->H4 a=some (.pin o<|if w then some .aP else none)):=by cases e with|pin o' d=>have q':=l a (.pin o' d) (by unfold dM;rw[q]) trivial;have:=(I.aL a _ q).1;obtain rfl:=sj ho this;exact⟨(J.aL a _ q').1,λ_=>q',λ_ _ z=>(nomatch z),λ_ z=>nomatch z⟩|dg o'=>have q':=l a (.dg o') (by unfold dM;rw[q]) trivial;have:s.heap.get? a=some o':=I.aL a _ q;obtain rfl:=sj ho this;exact⟨J.aL a _ q',λ_=>q',λ_ _ z=>(nomatch z),λ_ z=>nomatch z⟩|jO o'=>exact absurd rfl (hf o')|ow d i=>have q':=l a _ (show dM w X.N.length s.heap H a=some (.pin o<|if w&&decide (i<X.N.length) then some d else none) by unfold dM;rw[q];show Option.map _ _=_;rw[ho];rfl) trivial;exact⟨(J.aL a _ q').1,λf=>f.elim,λ_ _ z=>by cases z;exact q',λ_ z=>nomatch z⟩|cA b=>have q':=l a _ (show dM w X.N.length s.heap H a=some (.pin o<|if w then some .aP else none) by unfold dM;rw[q];show Option.map _ _=_;rw[ho];rfl) trivial;exact⟨(J.aL a _ q').1,λf=>f.elim,λ_ _ z=>(nomatch z),λ_ _=>q'⟩
theorem Q2J(I:Inv X σ H ρ s)(J:Inv X cV H4 AG s5)(l:Le (dM w X.N.length s.heap H) H4){u:Value}{d:D}(r:Rel H4 u d)(hd:w=true->GZ d=true):Rel (aX w X.N.length H H4) u d:=by
 have key:∀{a o},d≠.aP->H4 a=some (.pin o<|some d)->aX w X.N.length H H4 a=some (.pin o<|some d):=λ{a o} nn q=>by
  unfold aX;cases z:H a with
  |none=>show R2 w X.N.length (H4 a)=_;rw[q];show (if (w&&!GZ d)=true then none else some (En.pin o<|some d))=_;cases w with|false=>rfl|true=>rw[hd rfl];rfl
  |some e=>
   show some e=_;obtain⟨oa,ho⟩:=(I.aL a _ z).at;cases e with
   |jO o'=>have q':=l a (.jO o') (by unfold dM;rw[z]) trivial;exact ek q q'|pin o' d'=>rw[<-q];exact((bP I J l z ho λ_ y=>nomatch y).2.1 trivial).symm|dg o'=>rw[<-q];exact((bP I J l z ho λ_ y=>nomatch y).2.1 trivial).symm|ow d' i=>
    have q':=(bP I J l z ho λ_ y=>nomatch y).2.2.1 _ _ rfl;rw[q] at q';injection q' with q';injection q' with _ q';split at q';rename_i hw;rw[Lp] at hw;cases q';have:=hd hw.1;obtain⟨ob,_⟩:=I.aL a _ z;cases d with|tup ds=>cases ob.1|lst ds=>cases this|ki ks ds=>cases this|ins c ns ds=>cases this|jj c ns ds=>cases this|aP=>exact absurd rfl nn|_=>exact ob.elim
    cases q'
   |cA b=>have q':=(bP I J l z ho λ_ y=>nomatch y).2.2.2 _ rfl;rw[q] at q';cases w<;>cases q';exact absurd rfl nn
 cases d with|aP=>exact r|bl _=>exact r|int _=>exact r|str _=>exact r|_=>obtain⟨a,o,e,q⟩:=r;exact⟨a,o,e,key (λz=>nomatch z) q⟩
theorem gp(I:Inv X σ H ρ s)(J:Inv X cV H4 AG s5)(l:Le (dM w X.N.length s.heap H) H4):∀{us:SX}{ds:Vt},aC H4 us ds->(w=true->noLs ds=true)->aC (aX w X.N.length H H4) us ds|_,_,.nil,_=>.nil|_,_,.cons h t,hd=>.cons (Q2J I J l h λz=>((Lp _ _).mp<|hd z).1) (gp I J l t λz=>((Lp _ _).mp<|hd z).2)
theorem Inv.vt(I:Inv X σ H ρ s)(J:Inv X σ H4 AG s5)(l:Le (dM w X.N.length s.heap H) H4):Inv X σ (aX w X.N.length H H4) ρ s5/\Le H (aX w X.N.length H H4):=by
 have old:∀{a e},H a=some e->aX w X.N.length H H4 a=some e:=λq=>by unfold aX;rw[q]
 have new:∀{a e},H a=none->aX w X.N.length H H4 a=some e->R2 w X.N.length (H4 a)=some e:=λz q=>by unfold aX at q;rw[z] at q;exact q
 have le:Le H (aX w X.N.length H H4):=λa e q _=>old q;have kp:∀{a e o},H a=some e->(∀o,e≠.jO o)->s.heap.get? a=some o->s5.heap.get? a=some o:=λq hf ho=>(bP I J l q ho hf).1;refine⟨⟨I.ok,J.os,J.bare,I.le.trans le,λa e q z=>?_,λa e q=>?_,J.loc,λi sl q=>?_,λl' d i q hi=>?_,?_,λx c e=>⟨(J.cell x c e).1,?_⟩,I.len⟩,le⟩;cases y:H a with|some e'=>obtain rfl:=sj (old y) q;exact I.nw a _ y z|none=>have q':=new y q;cases z4:H4 a with|none=>rw[z4] at q';cases q'|some e4=>rcases J.nw a e4 z4 z with y|⟨o,rfl⟩;exact .inl y;rw[z4] at q';cases q'
 cases y:H a with
 |some e'=>
  obtain rfl:=sj (old y) q;have x:=I.aL a e y;have hk:∀{f:Bool}(b:Addr)(o:Obj),(f=false/\H b=some (.cA a))\/(f=true/\∃q,H b=some (.pin q<|some .aP))->s.heap.get? b=some o->s5.heap.get? b=some o:=λb o z ho=>by
   rcases z with ⟨_,z⟩|⟨_,_,z⟩
   exact kp z (λ_ y=>nomatch y) ho;exact kp z (λ_ y=>nomatch y) ho
  cases e with|pin o d=>exact⟨kp y (λ_ y=>nomatch y) x.1,λe z=>(x.2 e z).mv le.p (λo' ho=>kp y (λ_ y=>nomatch y) ho) (λz=>nomatch z) hk⟩|ow d i=>exact⟨x.1.mv le.p (λo' ho=>kp y (λ_ y=>nomatch y) ho) (λ_ b z=>old z) hk,x.2⟩|cA b=>obtain⟨o,ho⟩:=x;exact⟨o,kp y (λ_ y=>nomatch y) ho⟩|jO o=>have q':=l a (.jO o) (by unfold dM;rw[y]) trivial;exact J.aL a _ q'|dg o=>exact kp y (λ_ y=>nomatch y) x
 |none=>
  have q':=new y q;unfold R2 at q';split at q';rename_i o d z4;split at q';cases q';rename_i hn;cases q';have hd:w=true->GZ d=true:=λz=>by subst z;simpa using hn
  have x:=J.aL a _ z4;refine⟨x.1,λe z=>?_⟩;cases z;have ob:=x.2 _ rfl;have To:∀{us:SX}{es:Vt},aC H4 us es->(w=true->noLs es=true)->aC (aX w X.N.length H H4) us es:=gp I J l;have Zo:w=false->∀{dx od},H4 dx=some (.pin od<|some .aP)->aX w X.N.length H H4 dx=some (.pin od<|some .aP):=λhw dx od q0=>by subst hw;unfold aX;cases z0:H dx with|none=>rw[q0];rfl|some e0=>show some e0=_;obtain⟨oa,ho⟩:=(I.aL dx _ z0).at;cases e0 with|jO o'=>have q':=l dx (.jO o') (by unfold dM;rw[z0]) trivial;exact ek q0 q'|pin o' d'=>rw[<-q0];exact((bP I J l z0 ho λ_ y=>nomatch y).2.1 trivial).symm|dg o'=>rw[<-q0];exact((bP I J l z0 ho λ_ y=>nomatch y).2.1 trivial).symm|ow d' i=>have q':=(bP I J l z0 ho λ_ y=>nomatch y).2.2.1 _ _ rfl;rw[q0] at q';cases q'|cA b=>have q':=(bP I J l z0 ho λ_ y=>nomatch y).2.2.2 _ rfl;rw[q0] at q';cases q'
  cases d with
  |tup ds=>obtain⟨f,z,us,r,c⟩:=ob;exact⟨f,z,us,To r hd,c⟩|aP=>trivial|lst ds=>cases w with|true=>cases hd rfl|false=>obtain⟨z,us,r,c⟩:=ob;exact⟨z,us,To r (λz=>nomatch z),c⟩
  |ki ks ds=>cases w with|true=>cases hd rfl|false=>obtain⟨z,y,vs,ep,k,r,c⟩:=ob;exact⟨z,y,vs,ep,k,To r (λz=>nomatch z),c⟩
  |ins c ns ds=>cases w with|true=>cases hd rfl|false=>obtain⟨C,dx,m,e,⟨od,q0⟩,ne,fs,k,r,z,mA,n,w'⟩:=ob;exact⟨C,dx,m,e,⟨od,Zo rfl q0⟩,ne,fs,k,To r (λz=>nomatch z),z,mA,n,w'⟩
  |jj c ns ds=>cases w with|true=>cases hd rfl|false=>obtain⟨C,dx,vs,sl,m,e,e2,e1,q⟩:=ob;refine⟨C,dx,vs,sl,m,e,e2,e1,?_⟩;cases dx with|none=>exact q|some b=>obtain⟨⟨od,q0⟩,ne,fs,k,r,z,mA,n,w'⟩:=q;exact⟨⟨od,Zo rfl q0⟩,ne,fs,k,To r (λz=>nomatch z),z,mA,n,w'⟩
  |_=>exact ob.elim
  cases q';rename_i o z4;exact⟨(J.aL a _ z4).1,λ_ z=>nomatch z⟩;rename_i ds i z4;split at q';rename_i hn;cases q';rw[Lp,Lp] at hn;obtain⟨⟨z,us,r,c⟩,nn⟩:=J.aL a _ z4;exact⟨⟨z,us,gp I J l r λ_=>hn.1.2,c⟩,nn⟩;cases q';cases q'
 obtain⟨x,hx,r⟩:=I.slot i sl q;exact⟨x,hx,r.mv le.p λp d y=>old y⟩;have ow:∀{l d},aX w X.N.length H H4 l=some (.ow d i)->H l=some (.ow d i):=λ{l d} q=>by cases y:H l with|some e=>rw[old y] at q;rw[q]|none=>have q':=new y q;unfold R2 at q';split at q';split at q'<;>cases q';cases q';split at q';rename_i hn;cases q';rw[Lp] at hn;exact absurd hi<|Nat.not_lt.mpr<|P0 hn.2;cases q';cases q'
 obtain⟨h1,h2⟩:=I.tg l' d i (ow q) hi;exact⟨h1,λl2 d2 q2=>h2 l2 d2<|ow q2⟩;show aX w X.N.length H H4 X.env.locals=none;unfold aX;rw[I.fl,J.fl];rfl;rcases (I.cell x c e).2 with z|⟨f,o,d,z⟩;rcases (J.cell x c e).2 with y|⟨f,o,d,y⟩;exact .inl (by unfold aX;rw[z,y];rfl);show aX w X.N.length H H4 c=none\/_;unfold aX;rw[z,y];cases d with|none=>exact .inr ⟨f,o,none,rfl⟩|some d=>show (if (w&&!GZ d)=true then none else some (En.pin o<|some d))=none\/(X.fn=false/\∃o' d',(if (w&&!GZ d)=true then none else some (En.pin o<|some d))=some (En.pin o' d'));split;exact .inl rfl;exact .inr ⟨f,o,_,rfl⟩
 exact .inr ⟨f,o,d,old z⟩
end
end WL
end
section
set_option linter.all false
set_option maxRecDepth 100000
namespace WL
open PySem PySem.Spec PyProof.Rows L2 VP
section
variable{X:Cx}{elt tg VX:Expr}{ifs:Y2}{pos:Pos}{it:M (List D)}{gf:D->M Unit}{ft:M Bool}{fe f:M D}{js:YK}{scope:Scope}{N':Xa}{σ:Sg}{H:Tm}{ρ:ax}{s:Shared}{E:Tv}
theorem Q2M{P:D->ax->Prop}{E':Xn->ax->Prop}(o:Out (mn f ρ) P E'):Out (f<|ρ.map<|Ef true) (λd _=>∃ds,d=.lst ds/\noLs ds=true/\P d ρ) (λ_ _=>False):=by unfold mn at o;show Out (f<|ρ.map gq) _ _;cases q:f (ρ.map gq) with|no=>rw[q] at o;exact o.elim|exc x r=>rw[q] at o;exact o.elim|ok d r=>rw[q] at o;cases d with|lst ds=>dsimp only at o;split at o;rename_i hn;exact⟨ds,rfl,hn,o⟩;exact o.elim|_=>exact o.elim
theorem ud(own:Bool)(n i:Nat){y:Str}{py pw:Pos}(hc:X.calm=true)(c:bF X scope N')(hn:X.N.length+n+1=N'.length)(hi:q9 X tg VX it)(zP:∀d r x r',gf d r≠.exc x r')(uH:∀j∈js,X.N.length<=j/\j<X.N.length+n)
  (hg:∀C s H ex,vB (aJ X scope C N' s H ex) tg js gf) (ht:∀C s H ex,zu (aJ X scope C N' s H ex) ifs ft) (he:∀C s H ex,PV (aJ X scope C N' s H ex) elt fe)
  (hN:X.N.Nodup) (hy:X.N[i]?=some y) (hx:Loc X.env.scope y) (yq:swapsWith (.ListComp elt [⟨tg,VX,ifs,0⟩] scope pos) (some<|.Name y py) pw.line X.env=pure true)
  (hs:∀x,foldedSetIterable VX X.env x=pure x) (hf:X.fn=true\/X.env.scope.names.lookup y=some .local):ja X (.Assign [.Name y py] (.ListComp elt [⟨tg,VX,ifs,0⟩] scope pos) pw) (Tp (mn<|aD n it gf ft fe) λd=>xc<|if own then Aa i d else j7 i d):=λs σ H ρ Q E I o=>by
 rw[exec_Assign_Name_used _ _ _ _ yq];refine Qf<|OE<|Qf ?_;show wpAny _ X.A (do let _ <-comprehension (.ListComp elt [⟨tg,VX,ifs,0⟩] scope pos) scope X.env _ (newList []) false (firstIter [⟨tg,VX,ifs,0⟩] X.env) (some<|assign (.Name y py) X.env)) _ _ s;refine Qf<|FD (lz (use:=some<|assign (.Name y py) X.env) (QQ:=λ_ s'=>Q .next s') n hc c hn hi zP uH hg ht he hs (I.Eg true) (Q2M o.Tp) (λx r q=>q.elim) λs5 H4 AG d l C mm I4 l4 hD post AN hC h0 h1 h2 h3=>?_) (λ_ s' hq=>Qv<|Qv hq) λ_ _ e=>e;obtain⟨ds,rfl,SM,post⟩:=post;obtain⟨I5,l5⟩:=I.vt I4 l4;have none_of:∀{a},(∀e,H4 a=some e->¬e.fast)->H a=none:=λ{a} h=>by cases z:H a with|none=>rfl|some e=>obtain⟨oa,ho⟩:=(I.aL a _ z).at;cases e with|jO o'=>exact absurd trivial (h _<|l4 a (.jO o') (by unfold dM;rw[z]) trivial)|pin o' d'=>exact absurd trivial (h _<|(bP I I4 l4 z ho λ_ y=>nomatch y).2.1 trivial)|dg o'=>exact absurd trivial (h _<|(bP I I4 l4 z ho λ_ y=>nomatch y).2.1 trivial)|ow d' i=>exact absurd trivial (h _<|(bP I I4 l4 z ho λ_ y=>nomatch y).2.2.1 _ _ rfl)|cA b=>exact absurd trivial (h _<|(bP I I4 l4 z ho λ_ y=>nomatch y).2.2.2 _ rfl)
 have JR:aX true X.N.length H H4 l=some (.ow (.lst ds) X.N.length):=by unfold aX;rw[none_of (λe q f=>by obtain rfl:=sj hD q;exact f),hD];show (if _ then _ else _)=_;rw[SM];simp
 have hC5:aX true X.N.length H H4 C=none:=by unfold aX;rw[none_of (λe q f=>by exact en hC q),hC];rfl
 exact uc own hN hy hx hf I5 l5 JR post AN hC5 h0 h1 h2 h3
end
section
variable{X:Cx}{a:Expr}{es:Y2}{fa:M D}{fl:List (M D)}{pos p:Pos}{x:Str}{k:Nat}{fA:Addr}{fd:FuncData}{ps:Xa}{fs:Fn}
theorem tJ:∀(ds:Vt)(ρ:ax),gu (ds.map AV.val) ρ=some ds|[],_=>rfl|d::ds,ρ=>by simp only[List.map_cons,gu,tJ ds ρ];rfl
theorem jm:∀(ds:Vt),bI (ds.map AV.val)=[]|[]=>rfl|d::ds=>jm ds
theorem lh:∀(ds:Vt),(ds.map AV.val).map jU=List.replicate ds.length false|[]=>rfl|d::ds=>by rw[Yk,Yk,lh ds];rfl
theorem rN:∀{fl:List (M D)}{r r':ax}{ds:Vt},mL fl r=.ok ds r'->ds.length=fl.length
|[],_,_,_,h=>by cases h;rfl|f::fl,r,r',ds,h=>by
 simp only[mL,VP.Tp] at h;cases q:f r with
 |ok a r1=>rw[q] at h;dsimp only at h;cases q':mL fl r1 with|ok as r2=>rw[q'] at h;cases h;simp[rN q']|exc _ _=>rw[q'] at h;cases h|no=>rw[q'] at h;cases h
 |exc _ _=>rw[q] at h;cases h|no=>rw[q] at h;cases h
theorem Aj{bs:ZU}(F:pJ X.g k fA fd ps bs fs)(Xu:bs=true::List.replicate fl.length false)(hr:bA k X.A)(hg:Gl X x)(hm:X.g.mg x=some (.ref fA))(hk:W.keepIn X.g.K (.ref fA)=true)(hb:Binds X.g.K fd ps [])(vD:bs.length=ps.length)
  (ha:PF X a fa) (XC:th X es (mL fl)) (jP:RI x:=by decide) (he:Wj X a es:=by rfl) (gV:G7 X pos es:=by rfl) :
  PV X (.Call (.Name x p) (a::es) [] pos) (kJ fs fa fl):=λs σ H ρ Q E I o=>by
 subst Xu;refine Dw<|dB I hg hm ?_ jP;refine tI (h₀:=X.g.base) I.ok.mod.lG hk ?_ he gV;rw[he];refine VG (rest:=backTo pos<|starEach es X.env)<|ha.Tp I o (λ_ _ q=>q) λs1 H1 aS v d I1 l1 r1 o1=>?_;obtain⟨l,rfl,hl⟩:=r1;refine XC pos s1 σ _ _ _ E (I1.Eg false) ?_;show Out (mL fl<|aS.map hide) _ _;cases q1:mL fl (aS.map hide) with
 |no=>simp only[q1] at o1;exact o1.elim|exc xx rr=>simp only[q1] at o1;exact o1.elim|ok ds rr=>
  simp only[q1] at o1;intro s2 H2 us I2 l2 r2;obtain⟨I3,l3⟩:=I1.vt I2 l2;have r3:=gp I1 I2 l2 r2 (λz=>nomatch z);have XN:aX false X.N.length H1 H2 l=some (.ow d X.N.length):=by unfold aX;rw[hl]
  generalize aX false X.N.length H1 H2=H3 at I3 l3 r3 XN;have ra:RA X σ H3 s2 us (ds.map .val):=by clear q1 o1 r2;induction r3 with|nil=>exact .nil|cons h t ih=>exact .cons h ih
  have av:=tJ ds aS;have nd:(bI<|ds.map AV.val).Nodup:=by rw[jm];exact .nil
  obtain⟨ar,wy⟩:=jd I3 ra av nd;have PZ:=ar.cons XN λi k=>by obtain⟨j,d',h1,_⟩:=wy i _ k;have:=eF h1;rw[jm] at this;cases this
  rw[lh,rN q1] at PZ;have yo:=hb s2 (Value.ref l::us) I3.jR (by rw[FU,<-vD];have:=r3.length;simp[this,rN q1]);rw[FU] at yo;have e0:=I3.BE;refine⟨I3.jR,wpAny_call<|F X.A X.stack s2 H3 _ _ _ _ hr e0 yo PZ ?_⟩;have fin:∀{d' ios H' s'},After X.g X.stack H3 s2 (true::List.replicate fl.length false) (.ref l::us) (d'::ios) H' s'->Inv X σ H' aS s':=λ{d' ios H' s'} af=>by have:=jb (vs:=ds.map .val) (ios:=ios) I3 ra av nd XN (by rw[lh,rN q1];exact af);rw[jm] at this;cases ios<;>exact this
  unfold A4 at o1;cases q2:fs (d::ds) with
  |no=>rw[q2] at o1;exact o1.elim|ok d2 ios=>
   rw[q2] at o1
   match ios,o1 with|[io],o1=>exactλs' H' v af rv=>o1 s' H' v (fin af) ((l1.trans l3).trans af.le) rv|[],o1=>exact o1.elim|_::_::_,o1=>exact o1.elim
  |exc xx ios=>
   rw[q2] at o1
   match ios,o1 with|[io],o1=>exactλs' H' v af xr=>o1 s' H' v (fin af) ((l1.trans l3).trans af.le) (xr.up I3.sz)|[],o1=>exact o1.elim|_::_::_,o1=>exact o1.elim
end
end WL
end
section
set_option linter.all false
set_option maxRecDepth 100000
namespace WL
open PySem PySem.Spec PyProof.Rows L2 VP VS
def zo(g:Gb)(k:Nat)(f:Addr)(fd:FuncData)(ps:Xa)(fl:ZU)(fn:Fn):Prop:=fl.length=ps.length/\pJ g k f fd ps fl fn
section
variable{X:Cx}{e a b o tg VX elt value:Expr}{es ifs:Y2}{as:List VP.Arg}{fa fb fe fo:M D}{f:M Fl}{body:List Stmt}{pos p ZO:Pos}{k n i:Nat}{C fA:Addr}{fd:FuncData}{ps:Xa}{c x m qn:Str}{bs:Bool}{st:Stmt}{fl:ZU}{fs:Fn}
theorem Z7(W:∃qn st ps C fA fd,EG X.g.K X.g.mg c "__init__" qn bs st ps C fA fd/\zo X.g k fA fd ps (true::fl) fs)(hr:bA n X.A)(ha:zr X (e::es) as)(hk:k+1<=n:=by exact Mc)(hg:Gl X c:=by rfl)(yp:as.map VP.Arg.isIo=fl:=by rfl)(jP:RI c:=by decide)(he:Wj X e es:=by rfl) (gV:G7 X pos es:=by rfl):PF X (.Call (.Name c p) (e::es) [] pos) (jS c fs as):=
 let ⟨_,_,_,_,_,_,M,F⟩:=W;GJ (M.Yo rfl) F.2 (hr.mono hk) hg M.gm M.bi F.1 ha yp jP he gV
theorem Z8{pl:Sem Bool}(W:∃qn st ps C fA fd,EG X.g.K X.g.mg c m qn bs st ps C fA fd/\zo X.g k fA fd ps (false::fl) fs)(hr:bA n X.A)(ho:PV X o fo)(ha:zr X (e::es) as)(hk:k<=n:=by exact Mc)(yp:as.map VP.Arg.isIo=fl:=by rfl)
  (jH:Wj X e es:=by rfl) (gV:G7 X pos es:=by rfl)
  (ht:eval (.Call (.Attribute o m ZO) (e::es) [] pos) X.env=(do
   let ov <-eval o X.env
   standAt ZO.atName
   let (f,first) <-holding [ov] (getMethod ov m pl)
   callWith pos f first (backTo pos<|starEach (e::es) X.env)<|backToKw pos<|keywordEach [] X.env):=by rfl):PV X (.Call (.Attribute o m ZO) (e::es) [] pos) (gL c m fs fo as):=
 let ⟨_,_,_,_,_,_,M,F⟩:=W;G3 M.gm M.cls M.me F.2 (hr.mono hk) M.bi F.1 ho ha yp jH gV ht
theorem Wb(W:∃st ps fA fd,pI X.g.K X.g.mg x st ps fA fd/\zo X.g k fA fd ps fl fs)(hr:bA n X.A)(ha:zr X (e::es) as)(hk:k<=n:=by exact Mc)(hg:Gl X x:=by rfl)(yp:as.map VP.Arg.isIo=fl:=by rfl)(jP:RI x:=by decide)(he:Wj X e es:=by rfl) (gV:G7 X pos es:=by rfl):PV X (.Call (.Name x p) (e::es) [] pos) (aw fs as):=
 let ⟨_,_,_,_,D,F⟩:=W;GV F.2 (hr.mono hk) hg D.mg D.fu.kp D.bi F.1 ha yp jP he gV
theorem Yn{α:Type}{a:α}{l:List α}{Q:α->Prop}(h:Q a)(t:∀p∈l,Q p):∀p∈a::l,Q p:=λp hp=>by rcases List.mem_cons.mp hp with e|e;subst e;exact h;exact t p e
theorem Q6{env:Env}(h:env.scope.kind=.function):env.blockKind=.function:=by unfold Env.blockKind;rw[h];rfl
theorem TF{env:Env}(hb:attributeBase o m env (eval o env)=eval o env)(hs:∀pos,(backTo pos<|starEach es env).any (·.1)=false)(hn:es.length<30)(hl:(ap.endLine == pos.line)=true):eval (.Call (.Attribute o m ap) es [] pos) env=(do
  let ov <-eval o env
  standAt ap.atName
  let (f,first) <-holding [ov] (getMethod ov m<|do return (<-importBound o env).getD true)
  callWith pos f first (backTo pos<|starEach es env)<|backToKw pos<|keywordEach [] env):=by
 have hf:methodCallForm (es.length+([]:List Keyword).length) (backTo pos<|starEach es env) (backToKw pos<|keywordEach [] env)=true:=by unfold methodCallForm;have h1:=hs pos;rw[List.any_eq_false] at h1;rw[Lp,Lp];exact⟨⟨List.all_eq_true.mpr λx hx=>by rw[Bool.not_eq_true'];exact Bool.eq_false_iff.mpr<|h1 x hx,rfl⟩,Qi hn⟩
 rw[arm_eval_Call,hb];refine congrArg (bind<|eval o env) (funext λov=>congrArg (bind _) (funext λ_=>?_));unfold methodCall calleeOf methodCallPos;rw[hf,hl];rfl
theorem Er{st:Stmt}:ja X st ph:=λ_ _ _ _ _ _ _ o=>o.elim
end
abbrev Vq(G:Gb)(j:Nat)(r:aE):Prop:=∃st ps fA fd,pI G.K G.mg r.1 st ps fA fd/\zo G j fA fd ps r.2.1 r.2.2
abbrev Za(G:Gb)(b:Bool)(c m:Str)(q:List Bool×Fn)(k:Nat):Prop:=∃bs qn st ps C fA fd,EG G.K G.mg c m qn bs st ps C fA fd/\zo G k fA fd ps (b::q.1) q.2
structure qZ(G:Gb)(k:Nat)(ds:List aE)(ms:List (Str×aE))(ks:List aE):Prop where
 ds:∀p∈ds,∃j,j<=k/\Vq G j p
 ms:∀p∈ms,∃j,j<=k/\Za G false p.2.1 p.1 p.2.2 j
 ks:∀p∈ks,∃j,j+1<=k/\Za G true p.1 "__init__" p.2 j
class HN (X:Cx) (c:outParam Tc):Prop where
 N:X.N=c.N
 sc:X.env.scope=c.sc
 cm:X.calm=true
 ok:∃r,bA r X.A/\qZ X.g r c.ds c.ms c.ks
 T:∃a,Txt c.L X.g.w X.g.K X.g.mg a
structure LCp(X:Cx)(elt tg VX:Expr)(ifs:Y2)(scope:Scope)(n:Nat)(it:M (List D))(gf:D->M Unit)(ft:M Bool)(fe:M D)(N':Xa)(js:YK):Prop where
 c:bF X scope N'
 l:X.N.length+n+1=N'.length
 i:q9 X tg VX it
 x:∀d r x r',gf d r≠.exc x r'
 j:∀j∈js,X.N.length<=j/\j<X.N.length+n
 g:∀C s H ex,vB (aJ X scope C N' s H ex) tg js gf
 t:∀C s H ex,zu (aJ X scope C N' s H ex) ifs ft
 e:∀C s H ex,PV (aJ X scope C N' s H ex) elt fe
 s:∀x,foldedSetIterable VX X.env x=pure x
inductive LC(X:Cx)(elt:Expr)(scope:Scope):List Comprehension->M D->Prop|mk:LCp X elt tg VX ifs scope n it gf ft fe N' js->LC X elt scope [⟨tg,VX,ifs,0⟩] (aD n it gf ft fe)
def HG(X:Cx)(f:M D):Expr->Prop|.ListComp elt gs sc _=>LC X elt sc gs f|_=>True
structure He(X:Cx)(e:Expr)(f:M D):Prop where
 lc:HG X f e
 st:∀es env,starEach (e::es) env=(false,eval e env)::starEach es env
 ix:mV e
 nm:∀op,behindInMarks op e=false
 at':∀f env w,attributeBase e f env w=w
 sw:isLC e=false->∀t l env,swapsWith e t l env=pure false
 as:∀o p env v,assign (.Subscript o e p) env v=(do
  let ov <-holding [v] (eval o env);let iv <-holding [v,ov] (eval e env)
  standAt p
  holding [v,ov,iv] (setItem ov iv v)
  release [v,ov,iv] [])
 fs:∀env x,foldedSetIterable e env x=pure x
 it:isCmp e=false->∀env w,isTrue e env w=(do let v <-w;standAt e.pos;holding [v]<|truthy v)
instance aa1{X:Cx}{c:Tc}{scope:Scope}{C:Addr}{N':Xa}{s:Shared}{H:Tm}{ex:V8}[T:HN X c]:HN (aJ X scope C N' s H ex) {c with N:=N',sc:=YI scope c.sc}:=⟨rfl,T.sc ▸ rfl,T.cm,T.ok,T.T⟩
abbrev mU(X:Cx)(E:k7):Prop:=∀{e f},E e=some f->PV X e f/\He X e f
abbrev Vi(X:Cx)(B:E6):Prop:=∀{e f},B e=some f->PB X e f
theorem Qn{X:Cx}{c:Tc}[T:HN X c]:∃r,bA r X.A:=let ⟨_,h,_⟩:=T.ok;⟨_,h⟩
section
variable{X:Cx}{c:Tc}[T:HN X c]{E:k7}{B:E6}
theorem ie(h:slot c x=some i){C:Prop}(k:X.N[i]?=some x->ij X.env.scope x->(x == ("__debug__" : Str))=false->(x == ("__classdict__" : Str))=false->C):C:=og h λq h=>oa q λq1 q2=>oa q2 λq2 q3=>k (T.N ▸ m7 h) (T.sc ▸ HI q1) (ne q2) (ne q3)
theorem isGl_ok(h:isGl c.sc x=true):Gl X x:=by unfold Gl Env.kindOf;rw[T.sc];exact eq_of_beq h
theorem lr(h:P4 c x=true):Gl X x/\X.g.mg x=none:=oa h λh1 h2=>⟨isGl_ok h1,by obtain⟨a,t⟩:=T.T;obtain⟨i,hi⟩:=List.getElem?_of_mem<|ct h2;exact t.b i hi⟩
theorem Oo(h:Z2 o=some g):kZ X (binaryOp o) g:=by cases o with|Add=>cases h;exact w_add|Sub=>cases h;exact w_sub|Mult=>cases h;exact w_mul|Mod=>cases h;exact w_mod|FloorDiv=>cases h;exact PI|_=>exact nn h
theorem vW(hr:∃k,bA k X.A)(h:Vv o=some g):kZ X (compareOp o) g:=by cases o with|Lt=>cases h;exact w_lt|LtE=>cases h;exact Y4|Gt=>cases h;exact U8|GtE=>cases h;exact Y3|Eq=>cases h;exact let ⟨_,hr⟩:=hr;w_eq false hr.units|NotEq=>cases h;exact let ⟨_,hr⟩:=hr;w_eq true hr.units|Is=>cases h;exact LD|In=>cases h;exact U9|_=>exact nn h
theorem y8(k:mU X E):∀{es fl},tL E es=some fl->th X es (mL fl)|[],_,h=>by cases h;exact a7|e::es,_,h=>ob h λf hf h=>om h λl hl h=>by subst h;have q:=k hf;exact aB q.1 (y8 k hl) (q.2.st es X.env)
theorem Lw(k:mU X E){o:Option Expr}{z:Option (M D)}(h:tO E o=some z):ti X o z:=by cases o with|none=>cases h;exact GQ|some e=>exact om h λf hf h=>by subst h;exact Q2G (k hf).1
theorem D0(k:mU X E)(h:tR c E e=some f):PR X e f/\∀es env,starEach (e::es) env=(false,eval e env)::starEach es env:=oc h (λ_ h=>ob h λx hx h=>om h λj hj h=>ie (X:=X) hj λh1 h2 h3 h4=>by subst h;obtain⟨p,e⟩:=hV hx;subst e;exact⟨lN j h1 h2 h3 h4,λ_ _=>rfl⟩) λh=>⟨PV.rd (k h).1,(k h).2.st⟩
theorem y7(k:mU X E):∀{fl es as},tA c E fl es=some as->zr X es as/\as.map VP.Arg.isIo=fl/\(∀pos,G7 X pos es)/\∀e r,es=e::r->Wj X e r|[],[],_,h=>by cases h;exact⟨jr,rfl,λ_=>rfl,λ_ _ z=>by cases z⟩|[],_::_,_,h=>nn h|false::_,[],_,h=>nn h|true::_,[],_,h=>nn h|false::fl,e::es,_,h=>ob h λf hf h=>om h λl hl h=>by subst h;have q:=k hf;have z:=y7 k hl;exact⟨hW q.1 z.1 (q.2.st es X.env),congrArg (false::·) z.2.1,λpos=>Eq.mpr (congrArg (λl=>(backTo pos l).any (·.1)=false)<|q.2.st es X.env) (z.2.2.1 pos),λ_ _ e=>by cases e;exact q.2.st _ _⟩|true::fl,e::es,_,h=>ob h λx hx h=>ob h λj hj h=>om h λl hl h=>ie (X:=X) hj λh1 h2 h3 h4=>by subst h;obtain⟨p,e⟩:=hV hx;subst e;have z:=y7 k hl;exact⟨Q0k j z.1 h1 h2 h3 h4 rfl,congrArg (true::·) z.2.1,z.2.2.1,λ_ _ e=>by cases e;rfl⟩
theorem UQ(k:mU X E)(h:Mj c E a b=some f):PV X (.Subscript a b pos) f:=oc h (λ_ h=>ob h λx hx h=>ob h λj hj h=>om h λg hg h=>ie (X:=X) hj λh1 h2 h3 h4=>by subst h;obtain⟨p,e⟩:=hV hx;subst e;exact OQ j (k hg).1 (k hg).2.ix h1 h2 h3 h4) λh=>ob h λfa ha h=>ob h λg hg h=>oc h (λ_ h=>by cases h;exact GW (k ha).1 (k hg).1 (k hg).2.ix) λh=>by cases h;exact mz (k ha).1 (k hg).1 (k hg).2.ix
theorem UT(k:mU X E)(h:tX c E a b=some f):PV X (.Subscript a b pos) f:=by
 cases b with
 |Slice lo hi st p=>cases st with|none=>exact ob h λf hf h=>ob h λl hl h=>om h λg hg h=>by subst h;exact Uh (k hf).1 (Lw k hl) (Lw k hg)|some _=>exact nn h
 |_=>exact UQ k h
theorem US(k:mU X E)(hx:Gl X x)(hm:X.g.mg x=none):∀{es},tN c E x es=some f->PV X (.Call (.Name x p) es [] pos) f
|[],h=>nn h|[a],h=>oc h (λe h=>om h λf hf h=>by
 subst h;cases eq_of_beq e;exact pF true f_int hx hm boot_int (aB (k hf).1 a7<|(k hf).2.st _ _) (by decide) (by decide)<|(k hf).2.st _ _) λh=>ob h λf hf h=>om h λg hg h=>by
 subst h;have q:=D0 (X:=X) (c:=c) k hf;have s:=q.2 [] X.env;exact oc hg (λe h=>by cases h;cases eq_of_beq e;exact b8 false f_len hx hm PySem.boot_len q.1 (by decide) (by decide) s) λh=>oc h (λe h=>by cases h;cases eq_of_beq e;exact b8 true f_tup hx hm boot_tuple q.1 (by decide) (by decide) s) λh=>oc h (λe h=>by cases h;cases eq_of_beq e;exact PF.pv<|PN.pf<|b8 true JI hx hm boot_list q.1 (by decide) (by decide) s) λh=>
  oc h (λe h=>by cases h;cases eq_of_beq e;exact b8 false (xY T.cm true) hx hm VS.boot_all q.1 (by decide) (by decide) s) λh=>oc h (λe h=>by cases h;cases eq_of_beq e;exact b8 false (xY T.cm false) hx hm VS.boot_any q.1 (by decide) (by decide) s) λh=>
  oc h (λe h=>by cases h;cases eq_of_beq e;exact b8 false (R1 T.cm) hx hm boot_sum q.1 (by decide) (by decide) s) λh=>og h λe h=>by cases h;cases eq_of_beq e;exact b8 false Mn hx hm PyProof.Rows.boot_sorted q.1 (by decide) (by decide) s
|[a,b],h=>oc h (λe h=>ob h λn hn h=>og h λq h=>ob h λf hf h=>om h λsu hs h=>by
 subst h;cases eq_of_beq e;obtain⟨p,e⟩:=hV hn;subst e;obtain⟨a,t⟩:=T.T;obtain⟨i,hi⟩:=List.getElem?_of_mem<|lk hs;have z:=D0 (X:=X) (c:=c) k hf;exact oa q λq1 q2=>oa q2 λq2 _=>G1 (t.i i hi) hx hm (isGl_ok q1) z.1 (ne q2)<|z.2 _ _) λh=>og h λe h=>ob h λf hf h=>om h λg hg h=>by
 subst h;cases eq_of_beq e;have s:=(k hg).2.st [] X.env;exact pF false (RZ T.cm) hx hm boot_max (aB (k hf).1 (aB (k hg).1 a7 s)<|(k hf).2.st _ _) (by decide) (by decide) ((k hf).2.st _ _) (Eq.mpr (congrArg (λl=>(backTo pos l).any (·.1)=false) s) rfl)
|_::_::_::_,h=>nn h
theorem UO(k:mU X E)(h:Ov c E x (e::es)=some f):PV X (.Call (.Name x p) (e::es) [] pos) f:=og h λq h=>oa q λq0 q1=>oa q1 λq1 _=>by have z:=λ{fl as} (ha:tA c E fl (e::es)=some as)=>y7 (X:=X) k ha;have y:=λ{fl as} (ha:tA c E fl (e::es)=some as)=>Eq.mp (congrArg (λl=>(backTo pos l).any (·.1)=false)<|(z ha).2.2.2 e es rfl)<|(z ha).2.2.1 pos;cases e1:c.ds.lookup x with|some d=>rw[e1] at h;exact om h λas ha h=>by subst h;obtain⟨r,hr,ok⟩:=T.ok;obtain⟨j,hj,hd⟩:=ok.ds _<|lk e1;exact Wb hd hr (z ha).1 hj (isGl_ok q0) (z ha).2.1 (ne q1) ((z ha).2.2.2 e es rfl) (y ha)|none=>rw[e1] at h;cases e2:c.ks.lookup x with|some d=>rw[e2] at h;exact om h λas ha h=>by subst h;obtain⟨r,hr,ok⟩:=T.ok;obtain⟨j,hk,bs,hd⟩:=ok.ks _<|lk e2;exact PF.pv (Z7 hd hr (z ha).1 hk (isGl_ok q0) (z ha).2.1 (ne q1) ((z ha).2.2.2 e es rfl)<|y ha)|none=>rw[e2] at h;exact og h λq2 h=>US k (isGl_ok q0) (lr (X:=X) (c:=c) (show (_&&_)=true by rw[q0,q2];rfl)).2 h
theorem UR(k:mU X E):∀{es},tM c E o m ap pos es=some f->PV X (.Call (.Attribute o m ap) es [] pos) f|[],h=>nn h|e::es,h=>og h λq h=>oa q λq1 q2=>ob h λ⟨r0,r2,r3⟩ hr h=>ob h λfo ho h=>om h λas ha h=>by subst h;have z:=y7 (X:=X) k ha;obtain⟨r,rm,ok⟩:=T.ok;obtain⟨j,hk,bs,hd⟩:=ok.ms _<|lk hr;have s:=z.2.2.2 e es rfl;have w:=Eq.mp (congrArg (λl=>(backTo pos l).any (·.1)=false) s)<|z.2.2.1 pos;have w2:=TF (m:=m) (ap:=ap) (pos:=pos) ((k ho).2.at' m X.env<|eval o X.env) z.2.2.1 (Nat.succ_lt_succ<|Nat.lt_trans (P0 q2) (by decide)) q1;exact Z8 hd rm (k ho).1 z.1 hk z.2.1 s w w2
theorem Lv(hr:∃rm,bA rm X.A)(k:mU X E):∀{os bs},tK E a os bs=some f->PV X (.Compare a os bs pos) f/\PB X (.Compare a os bs pos) (tB f)|[o],[b],h=>ob h λf hf h=>ob h λg hg h=>om h λd hd h=>by subst h;have h1:=vW hr hd;exact⟨wZ h1 (k hf).1 (k hg).1<|(k hg).2.nm o,wN h1 (k hf).1 (k hg).1<|(k hg).2.nm o⟩|[o,o'],[b,b'],h=>ob h λf hf h=>ob h λg hg h=>ob h λq hq h=>ob h λd hd h=>om h λd' qx h=>by subst h;have h1:=vW hr hd;have h3:=vW hr qx;have m:lastMarks [o,o'] [b,b']=false:=(k hq).2.nm o';exact⟨Q2C h1 h3 (k hf).1 (k hg).1 (k hq).1 m,Ds h1 h3 (k hf).1 (k hg).1 (k hq).1 m⟩|[],_,h=>nn h|[_],[],h=>nn h|[_],_::_::_,h=>nn h|[_,_],[],h=>nn h|[_,_],[_],h=>nn h|[_,_],_::_::_::_,h=>nn h|_::_::_::_,_,h=>nn h
theorem xm(k:Vi X B):∀{l f},YT B o l=some f->zt X (.BoolOp o l pos) f|[],_,h=>nn h|[a],_,h=>by cases o;exact GF<|k h;exact wO (k h)|a::b::l,_,h=>ob h λf hf h=>ob h λg hg h=>by cases o;cases h;exact OH (k hf)<|xm k hg;cases h;exact yL (k hf) (xm k hg)
theorem xo(k:mU X E):∀{l f},YU E o l=some f->PV X (.BoolOp o l pos) f|[],_,h=>nn h|[a],_,h=>DC (k h).1|a::b::l,_,h=>ob h λf hf h=>ob h λg hg h=>by cases o;cases h;exact wY (k hf).1<|xo k hg;cases h;exact Ug (k hf).1 (xo k hg)
theorem Q21(k:mU X E)(hc:isCmp e=false)(h:((E e).bind λz=>some<|tB z)=some f):PB X e f:=om h λg hg h=>by subst h;exact se (k hg).1 λ_=>(k hg).2.it hc _ _
theorem pC(hr:∃rm,bA rm X.A)(k:mU X E):∀{n e f},tT E n e=some f->PB X e f
|0,_,_,h=>nn h|n+1,e,f,h=>by
 cases e with
 |UnaryOp o a p=>cases o with|Not=>exact om h λg hg h=>by subst h;exact r7 (pC hr k hg)|_=>exact nn h
 |BoolOp o l p=>exact zt.pb (xm (pC hr k) h)|Compare a os bs p=>exact om h λg hg h=>by subst h;exact(Lv hr k hg).2|IfExp _ _ _ _=>exact nn h|_=>exact Q21 k rfl h
theorem pB(k:mU X E)(h:((E e).bind λz=>some<|cR z)=some f):q9 X g e f/\∀x,foldedSetIterable e X.env x=pure x:=om h λf hf h=>by subst h;exact⟨sW (k hf).1,(k hf).2.fs _⟩
theorem DZ(k:mU X E)(h:Wm c E (isTup g) e=some f):q9 X g e f/\∀x,foldedSetIterable e X.env x=pure x:=by
 unfold Wm at h;cases q:xN e with
 |none=>rw[q] at h;exact pB k h|some r=>
  obtain⟨x,es⟩:=r;rw[q] at h;obtain⟨p,pos,e⟩:=tQ q;cases es with
  |nil=>exact pB k h|cons a es=>
   cases es with
   |nil=>
    exact oc h (λe' h=>og h λz h=>om h λf hf h=>by
     subst h e;cases eq_of_beq e';have z:=lr (X:=X) z;exact⟨fB z.1 z.2 (aB (k hf).1 a7<|(k hf).2.st _ _) ((k hf).2.st _ _),λ_=>rfl⟩) λh=>oc h (λe' h=>og h λz h=>om h λf hf h=>by
     subst h e;cases eq_of_beq e';have z:=lr (X:=X) z;exact⟨Pz z.1 z.2 (k hf).1 ((k hf).2.st _ _),λ_=>rfl⟩) λh=>oc h (λe' h=>og h λz' h=>oa z' λz y=>om h λf hf h=>by
     subst h e;cases eq_of_beq e';obtain⟨_,_,_,rfl⟩:=isTup_ok y;have z:=lr (X:=X) z;exact⟨isL z.1 z.2 (aB (k hf).1 a7<|(k hf).2.st _ _) ((k hf).2.st _ _),λ_=>rfl⟩) (pB k)
   |cons b es=>cases es with|nil=>exact oc h (λe' h=>og h λz' h=>oa z' λz y=>ob h λf hf h=>om h λg hg h=>by subst h e;cases eq_of_beq e';obtain⟨_,_,_,rfl⟩:=isTup_ok y;have z:=lr (X:=X) z;have s2:=(k hg).2.st [] X.env;have s1:=(k hf).2.st [b] X.env;exact⟨xy z.1 z.2 (aB (k hf).1 (aB (k hg).1 a7 s2) s1) (s1.trans<|congrArg _ s2) s2,λ_=>rfl⟩) (pB k)|cons=>exact pB k h
theorem DY(nd:X.N.Nodup)(hl:∀x,lb c.sc x=true->Loc X.env.scope x/\(X.fn=true\/X.env.scope.names.lookup x=some .local)):∀{es l},YX lb c es=some l->tq X es l/\(assignEach es X.env).length=l.length/\(assignEach es X.env).findIdx? (·.1)=none|[],_,h=>by cases h;exact⟨sV,rfl,rfl⟩|e::es,l,h=>ob h λx hx h=>og h λq h=>ob h λi hi h=>om h λl hq h=>by subst h;obtain⟨p,e⟩:=hV hx;subst e;have z:=DY nd hl hq;refine⟨vw i nd (T.N ▸ m7 hi) (hl x q).1 z.1 (hl x q).2 rfl,congrArg (·+1) z.2.1,?_⟩;show ((false,_)::assignEach es X.env).findIdx? _=_;rw[List.findIdx?_cons];exact congrArg (Option.map (·+1)) z.2.2
theorem Lu(nd:X.N.Nodup)(hl:∀x,lb c.sc x=true->Loc X.env.scope x/\(X.fn=true\/X.env.scope.names.lookup x=some .local))(h:tG lb c g=some q):vB X g q.1 q.2/\∀d r x r',q.2 d r≠.exc x r':=by cases g with|Name x p=>exact og h λz h=>om h λi hi h=>by subst h;exact⟨zg i nd (T.N ▸ m7 hi) (hl x z).1 (hl x z).2,kz⟩|Tuple es j p=>exact om h λl hq h=>by subst h;have z:=DY (X:=X) nd hl hq;exact⟨xw T.cm z.1 z.2.1 z.2.2,wb⟩|_=>exact nn h
theorem YW{lb:Scope->Str->Bool}(h:tG lb c g=some q):∀d r x r',q.2 d r≠.exc x r':=by cases g with|Name x p=>exact og h λz h=>om h λi hi h=>by subst h;exact kz|Tuple es j p=>exact om h λl hq h=>by subst h;exact wb|_=>exact nn h
theorem Po(k:Vi X B):∀{l f},pV B l=some f->zu X l f|[],_,h=>by cases h;exact jt|[_],_,h=>so (k h)|_::_::_,_,h=>nn h
theorem LC.pv(cm:X.calm=true)(h:LC X elt scope gs f):PV X (.ListComp elt gs scope pos) f:=by cases h with|mk h=>exact PF.pv (yM _ cm h.c h.l h.i h.x h.j h.g h.t h.e h.s)
theorem Pl{E':k7}(k:mU X E)(k':∀{C s H ex},mU (aJ X scope C (kQ c scope<|gT gs).N s H ex) E')(kB:∀{C s H ex},Vi (aJ X scope C (kQ c scope<|gT gs).N s H ex) B)(h:YY c scope E E' B elt gs=some f):LC X elt scope gs f:=by
 unfold YY at h;split at h;rename_i tg VX ifs;exact ob h λi hi h=>ob h λ⟨js,gf⟩ hq h=>ob h λt ht h=>ob h λf hf h=>ob h λn hn h=>og h λz h=>oa z λz1 z2=>oa z1 λz1 z3=>oa z2 λz2 z4=>by
  cases h;cases Q0z hn;have I:=DZ (g:=tg) k hi;have Gf:=λC s H ex=>Lu (X:=aJ X scope C (kQ c scope<|Hu tg).N s H ex) (c:=kQ c scope<|Hu tg) (P0 z2) (λx hx=>by
   have w:(aJ X scope C (kQ c scope<|Hu tg).N s H ex).env.scope=YI scope c.sc:=T.sc ▸ rfl;have y:(aJ X scope C (kQ c scope<|Hu tg).N s H ex).env.scope.names.lookup x=some .local:=by rw[w];exact eq_of_beq hx
   exact⟨.inl y,.inr y⟩) hq
  refine .mk (js:=js) (N':=(kQ c scope<|Hu tg).N) ⟨⟨eq_of_beq z1,by rw[T.sc,T.N];exact z3,P0 z2⟩,?_,I.1,YW hq,by rw[T.N];exact rF z4,λC s H ex=>(Gf C s H ex).1,λC s H ex=>Po kB ht,λC s H ex=>(k' hf).1,I.2⟩;rw[T.N];unfold kQ;simp only[List.length_append,List.length_map,List.length_cons,List.length_nil]
 exact nn h
end
theorem He.of(h1:∀es env,starEach (e::es) env=(false,eval e env)::starEach es env:=by intros;rfl)(h2:mV e:=by exactλ_ _=>rfl)(h3:∀op,behindInMarks op e=false:=by intros;rfl)(h4:∀f env w,attributeBase e f env w=w:=by intros;rfl)(h5:isLC e=false->∀t l env,swapsWith e t l env=pure false:=by first|exactλh=>Bool.noConfusion h|(intros;rfl))(h9:∀o p env v,assign (.Subscript o e p) env v=(do
  let ov <-holding [v] (eval o env);let iv <-holding [v,ov] (eval e env)
  standAt p
  holding [v,ov,iv] (setItem ov iv v)
  release [v,ov,iv] []):=by intros;rfl)(h6:∀env x,foldedSetIterable e env x=pure x:=by intros;rfl)
 (h7:isCmp e=false->∀env w,isTrue e env w=(do let v <-w;standAt e.pos;holding [v]<|truthy v):=by first|exactλh=>Bool.noConfusion h|(intros;rfl)) (h8:HG X f e:=by exact trivial):He X e f:=⟨h8,h1,h2,h3,h4,h5,h9,h6,h7⟩
theorem kR:∀{n X c} [T:HN X c] {e f},tE n c e=some f->PV X e f/\He X e f
|0,_,_,_,_,_,h=>nn h|n+1,X,c,T,e,f,h=>by
 have k:mU X (tE n c):=kR;cases e with
 |Name x p=>refine⟨oc h (λq h=>om h λd hd h=>?_) λh=>om h λi hi h=>ie (X:=X) hi λh1 h2 h3 h4=>by subst h;exact iX i h1 h2 h3 h4,.of⟩;subst h;obtain⟨a,t⟩:=T.T;obtain⟨i,hi⟩:=List.getElem?_of_mem<|lk hd;exact oa q λq1 q2=>oa q2 λq2 _=>Q0x (t.n i hi) (isGl_ok q1) (ne q2)|Constant v j p=>
  refine om h λd hd h=>⟨?_,.of⟩;subst h;cases v with
   |none=>cases hd;exact DB|bool=>cases hd;exact Q0P|int=>cases hd;exact oW|str=>exact ob hd λy _ hd=>og hd λz hd=>by cases y with|str=>cases hd;cases eq_of_beq z;exact ka|_=>cases z
   |_=>exact nn hd
 |BinOp a o b p=>exact ob h λf hf h=>ob h λg hg h=>om h λd hd h=>by subst h;exact⟨qK (Oo hd) (k hf).1 (k hg).1,.of⟩|UnaryOp o a p=>refine ob h λf hf h=>om h λd hd h=>⟨?_,.of⟩;subst h;cases o with|USub=>cases hd;exact Ui Va (k hf).1|_=>exact nn hd
 |BoolOp o l p=>exact⟨xo k h,.of⟩|Compare a os bs p=>exact⟨(Lv (Qn (X:=X)) k h).1,.of⟩|Subscript a b p=>exact⟨UT k h,.of⟩|Tuple es j p=>exact om h λl hl h=>by subst h;exact⟨OT<|y8 k hl,.of⟩|List es p=>exact om h λl hl h=>by subst h;exact⟨PF.pv<|sf<|y8 k hl,.of⟩|Attribute a f p=>exact ob h λg hg h=>om h λcs hc h=>by subst h;obtain⟨a,t⟩:=T.T;obtain⟨i,hi⟩:=List.getElem?_of_mem<|lk hc;exact⟨oV (t.f i hi) (PV.rd (k hg).1)<|(k hg).2.at' _ _ _,.of⟩|Call g es ks p=>
  cases ks with
  |nil=>
   cases g with
   |Name x q=>cases es with|nil=>exact nn h|cons=>exact⟨UO k h,.of⟩
   |Attribute o m q=>exact⟨UR k h,.of⟩|_=>exact nn h
  |_=>cases g<;>exact nn h
 |IfExp t a b p=>exact ob h λg hg h=>ob h λf hf h=>om h λq hq h=>by subst h;exact⟨Ue (pC (Qn (X:=X)) k hg) (k hf).1 (k hq).1,.of⟩|ListComp e gs sc p=>have q:=Pl k kR (λ{C s H ex e f} h=>pC (X:=aJ X sc C (kQ c sc<|gT gs).N s H ex) (Qn (X:=X)) kR h) h;exact⟨LC.pv T.cm q,.of (h8:=q)⟩|_=>exact nn h
class AW (X:Cx) (c:outParam Tc):Prop extends HN X c where
 nd:X.N.Nodup
 fn:X.fn=true
 bk:X.env.blockKind=.function
section
variable{X:Cx}{c:Tc}[T:AW X c]{E:k7}{B:E6}
theorem lP{S:Stmt->Option (M Fl)}(k:∀{s f},S s=some f->ja X s f):∀{l f},Hs S l=some f->gr X l f|[],_,h=>by cases h;exact ay|s::l,_,h=>ob h λf hf h=>om h λg hg h=>by subst h;exact ae (k hf) (lP k hg)
theorem Ls(h:NF c.sc x p (.ListComp elt gs sc pos)=true):swapsWith (.ListComp elt gs sc pos) (some<|.Name x p) l X.env=pure true:=by refine congrArg pure ?_;rw[T.bk,Env.kindOf,T.sc];exact h
theorem sQ(k:mU X E)(h:YV c E e=some f):WP X (RN X) (eval e X.env) f/\∀t l env,swapsWith e t l env=pure false:=ob h λ⟨x,es⟩ h1 h=>ob h λa h2 h=>og h λz h=>oa z λz y=>om h λf hf h=>by subst h;obtain⟨q,p,e⟩:=tQ h1;cases Km h2;subst e;cases eq_of_beq z;have y:=lr (X:=X) y;have w:=D0 (X:=X) k hf;exact⟨b8 true JI y.1 y.2 boot_list w.1 (by decide) (by decide) (w.2 _ _),λ_ _ _=>rfl⟩
theorem UP(k:mU X E)(h:tF c E e=some f):PF X e f/\∀t l env,swapsWith e t l env=pure false:=by
 cases e with
 |List=>exact om h λf hf h=>by subst h;exact⟨sf (y8 k hf),λ_ _ _=>rfl⟩|Dict ks vs=>
  cases ks with
  |nil=>cases vs with|nil=>cases h;exact⟨Q1J,λ_ _ _=>rfl⟩|_=>exact nn h
  |_=>exact nn h
 |_=>exact⟨PN.pf (sQ k h).1,(sQ k h).2⟩
theorem Ho(k:mU X E)(h:UK c E e t=some f):ja X (.Assign [t] e pos) f:=by
 cases t with
 |Name x p=>
  exact og h λq h=>oa q λq w=>ob h λi hi h=>by
   have hx:Loc X.env.scope x:=T.sc ▸ yD q;have hi:X.N[i]?=some x:=T.N ▸ m7 hi;have lc:∀{f},E e=some f->isLC e=true->ja X (.Assign [.Name x p] e pos) (iC i f)/\ja X (.Assign [.Name x p] e pos) (aM i f):=λ{f} hf hl=>by
    cases e with
    |ListComp=>have z:LC _ _ _ _ _:=(k hf).2.lc;cases z with|mk z=>exact⟨jX true _ i T.cm z.c z.l z.i z.x z.j z.g z.t z.e T.nd hi hx (Ls w) z.s<|.inl T.fn,jX false _ i T.cm z.c z.l z.i z.x z.j z.g z.t z.e T.nd hi hx (Ls w) z.s<|.inl T.fn⟩
    |_=>exact fb hl
   exact oc h (λ_ h=>oc h (λz h=>om h λg hg h=>by subst h;exact(lc hg z).1) λh=>om h λg hg h=>by
    subst h;have z:=UP k hg;exact Q2X i T.nd hi hx z.1 (z.2 _ _ _)<|.inl T.fn) λh=>om h λg hg h=>by
    subst h;cases z:isLC e
    ·exact Et i T.nd hi hx (k hg).1 ((k hg).2.sw z _ _ _) (.inl T.fn)
    ·exact(lc hg z).2
 |Attribute o f p=>
  exact og h λz h=>ob h λx hx h=>ob h λi hi h=>ob h λcs hc h9=>ie (X:=X) hi λh1 h2 h3 h4=>by
   obtain⟨q,e⟩:=hV hx;subst e;obtain⟨a,t⟩:=T.T;obtain⟨j,hj⟩:=List.getElem?_of_mem<|lk hc;cases hf:(f == ("cells" : Str));rotate_left
   all_goals rw[hf] at h9
   ·exact om h9 λg hg h=>by subst h;exact zh i toF_new (t.f j hj) (sQ k hg).1 h1 h2 h3 h4 ((sQ k hg).2 _ _ _)
   ·exact om h9 λg hg h=>by subst h;exact zh i (toF_ne λy=>by rw[y] at hf;cases hf) (t.f j hj) (k hg).1 h1 h2 h3 h4 ((k hg).2.sw (ne z) _ _ _)
 |Subscript o b p=>
  exact og h λz h=>ob h λx hx h=>ob h λi hi h=>ob h λu hu h=>ob h λg hg h=>ie (X:=X) hi λh1 h2 h3 h4=>by
   obtain⟨q,e⟩:=hV hx;subst e;refine oc h (λ_ h=>?_) λh=>?_<;>cases h;rotate_left
   ·exact Eu i (k hu).1 (k hg).1 h1 h2 h3 h4 ((k hu).2.as _ _ _) ((k hg).2.sw (ne z) (some<|.Subscript (.Name x q) b p) pos.line X.env) rfl rfl
   ·exact HK i (k hu).1 (k hg).1 h1 h2 h3 h4 ((k hg).2.sw (ne z) _ _ _)
 |_=>exact nn h
theorem Hq(k:mU X E):∀{ts},UL c E e ts=some f->ja X (.Assign ts e pos) f|[],h=>nn h|[_],h=>Ho k h|_::_::_,h=>nn h
theorem Pk(k:mU X E)(h:nO c E e=some f):ja X (.Expr e pos) f:=ob h λ⟨g,es,p⟩ h1 h=>ob h λ⟨o,m,ap⟩ h2 h=>ob h λa h3 h=>og h λq h=>oa q λq1 q2=>ob h λx hx h=>ob h λi hi h=>om h λg hg h=>ie (X:=X) hi λz1 z2 z3 z4=>by subst h;obtain⟨p,e⟩:=hV hx;subst e;cases eq_of_beq q1;cases JF h1;cases QV h2;cases Km h3;have s:=(k hg).2.st [] X.env;exact PD i (k hg).1 z1 z2 z3 z4 rfl (by rw[s];rfl) q2 s rfl
theorem wa(h:ja X s f)(e:R7 c l f=some g):ja X s g:=by unfold R7 at e;cases q:c.fz.lookup l with|some i=>rw[q] at e;cases e;exact Ep h|none=>rw[q] at e;cases e;exact h
theorem qX(k:mU X E)(kB:Vi X B):∀{n s f},tS c E B n s=some f->ja X s f
|0,_,_,h=>nn h|n+1,s,f,h=>by
 cases s with
 |Return v p=>cases v with|none=>exact nn h|some e=>exact ob h λg hg h=>wa (fU (k hg).1) h
 |If t a b p=>exact ob h λf hf h=>ob h λg hg h=>om h λq hq h=>by subst h;exact cJ (kB hf) (lP (qX k kB) hg) (lP (qX k kB) hq)|Assign ts e p=>exact ob h λg hg h=>wa (Hq k hg) h|For g e b o p=>cases o with|nil=>exact ob h λi hi h=>ob h λ⟨_,_⟩ hq h=>om h λf hf h=>by subst h;have z:=DZ (g:=g) k hi;have y:=Lu (X:=X) T.nd (λx hx=>⟨T.sc ▸ yD hx,.inl T.fn⟩) hq;exact Eo T.fn T.cm z.1 y.1 (lP (qX k kB) hf) z.2|_=>exact nn h
 |While t b o p=>cases o with|nil=>exact ob h λf hf h=>om h λg hg h=>by subst h;exact vx T.fn (kB hf) (lP (qX k kB) hg)|_=>exact nn h
 |Expr e p=>exact ob h λg hg h=>wa (Pk k hg) h|Raise=>cases h;exact Er|_=>exact nn h
end
section
variable{X:Cx}{c:Tc}{e:Expr}
theorem xe[T:HN X c]{f:M D}(h:tE 32 c e=some f:=by kernel_rfl):PV X e f:=(kR h).1
theorem xb[T:HN X c]{f:M Bool}(h:U3 c e=some f:=by kernel_rfl):PB X e f:=pC (Qn (X:=X)) kR h
theorem xs[T:AW X c]{s:Stmt}{f:M Fl}(h:Wn c s=some f:=by kernel_rfl):ja X s f:=qX kR (pC (Qn (X:=X)) kR) h
theorem kX[T:AW X c]{l:List Stmt}{f:M Fl}(h:Hs (Wn c) l=some f:=by kernel_rfl):gr X l f:=lP (qX kR<|pC (Qn (X:=X)) kR) h
end
abbrev b9(P:Program)(base:Heap){L:E5}{w:World}{K:Frag}{mg:VS.MG}{a:LG}(T:Txt L w K mg a)(j:Nat)(r:aE):Prop:=Vq ⟨P,w,K,mg,base⟩ j r
section
variable{P:Program}{w:World}{K:Frag}{mg:VS.MG}{base:Heap}{k:Nat}{ds ks:List aE}{ms:List (Str×aE)}{L:E5}{a:LG}{x y qn:Str}{j:Nat}{fl:ZU}{f g:Fn}{bs:Bool}{st:Stmt}{ps:Xa}{A C:Addr}{fd:FuncData}{body:M Fl}
theorem dn:qZ ⟨P,w,K,mg,base⟩ k [] [] []:=⟨λ_ h=>absurd h xt,λ_ h=>absurd h xt,λ_ h=>absurd h xt⟩
theorem dc{r:aE}(h:Vq ⟨P,w,K,mg,base⟩ j r)(t:qZ ⟨P,w,K,mg,base⟩ k ds ms ks)(hk:j<=k:=by exact Mc):qZ ⟨P,w,K,mg,base⟩ k (r::ds) ms ks:=⟨Yn ⟨j,hk,h⟩ t.ds,t.ms,t.ks⟩
theorem dm(h:∃qn st ps C fA fd,EG K mg y x qn bs st ps C fA fd/\zo ⟨P,w,K,mg,base⟩ j fA fd ps (false::fl) f)(t:qZ ⟨P,w,K,mg,base⟩ k ds ms ks)(hk:j<=k:=by exact Mc):qZ ⟨P,w,K,mg,base⟩ k ds ((x,y,fl,f)::ms) ks:=⟨t.ds,Yn ⟨j,hk,_,h⟩ t.ms,t.ks⟩
theorem dk(h:∃qn st ps C fA fd,EG K mg x "__init__" qn bs st ps C fA fd/\zo ⟨P,w,K,mg,base⟩ j fA fd ps (true::fl) f)(t:qZ ⟨P,w,K,mg,base⟩ k ds ms ks)(hk:j+1<=k:=by exact Mc):qZ ⟨P,w,K,mg,base⟩ k ds ms ((x,fl,f)::ks):=⟨t.ds,t.ms,Yn ⟨j,hk,_,h⟩ t.ks⟩
noncomputable abbrev W5(G:Gb)(N:Xa)(fl:ZU)(us:SX)(x:Str)(st:Stmt)(f:Addr)(jK:Value)(A:Around)(outer:List Env)(s:Shared)(H:Tm):Cx:=RQ G N fl us x (az st) f jK A outer s H
variable(c:Tc)(T:Txt c.L w K mg a)(hd:qZ ⟨P,w,K,mg,base⟩ k c.ds c.ms c.ks)
include T hd in
theorem Xb{f:Addr}{jK:Value}{A:Around}{outer:List Env}{s:Shared}{H:Tm}{us:SX}(S:dZ c.N ps (az st))(hr:bA k (A.deeper<|envOfC x (az st) s.heap.objs.size f jK))(hc:c.sc=az st):AW (W5 ⟨P,w,K,mg,base⟩ c.N fl us x st f jK A outer s H) c:={N:=rfl,sc:=hc.symm,ok:=⟨_,hr,hd⟩,T:=⟨_,T⟩,cm:=rfl,nd:=S.nd,fn:=rfl,bk:=Q6 S.kind}
include T hd in
theorem m6(F:EF K y x st A fd)(hB:∀{us:SX}{jK:Value}{B:Around}{outer:List Env}{s:Shared}{H:Tm},dZ c.N ps (az st)->bA k (B.deeper<|envOfC x (az st) s.heap.objs.size A jK)->AW (W5 ⟨P,w,K,mg,base⟩ c.N fl us x st A jK B outer s H) c->gr (W5 ⟨P,w,K,mg,base⟩ c.N fl us x st A jK B outer s H)  (bC st) body)(hc:c.sc=az st:=by exact rfl)(S:dZ c.N ps (az st):=by exact Wi)(hl:fl.length=ps.length:=by rfl)(hg:defn c.N.length fl body=g:=by exact rfl) : zo ⟨P,w,K,mg,base⟩ (k+1) A fd ps fl g:=⟨hl,hg ▸ JL F S hl λ_ _ _ _ _ _ hr=>hB S hr<|Xb c T hd S hr hc⟩
include T hd in
include T hd in
theorem eY{r:aE}(D:pI K mg r.1 st ps A fd)(hb:WC c body:=by kernel_rfl)(hs:c.st=st:=by exact rfl)(hc:c.sc=az st:=by exact rfl)(S:dZ c.N ps (az st):=by exact Wi)(hl:r.2.1.length=ps.length:=by rfl)(hg:defn c.N.length r.2.1 body=r.2.2:=by exact rfl):Vq ⟨P,w,K,mg,base⟩ (k+1) r:=⟨_,_,_,_,D,m6 c T hd D.fu (λ_ _ _=>kX<|hs ▸ hb) hc S hl hg⟩
include T hd in
theorem fmx(D:EG K mg y x qn bs st ps C A fd)(hb:WC c body:=by kernel_rfl)(hs:c.st=st:=by exact rfl)(hc:c.sc=az st:=by exact rfl)(S:dZ c.N ps (az st):=by exact Wi)(hl:fl.length=ps.length:=by rfl)(hg:defn c.N.length fl body=g:=by exact rfl):∃qn st ps C fA fd,EG K mg y x qn bs st ps C fA fd/\zo ⟨P,w,K,mg,base⟩ (k+1) fA fd ps fl g:=⟨_,_,_,_,_,_,D,m6 c T hd D.fu (λ_ _ _=>kX<|hs ▸ hb) hc S hl hg⟩
end
end WL
end
section
set_option linter.all false
set_option maxRecDepth 100000
namespace WL
open PySem PySem.Spec PyProof.Rows L2 VP VS
section
variable{P:Program}{w:World}{K:W.Frag}{mg mb:MG}{k:Nat}{fa a:Addr}{fd:FuncData}{x:Str}{fn:Fn}{aQ:Shared}{vs:SX}{ns:UX}
open Classical in
theorem Q1N(KX:K.In aQ.heap)(SN:aQ.heap.Ns mainGlobals mg)(hb:aQ.heap.Ns builtinsNs mb)(hbb:∀x:Str,x≠"__name__" -> mb x=bootBuiltins x)(XQ:aQ.heap.NoLimit)(hg:aQ.gens=#[])
  (ha:aQ.heap.get? a=some {cls:=.type "list",data:=.seq vs.toArray}) (hi:IntsAre vs ns) (hl:ns.length<=sizeLine) (hr:bA k callerA)
  (F:∀base:Heap,pJ ⟨P,w,K,mg,base⟩ k fa fd [x] [false] fn) (Sj:∀(s:Shared)(u:Value),BindsTo s fd ⟨[u],[]⟩ [(x,u)]) (oy:fn [.lst<|ns.map .int]=.ok (.bl true) []) :
  codeAny (model P w) callerA (.call (.ref fa) ⟨[.ref a],[]⟩) (λr s'=>r=.ok (.ret<|.bool true)/\OldK aQ.heap s'.heap/\s'.os=aQ.os/\AllBare s'.gens) aQ:=by
 have Ti:=hi.length;have fl:Paired cy (ns.map D.int) vs:=by clear ha oy Ti hl;induction hi with|nil=>exact .nil|cons n t h ih=>exact .cons ⟨t,rfl⟩ ih
 have ⟨base,iR,hB,hA⟩:∃base:Heap,(∀b o,base.get? b=some o->aQ.heap.get? b=some o/\(b=a->D4 K a=some (.lst<|ns.map .int)))/\(∀b o,aQ.heap.get? b=some o->b≠a\/K.lookup a≠none->base.get? b=some o)/\base.objs.size=aQ.heap.objs.size:=by cases hk:K.lookup a with|some o=>have e:=KX a o hk;obtain rfl:=sj ha e;exact⟨aQ.heap,λb o e=>⟨e,λz=>D5 ⟨false,_,vs.toArray,_,rfl,hk,by rw[Yl,Ti];exact hl,fl⟩⟩,λb o e _=>e,rfl⟩|none=>refine⟨Ci aQ.heap (λb=>if b=a then some (.lst []) else none),λb o e=>?_,λb o e h=>Cj e<|YO<|h.elim id λz=>absurd rfl z,zQ _ _⟩;obtain⟨h1,h2⟩:=Gz e;refine⟨h1,λz=>?_⟩;rw[YN z] at h2;cases h2
 have S5:∀b o,aQ.heap.get? b=some o->(∀n,o.data≠.seq vs.toArray n)->base.get? b=some o:=λb o e n=>hB b o e (.inl λz=>by subst z;obtain rfl:=sj ha e;exact n _ rfl);have Yu:∀{b:Addr}{m:Str->Xf},aQ.heap.Ns b m->base.Ns b m:=λ{b m} ⟨o,es,ep,e,d,r⟩=>⟨o,es,ep,S5 b o e (by rw[d];exactλ_ z=>nomatch z),d,r⟩;have hKb:K.In base:=λb o e=>hB b o (KX b o e) (by by_cases z:b=a;subst z;exact .inr (by rw[e];exactλz=>nomatch z);exact .inl z);have hM:Mod K mg base:=⟨hKb,Yu SN,⟨mb,Yu hb,hbb⟩,let ⟨mc,h1,h2⟩:=XQ;⟨mc,Yu h1,h2⟩⟩;let H:Tm:=λb=>(aQ.heap.get? b).map λo=>.pin o<|if b=a then some (.lst<|ns.map .int) else D4 K b;have hH:∀{b o},aQ.heap.get? b=some o->H b=some (.pin o<|if b=a then some (.lst<|ns.map .int) else D4 K b):=λe=>by show Option.map _ _=_;rw[e];rfl
 have flat:∀{ds:Vt}{us:SX},Paired cy ds us->aC H us ds:=λh=>by induction h with|nil=>exact .nil|cons h t ih=>exact .cons (cy.rel h) ih
 have aL:nB ⟨P,w,K,mg,base⟩ H aQ.heap:=λb e q=>by
  cases z:aQ.heap.get? b with
  |none=>have q':Option.map _ (aQ.heap.get? b)=some e:=q;rw[z] at q';cases q'|some o=>
   obtain rfl:=sj (hH z) q;refine⟨z,λd y=>?_⟩;split at y;rename_i eb;cases y;subst eb;exact⟨by rw[VE];exact hl,vs,flat fl,_,ha⟩;obtain⟨t,ds,aO,n,rfl,h1,h2,h3⟩:=vn y;have e1:=KX b _ h1;have YL:ds.length<=sizeLine:=by rw[h3.length,Array.length_toList];exact h2
   cases t with|true=>exact⟨rfl,YL,aO.toList,flat h3,_,e1,rfl,⟨n,rfl⟩,rfl⟩|false=>exact⟨YL,aO.toList,flat h3,n,e1⟩
 have bsH:∀b o,base.get? b=some o->H b=some (.pin o<|D4 K b):=λb o e=>by obtain⟨h1,h2⟩:=iR b o e;rw[hH h1];by_cases z:b=a;rw[YN z];subst z;exact congrArg (λd=>some<|En.pin o d) (h2 rfl).symm;rw[YO z]
 have e0:AU ⟨P,w,K,mg,base⟩ callerA [] aQ H:=⟨rfl,hM,bsH,Nat.le_of_eq hA,(λe he=>absurd (show e∈([]:List Env) from he) Qj),λb hb=>absurd (show b∈([]:V8) from hb) Qj,aL,.of_eq hg⟩;refine F base callerA [] aQ H [.ref a] [.lst<|ns.map .int] ⟨[.ref a],[]⟩ _ hr e0 (Sj aQ<|.ref a) ⟨rfl,rfl,λi u d h1 h2 h3=>?_,λi u d h1 _ _=>?_,λi j b k _=>?_⟩ ?_;cases i with|zero=>cases h2;cases h3;exact⟨a,_,rfl,by rw[hH ha,YN rfl]⟩|succ i=>simp at h1
 cases i with|zero=>cases h1|succ i=>simp at h1
 have:=k.1;cases i with|zero=>cases this|succ i=>simp at this
 rw[oy];intro s' H' v af rv;cases rv;refine⟨rfl,OldK.of_keep λb o e=>?_,af.os,af.bare⟩;exact(af.aL b _<|af.le b _ (hH e) trivial).1
end
abbrev QC(l:W.OpenLaw)(w:World)(K:Frag)(mg:MG)(fa:Addr)(k:Nat)(p:Str):Prop:=∃(fd:FuncData)(fn:Fn),(∀(s:Shared)(v:Value),BindsTo s fd ⟨[v],[]⟩ [(p,v)])/\(∀ns:UX,ns.length<=63->fn [.lst<|ns.map .int]=.ok (.bl true) [])/\∀base:Heap,pJ ⟨l.prog,w,K,mg,base⟩ k fa fd [p] [false] fn
theorem walk63{l:W.OpenLaw}{q:Program}{loose:Xa}{XP:(Str->Xf)->Heap->Prop}{YP:World->Heap->Prop}{d:DefRec}{K:Params->W.Frag}(k:Nat)(hn:l.most=some 63)(Xz:d.params.defaults=[])
  (hY:∀(w:World)(h:Heap),YP w h->(K w.params).In h)
  (F:∀(w:World)(mg:Str->Xf)(fa:Addr)(h:Heap),(K w.params).In h->h.Ns mainGlobals mg->mg d.name=some (.ref fa)->QC l w (K w.params) mg fa k "_law_script") (hr:bA k callerA:=by exact⟨rfl,by decide,by decide⟩) :
  W.WalkO q loose XP YP l.row.toRowW d [] (λf vs=>PySem.call f vs):=by
 refine Y5.Q2E hn Xz λw Hm aQ mg mb fa o pm cd doc a vs ns G Y ho hd eZ SK MM hints YL hg=>?_;have KX:=hY w _ Y;obtain⟨fd,fn,hb,oy,hF⟩:=F w mg fa _ KX G.T.g SK;exact Q1N KX G.T.g G.T.b G.T.builtins G.T.nolimit hg MM hints (YM YL (by decide)) hr hF hb (oy ns YL)
abbrev Y6(P:Program)(base:Heap){L:E5}{w:World}{K:Frag}{mg:MG}{a:LG}(T:Txt L w K mg a)(c x:Str)(bs:Bool)(k:Nat)(fl:ZU)(f:Fn):Prop:=∃qn st ps C fA fd,EG K mg c x qn bs st ps C fA fd/\zo ⟨P,w,K,mg,base⟩ k fA fd ps fl f
section
variable{X:Cx}{e a b o tg VX elt value:Expr}{es ifs:Y2}{as:List VP.Arg}{fa fb fe fo:M D}{f:M Fl}{body:List Stmt}{pos p ZO:Pos}{k n i:Nat}{c x m qn:Str}{fs:Fn}{js:YK}
theorem YD{bs:ZU}{fl:List (M D)}(W:∃st ps fA fd,pI X.g.K X.g.mg x st ps fA fd/\zo X.g k fA fd ps bs fs)(hr:bA n X.A)(ha:PF X a fa)(XC:th X es (mL fl))(Xu:bs=true::List.replicate fl.length false:=by rfl)(hk:k<=n:=by exact Mc)(hg:Gl X x:=by rfl)(jP:RI x:=by decide)(he:Wj X a es:=by rfl)(gV:G7 X pos es:=by rfl):PV X (.Call (.Name x p) (a::es) [] pos) (kJ fs fa fl):=let ⟨_,_,_,_,D,F⟩:=W;Aj F.2 Xu (hr.mono hk) hg D.mg D.fu.kp D.bi F.1 ha XC jP he gV
theorem u5{id:String}{g:D->Pu}(t:Bool)(h:HQ X (bf t id) RV g)(hg:Gl X x)(hm:X.g.mg x=none)(hv:bootBuiltins x=some (bf t id))(ha:PR X a fa)(hn:x≠"__name__" := by decide)(jP:RI x:=by decide)(hs:Wj X a []:=by rfl):PV X (.Call (.Name x p) [a] [] pos) (m1 g fa):=b8 t h hg hm hv ha hn jP hs
theorem YF(hm:X.g.mg "len" = none)(ha:PR X a fa)(hg:Gl X "len" := by rfl)(hs:Wj X a []:=by rfl):PV X (.Call (.Name "len" p) [a] [] pos) (m1 bG fa):=b8 false f_len hg hm PySem.boot_len ha (by decide) (by decide) hs
theorem Uc(hm:X.g.mg "tuple" = none)(ha:PR X a fa)(hg:Gl X "tuple" := by rfl)(hs:Wj X a []:=by rfl):PV X (.Call (.Name "tuple" p) [a] [] pos) (m1 fS fa):=b8 true f_tup hg hm boot_tuple ha (by decide) (by decide) hs
theorem Z6(hr:bA n X.A)(ha:PV X a fa)(hb:PV X b fb):PB X (.Compare a [.NotEq] [b] pos) (tB<|m2 gW fa fb):=wN (w_eq true hr.units) ha hb (rV _)
theorem PG(i:Nat){x:Str}{Tw:Pos}(hN:X.N.Nodup)(he:PV X e fe)(hi:X.N[i]?=some x:=by rfl)(hx:Loc X.env.scope x:=by exact Ud)(hs:swapsWith e (some<|.Name x Tw) pos.line X.env=pure false:=by rfl)(hf:X.fn=true\/X.env.scope.names.lookup x=some .local:=by exact Ro):ja X (.Assign [.Name x Tw] e pos) (aM i fe):=Et i hN hi hx he hs hf
theorem HE(i:Nat)(hN:X.N.Nodup)(hi:X.N[i]?=some x:=by rfl)(hx:Loc X.env.scope x:=by exact Ud)(hf:X.fn=true\/X.env.scope.names.lookup x=some .local:=by exact Ro):vB X (.Name x pos) [i] (aq i):=zg i hN hi hx hf
theorem Ws{is:YK}(i:Nat)(hN:X.N.Nodup)(h2:tq X es is)(hi:X.N[i]?=some x:=by rfl)(hx:Loc X.env.scope x:=by exact Ud)(hf:X.fn=true\/X.env.scope.names.lookup x=some .local:=by exact Ro) (hs:(assignEach (.Name x pos::es) X.env).map (·.2)=assign (.Name x pos) X.env::(assignEach es X.env).map (·.2):=by rfl):tq X (.Name x pos::es) (i::is):=vw i hN hi hx h2 hf hs
variable{it:M (List D)}{gf:D->M Unit}{ft:M Bool}{scope:Scope}{N':Xa}
theorem Wr(hi:q9 X tg VX it)(hg:vB X tg js gf)(hb:gr X body f)(oy:X.fn=true:=by rfl)(hc:X.calm=true:=by rfl)(hs:∀x,foldedSetIterable VX X.env x=pure x:=by exact A1):ja X (.For tg VX body [] pos) (iY it gf f):=Eo oy hc hi hg hb hs
theorem T6(n:Nat)(N':Xa)(hi:q9 X tg VX it)(hg:N'.Nodup->∀{C s H ex},vB (aJ X scope C N' s H ex) tg js gf)(ht:∀{C s H ex},zu (aJ X scope C N' s H ex) ifs ft)(he:∀{C s H ex},PV (aJ X scope C N' s H ex) elt fe)
 (nd:N'.Nodup:=by exact Fy) (zP:∀d r x r',gf d r≠.exc x r':=by first|exact kz|exact wb) (uH:∀j∈js,X.N.length<=j/\j<X.N.length+n:=by exact rF (by kernel_rfl)) (hc:X.calm=true:=by rfl) (ck:scope.kind=.function:=by rfl) (c:gZ X.env.scope.names scope.names X.N N'=true:=by kernel_rfl) (hn:X.N.length+n+1=N'.length:=by rfl)
 (hs:∀x,foldedSetIterable VX X.env x=pure x:=by exact A1):PF X (.ListComp elt [⟨tg,VX,ifs,0⟩] scope pos) (aD n it gf ft fe):=yM n hc ⟨ck,c,nd⟩ hn hi zP uH (λ_ _ _ _=>hg nd) (λ_ _ _ _=>ht) (λ_ _ _ _=>he) hs
theorem HL(n i:Nat){y:Str}{py pw:Pos}(hN:X.N.Nodup)(hy:X.N[i]?=some y)(hx:Loc X.env.scope y)(hc:X.calm=true)(c:bF X scope N')(hn:X.N.length+n+1=N'.length)(hi:q9 X tg VX it)(zP:∀d r x r',gf d r≠.exc x r')(uH:∀j∈js,X.N.length<=j/\j<X.N.length+n)
 (hg:∀C s H ex,vB (aJ X scope C N' s H ex) tg js gf) (ht:∀C s H ex,zu (aJ X scope C N' s H ex) ifs ft) (he:∀C s H ex,PV (aJ X scope C N' s H ex) elt fe)
 (yq:swapsWith (.ListComp elt [⟨tg,VX,ifs,0⟩] scope pos) (some<|.Name y py) pw.line X.env=pure true:=by rfl) (hs:∀x,foldedSetIterable VX X.env x=pure x:=by exact A1)
 (oy:X.fn=true\/X.env.scope.names.lookup y=some .local:=by exact Ro):ja X (.Assign [.Name y py] (.ListComp elt [⟨tg,VX,ifs,0⟩] scope pos) pw) (aM i<|aD n it gf ft fe):=jX false n i hc c hn hi zP uH hg ht he hN hy hx yq hs oy
theorem HJ(n i:Nat){y:Str}{py pw:Pos}(hN:X.N.Nodup)(hy:X.N[i]?=some y)(hx:Loc X.env.scope y)(hc:X.calm=true)(c:bF X scope N')(hn:X.N.length+n+1=N'.length)(hi:q9 X tg VX it)(zP:∀d r x r',gf d r≠.exc x r')(uH:∀j∈js,X.N.length<=j/\j<X.N.length+n)
 (hg:∀C s H ex,vB (aJ X scope C N' s H ex) tg js gf) (ht:∀C s H ex,zu (aJ X scope C N' s H ex) ifs ft) (he:∀C s H ex,PV (aJ X scope C N' s H ex) elt fe)
 (yq:swapsWith (.ListComp elt [⟨tg,VX,ifs,0⟩] scope pos) (some<|.Name y py) pw.line X.env=pure true:=by rfl) (hs:∀x,foldedSetIterable VX X.env x=pure x:=by exact A1)
 (oy:X.fn=true\/X.env.scope.names.lookup y=some .local:=by exact Ro):ja X (.Assign [.Name y py] (.ListComp elt [⟨tg,VX,ifs,0⟩] scope pos) pw) (iC i<|mn<|aD n it gf ft fe):=ud true n i hc c hn hi zP uH hg ht he hN hy hx yq hs oy
end
end WL
end
section
set_option linter.all false
set_option maxRecDepth 100000
namespace WL
open PySem PySem.Spec PyProof.Rows L2 VP
abbrev VF:=PySem.F.excBase_ValueError
inductive vL(h:Heap)(C:Addr)(iv:Value):Prop|mk (bm:SX) (hC:h.get? C=some (excClassObj nm qn C N bs bm hd sn sub ab col dd k0 k1 k2 k3 k5 "ValueError.__new__")) (hn:h.Ns N mN) (T:OwnTail h VS.pW bm) (hi:mN "__init__" = some iv\/mN "__init__" = none/\iv=.builtin "ValueError.__init__")
theorem vL.keeps(x:vL h C iv)(k:∀b o,h.get? b=some o->h'.get? b=some o):vL h' C iv:=by obtain⟨bm,a,b,c,d⟩:=x;exact⟨bm,k _ _ a,b.keeps k,c.keeps k,d⟩
section
variable{prog:Program}{w:World}{A:Around}{E:Tv}{h:Heap}{g:Array GenState}{d:Drawn}{t:Nat}{os:OsState}{env:Env}{s:Shared}{iv:Value}{rest:SX}{C:Addr}
theorem PT{Q:PySem.Fin->Shared->Prop}(x:vL h C iv)(hb:∀h' (e:Addr) (Q:Value×List Value->Shared->Prop),(∀b o,h.get? b=some o->h'.get? b=some o)->Q (iv,[.ref e]) ⟨h',g,d,t,os⟩->wpAny (model prog w) A (bindSpecial iv<|.ref e) Q E ⟨h',g,d,t,os⟩)
  (hq:∀h' e,Heap.MadeExcOf h h' e (.ref C) rest->h.objs.size<=e->wpAny (model prog w) A (call iv (.ref e::rest)) (λr s'=>r=.none/\Q (.done<|.ret<|.ref e) s') E ⟨h',g,d,t,os⟩) (hrest:rest.length<=sizeLine) :
  wpAny (model prog w) A (Builtin.«type.__call__» ⟨.ref C::rest,[]⟩) Q E ⟨h,g,d,t,os⟩:=by
 obtain⟨bm,hC,hn,T,hi⟩:=x;repeat (first|with_reducible refine wpAny_loadPart_at hC ?_|with_reducible refine wpAny_madeBy_exc hC ?_|wp_step)
 refine codeAny_call_builtin_code (Code.quiet_builtin _ VF.quiet)<|wpAny_check_new_subU VF (by decide) T hC ?_;refine codeAny_exc_new_subU VF (by decide) VF T hC ?_ hrest;show wpAny _ _ _ _ _ _;have k:∀b o,h.get? b=some o->((h.push {cls:=.type "tuple",data:=.seq rest.toArray}).push {cls:=.ref C,data:=.fields #[.ref h.objs.size,.none,.none,.none,.bool false,.none]}).get? b=some o:=λb o e=>VZ _<|VZ _ e;have MI:((h.push {cls:=.type "tuple",data:=.seq rest.toArray}).push {cls:=.ref C,data:=.fields #[.ref h.objs.size,.none,.none,.none,.bool false,.none]}).get? (h.objs.size+1)=some {cls:=.ref C,data:=.fields #[.ref h.objs.size,.none,.none,.none,.bool false,.none]}:=by heap_get
 have ht:((h.push {cls:=.type "tuple",data:=.seq rest.toArray}).push {cls:=.ref C,data:=.fields #[.ref h.objs.size,.none,.none,.none,.bool false,.none]}).get? h.objs.size=some {cls:=.type "tuple",data:=.seq rest.toArray}:=VZ _<|Heap.get?_push_at rfl rfl;generalize (h.push {cls:=.type "tuple",data:=.seq rest.toArray}).push {cls:=.ref C,data:=.fields #[.ref h.objs.size,.none,.none,.none,.bool false,.none]}=h1 at k MI ht;have hcC:(Value.ref C::bm).contains (.ref C)=true:=Qj;have JQ:=k _ _ hC;unfold isInstance;repeat (first|with_reducible refine wpAny_loadPart_at MI ?_|(with_reducible refine wpAny_isSubtype_exc JQ ?_;rw[hcC])|wp_step)
 show wpAny _ _ (typeLookup (.ref C) _) _ _ _;refine wpAny_typeLookup_tail JQ (hn.keeps k) (T.keeps k) VF.mroIs VF.init.lookup ?_;rcases hi with hi|⟨hi,rfl⟩<;>rw[hi];all_goals refine Tr (Qf<|hb _ _ _ k<|Qf<|FD (hq _ (h.objs.size+1) ⟨k,Heap.get?_none_of_le<|Dx _,h.objs.size,MI,Heap.get?_none_of_le<|Wd _,ht⟩<|Dx _) (λr s' hr=>?_) λ_ _ x=>x)
 all_goals
  obtain⟨rfl,hQ⟩:=hr
  wp_walk
  exact hQ
theorem x_call{Q:Tv}(x:vL h C iv)(hb:∀A h' (e:Addr) (Q:Value×List Value->Shared->Prop),(∀b o,h.get? b=some o->h'.get? b=some o)->Q (iv,[.ref e]) ⟨h',g,d,t,os⟩->wpAny (model prog w) A (bindSpecial iv<|.ref e) Q E ⟨h',g,d,t,os⟩)
  (hq:∀h' e,Heap.MadeExcOf h h' e (.ref C) rest->h.objs.size<=e->wpAny (model prog w) (A.under<|.builtin "type.__call__" ⟨.ref C::rest,[]⟩) (call iv (.ref e::rest)) (λr s'=>r=.none/\Q (.ref e) s') E ⟨h',g,d,t,os⟩) (hrest:rest.length<=sizeLine) :
  wpAny (model prog w) A (call (.ref C) rest) Q E ⟨h,g,d,t,os⟩:=by
 obtain⟨bm,hC,hx⟩:=id x;have f1:=tc_lookup;have f2:=tc_bind<|.ref C;have hT:(⟨h,g,d,t,os⟩:Shared).TypeIs (.ref C) "type" := ⟨_,hC,rfl⟩;refine wpAny_call<|codeAny_of_tree ?_;show wpAny _ _ (callAny (.ref C) _) _ _ _;repeat (any_goals (first|assumption|with_reducible refine wpAny_loadPart_at hC ?_|wp_step))
 refine⟨rfl,codeAny_call_builtin_at (Code.quiet_builtin _ (by decide +kernel)) entry_typeCall<|wpAny_check_type_call_sub hC<|PT (hrest:=hrest) x (hb _) λh' e hm hl=>hq h' e hm hl⟩
theorem PS{M:Model}{x:Sem Value}{Q:Flow->Shared->Prop}(hh:A.handled=none)(h:wpAny M A x (λv aQ=>∃e dx vs sl,v=.ref e/\vL aQ.heap C iv/\aQ.heap.get? e=some ⟨.ref C,dx,.fields vs,sl⟩/\vs[1]?=some .none/\E (.ref e) aQ) E s) : wpAny M A (raiseStmt env (some x) none) Q E s:=by
 unfold raiseStmt;refine Qf<|FD h (λv aQ bz=>?_) λ_ _ x=>x;obtain⟨e,dx,vs,sl,rfl,⟨bm,hC,hn,T,_⟩,he,hv1,hE⟩:=bz;have hcB:(Value.ref C::bm).contains (.type "BaseException")=true:=by have:=T.hasType (show VS.pW.contains (.type "BaseException")=true by decide);rw[List.contains_cons,this,Bool.or_true]
 obtain⟨hp,g,d,tk,os⟩:=aQ;repeat (first|with_reducible refine wpAny_loadPart_at he ?_|with_reducible refine wpAny_loadPart_at hC ?_|(with_reducible refine wpAny_isSubtype_exc hC ?_;rw[hcB])|rw[hv1]|wp_step)
 exact wpAny_raiseNew_none hh hE
theorem x_raise{x:Str}{np bg pos:Pos}{args:Y2}{Q:Flow->Shared->Prop}(hh:A.handled=none)(MQ:(backTo bg<|starEach args env).any (·.1)=false)
  (h:wpAny (model prog w) A (eval (.Name x np) env) (λf aQ=>f=.ref C/\wpAny (model prog w) A (evalArgs (.ref C) true (backTo bg<|starEach args env) []) (λa iD=>a.kw=[]/\a.pos.length<=sizeLine/\vL iD.heap C iv/\(∀A h' (e:Addr) (Q:Value×List Value->Shared->Prop),(∀b o,iD.heap.get? b=some o->h'.get? b=some o)->Q (iv,[.ref e]) {iD with heap:=h'}->wpAny (model prog w) A (bindSpecial iv<|.ref e) Q E {iD with heap:=h'})/\∀h' e,Heap.MadeExcOf iD.heap h' e (.ref C) a.pos->iD.heap.objs.size<=e->wpAny (model prog w) (A.under<|.builtin "type.__call__" ⟨.ref C::a.pos,[]⟩) (call iv (.ref e::a.pos)) (λr s'=>r=.none/\∃dx vs sl,vL s'.heap C iv/\s'.heap.get? e=some ⟨.ref C,dx,.fields vs,sl⟩/\vs[1]?=some .none/\E (.ref e) s') E {iD with heap:=h'}) E aQ) E s) :
  wpAny (model prog w) A (exec (.Raise (some<|.Call (.Name x np) args [] bg) none pos) env) Q E s:=by
 rw[arm_exec_Raise,arm_evalOpt_some];refine Qf<|OE<|PS (C:=C) (iv:=iv) hh<|Qf<|FD (wpAny_Call_ofName<|FD h (λf aQ bz=>?_) λ_ _ x=>x) (λv DX kD=>Qf<|OE<|Qv kD) λ_ _ x=>x;obtain⟨rfl,bz⟩:=bz;unfold callWith;refine Qf<|Tr<|FD bz (λa iD iB=>Qf<|OE ?_) λ_ _ x=>x;obtain⟨ZO,akw⟩:=a;obtain⟨hkw,YL,hC,hb,iB⟩:=iB;obtain rfl:akw=[]:=hkw;obtain⟨hp,g,d,tk,os⟩:=iD;simp only[MQ];obtain⟨bm,hC',_⟩:=id hC;refine Qf<|wpAny_keeperOf_exc hC' ?_;refine Qf<|x_call (hrest:=YL) hC hb λh' e hm hl=>FD (iB h' e hm hl) (λr s' ⟨hr,dx,vs,sl,e1,e2,e4,e3⟩=>⟨hr,Qf<|Tr<|wpAny_point<|Qv ?_⟩) λ_ _ x=>x;exact⟨e,dx,vs,sl,rfl,e1,e2,e4,e3⟩
end
section
variable{X:Cx}{e:Expr}{es:Y2}{fs:List (M D)}{pos bg np:Pos}{C:Addr}{x:Str}
theorem vL.of0{K:W.Frag}{h:Heap}(lG:K.In h)(q:W.excIn K C VS.pW "ValueError.__new__" = true):vL h C (.builtin "ValueError.__init__"):=by obtain⟨bm,N,nm,qn,bs,hd,sn,sub,ab,col,dd,k0,k1,k2,k3,k5,mN,a,b,c,d⟩:=VS.Fv lG q;exact⟨bm,a,b,d,.inr ⟨c,rfl⟩⟩
theorem Q0F(hk:W.excIn X.g.K C VS.pW "ValueError.__new__" = true)(hg:Gl X x)(hm:X.g.mg x=some (.ref C))(hc:X.calm=true)(ha:th X (e::es) (mL fs))
  (hd:RI x:=by decide) (he:Wj X e es:=by rfl) (gV:(backTo bg<|starEach es X.env).any (·.1)=false:=by rfl) :
  ja X (.Raise (some<|.Call (.Name x np) (e::es) [] bg) none pos) (sI x fs):=λs σ H ρ Q E I o=>by
 refine x_raise (C:=C) (iv:=.builtin "ValueError.__init__") (I.ok.hd hc) (by rw[he];show (false||(backTo bg<|starEach es X.env).any (·.1))=false;rw[gV];rfl)<|dB I hg hm ⟨rfl,?_⟩ hd;have h:=ha bg;rw[he] at h ⊢;refine Calls.evalArgs_plain<|h.Tp I o (λ_ _ q=>q.x) λs1 H1 aS us ds I1 l1 r1 o1=>?_;split at o1;rename_i hl;have hul:us.length<=sizeLine:=by rw[Paired.length r1];exact YM hl (by decide)
 have X0:=vL.of0 I1.jR hk;refine⟨rfl,hul,X0,λA h' e Q _ q=>CK (VF.init.bind _) q,λh' a qy hsz=>?_⟩;obtain⟨t,h1,h2,h3⟩:=qy.there;obtain⟨bm,hC,hn,T,hi⟩:=X0.keeps qy.keeps;refine wpAny_call (codeAny_call_builtin VF.init.plain VF.initEntry<|wpAny_check_init_subU VF T hC h1 rfl ?_)
 wp_walk
 have hf:=F2 (Obj.mapFields λx=>x.setIfInBounds 0<|Value.ref h'.objs.size) (VZ {cls:=.type "tuple",data:=.seq us.toArray} h1) rfl;have k:∀b o,s1.heap.get? b=some o->((h'.push {cls:=.type "tuple",data:=.seq us.toArray}).update a<|Obj.mapFields λx=>x.setIfInBounds 0<|Value.ref h'.objs.size).get? b=some o:=λb o e=>(Hn _ _<|wq<|Hz (Ut e) hsz).trans<|VZ _<|qy.keeps b o e;exact⟨rfl,none,_,_,X0.keeps k,hf,rfl,o1 _ σ H1 _ (I1.kept (t':=s1.toks) k) l1 ⟨a,C,none,rfl,hm,.inl ⟨rfl,rfl,rfl⟩,none,_,_,hf,rfl,I1.aL.fresh hsz,YM I1.sz hsz,rfl⟩⟩;exact o1.elim
end
end WL
end
section
set_option linter.all false
set_option maxRecDepth 100000
namespace WL
open PySem PySem.Spec PyProof.Rows L2 VP
abbrev hand(X:Cx)(e:Addr):Cx:={X with A:=X.A.mark<|some<|.ref e,calm:=false}
inductive XS(X:Cx)(H:Tm)(s:Shared)(e:Addr)(x:Xn):Prop|mk (C:Addr) (dx:YB) (w:Value) (hm:X.g.mg x.cls=some (.ref C)) (hx:(dx=none/\x.ns=[]/\x.vs=[])\/∃b o,dx=some b/\H b=some (.pin o<|some .aP)/\jC H s.heap b x.ns x.vs) (xa:E8 X.n₀ H s.heap e (.ref C) dx (some w))
def PH(X:Cx)(hs:List ExceptHandler)(f:Xn->M Fl):Prop:=∀s σ H ρ Q E e x,Inv X σ H ρ s->XS X H s e x->Out (f x ρ) (jT X H RS Q) (λ_ _=>False)->wpAny X.M X.A (handleBy (.ref e) X.env hs) Q E s
def PU(X:Cx)(name:Option Str)(body:List Stmt)(pos:Pos)(f:Xn->M Fl):Prop:=∀s σ H ρ Q E e x,Inv X σ H ρ s->XS X H s e x->Out (f x ρ) (jT X H RS Q) (λ_ _=>False)->codeAny X.M (X.A.mark<|some<|.ref e) (.handlers (.ref e) [.ExceptHandler none name body pos] X.env) (λr iD=>match r with
|.ok f=>(match name with
  |none=>Q f iD|some n=>wpAny X.M X.A (do bindName X.env n .none;unbindBehindTheSuite X.env n pos) (λ_ DX=>Q f DX) E iD)
 |.error x=>cameBackBy X.M X.A X.env E x iD) s
section
variable{X:Cx}{σ:Sg}{H:Tm}{ρ:ax}{s:Shared}{e Dc:Addr}{x:Xn}{body Lr:List Stmt}{Q7:Stmt}{fb fh:M Fl}{cn n:Str}{pos hp cp:Pos}{subs:PE}{j:Nat}{hs:List ExceptHandler}
theorem swB(ok:X.Ok)(e:Addr):(hand X e).Ok:=⟨ok.mod,ok.kind,ok.glob,ok.blt,ok.inj,ok.has,(λz=>nomatch z),ok.frames,ok.UJ,ok.VC,ok.bs,ok.EI,ok.h0,ok.fr,ok.lo⟩
theorem Inv.hand(I:Inv X σ H ρ s)(e:Addr):Inv (hand X e) σ H ρ s:=⟨swB I.ok e,I.os,I.bare,I.le,I.nw,I.aL,I.loc,λi sl h=>(I.slot i sl h).imp λx hx=>⟨hx.1,by have:=hx.2;cases sl<;>exact this⟩,I.tg,I.fl,I.cell,I.len⟩
theorem Inv.Ed(ok:X.Ok)(I:Inv (WL.hand X e) σ H ρ s):Inv X σ H ρ s:=⟨ok,I.os,I.bare,I.le,I.nw,I.aL,I.loc,λi sl h=>(I.slot i sl h).imp λx hx=>⟨hx.1,by have:=hx.2;cases sl<;>exact this⟩,I.tg,I.fl,I.cell,I.len⟩
theorem XS.kp(x1:XS X H s e x):∃oe C,s.heap.get? e=some oe/\oe.cls=.ref C/\X.g.mg x.cls=some (.ref C):=by obtain⟨C,dx,w,hm,_,vs,sl,he,_⟩:=x1;exact⟨_,C,he,rfl,hm⟩
theorem OL:PH X [] (DQ []):=λs σ H ρ Q E e x I xs o=>o.elim
theorem GL{name:Option Str}{hd:List (List (Str×Bool)×Option Nat×M Fl)}{oj:Option Nat}(ct:VS.EY X.g.K Dc)(hg:Gl X cn)(hm:X.g.mg cn=some (.ref Dc))(FP:∀p∈subs,∃C,X.g.mg p.1=some (.ref C)/\W.mroIn X.g.K C (.ref Dc)=some p.2)(hu:PU X name body hp (wc oj fh)) (hr:PH X hs (DQ hd)) (jP:RI cn:=by decide):PH X (.ExceptHandler (some<|.Name cn cp) name body hp::hs) (DQ ((subs,oj,fh)::hd)):=λs σ H ρ Q E e x I xs o=>by refine wpAny_handleBy_cons (codeAny_handlers_test<|dB (X:=WL.hand X e) (I.hand e) hg hm ?_ jP) (by intro q;cases q);obtain⟨oe,C,he,hc,MK⟩:=xs.kp;rw[DQ] at o;cases hl:subs.lookup x.cls with|none=>rw[hl] at o;exact o.elim|some b=>rw[hl] at o;obtain⟨C',h1,h2⟩:=FP _<|Og hl;rw[MK] at h1;cases h1;cases b with|true=>cases name<;>exact VS.qY I.jR ct he hc h2 (hu s σ H ρ Q E e x I xs o)|false=>exact VS.qY I.jR ct he hc h2 (hr s σ H ρ Q E e x I xs o)
theorem XS.fly{E:Tv}{Q:Unit->Shared->Prop}(I:Inv X σ H ρ s)(xs:XS X H s e x)(h:∀s',Inv X σ H ρ s'->XS X H s' e x->Q () s'):wpAny X.M (X.A.mark<|some<|.ref e) (setFlight (.ref e) none) Q E s:=by obtain⟨C,dx,w,hm,hx,xa⟩:=xs;refine iP (X:=WL.hand X e) none (I.hand e) xa λh' I' k x2=>h _ (I'.Ed I.ok) ⟨C,dx,_,hm,hx.imp id λ⟨b,o,h1,h2,f⟩=>⟨b,o,h1,h2,f.kp (X:=WL.hand X e) k⟩,x2⟩
theorem GU(hh:∀e,gr (WL.hand X e) (Q7::Lr) fh):PU X none (Q7::Lr) pos (wc none fh):=λs σ H ρ Q E e x I xs o=>by refine codeAny_handlers_suite<|xs.fly I λs' I' x'=>hh e s' σ H ρ _ _ (I'.hand e) ?_;simp only[wc] at o;cases q:fh ρ with|ok f r=>rw[q] at o;exactλs2 vK H2 b I2 l2 r2=>o s2 vK H2 b (I2.Ed I.ok) l2 r2|_=>rw[q] at o;exact o.elim
end
end WL
end
section
set_option linter.all false
set_option maxRecDepth 100000
namespace WL
open PySem PySem.Spec PyProof.Rows L2 VP
section
variable{X:Cx}{e a o value:Expr}{es:Y2}{fa fe fo:M D}{fs:List (M D)}{pos p p' bg np:Pos}{x c f:Str}{σ:Sg}{H H':Tm}{ρ:ax}{s s':Shared}{ds ios:Vt}{us:SX}{Q:Tv}{E:Tv}
variable{k:Nat}{fA C:Addr}{fd:FuncData}{ps:Xa}{fl:ZU}{fn:Fn}{cs:Xa}
theorem zk(i:Nat){Tw p':Pos}(T:∀c∈cs,∃C,X.g.mg c=some (.ref C)/\VS.q7 X.g.K C f)(MR:PV X value fe)(hN:X.N[i]?=some x:=by rfl)(hv:ij X.env.scope x:=by exact E3)(hd:RI x:=by decide)(eZ:v8 x:=by decide)(hs:swapsWith value (some<|.Attribute (.Name x p') f Tw) pos.line X.env=pure false:=by rfl)(hf:f≠"cells" := by decide) : ja X (.Assign [.Attribute (.Name x p') f Tw] value pos) (DS i cs f fe):=λs σ H ρ Q E I o=>
 plainObj_wpAny_Assign_Attribute (MR.Tp I o (λ_ _ q=>q.x) λs1 H1 aS u d1 I1 l1 r1 o1=>by
  obtain⟨d,d',q0,q1,k⟩:=jA o1.Tp;obtain⟨l,hu,hl⟩:=I1.ownAt hN hv q0;refine bx I1 hv hu ?_ hd eZ;cases d with
  |jj c ns vs=>
   simp only[UA] at q1;split at q1;rename_i hc;rw[Lp] at hc;cases q1;obtain⟨C,hm,hC⟩:=T c (by simpa using hc.1);have h9:ns.length<1000:=by simpa using P0 hc.2
   obtain⟨⟨C',dx,vv,sl,h1,h2,h3,Mz,h4⟩,_⟩:=I1.aL l _ hl;rw[hm] at h1;cases h1;cases dx with
   |none=>
    obtain⟨rfl,rfl⟩:=h4;refine VS.PO I1.jR h2 hC λh' FQ vC kk=>?_;obtain⟨od,es,ep,n1,n2,n3⟩:=id vC;have nl:l≠s1.heap.objs.size:=M1<|Ut h2;have nf:=(Heap.get?_some_iff.mp n1).2;obtain⟨I2,l2⟩:=I1.lay (t':=s1.toks) (h':=s1.heap.push od) (a:=s1.heap.objs.size) (e:=.cA l) (λb o e=>VZ _ e) (Wd _) λlp=>⟨_,Ym _ nf⟩;have JX:upd H1 s1.heap.objs.size (.cA l) l=some (.ow (.jj c [] []) i):=(aH nl).trans hl;have lk1:∀g,[(f,u)].lookup g=if g=f then some u else none:=λg=>by rw[wR];by_cases z:g=f;subst z;simp;rw[beq_eq_false_iff_ne.mpr z,YO z];rfl
    have lk2:PySem.Within (λg=>if g=f then some u else none) [f]:=λg hg=>by by_cases z:g=f;simp[z];exact absurd (YO z) hg
    obtain⟨I3,l3⟩:=I2.wr (t':=s1.toks+2) (h':=h') (d':=.jj c [f] [d1]) JX (.inl rfl) (λb q hb z=>by
     rcases Heap.get?_push_cases z with ⟨rfl,rfl⟩|z
     exact n1;exact kk b q hb z) ⟨_,FQ⟩ (λlp=>⟨C,some s1.heap.objs.size,vv,sl,hm,FQ,h3,Mz,(aH<|Wl nl).trans aA,Wl nl,[(f,u)],rfl,.cons ((r1.le l2).p lp) .nil,Nat.succ_le_of_lt (Nat.zero_lt_succ 999),_,vC,lk1,lk2,λ_ z=>nomatch (YO<|Wl hf).symm.trans z⟩) λz=>nomatch z
    exact k _ _ _ _ I3 (l1.trans<|l2.trans l3) rfl
   |some b=>
    obtain⟨hb,ne,fs,rfl,r,h8,mA,h5,h6,h7,VJ⟩:=h4;have h9:fs.length<1000:=by simpa using h9
    refine VS.Q1v I1.jR h2 h5 ne hC h7 (by rw[VE,xg];lia) λh' FQ vC sb=>?_;have lo:Le H1 _:=Le.ow (d':=.jj c (dI f d1 (fs.map (·.1)) vs).1 (dI f d1 (fs.map (·.1)) vs).2) (j:=i) hl;obtain⟨p1,p2,p3,p4,p5,p6⟩:=oU (f:=f) (r1.le lo)<|aC.le lo r;have hq:∀g,(if g=f then some u else mA g)≠none->g∈(dI f d1 (fs.map (·.1)) vs).1:=λg hg=>by rw[<-p1];by_cases q:g=f;rw[q];exact p5;rw[YO q] at hg;exact p6 g (h7 g hg)
    obtain⟨I2,l2⟩:=I1.wr (t':=s1.toks+2) (h':=h') (d':=.jj c (dI f d1 (fs.map (·.1)) vs).1 (dI f d1 (fs.map (·.1)) vs).2) hl (.inr hb) (λb q hb z=>(sb.2 b hb).trans z) (let ⟨o,_,_,e',_⟩:=vC;⟨o,e'⟩) (λlp=>⟨C,some b,vv,sl,hm,FQ,h3,Mz,(aH ne).trans hb,ne,mP f u fs,p1,p2,by rw[<-p1,VE];lia,_,vC,λg=>by rw[p4 g,h6 g],hq,λl' z=>VJ l'<|(YO<|Wl hf).symm.trans z⟩) λz=>nomatch z;exact k _ _ _ _ I2 (l1.trans l2) rfl
   cases q1
  |_=>cases q1) hs
theorem vL.Z0{K:W.Frag}{h:Heap}(lG:K.In h)(q:VS.EZ K C fA):vL h C (.ref fA):=by obtain⟨⟨bm,N,nm,qn,bs,hd,sn,sub,ab,col,dd,k0,k1,k2,k3,k5,l,n,i,t⟩,_⟩:=q;exact⟨bm,lG _ _ l,Heap.Ns.of_isNs<|W.isNs_of_in lG n,W.tail_of_in lG t,.inl<|VS.uV lG n i⟩
theorem mY:∀(ds:Vt)(ρ:ax),gu (ds.map .val) ρ=some ds/\bI (ds.map .val)=[]/\(ds.map AV.val).map jU=List.replicate ds.length false|[],_=>⟨rfl,rfl,rfl⟩|d::ds,ρ=>by obtain⟨h1,h2,h3⟩:=mY ds ρ;exact⟨by simp only[List.map_cons,gu,h1];rfl,h2,by simp only[List.map_cons,h3];rfl⟩
theorem DN:∀{us:SX}{ds:Vt},aC H us ds->RA X σ H s us (ds.map .val)|_,_,.nil=>.nil|_,_,.cons h t=>.cons h (DN t)
theorem Inv.letGo{l:Addr}{ns:Xa}{vs:Vt}(I:Inv X σ H ρ s)(hl:H l=some (.ow (.jj c ns vs) X.N.length))(lo:X.n₀<=l):∃H',Inv X σ H' ρ s/\Le H H'/\XR X H' s (.ref l) ⟨c,ns,vs⟩:=by
 obtain⟨⟨C,dx,vv,sl,hm,h2,h3,Mz,h4⟩,_⟩:=I.aL l _ hl;have no:∀{b d j},b≠l->j<X.N.length->H b=some (.ow d j)->j<X.N.length:=λ_ z _=>z;have go:∀(H':Tm)(x:Addr),(x=l\/H x=some (.cA l))->(∀b,b≠l->b≠x->H' b=H b)->H' l=none->(x≠l->∃o,s.heap.get? x=some o/\H' x=some (.pin o<|some .aP))->Inv X σ H' ρ s/\Le H H':=λH' x hx ho hn hp=>by
  have nw:∀{b d j},H' b=some (.ow d j)->b≠l/\H b=some (.ow d j):=λ{b d j} q=>by
   have n1:b≠l:=λz=>by rw[z,hn] at q;cases q
   have n2:b≠x:=λz=>by subst z;obtain⟨o,_,z⟩:=hp n1;exact ek z q
   exact⟨n1,(ho b n1 n2) ▸ q⟩
  have bk:∀{b d j},H b=some (.ow d j)->j<X.N.length->H' b=some (.ow d j):=λ{b d j} q hj=>by
   have n1:b≠l:=λz=>by subst z;obtain⟨rfl,rfl⟩:=AQ hl q;exact Rm _ hj
   refine(ho b n1 λz=>?_).trans q;rcases hx with y|y;exact n1<|z.trans y;rw[<-z,q] at y;cases y
  refine⟨I.chg (t':=s.toks) hl hx ho (λ_ _ _ z=>z) (λlp e q=>by exact en hn q) (λz e q=>?_) rfl (λb d j q hj=>?_) (λlp j t ht=>⟨t,ht,λv z=>z.mv lp λp d q=>bk q (by rw[<-I.len];exact(List.getElem?_eq_some_iff.mp ht).1)⟩),λa e q f=>?_⟩;obtain⟨o,h1,h2⟩:=hp z;obtain rfl:=sj h2 q;exact⟨h1,λe z=>by cases z;trivial⟩;obtain⟨n1,q1⟩:=nw q;exact⟨(I.tg _ _ _ q1 hj).1,λl2 d2 q2=>(I.tg _ _ _ q1 hj).2 _ _ (nw q2).2⟩;have n1:a≠l:=λz=>by subst z;obtain rfl:=sj hl q;exact f
  refine(ho a n1 λz=>?_).trans q;subst z;rcases hx with y|y;exact n1 y;obtain rfl:=sj q y;exact f
 cases dx with|none=>obtain⟨I',l'⟩:=go (λb=>if b=l then none else H b) l (.inl rfl) (λb z _=>YO z) (YN rfl) λz=>absurd rfl z;exact⟨_,I',l',l,C,none,rfl,hm,.inl ⟨rfl,h4.1,h4.2⟩,none,vv,sl,h2,h3,YN rfl,lo,Mz rfl⟩|some b=>obtain⟨hb,ne,fs,k1,k2,k3,mA,n,w⟩:=h4;obtain⟨od,_,_,MN,_⟩:=id n;obtain⟨I',l'⟩:=go (upd (λb=>if b=l then none else H b) b<|.pin od<|some .aP) b (.inr hb) (λy z z'=>(aH z').trans<|YO z) ((aH<|Wl ne).trans<|YN rfl) λz=>⟨od,MN,aA⟩;exact⟨_,I',l',l,C,some b,rfl,hm,.inr ⟨b,od,rfl,aA,fs,k1,k2.le l',k3,mA,n,w⟩,none,vv,sl,h2,h3,(aH<|Wl ne).trans<|YN rfl,lo,Mz rfl⟩
theorem gS(hk:VS.EZ X.g.K C fA)(F:pJ X.g k fA fd ps (true::fl) fn)(yp:fl=List.replicate fs.length false)(hb:Binds X.g.K fd ps [])(vD:(true::fl).length=ps.length)(FO:fl.length<=sizeLine)(hr:bA (k+1) X.A)(hg:Gl X x)(hm:X.g.mg x=some (.ref C))(hc:X.calm=true)(ha:th X (e::es) (mL fs))
  (hd:RI x:=by decide) (he:Wj X e es:=by rfl) (gV:(backTo bg<|starEach es X.env).any (·.1)=false:=by rfl) :
  ja X (.Raise (some<|.Call (.Name x np) (e::es) [] bg) none pos) (jx x fn fs):=λs σ H ρ Q E I o=>by
 refine x_raise (C:=C) (iv:=.ref fA) (I.ok.hd hc) (by rw[he];show (false||(backTo bg<|starEach es X.env).any (·.1))=false;rw[gV];rfl)<|dB I hg hm ⟨rfl,?_⟩ hd;have h:=ha bg;rw[he] at h ⊢;refine Calls.evalArgs_plain<|h.Tp I o (λ_ _ q=>q.x) λs1 H1 aS us ds I1 l1 r1 o1=>?_;unfold Ur at o1;by_cases hl:ds.length=fs.length
 ·rw[YN hl] at o1;have X0:=vL.Z0 I1.jR hk;obtain⟨oI,lkI,hfc⟩:∃oI,s1.heap.get? fA=some oI/\oI.cls=.type "function" := by have z:(X.g.K.lookup fA).map (λo=>o.cls)=some (.type "function"):=beq_iff_eq.mp hk.fn;cases q:X.g.K.lookup fA with|none=>rw[q] at z;cases z|some oI=>rw[q] at z;exact⟨oI,I1.jR _ _ q,Qe z⟩
  have ul:us.length=ds.length:=Paired.length r1;have pl:ps.length=fl.length+1:=vD.symm;have Zs:fl.length=fs.length:=by rw[yp];simp
  refine⟨rfl,?_,X0,λA h' e Q kk q=>?_,λh' a qy hsz=>?_⟩
  ·show us.length<=sizeLine;rw[ul,hl,<-Zs];exact FO
  ·unfold bindSpecial;refine Qf<|M8 (T:="function") ⟨_,kk _ _ lkI,hfc⟩ ?_;rw[YN (by decide)];exact Qv q
  ·obtain⟨t,h1,h2,h3⟩:=qy.there;obtain⟨I2,l2⟩:=I1.lay (t':=s1.toks) (h':=h') (a:=a) (e:=.ow (.jj x [] []) X.N.length) qy.keeps hsz (λlp=>⟨⟨C,none,_,_,hm,h1,rfl,λ_=>rfl,rfl,rfl⟩,λz=>nomatch z⟩) (λd i z=>by cases z;exact Wd _);have hx:upd H1 a (.ow (.jj x [] []) X.N.length) a=some (.ow (.jj x [] []) X.N.length):=aA;have r2:=aC.le l2 r1;generalize upd H1 a (.ow (.jj x [] []) X.N.length)=H2 at *;have ra:=DN (X:=X) (σ:=σ) (s:={s1 with heap:=h'}) r2;obtain⟨Zf,Zg,Zh⟩:=mY ds aS;have nd:(bI<|ds.map .val).Nodup:=by rw[Zg];exact List.nodup_nil
   obtain⟨ar,_⟩:=jd I2 ra Zf nd;have PZ:=ar.cons hx λi k=>by have z:=k.1;rw[Zh,CQ] at z;split at z<;>cases z
   have yo:=hb {s1 with heap:=h'} (Value.ref a::us) I2.jR (by rw[FU,Dz,ul,hl,<-Zs,pl]);rw[FU] at yo;have e0:=I2.BE;have F':pJ X.g k fA fd ps (true::(ds.map AV.val).map jU) fn:=by rw[Zh,hl,<-yp];exact F
   refine wpAny_call<|F' _ X.stack _ H2 _ _ _ _ (hr.make C us []) ⟨e0.frames,e0.mod,e0.bs,e0.EI,e0.fr,e0.B6,e0.aL,e0.bare⟩ yo PZ ?_;cases q:fn (.jj x [] []::ds) with
   |no=>rw[q] at o1;exact o1.elim|exc y ios=>rw[q] at o1;exact o1.elim|ok d ios=>
    rw[q] at o1;intro s3 H3 v af rv;obtain⟨d',MD,hd2⟩:=af.wu 0 a _ _ ⟨rfl,rfl⟩ hx;cases d with
    |aP=>
     cases rv
     match ios,o1,MD,af with
     |[.jj c' ns vs],o1,MD,af=>
      cases MD;have o2:Out (if c'=x then Res.exc ⟨c',ns,vs⟩ aS else .no) (jT X H RS Q) (jT X H (XR X) E):=o1;by_cases cx:c'=x;case neg=>rw[YO cx] at o2;exact o2.elim
      rw[YN cx] at o2;subst cx;have I3:=jb I2 ra Zf nd hx af;rw[Zg] at I3;have I3:Inv X σ H3 aS s3:=I3;obtain⟨⟨C',dx,vv,sl,m1,g1,g2,g3,g4⟩,_⟩:=I3.aL a _ hd2;obtain⟨H4,I4,l4,xr⟩:=I3.letGo hd2<|YM I1.sz hsz;rw[hm] at m1;cases m1;exact⟨rfl,dx,vv,sl,vL.Z0 I3.jR hk,g1,g3 rfl,o2 s3 σ H4 _ I4 (l1.trans<|l2.trans<|af.le.trans l4) xr⟩
    |_=>exact o1.elim
 ·rw[YO hl] at o1;exact o1.elim
end
end WL
end
section
set_option linter.all false
set_option maxRecDepth 100000
namespace WL
open PySem PySem.Spec PyProof.Rows L2 VP
section
variable{X:Cx}{a:Expr}{fa:M D}{pos p:Pos}
theorem sy(T:String){xT:Str}{pT:Pos}(hT:T∈["int","bool","tuple","list","str","dict"])(hg:Gl X "isinstance")(hm:X.g.mg "isinstance" = none)(FH:Gl X xT)(ML:X.g.mg xT=none)(hvT:bootBuiltins xT=some (.type T))(ha:PR X a fa)
  (hn:xT≠"__name__" := by decide) (Xy:RI xT:=by decide)
  (hs:starEach [a,.Name xT pT] X.env=(false,eval a X.env)::starEach [.Name xT pT] X.env:=by rfl) (j2:starEach [.Name xT pT] X.env=(false,eval (.Name xT pT) X.env)::starEach [] X.env:=by rfl) (gV:(backTo pos<|starEach [.Name xT pT] X.env).any (·.1)=false:=by rfl) :
  PV X (.Call (.Name "isinstance" p) [a,.Name xT pT] [] pos) (m1 (uJ T) fa):=λs σ H ρ Q E I o=>by
 refine bB (id:="isinstance") false I hg hm boot_isinstance ?_ (by decide) (by decide) hs gV;rw[hs,j2];refine VG<|ha.Tp I o (λ_ _ q=>q) λs1 H1 aS v d1 I1 l1 r1 o1=>VG<|lH I1 FH ML hvT (Nd ?_) hn Xy;obtain⟨d,e,q⟩:=o1.opt;unfold uJ at e;cases ek:Kc d1 with
 |none=>rw[ek] at e;cases e|some k=>
  rw[ek] at e;cases e;have hb:=VS.F0 X.g.K k (by cases d1<;>cases ek<;>simp) T hT;have fin:∀tk,Q (.bool (k == T||(k == "bool" && T == "int"))) {s1 with toks:=tk}:=λtk=>q _ H1 _ (I1.tok tk) l1 rfl;cases d1 with
   |aP=>cases ek;rcases r1 with r1|⟨l,i,_,z⟩;(cases r1;exact W.kia_one W.kitx_none I1.jR True.intro hb (λz=>nomatch z) fin);exact absurd rfl (I1.aL l _ z).2
   |bl v=>cases ek;rcases r1 with r1|⟨l,i,_,z⟩;(cases r1;exact W.kia_one W.kitx_bool I1.jR True.intro hb (λz=>nomatch z) fin);exact(I1.aL l _ z).1.elim
   |int v=>cases ek;rcases r1 with ⟨t,rfl⟩|⟨l,i,_,z⟩;exact W.kia_one W.kitx_int I1.jR True.intro hb (λz=>nomatch z) fin;exact(I1.aL l _ z).1.elim
   |str v=>cases ek;rcases r1 with ⟨t,rfl⟩|⟨l,i,_,z⟩;exact W.kia_one W.kitx_str I1.jR True.intro hb (λz=>nomatch z) fin;exact(I1.aL l _ z).1.elim
   |tup ds=>cases ek;obtain⟨l,ff,rfl,_,_,us,_,o,ho,hc,_⟩:=I1.obj r1 rfl;exact W.kia_one W.kitx_tuple I1.jR ⟨o,ho,hc⟩ hb (λz=>nomatch z) fin|lst ds=>cases ek;obtain⟨l,ff,rfl,_,us,_,la⟩:=I1.obj r1 rfl;obtain⟨o,_,ho,hc,_⟩:=la.plain;exact W.kia_one W.kitx_list I1.jR ⟨o,ho,hc⟩ hb (λz=>nomatch z) fin|ki ks ds=>cases ek;obtain⟨l,ff,rfl,_,_,vs,ep,_,_,o,es,ho,h2,_⟩:=I1.obj r1 rfl;exact W.kia_one W.kitx_dict I1.jR ⟨o,ho,h2.1⟩ hb (λz=>nomatch z) fin|_=>cases ek
theorem R0(hc:X.calm=true):Vk X (λus=>call (bf false "min") us) minD:=λs σ H ρ us ds d Q E I r e k=>by unfold minD at e;split at e;rename_i i j;cases e;obtain⟨u,v,rfl,⟨t,rfl⟩,⟨t',rfl⟩⟩:=r.two;refine min_two_ints (I.ok.hd hc) λh' tk kp=>k _ H _ (I.kept kp) Le.refl ?_;by_cases hj:j<i;rw[YN hj,YN hj];exact⟨_,rfl⟩;rw[YO hj,YO hj];exact⟨_,rfl⟩;cases e
variable{o e:Expr}{fo fe:M D}{ZO bg:Pos}
theorem noL(ho:PV X o fo)(he:PV X e fe)
  (iR:attributeBase o "index" X.env (eval o X.env)=eval o X.env:=by rfl)
  (we:((backTo bg<|starEach [e] X.env).all (λx=>!x.1)&&(backToKw bg<|keywordEach [] X.env).all (λx=>x.1.isSome)&&decide ([e].length+([]:List Keyword).length+(if ([]:List Keyword).isEmpty then 0 else 1)<30))=true:=by rfl)
  (kC:(ZO.endLine == bg.line)=true:=by rfl) (jH:starEach [e] X.env=[(false,eval e X.env)]:=by rfl):PV X (.Call (.Attribute o "index" ZO) [e] [] bg) (uO fo fe):=λs σ H ρ Q E I oo=>by
 refine wpAny_Call_method_late iR we kC rfl<|ho.Tp I oo (λ_ _ q=>q) λs1 H1 aS v d1 I1 l1 r1 o1=>?_;cases d1 with|tup ds=>obtain⟨l,ff,rfl,_,hz,aO,rr,⟨ob,hg,hc,EM,hd⟩⟩:=I1.obj (.inl r1) rfl;refine⟨"tuple","tuple.index",PySem.F.plainAttrs_tuple,PySem.F.slot_tuple_index,PySem.F.type_tuple_index,⟨_,hg,hc⟩,λa e=>by cases e;exact⟨_,hg,hd⟩,?_⟩;rw[jH];refine M3 rfl<|Calls.evalArgs_plain<|VG<|he.Tp I1 o1 (λ_ _ q=>q.le l1) λs2 H2 pX u d2 I2 l2 r2 o2=>Nd ?_;obtain⟨d,e1,q⟩:=o2.opt;obtain⟨ns,k,rfl,rfl,hk,rfl⟩:=VS.yw e1;obtain⟨t,rfl⟩:=r2;obtain⟨l',ff,z,_,hz,aO,r,⟨⟨c,dd,dt,sl⟩,hg,hc,⟨n,EM⟩,hd⟩⟩:=I2.obj (.inl<|r1.le l2) rfl;cases z;simp only at hc EM hd;subst hc EM hd;have hi:IntsAre aO ns:=iS r<|cZ ns;have YL:=hi.length;have hj:ns.idxOf k<ns.length:=List.idxOf_lt_length_iff.mpr hk;refine vi PySem.F.slot_tuple_index ⟨_,hg,rfl⟩ PySem.F.entry_tuple_index (PySem.F.args_tuple_index_2 _ _) (VS.vr l aO.toArray n sl none (.int k t) (isInt k) (λy hy=>eq_isInt k t hi y (by simpa using hy)) (ns.idxOf k) (by simpa[YL] using hj) ?_ ?_) ⟨hg,?_⟩;show isInt k aO[ns.idxOf k]=true;rw[isInt_at k hi _ Uz hj];simpa using List.getElem_idxOf hj;intro j uH fj;show isInt k aO[j]=false;rw[isInt_at k hi j (by simpa using uH) Uz];exact ne_of_lt_idxOf fj _;exact q _ H2 _ (I2.kept (t':=s2.toks+1) λ_ _ e=>e) (l1.trans l2) ⟨_,rfl⟩|_=>exact o1.elim
end
end WL
end
section
set_option linter.all false
set_option maxRecDepth 100000
namespace WL
open PySem PySem.Spec PyProof.Rows L2 VP
section
variable{X:Cx}{σ cV:Sg}{H H' H2 Hf R:Tm}{ρ a9:ax}{s s2:Shared}{g:Gb}{h:Heap}{a:Addr}{e:En}{d:D}
def iO(H:Tm):Tm:=λa=>match H a with|some (.ow _ _)=>none|some (.cA _)=>none|e=>e
theorem ku(q:iO H a=some e):H a=some e/\e.fast:=by unfold iO at q;split at q;cases q;cases q;rename_i n1 n2;refine⟨q,?_⟩;cases e with|ow d i=>exact absurd q (n1 d i)|cA b=>exact absurd q (n2 b)|_=>trivial
theorem oh(q:H a=some e)(f:e.fast):iO H a=some e:=by unfold iO;rw[q];cases e<;>first|rfl|exact f.elim
theorem n5:Le H (iO H):=λ_ _ q f=>oh q f
theorem uD(q:H a=none):iO H a=none:=by unfold iO;rw[q]
theorem U1{sl:Sl}{i:Nat}(q:(ρ.map eL)[i]?=some sl):∃t,ρ[i]?=some t/\eL t=sl:=by rw[Nn] at q;cases z:ρ[i]? with|none=>rw[z] at q;cases q|some t=>rw[z] at q;exact⟨t,rfl,Qe q⟩
theorem Inv.eL(I:Inv X σ H ρ s):Inv X σ (iO H) (ρ.map eL) s:=by
 refine⟨I.ok,I.os,I.bare,λa e q f=>oh (I.le a e q f) f,λa e q n=>I.nw a e (ku q).1 n,λa e q=>?_,I.loc,λi sl q=>?_,λl d i q _=>(ku q).2.elim,uD I.fl,λx c e=>⟨(I.cell x c e).1,(I.cell x c e).2.imp uD λ⟨a,o,d,b⟩=>⟨a,o,d,oh b trivial⟩⟩,by rw[VE];exact I.len⟩;obtain⟨q,f⟩:=ku q;have x:=I.aL a e q;cases e with|pin o d=>exact⟨x.1,λe z=>(x.2 e z).mv n5.p (λ_ z=>z) (λz=>nomatch z) λ_ _ _ z=>z⟩|ow d i=>exact f.elim|cA b=>exact f.elim|_=>exact x
 obtain⟨t,h1,h2⟩:=U1 q;obtain⟨x,hx,r⟩:=I.slot i t h1;refine⟨x,hx,?_⟩;subst h2;cases t with|sh d=>obtain⟨u,a,b⟩:=r;exact⟨u,a,b.p n5.p⟩|_=>trivial
def L9(d:D):Pu:=if bj d then some d else none
def gv(H:Tm):Tm:=λa=>match H a with|some (.pin o<|some d)=>some (.pin o<|L9 d)|e=>e
theorem eC(q:H a=some (.pin o<|some d))(c:bj d=true):gv H a=some (.pin o<|some d):=by unfold gv L9;rw[q];simp only[if_pos c]
theorem mZ(q:H a=some (.pin o<|some d))(c:bj d=false):gv H a=some (.pin o none):=by unfold gv L9;rw[q];simp only[c];rfl
theorem gG(q:H a=e')(n:∀o d,e'≠some (.pin o<|some d)):gv H a=e':=by unfold gv;split;rename_i o d z;exact absurd (q.symm.trans z)<|n o d;exact q
theorem jg(q:gv H a=some e):(H a=some e/\∀o d,e=.pin o (some d)->bj d=true)\/∃o d,H a=some (.pin o<|some d)/\bj d=false/\e=.pin o none:=by
 cases z:H a with
 |none=>rw[gG z λ_ _=>nofun] at q;cases q|some e'=>
  by_cases y:∃o d,e'=.pin o (some d);obtain⟨o,d,rfl⟩:=y;cases c:bj d with|true=>rw[eC z c] at q;cases q;exact .inl ⟨rfl,λ_ _ y=>by cases y;exact c⟩|false=>rw[mZ z c] at q;cases q;exact .inr ⟨o,d,rfl,c,rfl⟩
  rw[gG z λo d w=>y ⟨o,d,Qe w⟩] at q;cases q;exact .inl ⟨rfl,λo d w=>absurd ⟨o,d,w⟩ y⟩
theorem rz(q:H a=none):gv H a=none:=gG q λ_ _=>nofun
theorem iN(q:H a=some e)(n:∀o d,e=.pin o (some d)->bj d=true):gv H a=some e:=by by_cases y:∃o d,e=.pin o (some d);obtain⟨o,d,rfl⟩:=y;exact eC q<|n o d rfl;exact gG q λo d w=>y ⟨o,d,Qe w⟩
theorem Rel.vT{d:D}(r:Rel H v d)(c:bj d=true):Rel (gv H) v d:=by cases d with|tup|lst|ki|ins|jj=>obtain⟨a,o,e,q⟩:=r;exact⟨a,o,e,eC q c⟩|_=>exact r
theorem aC.vT:∀{us:SX}{ds:Vt},aC H us ds->cf ds=true->aC (gv H) us ds|_,_,.nil,_=>.nil|_,_,.cons h t,c=>by rw[cf,Lp] at c;exact .cons (h.vT c.1) (aC.vT t c.2)
theorem jC.vT(x:jC H h dx ns ds)(c:cf ds=true):jC (gv H) h dx ns ds:=by obtain⟨fs,k,r,z,mA,n,w⟩:=x;exact⟨fs,k,r.vT c,z,mA,n,w⟩
theorem fV.vT{d:D}(x:fV g H h true a d)(c:bj d=true):fV g (gv H) h true a d:=by
 cases d with
 |tup ds=>obtain⟨y,z,us,r,t⟩:=x;exact⟨y,z,us,r.vT (by rw[bj] at c;exact c),t⟩|lst ds=>obtain⟨z,us,r,t⟩:=x;exact⟨z,us,r.vT (by rw[bj] at c;exact c),t⟩|ki ks ds=>obtain⟨z,y,vs,ep,k,r,t⟩:=x;exact⟨z,y,vs,ep,k,r.vT (by rw[bj] at c;exact c),t⟩|ins cc ns ds=>rw[bj,Lp] at c;obtain⟨C,dx,m,e,⟨o,q⟩,ne,w⟩:=x;exact⟨C,dx,m,e,⟨o,eC q rfl⟩,ne,w.vT c.2⟩|jj cc ns ds=>rw[bj] at c;obtain⟨C,dx,vs,sl,m,e,e2,e1,q⟩:=x;refine⟨C,dx,vs,sl,m,e,e2,e1,?_⟩;cases dx with|none=>exact q|some b=>obtain⟨⟨o,q⟩,ne,w⟩:=q;exact⟨⟨o,eC q rfl⟩,ne,w.vT c⟩
 |aP=>trivial|_=>exact x.elim
theorem uE:∀{ds:Vt}{us:SX},Paired VS.cy ds us->cf ds=true|_,_,.nil=>rfl|_,_,.cons (a:=d) h t=>by rw[cf,uE t,Bool.and_true];cases d<;>first|rfl|exact h.elim
theorem Ht{K:W.Frag}(q:D4 K a=some d):bj d=true:=by obtain⟨t,ds,aO,n,rfl,_,_,f⟩:=vn q;cases t<;>(simp only[Bool.false_eq_true,↓reduceIte,bj];exact uE f)
abbrev RH(X:Cx):Cx:={X with H₀:=gv X.H₀}
theorem Yy(ok:X.Ok):(RH X).Ok:=by
 refine⟨ok.mod,ok.kind,ok.glob,ok.blt,ok.inj,ok.has,ok.hd,ok.frames,ok.UJ,ok.VC,λb o e=>iN (ok.bs b o e) λo' d z=>?_,ok.EI,λb e q=>?_,λe he=>?_,ok.lo⟩;injection z with z1 z2;exact Ht z2;rcases jg q with ⟨q,_⟩|⟨_,_,q,_⟩<;>exact ok.h0 b _ q
 obtain⟨a,L,o,b,c,d,n⟩:=ok.fr e he;exact⟨a,L,o,b,c,iN d (λ_ _=>nofun),n⟩
theorem Inv.vT(I:Inv X σ H ρ s)(no:∀a e,H a=some e->e.fast)(c:ρ.all vU=true):Inv (RH X) σ (gv H) ρ s:=by
 refine⟨Yy I.ok,I.os,I.bare,λa e q f=>?_,λa e q n=>?_,λa e q=>?_,I.loc,λi sl q=>?_,λl d i q hi=>?_,rz I.fl,λx c e=>⟨(I.cell x c e).1,(I.cell x c e).2.imp rz λ⟨a,o,d,b⟩=>?_⟩,I.len⟩;rcases jg q with ⟨q',z⟩|⟨o,d,q',z,rfl⟩
 exact iN (I.le a e q' f) z;exact mZ (I.le a _ q' trivial) z;have n':X.H₀ a=none:=by cases z:X.H₀ a with|none=>rfl|some e'=>by_cases y:∃o d,e'=.pin o (some d);obtain⟨o,d,rfl⟩:=y;have n:gv X.H₀ a=none:=n;unfold gv at n;rw[z] at n;cases n;have n:gv X.H₀ a=none:=n;rw[gG z λo d w=>y ⟨o,d,Qe w⟩] at n;cases n
 rcases jg q with ⟨q',z⟩|⟨o,d,q',z,rfl⟩
 exact I.nw a e q' n';exact .inl<|(I.nw a _ q' n').elim id λ⟨_,y⟩=>nomatch y;rcases jg q with ⟨q',z⟩|⟨o,d,q',z,rfl⟩
 have x:=I.aL a e q';cases e with|pin o d=>exact⟨x.1,λe y=>(x.2 e y).vT<|z o e (by rw[y])⟩|ow d i=>exact(no a _ q').elim|cA b=>exact(no a _ q').elim|_=>exact x
 exact⟨(I.aL a _ q').1,λ_ y=>nomatch y⟩;obtain⟨x,hx,r⟩:=I.slot i sl q;refine⟨x,hx,?_⟩;have cs:=List.all_eq_true.mp c sl<|Rb q;cases sl with|no=>trivial|sh d=>obtain⟨u,a,b⟩:=r;exact⟨u,a,b.vT cs⟩|ow d=>obtain⟨l,_,b⟩:=r;exact(no l _ b).elim|io d=>obtain⟨l,_,b,_⟩:=r;exact(no l _ b).elim
 rcases jg q with ⟨q,_⟩|⟨_,_,_,_,z⟩
 exact(no l _ q).elim;cases z;cases d with|none=>exact⟨a,o,none,iN b λ_ _=>nofun⟩|some d=>cases z:bj d with|true=>exact⟨a,o,_,eC b z⟩|false=>exact⟨a,o,_,mZ b z⟩
def jI(Hf H2:Tm):Tm:=λa=>match Hf a with|some (.pin o<|some d)=>if bj d then H2 a else some (.pin o<|some d)|_=>H2 a
theorem O0(l:Le (gv Hf) H2)(a:Addr):jI Hf H2 a=H2 a\/∃o d,Hf a=some (.pin o<|some d)/\jI Hf H2 a=some (.pin o<|some d)/\H2 a=some (.pin o none):=by
 cases z:Hf a with
 |none=>left;unfold jI;rw[z]|some e=>
  by_cases y:∃o d,e=.pin o (some d);obtain⟨o,d,rfl⟩:=y;cases c:bj d with|true=>left;unfold jI;rw[z];simp only[c];rfl|false=>right;exact⟨o,d,rfl,by unfold jI;rw[z];simp only[c];rfl,l a _ (mZ z c) trivial⟩
  left;unfold jI;rw[z];split;rename_i o d w;exact absurd ⟨o,d,Qe w⟩ y;rfl
theorem Inv.rst(I:Inv X σ Hf ρ s)(J:Inv (RH X) cV H2 a9 s2)(l:Le (gv Hf) H2):Inv X cV (jI Hf H2) a9 s2/\Le Hf (jI Hf H2)/\iA H2 (jI Hf H2)/\∀b,H2 b=none->jI Hf H2 b=none:=by
 have ra:=O0 l;generalize hR:jI Hf H2=R at ra ⊢;have lf:Le Hf R:=λa e q f=>by
  by_cases y:∃o d,e=.pin o (some d);obtain⟨o,d,rfl⟩:=y;cases c:bj d with|true=>rw[<-hR];unfold jI;rw[q];simp only[c];exact l a _ (eC q c) trivial|false=>rw[<-hR];unfold jI;rw[q];simp only[c];rfl
  have q2:=l a e (iN q λo d w=>absurd ⟨o,d,w⟩ y) f;rcases ra a with z|⟨o,d,z,_⟩;rw[z];exact q2;obtain rfl:=sj z q;exact absurd ⟨o,d,rfl⟩ y
 have lp:iA H2 R:=λa o d q=>by rcases ra a with z|⟨_,_,_,_,z⟩;rw[z];exact q;obtain⟨_,z⟩:=YE z q;cases z
 have no:∀b,H2 b=none->R b=none:=λb q=>by rcases ra b with z|⟨_,_,_,_,z⟩;rw[z];exact q;exact en q z
 have ow:∀{b e},R b=some e->(∀o d,e≠.pin o d)->H2 b=some e:=λ{b e} q n=>by rcases ra b with z|⟨o,d,_,z,_⟩;rw[<-z];exact q;obtain rfl:=sj z q;exact absurd rfl (n _ _)
 have wo:∀{b e},H2 b=some e->(∀o d,e≠.pin o d)->R b=some e:=λ{b e} q n=>by rcases ra b with z|⟨o,d,_,_,z⟩;rw[z];exact q;obtain rfl:=sj z q;exact absurd rfl (n _ _)
 refine⟨⟨I.ok,J.os,J.bare,λa e q f=>lf a e (I.le a e q f) f,λa e q n=>?_,λa e q=>?_,J.loc,λi sl q=>?_,λb d i q hi=>?_,no _ J.fl,λx c e=>⟨(J.cell x c e).1,(J.cell x c e).2.imp (no c) λ⟨a,o,d,b⟩=>⟨a,?_⟩⟩,J.len⟩,lf,lp,no⟩;rcases ra a with z|⟨o,d,z,y,_⟩;exact J.nw a e (by rw[<-z];exact q)<|rz n;obtain rfl:=sj y q;exact I.nw a _ z n;rcases ra a with z|⟨o,d,z,y,w⟩;rw[z] at q;have x:=J.aL a e q;have mv:∀{f:Bool}{d:D},fV X.g H2 s2.heap f a d->fV X.g R s2.heap f a d:=λx=>x.mv lp (λ_ z=>z) (λ_ b z=>wo z λ_ _=>nofun) λ_ _ _ z=>z;cases e with|pin o d=>exact⟨x.1,λe z=>mv<|x.2 e z⟩|ow d i=>exact⟨mv x.1,x.2⟩|_=>exact x
 obtain rfl:=sj y q;have x:=I.aL a _ z;refine⟨(J.aL a _ w).1,λe y=>?_⟩;cases y;refine(x.2 d rfl).mv lf.p (λo' w'=>?_) (λz=>nomatch z) λb o' w' y=>?_;obtain rfl:=sj x.1 w';exact(J.aL a _ w).1;rcases w' with ⟨w',_⟩|⟨_,q',w'⟩
 cases w';obtain rfl:=sj (I.aL b _ w').1 y;exact(J.aL b _<|l b _ (eC w' rfl) trivial).1;obtain⟨x,hx,r⟩:=J.slot i sl q;refine⟨x,hx,?_⟩;cases sl with|no=>trivial|sh d=>obtain⟨u,a,b⟩:=r;exact⟨u,a,b.p lp⟩|ow d=>obtain⟨p,a,b⟩:=r;exact⟨p,a,wo b λ_ _=>nofun⟩|io d=>obtain⟨p,a,b,c⟩:=r;exact⟨p,a,wo b λ_ _=>nofun,c⟩
 obtain⟨h1,h2⟩:=J.tg b d i (ow q λ_ _=>nofun) hi;exact⟨h1,λl' d' q'=>h2 l' d'<|ow q' λ_ _=>nofun⟩;rcases ra c with z|⟨o',d',_,z,_⟩;exact⟨o,d,z.trans b⟩;exact⟨_,_,z⟩
theorem EH.rs{n:Nat}{x:Xn}(r:EH g n H2 s v x)(lp:iA H2 R)(no:∀b,H2 b=none->R b=none):EH g n R s v x:=by obtain⟨e,C,dx,hv,hm,hx,w,vs,sl,z1,z2,z3,z4,z5⟩:=r;refine⟨e,C,dx,hv,hm,hx.imp id λ⟨b,o,h1,h2,f⟩=>⟨b,o,h1,lp _ _ _ h2,f.p lp⟩,w,vs,sl,z1,z2,no _ z3,z4,?_⟩;cases w with|none=>exact z5|some v=>obtain⟨T,ot,ts,t1,t2,t3,t4,t5,t6,t7⟩:=z5;exact⟨T,ot,ts,t1,t2,t3,no _ t4,t5,t6,t7⟩
end
end WL
end
section
set_option linter.all false
set_option maxRecDepth 100000
namespace WL
open PySem PySem.Spec PyProof.Rows L2 VP
section
variable{X:Cx}{σ:Sg}{H:Tm}{ρ:ax}{s:Shared}{Q:Tv}{E:Tv}{p q x c:Str}{pp pq xp pos:Pos}{ip iq i j k:Nat}{fA:Addr}{fd:FuncData}{ps:Xa}{fs:Fn}{e a:Expr}{es:Y2}{as:List VP.Arg}{fa:M D}{cs:Xa}
theorem Ec{H:Tm}{n1 n2:Str}{d1 d2:D}{fs:List (Str×Value)}(k:fs.map (·.1)=[n1,n2])(r:aC H (fs.map (·.2)) [d1,d2]):∃u1 u2,fs=[(n1,u1),(n2,u2)]/\Rel H u1 d1/\Rel H u2 d2:=by
 cases fs with
 |nil=>cases k|cons a fs=>
  cases fs with
  |nil=>cases k|cons b fs=>
   cases fs with
   |nil=>obtain⟨a1,a2⟩:=a;obtain⟨b1,b2⟩:=b;cases k;cases r with|cons r1 r=>cases r with|cons r2 r=>exact⟨_,_,rfl,r1,r2⟩
   |cons c fs=>cases k
theorem GS{H:Tm}{h:Heap}{dx:Addr}{n1 n2:Str}{v1 v2:D}(x:jC H h dx [n1,n2] [v1,v2])(ne:n1≠n2):jC H h dx [n2,n1] [v2,v1]:=by obtain⟨fs,k,r,z,mA,n,w1,w2,w3⟩:=x;obtain⟨u1,u2,rfl,r1,r2⟩:=Ec k r;refine⟨[(n2,u2),(n1,u1)],rfl,.cons r2 (.cons r1 .nil),z,mA,n,λf=>?_,λf hf=>?_,w3⟩;rw[<-w1 f];simp only[List.lookup_cons];by_cases y:f=n1;rw[beq_iff_eq.mpr y,beq_eq_false_iff_ne.mpr<|y ▸ ne];rw[beq_eq_false_iff_ne.mpr y];have:=w2 f hf;simp only[List.mem_cons,List.not_mem_nil,or_false] at this ⊢;exact this.symm
theorem DA(h:PF X e (jS c fs as)):PV X e (rO c fs as):=PF.pv λs σ H ρ Q E I o=>by refine h.Tp I o (λ_ _ q=>q) λs1 H1 aS v d I1 l1 r1 o1=>?_;obtain⟨d',e1,k⟩:=o1.opt;obtain⟨l,rfl,hl⟩:=r1;unfold OO at e1;split at e1;rename_i c n1 n2 v1 v2;split at e1;cases e1;rename_i ne;cases e1;obtain⟨⟨C,dx,m,e,q,ad,w⟩,_⟩:=I1.aL l _ hl;have nd:dx≠l:=λz=>absurd (z.trans ad) (Nat.succ_ne_self dx).symm;obtain⟨I2,l2⟩:=I1.wr (t':=s1.toks) (h':=s1.heap) (x:=l) (d':=.ins c [n2,n1] [v2,v1]) hl (.inl rfl) (λ_ _ _ z=>z) ⟨_,e⟩ (λlp=>⟨C,dx,m,e,(aH nd).trans q,ad,GS (w.p lp) ne⟩) λz=>nomatch z;rw[Q1O (by rw[I1.len];exact Wd _)] at I2;exact k s1 _ _ I2 (l1.trans l2) ⟨l,rfl,aA⟩;cases e1
theorem CW(i:Nat)(ρ:ax):(∃d,ρ[i]?=some (.sh d)/\aa i ρ=.ok d ρ)\/aa i ρ=.no:=by unfold aa;split;rename_i d q;exact .inl ⟨d,q,rfl⟩;exact .inr rfl
theorem Q1H:(∃d1 d2,ρ[ip]?=some (.sh d1)/\ρ[iq]?=some (.sh d2)/\aV [.val<|aa ip,.val<|aa iq] ρ=.ok [.val d1,.val d2] ρ)\/aV [.val<|aa ip,.val<|aa iq] ρ=.no:=by
 simp only[aV,VP.Tp];rcases CW ip ρ with ⟨d1,h1,e1⟩|e1
 rcases CW iq ρ with ⟨d2,h2,e2⟩|e2
 rw[e1];dsimp only;rw[e2];exact .inl ⟨d1,d2,h1,h2,rfl⟩;rw[e1];dsimp only;rw[e2];exact .inr rfl;rw[e1];exact .inr rfl
theorem call2{cc:Bool}{P:D->ax->Prop}{E':Xn->ax->Prop}(F:pY cc X.g k fA fd ps [false,false] fs)(hr:cond cc (bA k X.A) (VS.fE k X.A))(hg:Gl X x)(hm:X.g.mg x=some (.ref fA))(hk:W.keepIn X.g.K (.ref fA)=true)(hb:Binds X.g.K fd ps [])(vD:[false,false].length=ps.length)
  (hp:X.N[ip]?=some p) (hq:X.N[iq]?=some q) (vp:ij X.env.scope p) (vq:ij X.env.scope q) (h1:(p == ("__debug__" : Str))=false) (h2:(p == ("__classdict__" : Str))=false) (h3:(q == ("__debug__" : Str))=false) (h4:(q == ("__classdict__" : Str))=false) (jP:(x == ("__debug__" : Str))=false)
  (he:starEach [.Name p pp,.Name q pq] X.env=(false,eval (.Name p pp) X.env)::starEach [.Name q pq] X.env) (P9:starEach [.Name q pq] X.env=(false,eval (.Name q pq) X.env)::starEach [] X.env) (gV:(backTo pos<|starEach [.Name q pq] X.env).any (·.1)=false)
  (I:Inv X σ H ρ s) (o:Out (aw fs [.val<|aa ip,.val<|aa iq] ρ) P E')
  (hQ:∀s' H' a9 v d,Inv X σ H' a9 s'->Le H H'->Rel H' v d->(∀a e,H' a=some e->H a≠none\/s.heap.objs.size<=a)->P d a9->Q v s') (hE:∀s' H' a9 v y,Inv X σ H' a9 s'->Le H H'->XR X H' s' v y->E' y a9->E v s') :
  wpAny X.M X.A (eval (.Call (.Name x xp) [.Name p pp,.Name q pq] [] pos) X.env) Q E s:=by
 refine Dw<|dB I hg hm ?_ jP;refine tI (h₀:=X.g.base) I.ok.mod.lG hk ?_ he gV;unfold aw VP.Tp at o;rcases Q1H (ρ:=ρ) (ip:=ip) (iq:=iq) with ⟨d1,d2,q1,q2,qa⟩|qa
 rw[qa] at o;obtain⟨u1,w1,r1⟩:=I.at hp vp q1;obtain⟨u2,w2,r2⟩:=I.at hq vq q2;rw[he];refine VG (rest:=backTo pos<|starEach [.Name q pq] X.env)<|bx I vp w1 ?_ h1 h2;rw[P9];exact VG (rest:=backTo pos<|starEach [] X.env)<|bx I vq w2 (Nd ⟨I.jR,wpAny_call<|w8 (vs:=[.val d1,.val d2]) F hr rfl hb vD I (.cons r1<|.cons r2 .nil) o hQ hE⟩) h3 h4;rw[qa] at o;exact o.elim
structure AJ(X:Cx)(x:Str)(C ad dx l:Addr)(od:Obj)(n:Nat)(σ:Sg)(H:Tm):Prop where
 hx:σ x=some (.ref ad)
 ha:H ad=some (.pin (W.instObj C dx) none)
 hd:∃d,H dx=some (.pin od d)
 hl:∃aO m,H l=some (.dg {cls:=.type "list",data:=.seq aO m})/\aO.size=n
 l0:X.H₀ l=none
 nx:ad=dx+1
 ns:∃(h:Heap)(mA:MG),h.get? dx=some od/\h.Ns1 dx mA/\mA "cells" = some (.ref l)
 n6:n<=sizeLine
theorem AJ.mv{cV:Sg}{H':Tm}{C ad dx l:Addr}{od:Obj}{n:Nat}(T:AJ X x C ad dx l od n σ H)(hs:cV x=σ x)(h1:∀e,H ad=some e->e.fast->H' ad=some e)(h2:∀e,H dx=some e->e.fast->H' dx=some e)(hl:∃aO m,H' l=some (.dg {cls:=.type "list",data:=.seq aO m})/\aO.size=n):AJ X x C ad dx l od n cV H':=⟨hs.trans T.hx,h1 _ T.ha trivial,let ⟨d,q⟩:=T.hd;⟨d,h2 _ q trivial⟩,hl,T.l0,T.nx,T.ns,T.n6⟩
theorem AJ.cells{C ad dx l:Addr}{od:Obj}{n:Nat}{p1 p2:Pos}(T:AJ X x C ad dx l od n σ H)(hC:AS X.g.K C)(hn:iF X.g.K C "cells")(I:Inv X σ H ρ s)(hv:ij X.env.scope x)(hd:(x == ("__debug__" : Str))=false)(eZ:(x == ("__classdict__" : Str))=false)(hb:attributeBase (.Name x p1) "cells" X.env (eval (.Name x p1) X.env)=eval (.Name x p1) X.env)(k:Q (.ref l) {s with toks:=s.toks+1}):wpAny X.M X.A (eval (.Attribute (.Name x p1) "cells" p2) X.env) Q E s:=by obtain⟨h,mA,e1,e2,e3⟩:=T.ns;obtain⟨d,hdx⟩:=T.hd;have g2:=(I.aL _ _ hdx).1;refine xE hb<|bx I hv T.hx (get_map I.jR ⟨(I.aL _ _ T.ha).1,e2.at λo z=>?_,λz=>absurd (z.trans T.nx) (Nat.succ_ne_self dx).symm⟩ (hC.get "cells") hC.hd hn e3 rfl k) hd eZ;obtain rfl:=sj e1 z;exact g2
theorem AJ.len{C ad dx l:Addr}{od:Obj}{n:Nat}{p1 p2 pl pc:Pos}(T:AJ X x C ad dx l od n σ H)(hC:AS X.g.K C)(hn:iF X.g.K C "cells")(I:Inv X σ H ρ s)(hv:ij X.env.scope x)(hd:(x == ("__debug__" : Str))=false)(eZ:(x == ("__classdict__" : Str))=false)(hb:attributeBase (.Name x p1) "cells" X.env (eval (.Name x p1) X.env)=eval (.Name x p1) X.env)
  (hg:Gl X "len") (hm:X.g.mg "len" = none) (hs:starEach [.Attribute (.Name x p1) "cells" p2] X.env=(false,eval (.Attribute (.Name x p1) "cells" p2) X.env)::starEach [] X.env)
  (k:∀tk t,Q (.int n tk) {s with toks:=t}):wpAny X.M X.A (eval (.Call (.Name "len" pl) [.Attribute (.Name x p1) "cells" p2] [] pc) X.env) Q E s:=by
 refine bB false I hg hm PySem.boot_len ?_ (by decide) (by decide) hs rfl;rw[hs];refine VG<|T.cells hC hn I hv hd eZ hb<|Nd ?_;obtain⟨aO,m,q,hz⟩:=T.hl;have g2:=I.aL _ _ q;have h6:=T.n6;have h63:=oG;exact Calls.call_len_list (items:=aO) ⟨_,g2,rfl,m,rfl⟩ Uz (by rw[hz];exact k _ _)
theorem Inv.clr{t:Sl}(I:Inv X σ H ρ s)(h:ρ[j]?=some t)(ht:t=.no\/∃d,t=.sh d):Inv X σ H (ρ.set j .no) s:=by
 have jl:=(List.getElem?_eq_some_iff.mp h).1;refine I.gen (t':=s.toks) (λ_=>False) (λ_ z=>z.elim) (λ_ _=>rfl) (λ_ _ _ z=>z) (λ_ _ _ z=>z.elim) Qj (λl d k hl hk=>?_) (λ_ k t' ES=>?_) λ_ _ _ z=>z.elim;obtain⟨h1,h2⟩:=I.tg l d k hl hk;have:k≠j:=λz=>by subst z;rw[h] at h1;rcases ht with rfl|⟨_,rfl⟩<;>rcases h1 with z|z<;>cases z
 rw[Hb<|Wl this];exact⟨h1,h2⟩;by_cases z:k=j;subst z;rw[OG jl] at ES;cases ES;exact⟨t,h,λ_ _=>trivial⟩;rw[Hb<|Wl z] at ES;exact⟨t',ES,λ_ z=>z⟩
inductive WS(X:Cx)(ρ:ax)(j:Nat)(H0:Tm)(St:Nat->Tm->Prop)(T:Sg->Tm->Prop)(n m:Nat)(s:Shared):Prop|mk (i:Nat) (σ:Sg) (H:Tm) (t:Sl) (hm:m=n-i) (hi:i<=n) (I:Inv X σ H (ρ.set j t) s) (ht:t=.no\/∃d,t=.sh d) (l:Le H0 H) (st:St i H) (T:T σ H)
theorem Ay{Q:Flow->Shared->Prop}{H0:Tm}{C ad dx l:Addr}{od:Obj}{n:Nat}{y:Str}{pk pr pl sk Af GG T3 pH vH vI vJ T1 OJ pv:Pos}{c5:Int}{j5}(hc:X.calm=true)(XG:Gl X "range")(XU:X.g.mg "range" = none)(AM:Gl X "len")(Qb:X.g.mg "len" = none)
  (FG:X.N.Nodup) (hj:X.N[j]?=some y) (X4:Loc X.env.scope y) (X5:x≠y) (hfk:X.fn=true\/X.env.scope.names.lookup y=some .local)
  (hv:ij X.env.scope x) (hd:(x == ("__debug__" : Str))=false) (eZ:(x == ("__classdict__" : Str))=false)
  (Co:ij X.env.scope y) (hd2:(y == ("__debug__" : Str))=false) (MC:(y == ("__classdict__" : Str))=false)
  (Xq:attributeBase (.Name x sk) "cells" X.env (eval (.Name x sk) X.env)=eval (.Name x sk) X.env) (Xr:attributeBase (.Name x pH) "cells" X.env (eval (.Name x pH) X.env)=eval (.Name x pH) X.env)
  (XZ:starEach [.Attribute (.Name x sk) "cells" Af] X.env=(false,eval (.Attribute (.Name x sk) "cells" Af) X.env)::starEach [] X.env)
  (j2:starEach [.Call (.Name "len" pl) [.Attribute (.Name x sk) "cells" Af] [] GG] X.env=[(false,eval (.Call (.Name "len" pl) [.Attribute (.Name x sk) "cells" Af] [] GG) X.env)])
  (Sw:∀v,foldedSetIterable (.Call (.Name "range" pr) [.Call (.Name "len" pl) [.Attribute (.Name x sk) "cells" Af] [] GG] [] T3) X.env v=pure v)
  (ha:∀v,assign (.Subscript (.Attribute (.Name x pH) "cells" vH) (.Name y vI) vJ) X.env v=(do
   let ov <-holding [v] (eval (.Attribute (.Name x pH) "cells" vH) X.env);let iv <-holding [v,ov] (eval (.Name y vI) X.env)
   standAt vJ
   holding [v,ov,iv] (setItem ov iv v)
   release [v,ov,iv] []))
  (yq:swapsWithSole [.Subscript (.Attribute (.Name x pH) "cells" vH) (.Name y vI) vJ] (.Constant (.int c5) j5 pv) T1.line X.env=pure false) (jG:swappedStores [.Subscript (.Attribute (.Name x pH) "cells" vH) (.Name y vI) vJ] (.Constant (.int c5) j5 pv) X.env=pure none)
  (XH:(assignEach [.Subscript (.Attribute (.Name x pH) "cells" vH) (.Name y vI) vJ] X.env).map (·.2)=[assign (.Subscript (.Attribute (.Name x pH) "cells" vH) (.Name y vI) vJ) X.env])
  (hC:AS X.g.K C) (hn:iF X.g.K C "cells") (I:Inv X σ H ρ s) (T:AJ X x C ad dx l od n σ H) (rj:ρ[j]?=some .no) (l0:Le H0 H) (SH:H0 l=none)
  (k:∀s' cV H',Inv X cV H' ρ s'->Le H0 H'->Q .next s') :
  wpAny X.M X.A (exec (.For (.Name y pk) (.Call (.Name "range" pr) [.Call (.Name "len" pl) [.Attribute (.Name x sk) "cells" Af] [] GG] [] T3) [.Assign [.Subscript (.Attribute (.Name x pH) "cells" vH) (.Name y vI) vJ] (.Constant (.int c5) j5 pv) T1] [] OJ) X.env) Q E s:=by
 have n6:=T.n6;rw[xg] at n6;refine wpAny_For (Call_<|lH I XG XU boot_range<|zU ?_ j2 rfl) Sw;rw[j2];refine VG (rest:=[])<|T.len hC hn I hv hd eZ Xq AM Qb XZ λtk t=>Nd ?_;refine call_range_1<|oZ (tg:=.Name y pk) (I.tok t) (Le.refl (H:=H)) (small_one Uz Uz Uz Uz) (n:=n) (by rw[rangeSize_one];split<;>lia) λs1 H1 it fp St I1 l1 Wk Qs rE=>?_;have h0:∀b∈fp,X.H₀ b=none:=λb hb=>(rE b hb).2.2;have lf:∀{b e},H b=some e->e.fast->b∉fp:=λq f z=>(rE _ z).2.1 _ q f;obtain⟨ab3,m0,ql,_⟩:=T.hl;have nl:l∉fp:=lf ql trivial;have na:ad∉fp:=lf T.ha trivial;have nd:dx∉fp:=let ⟨_,q⟩:=T.hd;lf q trivial;have leB:∀{H' Y9:Tm},Le H0 H'->HR fp H' Y9->Le H0 Y9:=λa b c e q f=>b c e (lf (l0 c e q f) f) (a c e q f) f;have hz:((List.range n).map λ(k:Nat)=>D.int<|0+(k:Int)*1).length=n:=Qj;refine codeAny_forLoop_any (WS X ρ j H0 St (AJ X x C ad dx l od n) n) ?_ n ⟨0,σ,H1,.no,rfl,ZN _,?_,.inl rfl,l0.trans l1,Qs,T.mv rfl (l1 _) (l1 _) (let ⟨a,b,q,z⟩:=T.hl;⟨a,b,l1 _ _ q trivial,z⟩)⟩;rotate_left
 ·obtain⟨h1,h2⟩:=List.getElem?_eq_some_iff.mp rj;rw[<-h2,List.set_getElem_self];exact I1
 rintro m s2 ⟨i,vK,H2,t2,rfl,Sx,I2,Qd,l2,nz,T2⟩;have jl:=(List.getElem?_eq_some_iff.mp rj).1;have ej:(ρ.set j t2)[j]?=some t2:=OG jl;by_cases fj:i<n
 ·refine sT (Wk.item X vK i H2 _ s2 (.int<|0+(i:Int)*1) (λu s'=>∃H',Inv X vK H' (ρ.set j t2) s'/\HR fp H2 H'/\Rel H' u (.int<|0+(i:Int)*1)/\St (i+1) H') _ rfl hc I2 h0 nz (by simp[fj]) λs' H' u I' x r st=>⟨H',I',x,r,st⟩) λr s3 hr=>?_;obtain⟨u,rfl,h3⟩:=hr;refine sT h3 λ_ s4 ⟨H4,I4,x4,r4,Qt⟩=>?_;have T4:AJ X x C ad dx l od n vK H4:=T2.mv rfl (λe=>x4 _ e na) (λe=>x4 _ e nd) (let ⟨a,b,q,z⟩:=T2.hl;⟨a,b,x4 _ _ nl q trivial,z⟩);refine Q8<|I4.store FG hj X4 hfk (by rw[ej];rcases Qd with rfl|⟨_,rfl⟩<;>rfl) (.inl ⟨_,rfl,r4⟩) λs5 H5 I5 l5=>?_;rw[List.set_set] at I5;have T5:AJ X x C ad dx l od n (vK.put y u) H5:=T4.mv (YO X5) (l5 _) (l5 _) (let ⟨a,b,q,z⟩:=T4.hl;⟨a,b,l5 _ _ q trivial,z⟩);refine wpAny_execs_cons<|wpAny_Assign_stores (wpAny_Constant_int ?_) yq jG;rw[XH];show wpAny X.M X.A (assign (.Subscript (.Attribute (.Name x pH) "cells" vH) (.Name y vI) vJ) X.env _) _ _ _;rw[ha];obtain⟨tk,rfl⟩:=r4;refine Qf<|Tr<|T5.cells hC hn (I5.tok _) hv hd eZ Xr<|Qf<|Tr<|bx ((I5.tok _).tok _) Co (YN rfl) ?_ hd2 MC;refine Qf<|OE<|Qf<|Tr ?_;obtain⟨aO,m,ql,hz⟩:=T5.hl;have gl:=I5.aL _ _ ql;have q:=PySem.IsL.update gl (λaO=>aO.setIfInBounds i<|.int c5 s5.toks);refine W.ki_setAt gl Uz Uz (by rw[hz];lia)<|wpAny_release<|wpAny_execs_nil ?_;rw[show (0+(i:Int)*1).toNat=i by lia];obtain⟨I6,x6⟩:=I5.aF (t':=s5.toks+1+1) ql T5.l0 (λb o hb z=>(Hn s5.heap (Obj.mapSeq (λaO=>aO.setIfInBounds i<|.int c5 s5.toks))<|Wl hb).trans z) (some _) λ_ z=>by cases z;exact q
  have l6:∀{a e},H5 a=some e->e.fast->a≠l->pt H5 l ((some _).map .dg) a=some e:=λq f z=>x6 _ _ (by simpa using z) q f;refine⟨n-(i+1),Uz,i+1,_,_,_,rfl,fj,I6,.inr ⟨_,rfl⟩,λa e q' f=>l6 (l5 _ _ (leB l2 x4 a e q' f) f) f λz=>en SH<|z ▸ q',?_,?_⟩
  ·refine Wk.le _ _ _ Qt λa e q' f hx=>l6 (l5 _ _ q' f) f λz=>?_;rcases hx with ⟨o,d,rfl⟩|hb
   ·exact ek ql (z ▸ l5 _ _ q' f)
   ·exact nl (z ▸ hb)
  ·exact T5.mv rfl (λe q' f=>l6 q' f λz=>ek ql<|z ▸ T5.ha) (λe q' f=>l6 q' f λz=>by obtain⟨d,w⟩:=T5.hd;exact ek ql<|z ▸ w) ⟨_,_,YN rfl,by simp[hz]⟩
 ·have e:i=n:=Uz;subst e;refine sT (Wk.done X vK H2 _ s2 (λs'=>Q .next s') _ rfl hc I2 h0 (by rw[hz];exact nz) λs' H' I' x'=>?_) λr s3 hr=>?_
  ·have I3:=I'.clr ej Qd;rw[List.set_set] at I3;have:ρ.set j .no=ρ:=by obtain⟨h1,h2⟩:=List.getElem?_eq_some_iff.mp rj;rw[<-h2,List.set_getElem_self]
   rw[this] at I3;exact k s' vK H' I3 (leB l2 x')
  ·obtain⟨hr,h5⟩:=hr;subst hr;exact wpAny_execs_nil h5
end
end WL
end
section
set_option linter.all false
set_option maxRecDepth 100000
namespace WL
open PySem PySem.Spec PyProof.Rows L2 VP
section
variable{X:Cx}{σ:Sg}{H Hf H5 G:Tm}{ρ AG r:ax}{s s5:Shared}{p q x f:Str}{pp pq xp bg tp ZO vo MW:Pos}{ip iq i j k:Nat}{fA:Addr}{fd:FuncData}{ps:Xa}{fs:Fn}{cs:Xa}{u:Value}
theorem Inv.Xc(If:Inv X σ Hf r s)(vG:∀a e,Hf a=some e->e.fast)(I5:Inv X (σ.put x u) H5 AG s5)(l5:Le Hf H5)(FG:X.N.Nodup)(hi:X.N[i]?=some x)(oy:X.fn=true)(hG:∀b e,Hf b=some e->G b=some e) (hn:∀b e,G b=some e->Hf b=none->(∃o d,H5 b=some (.pin o d))/\kY X.g G s5.heap b e/\∀d i,e≠.ow d i):Inv X (σ.put x u) G ((r.set i .no).set j .no) s5:=by
 have lp:iA Hf G:=λb o d q=>hG b _ q;have cs:∀{b e},G b=some e->Hf b=some e\/Hf b=none:=λ{b e} w=>by cases z:Hf b with|none=>exact .inr rfl|some e'=>exact .inl ((hG b e' z).symm.trans w)
 refine⟨If.ok,I5.os,I5.bare,λa e q f=>hG a e (If.le a e q f),λa e w n=>?_,λb e w=>?_,I5.loc,λk sl w=>?_,λl d k w hk=>?_,?_,λy c e=>⟨(I5.cell y c e).1,.inl ?_⟩,by simp[If.len]⟩;rcases cs w with z|z;exact If.nw a e z n;obtain⟨⟨o,d,y⟩,_⟩:=hn a e w z;exact .inl<|(I5.nw a _ y n).elim id λ⟨_,y⟩=>nomatch y;rcases cs w with z|z;have x:=If.aL b e z;have x5:=I5.aL b e<|l5 b e z<|vG b e z;cases e with
 |pin o d=>
  refine⟨x5.1,λe y=>(x.2 e y).mv lp (λo' w=>?_) (λz=>nomatch z) λb' o' w' y=>?_⟩;obtain rfl:=sj x.1 w;exact x5.1;rcases w' with ⟨w',_⟩|⟨_,q',w'⟩
  cases w';obtain rfl:=sj (If.aL b' _ w').1 y;exact(I5.aL b' _<|l5 b' _ w' trivial).1
 |ow d i=>exact(vG b _ z).elim|cA b2=>exact(vG b _ z).elim|_=>exact x5
 exact(hn b e w z).2.1;by_cases zj:k=j;subst zj;have:=(List.getElem?_eq_some_iff.mp w).1;rw[OG (by simpa using this)] at w;cases w;have hk:k<X.N.length:=by simpa[If.len] using this
 exact⟨_,Te hk,trivial⟩;rw[Hb<|Wl zj] at w;by_cases zi:k=i;subst zi;have:=(List.getElem?_eq_some_iff.mp w).1;rw[OG (by simpa using this)] at w;cases w;exact⟨_,hi,trivial⟩;rw[Hb<|Wl zi] at w;obtain⟨y,hy,R⟩:=If.slot k sl w;have ne:y≠x:=λz=>zi<|oN FG hy<|z ▸ hi;refine⟨y,hy,?_⟩;have ey:σ.put x u y=σ y:=YO ne;rw[ey];cases sl with|no=>trivial|sh d=>obtain⟨v,a,b⟩:=R;exact⟨v,a,b.p lp⟩|ow d=>obtain⟨l,_,b⟩:=R;exact(vG l _ b).elim|io d=>obtain⟨l,_,b,_⟩:=R;exact(vG l _ b).elim
 rcases cs w with z|z;exact(vG l _ z).elim;exact absurd rfl<|(hn l _ w z).2.2 d k;cases w:G X.env.locals with|none=>rfl|some e=>obtain⟨⟨o,d,y⟩,_⟩:=hn _ e w If.fl;exact en I5.fl y
 have h0:Hf c=none:=(If.cell y c e).2.elim id λz=>by rw[oy] at z;cases z.1
 cases w:G c with|none=>rfl|some e'=>obtain⟨⟨o,d,z⟩,_⟩:=hn _ e' w h0;rcases (I5.cell y c e).2 with z'|z';exact en z' z;rw[oy] at z';cases z'.1
def PTl(X:Cx)(x:Str)(j:Nat)(st:Stmt):Prop:=∀{σ:Sg}{H H0:Tm}{ρ:ax}{s:Shared}{Q:Flow->Shared->Prop}{E:Tv}{C ad dx l:Addr}{od:Obj}{n:Nat},AS X.g.K C->iF X.g.K C "cells" -> Inv X σ H ρ s->AJ X x C ad dx l od n σ H->ρ[j]?=some .no->Le H0 H->H0 l=none->(∀s' cV H',Inv X cV H' ρ s'->Le H0 H'->Q .next s')->wpAny X.M X.A (exec st X.env) Q E s
theorem Q1i{d:D}(h:D8 cs d=true):∃d1 ds,d=.ins "Table" ["sides","cells"] [d1,.lst ds]/\("Table" : Str)∈cs/\bj d=false:=by unfold D8 at h;split at h;rename_i c ns d1 ds;simp only[Bool.and_eq_true,decide_eq_true_eq] at h;obtain⟨⟨h1,rfl⟩,rfl⟩:=h;exact⟨d1,ds,rfl,by simpa using h1,by rw[bj];rfl⟩;cases h
theorem Q2D(h:ρ.all vU=true):(ρ.map eL).all vU=true:=by rw[List.all_map];refine List.all_eq_true.mpr λt ht=>?_;have:=List.all_eq_true.mp h t ht;cases t<;>first|rfl|exact this
theorem Ew{cc:Bool}{test:Expr}{sa rest:List Stmt}{st3:Stmt}{hd:List (List (Str×Bool)×Option Nat×M Fl)}{h₀:ExceptHandler}{hs:List ExceptHandler}{ft:M Bool}{fr g:M Fl}(T:VS.AX X.g.K X.g.mg cs "cells")
  (F:pY cc X.g k fA fd ps [false,false] fs) (hr:cond cc (bA k X.A) (VS.fE k X.A)) (hg:Gl X f) (hm:X.g.mg f=some (.ref fA)) (hk:W.keepIn X.g.K (.ref fA)=true) (hb:Binds X.g.K fd ps []) (vD:[false,false].length=ps.length)
  (hp:X.N[ip]?=some p) (hq:X.N[iq]?=some q) (vp:ij X.env.scope p) (vq:ij X.env.scope q) (h1:(p == ("__debug__" : Str))=false) (h2:(p == ("__classdict__" : Str))=false) (h3:(q == ("__debug__" : Str))=false) (h4:(q == ("__classdict__" : Str))=false) (jP:(f == ("__debug__" : Str))=false)
  (he:starEach [.Name p pp,.Name q pq] X.env=(false,eval (.Name p pp) X.env)::starEach [.Name q pq] X.env) (P9:starEach [.Name q pq] X.env=(false,eval (.Name q pq) X.env)::starEach [] X.env) (gV:(backTo bg<|starEach [.Name q pq] X.env).any (·.1)=false)
  (FG:X.N.Nodup) (hi:X.N[i]?=some x) (hx:Loc X.env.scope x) (oy:X.fn=true) (yq:swapsWith (.Call (.Name f xp) [.Name p pp,.Name q pq] [] bg) (some<|.Name x tp) ZO.line X.env=pure false)
  (hh:PH X (h₀::hs) (DQ hd)) (ht:PB X test ft) (X1:gr X sa fr) (h5:PTl X x j st3) (h6:gr X rest g) :
  gr X (.Try [.Assign [.Name x tp] (.Call (.Name f xp) [.Name p pp,.Name q pq] [] bg) ZO] (h₀::hs) [] [] vo::.If test sa [] MW::st3::rest) (ve cs i j (ak (aM i<|aw fs [.val<|aa ip,.val<|aa iq]) aI) hd ft fr g):=λs σ H ρ Q E I o=>by
 unfold ve at o;by_cases hc:ρ.all vU=true;rw[YN hc] at o;have If:=I.eL;have lf:Le H (iO H):=n5;have cr:=Q2D hc;generalize ρ.map eL=r at If o cr;have vG:∀a e,iO H a=some e->e.fast:=λa e q=>(ku q).2;have Ic:=If.vT vG cr;have i0:=λ{b}=>I.Ny (b:=b);generalize iO H=Hf at If lf vG Ic;cases qm:aw fs [.val<|aa ip,.val<|aa iq] r with
  |no=>exfalso;unfold ak aM VP.Tp at o;rw[qm] at o;exact o|exc y r1=>
   have et:ak (aM i<|aw fs [.val<|aa ip,.val<|aa iq]) aI r=.exc y r1:=by unfold ak aM VP.Tp;rw[qm]
   rw[et] at o;dsimp only at o;refine wpAny_execs_cons<|wpAny_Try_except<|wpAny_execs_cons<|wpAny_Assign_Name (call2 (X:=RH X) (P:=λ_ _=>False) (E':=λy' r'=>y'=y/\r'=r1) F hr hg hm hk hb vD hp hq vp vq h1 h2 h3 h4 jP he P9 gV Ic (by rw[qm];exact⟨rfl,rfl⟩) (λ_ _ _ _ _ _ _ _ _ z=>z.elim) λs' H' a9 v y' I' l' xr z=>?_) yq;obtain⟨rfl,rfl⟩:=z;obtain⟨I3,Nc,Tj,no3⟩:=If.rst I' l';have xr3:EH X.g X.n₀ (jI Hf H') s' v y':=EH.rs xr Tj no3;generalize jI Hf H'=H3 at I3 Nc xr3;obtain⟨e,C,dx,rfl,J0,FQ,w,xa⟩:=xr3;refine rW I3 xa λh2 w2 I4 k4 x4=>iP none I4 x4 λh3 I5 k5 x5=>hh _ σ H3 a9 _ E e y' I5 ⟨C,dx,_,J0,FQ.imp id λ⟨b,o,h1,h2,f⟩=>⟨b,o,h1,h2,f.kp (s:=s')<|k4.trans k5⟩,x5⟩ ?_;cases z:DQ hd y' a9 with
    |ok a r2=>rw[z] at o;intro s6 td H6 b I6 l6 r6;cases a with|nx=>exact o.elim|bk=>cases r6;exact o s6 td H6 _ I6 (lf.trans<|Nc.trans l6) rfl|ct=>cases r6;exact o s6 td H6 _ I6 (lf.trans<|Nc.trans l6) rfl|rt d=>obtain⟨v,rfl,r⟩:=r6;exact o s6 td H6 _ I6 (lf.trans<|Nc.trans l6) ⟨v,rfl,r⟩
    |exc y r2=>exact absurd z Lj|no=>rw[z] at o;exact o
  |ok d r1=>
   have VD:free r1[i]?=true:=by by_cases z:free r1[i]?=true;exact z;exfalso;unfold ak aM VP.Tp xc j7 VP.Tp at o;rw[qm] at o;simp only[if_neg z] at o;exact o
   have et:ak (aM i<|aw fs [.val<|aa ip,.val<|aa iq]) aI r=.ok .nx (r1.set i<|.sh d):=by unfold ak aM VP.Tp xc j7 VP.Tp;rw[qm];simp only[if_pos VD];rfl
   rw[et] at o;dsimp only at o;refine wpAny_execs_cons<|wpAny_Try_except<|wpAny_execs_cons<|wpAny_Assign_Name (call2 (X:=RH X) (P:=λd' r'=>d'=d/\r'=r1) (E':=λ_ _=>False) F hr hg hm hk hb vD hp hq vp vq h1 h2 h3 h4 jP he P9 gV Ic (by rw[qm];exact⟨rfl,rfl⟩) (λs' H' a9 v d' I' l' r' nn z=>?_) λ_ _ _ _ _ _ _ _ z=>z.elim) yq;obtain⟨rfl,rfl⟩:=z;obtain⟨I3,Nc,Tj,_⟩:=If.rst I' l';refine I3.store FG hi hx (.inl oy) VD (.inl ⟨d',rfl,r'.p Tj⟩) λs4 H4 I4 l4=>wpAny_execs_nil<|wpAny_execs_nil ?_;have ZS:=Nc.trans l4;have Qh:iA H' H4:=λb o d q=>l4 _ _ (Tj b o d q) trivial;generalize jI Hf H'=H3 at I3 Nc l4 Tj;cases qf:ft (a9.set i<|.sh d') with
    |no=>rw[qf] at o;exact o.elim|exc y r2=>rw[qf] at o;refine wpAny_execs_cons<|wpAny_If<|ht s4 _ H4 _ _ _ I4 ?_;rw[qf];exactλs5 H5 v I5 l5 xr=>o s5 _ H5 v I5 (lf.trans<|ZS.trans l5) xr|ok b r2=>
     rw[qf] at o;refine wpAny_execs_cons<|wpAny_If<|ht s4 _ H4 _ _ _ I4 ?_;rw[qf];intro s5 H5 b' I5 l5 rb;have V6:=ZS.trans l5;cases rb;cases b with
     |true=>refine X1 s5 _ H5 r2 _ _ I5 ?_;dsimp only at o;cases qr:fr r2 with|no=>rw[qr] at o;exact o.elim|exc y r3=>rw[qr] at o;exactλs6 td H6 v I6 l6 xr=>o s6 td H6 v I6 (lf.trans<|V6.trans l6) xr|ok a r3=>rw[qr] at o;intro s6 td H6 b I6 l6 r6;have l:=lf.trans<|V6.trans l6;cases a with|nx=>exact o.elim|bk=>cases r6;exact o s6 td H6 _ I6 l rfl|ct=>cases r6;exact o s6 td H6 _ I6 l rfl|rt d=>obtain⟨v,rfl,r⟩:=r6;exact o s6 td H6 _ I6 l ⟨v,rfl,r⟩
     |false=>
      refine wpAny_execs_nil ?_;have il:i<a9.length:=by cases z:a9[i]? with|none=>rw[z] at VD;cases VD|some t=>exact(List.getElem?_eq_some_iff.mp z).1
      rw[OG il] at o;dsimp only at o;by_cases rD:(D8 cs d'&&free (a9.set i<|.sh d')[j]?)=true;rw[YN rD] at o;rw[Lp] at rD;obtain⟨d1,ds,rfl,zO,cd⟩:=Q1i rD.1;obtain⟨C,hmC,hC,hnC⟩:=T _ zO;obtain⟨a,oa,rfl,qa⟩:=r';obtain⟨C',dx,m,e,⟨Yw,qd⟩,ad,fl,kf,rr,z,mA,n,w1,w2,w3⟩:=(I'.aL a _ qa).2 _ rfl;obtain rfl:=sj (I'.aL a _ qa).1 e;obtain rfl:C'=C:=by have:=sj hmC m;cases this;rfl
      have jl:j<X.N.length:=by have:=rD.2;cases z:(a9.set i<|.sh<|.ins "Table" ["sides","cells"] [d1,.lst ds])[j]? with|none=>rw[z] at this;cases this|some t=>have:=(List.getElem?_eq_some_iff.mp z).1;rw[List.length_set,I'.len] at this;exact this
      obtain⟨u1,u2,rfl,r1,l,ol,rfl,ql⟩:=Ec kf rr;have Qb:mA "cells" = some (.ref l):=by rw[<-w1];rfl
      have dl:dx<l:=w3 l Qb;have sa':s.heap.objs.size<=a:=by
       rcases nn a _ qa with y|y;exfalso;cases zc:gv Hf a with
       |none=>exact y zc|some e=>
        rcases jg zc with ⟨w,v⟩|⟨o',d',w,v,rfl⟩
        have:=l' a e zc<|vG a e w;obtain rfl:=sj qa this;rw[v _ _ rfl] at cd;cases cd;have:=l' a _ zc trivial;obtain⟨_,y⟩:=YE qa this;cases y
       exact y
      have Hj:s.heap.objs.size<=l:=YM sa' (by rw[ad];exact dl);obtain⟨hz,us,ru,n',gl⟩:=(I'.aL l _ ql).2 _ rfl;obtain rfl:=sj (I'.aL l _ ql).1 gl;have Z9:=l5 _ _ (Qh _ _ _ qa) trivial;have YG:=l5 _ _ (Qh _ _ _ qd) trivial;have ql5:=l5 _ _ (Qh _ _ _ ql) trivial;have fa:=If.aL.fresh sa';have fl:=If.aL.fresh Hj;have nla:l≠a:=λz=>by subst z;obtain⟨_,y⟩:=YE qa ql;cases y
      have nld:l≠dx:=wq dl;have nad:a≠dx:=λz=>absurd (z.symm.trans ad) (Nat.succ_ne_self dx).symm;obtain⟨G,eG⟩:∃G:Tm,G=λb=>match Hf b with|some e=>some e|none=>if b=a then some (.pin (W.instObj C' dx) none) else if b=dx then some (.pin Yw<|some .aP) else if b=l then some (.dg {cls:=.type "list",data:=.seq us.toArray n'}) else none:=⟨_,rfl⟩
      have hG:∀b e,Hf b=some e->G b=some e:=λb e w=>by rw[eG];dsimp only;rw[w]
      have gN:∀b,Hf b=none->G b=if b=a then some (.pin (W.instObj C' dx) none) else if b=dx then some (.pin Yw<|some .aP) else if b=l then some (.dg {cls:=.type "list",data:=.seq us.toArray n'}) else none:=λb w=>by rw[eG];dsimp only;rw[w]
      clear eG;have Ga:G a=some (.pin (W.instObj C' dx) none):=(gN a fa).trans<|YN rfl;have Gl:G l=some (.dg {cls:=.type "list",data:=.seq us.toArray n'}):=(gN l fl).trans<|(YO nla).trans<|(YO nld).trans<|YN rfl;have Gd:∃d,G dx=some (.pin Yw d):=by cases w:Hf dx with|none=>exact⟨_,(gN dx w).trans<|(YO<|Wl nad).trans<|YN rfl⟩|some e=>have:=V6 _ _ w<|vG _ _ w;obtain rfl:=sj YG this;exact⟨_,hG _ _ w⟩
      have I6:=Inv.Xc (j:=j) If vG I5 V6 FG hi oy hG λb e w w0=>by rw[gN b w0] at w;split at w;rename_i y;subst y;cases w;exact⟨⟨_,_,Z9⟩,⟨(I5.aL _ _ Z9).1,λ_ y=>nomatch y⟩,λ_ _=>nofun⟩;split at w;rename_i y;subst y;cases w;exact⟨⟨_,_,YG⟩,⟨(I5.aL _ _ YG).1,λ_ y=>by cases y;trivial⟩,λ_ _=>nofun⟩;split at w;rename_i y;subst y;cases w;exact⟨⟨_,_,ql5⟩,(I5.aL _ _ ql5).1,λ_ _=>nofun⟩;cases w
      refine wpAny_execs_cons<|h5 hC hnC I6 ⟨YN rfl,Ga,Gd,⟨_,_,Gl,by rw[Yl]⟩,i0 Hj,ad,⟨s'.heap,mA,(I'.aL _ _ qd).1,n,Qb⟩,by rw[ru.length];exact hz⟩ (OG (by rw[List.length_set,If.len];exact jl)) (λb e w f=>hG b e w) fl λs7 EE H7 I7 l7=>h6 s7 EE H7 _ Q E I7<|Out.Td o<|lf.trans l7;rw[YO rD] at o;exact o.elim
 rw[YO hc] at o;exact o.elim
end
end WL
end
section
set_option linter.all false
set_option maxRecDepth 100000
namespace WL
open PySem PySem.Spec PyProof.Rows L2 VP VS
section
variable{X:Cx}{p q x y f:Str}{pp pq xp bg tp ZO vo MW pk pr pl sk Af GG T3 pH vH vI vJ T1 OJ pv:Pos}{k n:Nat}{fs:Fn}{cs:Xa}{c5:Int}{j5:Nat}
theorem U7(i j ip iq:Nat){test:Expr}{sa rest:List Stmt}{hd:List (List (Str×Bool)×Option Nat×M Fl)}{h₀:ExceptHandler}{hs:List ExceptHandler}{ft:M Bool}{fr g:M Fl}(W:∃st ps fA fd,pI X.g.K X.g.mg f st ps fA fd/\zo X.g k fA fd ps [false,false] fs)(hr:bA n X.A)(T:VS.AX X.g.K X.g.mg cs "cells")(XU:X.g.mg "range" = none)(Qb:X.g.mg "len" = none)(FG:X.N.Nodup)
  (hh:PH X (h₀::hs) (DQ hd)) (ht:PB X test ft) (X1:gr X sa fr) (h6:gr X rest g)
  (hk:k<=n:=by exact Mc) (hg:Gl X f:=by rfl) (hp:X.N[ip]?=some p:=by rfl) (hq:X.N[iq]?=some q:=by rfl) (hi:X.N[i]?=some x:=by rfl) (hj:X.N[j]?=some y:=by rfl) (vp:ij X.env.scope p:=by exact Or.inl rfl) (vq:ij X.env.scope q:=by exact Or.inl rfl) (hx:Loc X.env.scope x:=by exact Or.inl rfl) (X4:Loc X.env.scope y:=by exact Or.inl rfl) (hv:ij X.env.scope x:=by exact Or.inl rfl) (Co:ij X.env.scope y:=by exact Or.inl rfl)
  (h1:RI p:=by decide) (h2:v8 p:=by decide) (h3:RI q:=by decide) (h4:v8 q:=by decide) (jP:RI f:=by decide) (MD:RI x:=by decide) (eZ:v8 x:=by decide) (hd2:RI y:=by decide) (MC:v8 y:=by decide) (X5:x≠y:=by decide)
  (oy:X.fn=true:=by rfl) (hc:X.calm=true:=by rfl) (XG:Gl X "range" := by rfl) (AM:Gl X "len" := by rfl)
  (he:starEach [.Name p pp,.Name q pq] X.env=(false,eval (.Name p pp) X.env)::starEach [.Name q pq] X.env:=by rfl) (P9:starEach [.Name q pq] X.env=(false,eval (.Name q pq) X.env)::starEach [] X.env:=by rfl) (gV:(backTo bg<|starEach [.Name q pq] X.env).any (·.1)=false:=by rfl)
  (X2:swapsWith (.Call (.Name f xp) [.Name p pp,.Name q pq] [] bg) (some<|.Name x tp) ZO.line X.env=pure false:=by rfl)
  (Xq:attributeBase (.Name x sk) "cells" X.env (eval (.Name x sk) X.env)=eval (.Name x sk) X.env:=by rfl) (Xr:attributeBase (.Name x pH) "cells" X.env (eval (.Name x pH) X.env)=eval (.Name x pH) X.env:=by rfl)
  (XZ:starEach [.Attribute (.Name x sk) "cells" Af] X.env=(false,eval (.Attribute (.Name x sk) "cells" Af) X.env)::starEach [] X.env:=by rfl)
  (j2:starEach [.Call (.Name "len" pl) [.Attribute (.Name x sk) "cells" Af] [] GG] X.env=[(false,eval (.Call (.Name "len" pl) [.Attribute (.Name x sk) "cells" Af] [] GG) X.env)]:=by rfl)
  (Sw:∀v,foldedSetIterable (.Call (.Name "range" pr) [.Call (.Name "len" pl) [.Attribute (.Name x sk) "cells" Af] [] GG] [] T3) X.env v=pure v:=by exact A1)
  (ha:∀v,assign (.Subscript (.Attribute (.Name x pH) "cells" vH) (.Name y vI) vJ) X.env v=(do
   let ov <-holding [v] (eval (.Attribute (.Name x pH) "cells" vH) X.env);let iv <-holding [v,ov] (eval (.Name y vI) X.env)
   standAt vJ
   holding [v,ov,iv] (setItem ov iv v)
   release [v,ov,iv] []):=by exact A1)
  (yq:swapsWithSole [.Subscript (.Attribute (.Name x pH) "cells" vH) (.Name y vI) vJ] (.Constant (.int c5) j5 pv) T1.line X.env=pure false:=by rfl) (jG:swappedStores [.Subscript (.Attribute (.Name x pH) "cells" vH) (.Name y vI) vJ] (.Constant (.int c5) j5 pv) X.env=pure none:=by rfl)
  (XH:(assignEach [.Subscript (.Attribute (.Name x pH) "cells" vH) (.Name y vI) vJ] X.env).map (·.2)=[assign (.Subscript (.Attribute (.Name x pH) "cells" vH) (.Name y vI) vJ) X.env]:=by rfl) :
  gr X (.Try [.Assign [.Name x tp] (.Call (.Name f xp) [.Name p pp,.Name q pq] [] bg) ZO] (h₀::hs) [] [] vo::.If test sa [] MW::.For (.Name y pk) (.Call (.Name "range" pr) [.Call (.Name "len" pl) [.Attribute (.Name x sk) "cells" Af] [] GG] [] T3) [.Assign [.Subscript (.Attribute (.Name x pH) "cells" vH) (.Name y vI) vJ] (.Constant (.int c5) j5 pv) T1] [] OJ::rest) (ve cs i j (ak (aM i<|aw fs [.val<|aa ip,.val<|aa iq]) aI) hd ft fr g):=
 let ⟨_,_,_,_,D,F⟩:=W
 Ew T F.2 (hr.mono hk) hg D.mg D.fu.kp D.bi F.1 hp hq vp vq h1 h2 h3 h4 jP he P9 gV FG hi hx oy X2 hh ht X1 (λhC hn I Tl rj l0 SH kk=>Ay hc XG XU AM Qb FG hj X4 X5 (.inl oy) hv MD eZ Co hd2 MC Xq Xr XZ j2 Sw ha yq jG XH hC hn I Tl rj l0 SH kk) h6
end
end WL
end
section
namespace VP
section
variable{α β:Type}
noncomputable def Res.then{α β:Type}:Res α->(α->M β)->Res β|.ok a r,g=>g a r|.exc x r,_=>.exc x r|.no,_=>.no
noncomputable def Res.seq:Res Fl->M Fl->Res Fl|.ok .nx r,g=>g r|.ok k r,_=>.ok k r|.exc x r,_=>.exc x r|.no,_=>.no
noncomputable def Res.turn:Res Fl->M Fl->Res Fl|.ok .nx r,g=>g r|.ok .ct r,g=>g r|.ok .bk r,_=>.ok .nx r|.ok (.rt d) r,_=>.ok (.rt d) r|.exc x r,_=>.exc x r|.no,_=>.no
@[simp] theorem ag(a:α)(r:ax)(g:α->M β):(Res.ok a r).then g=g a r:=Tf
@[simp] theorem D9(x:Xn)(r:ax)(g:α->M β):(Res.exc x r:Res α).then g=.exc x r:=Tf
@[simp] theorem Q2T(c:Prop)[Decidable c](a b:Res α)(g:α->M β):(if c then a else b).then g=if c then a.then g else b.then g:=by split<;>rfl
@[simp] theorem Q10(r:ax)(g:M Fl):(Res.ok .nx r).seq g=g r:=Tf
@[simp] theorem Q0b(d:D)(r:ax)(g:M Fl):(Res.ok (.rt d) r).seq g=.ok (.rt d) r:=Tf
@[simp] theorem Q0G(c:Prop)[Decidable c](a b:Res Fl)(g:M Fl):(if c then a else b).seq g=if c then a.seq g else b.seq g:=by split<;>rfl
@[simp] theorem Q1e(r:ax)(g:M Fl):(Res.ok .nx r).turn g=g r:=Tf
@[simp] theorem HB(d:D)(r:ax)(g:M Fl):(Res.ok (.rt d) r).turn g=.ok (.rt d) r:=Tf
@[simp] theorem bT(a:α)(r:ax):ret a r=.ok a r:=Tf
@[simp] theorem bw(a:α):opt (some a)=ret a:=Tf
theorem au(f:M α)(g:α->M β)(r:ax):Tp f g r=(f r).then g:=by unfold Tp;cases f r<;>rfl
@[simp] theorem Q2V(d:D)(r:ax):mC d r=.ok d r:=Tf
@[simp] theorem Kj(g:D->Pu)(a:M D)(r:ax):m1 g a r=(a r).then λx=>opt (g x):=au _ _ _
@[simp] theorem Q1T(g:D->D->Pu)(a b:M D)(r:ax):m2 g a b r=(a r).then λx r=>(b r).then λy=>opt (g x y):=by unfold m2;rw[au];congr;funext x r;exact au _ _ _
@[simp] theorem Q04(r:ax):mL [] r=.ok [] r:=Tf
@[simp] theorem Gg(f:M D)(fs:List (M D))(r:ax):mL (f::fs) r=(f r).then λx r=>(mL fs r).then λxs=>ret (x::xs):=by
 conv=>lhs;unfold mL
 rw[au];congr;funext x r;exact au _ _ _
@[simp] theorem Tx(g:Vt->Pu)(as:List (M D))(r:ax):mF g as r=(mL as r).then λxs=>opt (g xs):=au _ _ _
@[simp] theorem Gm(as:List (M D))(r:ax):bY as r=(mL as r).then λxs=>opt (Hx xs):=au _ _ _
@[simp] theorem Gh(as:List (M D))(r:ax):fX as r=(mL as r).then λxs=>opt (z7 xs):=au _ _ _
def boolOf:D->M Bool|.bl b=>ret b|_=>stuck
@[simp] theorem Q11(b:Bool):boolOf (.bl b)=ret b:=Tf
@[simp] theorem UM(a:M D)(r:ax):tB a r=(a r).then boolOf:=by unfold tB;rw[au];cases a r with|ok d r'=>cases d<;>rfl|_=>rfl
@[simp] theorem Hr(a:M Bool)(r:ax):i7 a r=(a r).then λb=>ret (!b):=au _ _ _
@[simp] theorem Q0n(a b:M Bool)(r:ax):mR a b r=(a r).then λx r=>if x=true then b r else .ok false r:=by unfold mR;rw[au];congr;funext x r;cases x<;>rfl
@[simp] theorem Q2Q(a b:M Bool)(r:ax):y9 a b r=(a r).then λx r=>if x=true then .ok true r else b r:=by unfold y9;rw[au];congr;funext x r;cases x<;>rfl
@[simp] theorem Nj(c:M Bool)(a b:M D)(r:ax):Ni c a b r=(c r).then λx r=>if x=true then a r else b r:=by unfold Ni;rw[au];congr;funext x r;cases x<;>rfl
@[simp] theorem CM(a b:M D)(r:ax):oK a b r=((a r).then boolOf).then λx r=>if x=true then b r else .ok (.bl false) r:=by
 unfold oK;rw[au];cases a r with
 |ok d r'=>
  cases d<;>try rfl
  rename_i b;cases b<;>rfl
 |_=>rfl
@[simp] theorem Gi(a b:M D)(r:ax):CS a b r=((a r).then boolOf).then λx r=>if x=true then .ok (.bl true) r else b r:=by
 unfold CS;rw[au];cases a r with
 |ok d r'=>
  cases d<;>try rfl
  rename_i b;cases b<;>rfl
 |_=>rfl
@[simp] theorem Q2U(r:ax):aI r=.ok .nx r:=Tf
@[simp] theorem sJ(f g:M Fl)(r:ax):ak f g r=(f r).seq g:=by unfold ak Tp;cases f r with|ok k r'=>cases k<;>rfl|_=>rfl
@[simp] theorem pe(f:M Unit)(r:ax):xc f r=(f r).then λ_=>ret .nx:=au _ _ _
@[simp] theorem yZ(f:M D)(r:ax):aY f r=(f r).then λd=>ret (.rt d):=au _ _ _
@[simp] theorem O5(c:M Bool)(a b:M Fl)(r:ax):ef c a b r=(c r).then λx r=>if x=true then a r else b r:=by unfold ef;rw[au];congr;funext x r;cases x<;>rfl
@[simp] theorem y4(i:Nat)(f:M D)(r:ax):aM i f r=(f r).then λd r=>if free r[i]?=true then .ok .nx (r.set i<|.sh d) else .no:=by unfold aM;rw[au];congr;funext d r;rw[pe];unfold j7;split<;>rfl
@[simp] theorem Q0h(i:Nat)(f:M D)(r:ax):iC i f r=(f r).then λd r=>if free r[i]?=true then .ok .nx (r.set i<|.ow d) else .no:=by unfold iC;rw[au];congr;funext d r;rw[pe];unfold Aa;split<;>rfl
@[simp] theorem O4(i:Nat)(f:M Fl)(r:ax):AR i f r=(Nh i r).then λ_=>f:=au _ _ _
noncomputable def UC:Option Sl->Option D|some (.sh d)=>some d|_=>none
noncomputable def anyOf:Option Sl->Option D|some (.sh d)=>some d|some (.ow d)=>some d|some (.io d)=>some d|_=>none
@[simp] theorem Q0s(d:D):UC (some<|.sh d)=some d:=Tf
@[simp] theorem Q0i:free (some .no)=true:=Tf
@[simp] theorem Q1c(d:D):free (some<|.sh d)=true:=Tf
@[simp] theorem wM(d:D):own (some<|.ow d)=some d:=Tf
@[simp] theorem Q2c(d:D):own (some<|.io d)=some d:=Tf
@[simp] theorem Gn(i:Nat)(r:ax):aa i r=opt (UC r[i]?) r:=by unfold aa;cases h:r[i]? with|none=>rfl|some s=>cases s<;>rfl
@[simp] theorem Nk(i:Nat)(r:ax):vE i r=opt (anyOf r[i]?) r:=by unfold vE;cases h:r[i]? with|none=>rfl|some s=>cases s<;>rfl
noncomputable def Zt(i:Nat)(r:ax):Option Sl->Res Unit|some (.ow d)=>.ok () (r.set i<|.sh d)|some (.sh _)=>.ok () r|_=>.no
@[simp] theorem Q0a(i:Nat)(r:ax):Nh i r=Zt i r r[i]?:=by unfold Nh;cases h:r[i]? with|none=>rfl|some s=>cases s<;>rfl
@[simp] theorem Q2a(i:Nat)(r:ax)(d:D):Zt i r (some<|.ow d)=.ok () (r.set i<|.sh d):=Tf
noncomputable def OP(i:Nat)(r:ax):Option Sl->D->ax|some (.ow _),d=>r.set i (.ow d)|some (.io _),d=>r.set i (.io d)|_,_=>r
@[simp] theorem kN(i:Nat)(d:D)(r:ax):cu i d r=OP i r r[i]? d:=by unfold cu;cases h:r[i]? with|none=>rfl|some s=>cases s<;>rfl
@[simp] theorem sr(i:Nat)(r:ax)(e d:D):OP i r (some<|.ow e) d=r.set i (.ow d):=Tf
@[simp] theorem Q0X(i:Nat)(r:ax)(e d:D):OP i r (some<|.io e) d=r.set i (.io d):=Tf
@[simp] theorem kL(i:Nat)(g:D->Pu)(r:ax):gM i g r=(opt (own r[i]?) r).then λd r=>(opt (g d) r).then λd' r=>.ok () (cu i d' r):=by unfold gM;cases own r[i]? with|none=>rfl|some d=>simp only[bw,bT,ag];cases g d<;>rfl
@[simp] theorem yW(i:Nat)(fe:M D)(r:ax):jJ i fe r=if isLst (own r[i]?)=true then(fe r).then λx r=>(gM i (df x) r).then λ_=>ret .nx else .no:=by unfold jJ;split;rw[au];congr;funext x r;exact pe _ _;rfl
@[simp] theorem isLst_lst(ds:Vt):isLst (some<|.lst ds)=true:=Tf
@[simp] theorem Ap(i:Nat)(fk fv:M D)(r:ax):ke i fk fv r=(fv r).then λv r=>if isLst (own r[i]?)=true then(fk r).then λk r=>(gM i (setAt k v) r).then λ_=>ret .nx else .no:=by unfold ke;rw[au];congr;funext v r;split;rw[au];congr;funext k r;exact pe _ _;rfl
@[simp] theorem ky(i:Nat)(d:D)(r:ax):aq i d r=if free r[i]?=true then .ok () (r.set i<|.sh d) else .no:=Tf
@[simp] theorem yG(i:Nat)(d:D)(r:ax):j7 i d r=if free r[i]?=true then .ok () (r.set i<|.sh d) else .no:=Tf
@[simp] theorem Q08(r:ax):pO [] [] r=.ok () r:=Tf
@[simp] theorem qw(i:Nat)(is:YK)(d:D)(ds:Vt)(r:ax):pO (i::is) (d::ds) r=(j7 i d r).then λ_=>pO is ds:=au _ _ _
@[simp] theorem Q1S(is:YK)(ds:Vt):fW is (.tup ds)=pO is ds:=Tf
@[simp] theorem yX(it:M (List D))(g:D->M Unit)(body:M Fl)(r:ax):iY it g body r=(it r).then λds=>loop g body ds:=au _ _ _
@[simp] theorem gJ(g:D->M Unit)(body:M Fl)(d:D)(ds:Vt)(r:ax):loop g body (d::ds) r=(g d r).then λ_ r=>(body r).turn (loop g body ds):=by
 conv=>lhs;unfold loop
 rw[au];congr;funext u r;rw[au];cases body r with|ok k r'=>cases k<;>rfl|_=>rfl
@[simp] theorem Q0W(k:Nat)(g:D->M Unit)(test:M Bool)(elt:M D)(r:ax):turns k g test elt [] r=.ok () r:=Tf
@[simp] theorem dY(k:Nat)(g:D->M Unit)(test:M Bool)(elt:M D)(d:D)(ds:Vt)(r:ax):turns k g test elt (d::ds) r=(g d r).then λ_ r=>(test r).then λb r=>if b=true then(elt r).then λx r=>(gM k (df x) r).then λ_=>turns k g test elt ds else turns k g test elt ds r:=by
 conv=>lhs;unfold turns
 rw[au];congr;funext u r;rw[au];congr;funext b r;cases b with|true=>simp only[if_true];rw[au];congr;funext x r;exact au _ _ _|false=>rfl
theorem iV(n:Nat)(it:M (List D))(g:D->M Unit)(test:M Bool)(elt:M D)(r:ax):aD n it g test elt r=(it r).then λds=>inner n λk=>turns k g test elt ds:=au _ _ _
def fin(fl:ZU):Res Fl->FR
|.ok (.rt d) r=>match bp fl r with
  |some ios=>.ok d ios|none=>.no
 |.ok .nx r=>match bp fl r with|some ios=>.ok .aP ios|none=>.no
 |.exc x r=>match bp fl r with|some ios=>.exc x ios|none=>.no
 |_=>.no
theorem gh(n:Nat)(fl:ZU)(body:M Fl)(ds:Vt)(h:ds.length=fl.length):defn n fl body ds=fin fl (body<|aU n fl ds):=by unfold defn;rw[YN h];cases body (aU n fl ds) with|ok k r=>cases k<;>rfl|_=>rfl
def Bd(js:YK)(r:ax):FR->Res D|.ok d ios=>.ok d (putAll js ios r)|.exc x ios=>.exc x (putAll js ios r)|.no=>.no
@[simp] theorem nR(js:YK)(r:ax)(d:D)(ios:Vt):Bd js r (.ok d ios)=.ok d (putAll js ios r):=Tf
@[simp] theorem zE(js:YK)(r:ax)(x:Xn)(ios:Vt):Bd js r (.exc x ios)=.exc x (putAll js ios r):=Tf
@[simp] theorem wX(ds:Vt)(r:ax):putAll [] ds r=r:=Tf
@[simp] theorem u4(j:Nat)(js:YK)(d:D)(ds:Vt)(r:ax):putAll (j::js) (d::ds) r=putAll js ds (cu j d r):=Tf
@[simp] theorem Q05(r:ax):aV [] r=.ok [] r:=Tf
@[simp] theorem Q0K(f:M D)(as:List Arg)(r:ax):aV (.val f::as) r=(f r).then λd r=>(aV as r).then λvs=>ret (.val d::vs):=by
 conv=>lhs;unfold aV
 rw[au];congr;funext x r;exact au _ _ _
@[simp] theorem Q2e(r:ax):gu [] r=some []:=Tf
@[simp] theorem mY(d:D)(as:List AV)(r:ax):gu (.val d::as) r=(gu as r).map (d::·):=Tf
@[simp] theorem LN(j:Nat)(as:List AV)(r:ax):gu (.io j::as) r=(own r[j]?).bind λd=>(gu as r).map (d::·):=by
 conv=>lhs;unfold gu
 cases own r[j]?<;>rfl
@[simp] theorem Q2Z:bI []=[]:=Tf
@[simp] theorem Ct(d:D)(as:List AV):bI (.val d::as)=bI as:=Tf
@[simp] theorem Q1d(j:Nat)(as:List AV):bI (.io j::as)=j::bI as:=Tf
@[simp] theorem uL(f:Fn)(as:List Arg)(r:ax):aw f as r=(aV as r).then λvs=>oL f vs:=au _ _ _
@[simp] theorem m9(f:Fn)(vs:List AV)(r:ax):oL f vs r=(opt (gu vs r) r).then λds r=>if (bI vs).Nodup then Bd (bI vs) r (f ds) else .no:=by unfold oL;cases gu vs r with|none=>rfl|some ds=>simp only[bw,bT,ag];split;cases f ds<;>rfl;rfl
@[simp] theorem Q0e(n:Nat)(b:Bool)(bs:ZU)(d:D)(ds:Vt):aU (n+1) (b::bs) (d::ds)=(if b=true then .io d else .sh d)::aU n bs ds:=by cases b<;>rfl
@[simp] theorem Q07(n:Nat):aU n [] []=List.replicate n .no:=Tf
@[simp] theorem tw(i j:Int):bq (.int i) (.int j)=some (.int<|i+j):=Tf
@[simp] theorem sP(i j:Int):gR (.int i) (.int j)=some (.int<|i-j):=Tf
@[simp] theorem Gw(i:Int):rS (.int i)=some (.int<|-i):=Tf
@[simp] theorem gA(i j:Int):ltI (.int i) (.int j)=some (.bl<|decide<|i<j):=Tf
@[simp] theorem iT(i j:Int):CH (.int i) (.int j)=some (.bl<|decide<|i<=j):=Tf
@[simp] theorem Q0o(i j:Int):Mx (.int i) (.int j)=some (.bl<|decide<|j<i):=Tf
@[simp] theorem B9(i j:Int):VH (.int i) (.int j)=some (.bl<|decide<|j<=i):=Tf
theorem cE(i j:Int)(h:0<j):eJ (.int i) (.int j)=some (.int<|i % j):=YN h
theorem gI(i j:Int)(h:0<j)(h2:j<1073741824):qt (.int i) (.int j)=some (.int<|i / j):=YN ⟨h,h2⟩
theorem jq(i j:Int)(h:-(2 ^ 64)<i)(h2:i<2 ^ 64):pR (.int i) (.int j)=some (.int<|i*j):=YN (.inl ⟨h,h2⟩)
theorem cU(i j:Int)(h:-(2 ^ 64)<j)(h2:j<2 ^ 64):pR (.int i) (.int j)=some (.int<|i*j):=YN (.inr ⟨h,h2⟩)
@[simp] theorem eX(i j:Int):dP (.int i) (.int j)=some (.bl<|decide<|i=j):=by simp[dP,plain,ug];rfl
@[simp] theorem bX(i j:Int):gW (.int i) (.int j)=some (.bl<|!decide (i=j)):=by simp[gW,plain,ug];rfl
@[simp] theorem Q0I(ds:Vt):bG (.tup ds)=some (.int ds.length):=Tf
@[simp] theorem Q0A(ds:Vt):bG (.lst ds)=some (.int ds.length):=Tf
@[simp] theorem rP(i j:Int):maxD [.int i,.int j]=some (.int<|max i j):=by simp only[maxD,Option.some.injEq,D.int.injEq];split<;>lia
@[simp] theorem Q0J(ds:Vt):b6 (.tup ds)=some ds:=Tf
@[simp] theorem DT(ds:Vt):b6 (.lst ds)=some ds:=Tf
@[simp] theorem Gk(f:M D)(r:ax):cR f r=(f r).then λd=>opt (b6 d):=au _ _ _
@[simp] theorem CV(fl:List (M D))(r:ax):bH fl r=(mL fl r).then λxs=>opt (sE xs):=au _ _ _
@[simp] theorem Gp(fl:List (M D))(r:ax):uQ fl r=(mL fl r).then λxs=>opt (xA xs):=au _ _ _
noncomputable def SW(n:Nat):Vt:=(List.range n).map λ(i:Nat)=>D.int i
theorem Q0H(j:Int)(h:-(2 ^ 62)<=j)(h2:j<2 ^ 62):sE [.int j]=some (SW j.toNat):=YN ⟨h,h2⟩
theorem Hy(ds:Vt)(h:ds.length<=16777216):Hx ds=some (.tup ds):=YN h
theorem F6(ds:Vt)(h:ds.length<=16777216):z7 ds=some (.lst ds):=YN h
@[simp] theorem bnd:z7 []=some (.lst []):=Tf
@[simp] theorem Q0c(a:D):z7 [a]=some (.lst [a]):=Tf
theorem gY(x:D)(xs:Vt)(h:xs.length<16777216):df x (.lst xs)=some (.lst<|xs++[x]):=by show (if _ then _ else _)=_;rw[YN h]
theorem Q0S(xs ys:Vt)(h:xs.length+ys.length<=gU):bq (.tup xs) (.tup ys)=some (.tup<|xs++ys):=YN h
theorem Q1Q(xs ys:Vt)(h:xs.length+ys.length<=gU):bq (.lst xs) (.lst ys)=some (.lst<|xs++ys):=YN h
theorem lF(xs:Vt)(i:Int)(d:D)(h0:0<=i)(h:xs[i.toNat]?=some d):wk xs i=some d:=by have hl:=(List.getElem?_eq_some_iff.mp h).1;unfold wk mj;rw[YN h0,YN Uz];exact h
@[simp] theorem Q0V(xs:Vt)(i:Int):aj (.tup xs) (.int i)=wk xs i:=Tf
@[simp] theorem qB(xs:Vt)(i:Int):aj (.lst xs) (.int i)=wk xs i:=Tf
def intOf:D->M (Option Int)|.int i=>ret (some i)|_=>stuck
@[simp] theorem wz(f:M D)(r:ax):kK (some f) r=(f r).then intOf:=by show Tp f _ r=_;rw[au];cases f r with|ok d r'=>cases d<;>rfl|_=>rfl
@[simp] theorem Q1F(g:D->Vy->Vy->Pu)(f:M D)(lo hi:Option (M D))(r:ax):vF g f lo hi r=(f r).then λd r=>(kK lo r).then λl r=>(kK hi r).then λh=>opt (g d l h):=by unfold vF;rw[au];congr;funext d r;rw[au];congr;funext l r;exact au _ _ _
@[simp] theorem Ng(g g2:D->D->Pu)(a b c:M D)(r:ax):F8 g g2 a b c r=(a r).then λx r=>(b r).then λy r=>((opt (g x y) r).then boolOf).then λk r=>if k=true then(c r).then λz=>opt (g2 y z) else .ok (.bl false) r:=by
 unfold F8;rw[au];congr;funext x r;rw[au];congr;funext y r;rw[au];cases g x y with
 |none=>rfl|some d=>
  cases d<;>try rfl
  rename_i k;cases k;rfl;exact au _ _ _
@[simp] theorem Gj(f:M D)(r:ax):CU f r=(f r).then λd=>opt ((b6 d).map List.reverse):=au _ _ _
@[simp] theorem Bw(xs:Vt)(lo hi:Vy):fK (.tup xs) lo hi=some (.tup<|cutD xs lo hi):=Tf
@[simp] theorem Q0E(xs:Vt)(lo hi:Vy):fK (.lst xs) lo hi=some (.lst<|cutD xs lo hi):=Tf
theorem b7{r:ax}{xs:ax}{s s':Sl}:(r++s::xs).set r.length s'=r++s'::xs:=by rw[List.set_append_right _ _<|Wd _];simp
theorem bS{r:ax}{xs:ax}{s:Sl}:(r++s::xs)[r.length]?=some s:=by rw[Oy<|Wd _];simp
theorem kT{r:ax}{s:Sl}{acc:Vt}{x:D}(h:acc.length<16777216):gM (r.length+1) (df x) (r++[s,.ow<|.lst acc])=.ok () (r++[s,.ow<|.lst<|acc++[x]]):=by have e:r++[s,Sl.ow<|.lst acc]=(r++[s])++Sl.ow (.lst acc)::[]:=Qj;have e2:r.length+1=(r++[s]).length:=Qj;rw[e,e2,kL,bS];simp only[wM,bw,bT,ag,gY x acc h,kN,bS,sr,b7];simp
theorem Q1I(t:D->Bool)(f:D->D)(lC:it r=.ok ds r)(hk:k=r.length)(hL:ds.length<=16777216)
  (ht:∀d∈ds,∀acc,test (r++[.sh d,.ow acc])=.ok (t d) (r++[.sh d,.ow acc]))
  (he:∀d∈ds,t d=true->∀acc,elt (r++[.sh d,.ow acc])=.ok (f d) (r++[.sh d,.ow acc])) :
  aD 1 it (aq k) test elt r=.ok (.lst<|(ds.filter t).map f) r:=by
 subst hk;have key:∀(es:Vt)(acc:Vt)(s:Sl),free (some s)=true->(∀d∈es,d∈ds)->acc.length+es.length<=16777216->∃s',turns (r.length+1) (aq r.length) test elt es (r++[s,.ow<|.lst acc])=.ok () (r++[s',.ow<|.lst<|acc++(es.filter t).map f]):=by
  intro es;induction es with
  |nil=>intro acc s _ _ _;exact⟨s,Qj⟩|cons d es ih=>
   intro acc s hs hm hl;have hd:=hm d R9;have J0:∀x∈es,x∈ds:=λx hx=>hm x<|Pe _ hx;have e1:aq r.length d (r++[s,.ow<|.lst acc])=.ok () (r++[.sh d,.ow<|.lst acc]):=by rw[ky,bS,YN hs,b7]
   rw[dY,e1,ag,ht d hd,ag];cases q:t d with|false=>obtain⟨s',z⟩:=ih acc (.sh d) rfl J0 (by simp at hl;lia);refine⟨s',?_⟩;rw[YO Qj,z,M7,q,YO Qj]|true=>obtain⟨s',z⟩:=ih (acc++[f d]) (.sh d) rfl J0 (by simp at hl ⊢;lia);refine⟨s',?_⟩;rw[YN rfl,he d hd q,ag,kT (by simp at hl;lia),ag,z,M7,q,YN rfl];simp
 obtain⟨s',z⟩:=key ds [] .no rfl (λ_ h=>h) (by simpa using hL);rw[iV,lC,ag];unfold inner;have e:r++List.replicate 1 Sl.no++[Sl.ow<|.lst []]=r++[.no,.ow<|.lst []]:=Qj;dsimp only;rw[e,z];have e2:(r++[s',Sl.ow<|.lst<|[]++(ds.filter t).map f])[r.length+1]?=some (.ow<|.lst<|[]++(ds.filter t).map f):=by rw[Oy Uz];simp
 simp only[e2];simp
theorem Me(f:D->D)(lC:it r=.ok ds r)(hk:k=r.length)(hL:ds.length<=16777216)
  (he:∀d∈ds,∀acc,elt (r++[.sh d,.ow acc])=.ok (f d) (r++[.sh d,.ow acc])) :
  aD 1 it (aq k) (ret true) elt r=.ok (.lst<|ds.map f) r:=by
 have:=Q1I (test:=ret true) (λ_=>true) f lC hk hL (λ_ _ _=>rfl) (λd h _=>he d h);rw[this,List.filter_eq_self.mpr (λ_ _=>rfl)]
end
@[simp] theorem Q0Y(r:ax):bp [] r=some []:=by cases r<;>rfl
@[simp] theorem Q2i(bs:ZU)(s:Sl)(r:ax):bp (false::bs) (s::r)=bp bs r:=Tf
@[simp] theorem Q06(bs:ZU)(d:D)(r:ax):bp (true::bs) (.io d::r)=(bp bs r).map (d::·):=Tf
noncomputable def Mt(d:D):Option (List D)->FR|some ios=>.ok d ios|none=>.no
@[simp] theorem Q2k(d:D)(l:Vt):Mt d (some l)=.ok d l:=Tf
@[simp] theorem Q2Y(fl:ZU)(d:D)(r:ax):fin fl (.ok (.rt d) r)=Mt d (bp fl r):=by unfold fin Mt;first|(dsimp only;done)|(dsimp only;cases bp fl r<;>rfl)
@[simp] theorem Q0Z(n:Nat):List.replicate (n+1) Sl.no=.no::List.replicate n .no:=Tf
noncomputable def T(xs:UX):D:=.tup (xs.map .int)
noncomputable def Z(xs:UX):D:=.lst (xs.map .int)
@[simp] theorem Na(xs:UX):bG (T xs)=some (.int xs.length):=by simp[T]
@[simp] theorem wt(xs:UX):bG (Z xs)=some (.int xs.length):=by simp[Z]
@[simp] theorem O8(xs:UX):b6 (T xs)=some (xs.map .int):=Tf
@[simp] theorem O9(xs:UX):b6 (Z xs)=some (xs.map .int):=Tf
@[simp] theorem F7(xs:UX):gK (T xs)=some (Z xs):=Tf
@[simp] theorem rM(xs:UX):gK (Z xs)=some (Z xs):=Tf
@[simp] theorem Q0C(xs:UX):fS (T xs)=some (T xs):=Tf
@[simp] theorem zb(xs:UX):fS (Z xs)=some (T xs):=Tf
@[simp] theorem Q03(xs:UX)(i:Int):aj (Z xs) (.int i)=wk (xs.map .int) i:=Tf
theorem bV(xs:UX)(i:Int)(h0:0<=i)(h:i<xs.length):wk (xs.map D.int) i=some (.int<|xs.getD i.toNat 0):=by refine lF _ _ _ h0 ?_;have h2:i.toNat<xs.length:=Uz;simp[h2]
theorem bZ(xs ys:UX)(h:xs.length+ys.length<=gU):bq (T xs) (T ys)=some (T<|xs++ys):=by unfold T;rw[Q0S]<;>simp[h]
theorem LI(xs ys:UX)(h:xs.length+ys.length<=gU):bq (Z xs) (Z ys)=some (Z<|xs++ys):=by unfold Z;rw[Q1Q]<;>simp[h]
theorem nM(xs:UX)(x:Int)(h:xs.length<16777216):df (.int x) (Z xs)=some (Z<|xs++[x]):=by unfold Z;rw[gY];simp;simpa using h
theorem Pr:D.tup []=T []:=Tf
theorem gk(n:Nat)(xs:UX):dU n (xs.map .int)=true:=by induction xs with|nil=>cases n<;>rfl|cons x xs ih=>simp[dU,ih];cases n<;>simp[plain]
theorem ji(xs ys:UX):lB (xs.map .int) (ys.map .int)=decide (xs=ys):=by induction xs generalizing ys with|nil=>cases ys<;>simp[lB]|cons x xs ih=>cases ys with|nil=>simp[lB]|cons y ys=>simp[lB,ih,ug];rfl
@[simp] theorem BF(xs ys:UX):dP (T xs) (T ys)=some (.bl<|decide<|xs=ys):=by unfold dP T;simp[plain,gk,uh,ui,ji]
@[simp] theorem C5(xs ys:UX):gW (T xs) (T ys)=some (.bl<|!decide (xs=ys)):=by unfold gW T;simp[plain,gk,uh,ui,ji]
theorem wh(xs:UX):b4 (xs.map .int)=some xs:=by induction xs with|nil=>rfl|cons x xs ih=>simp[b4,ih]
@[simp] theorem Ph(xs:UX):DW (Z xs)=some (.int xs.sum):=by simp[DW,wh]
theorem lT(a b:D)(xs ys:UX)(ha:b6 a=some (xs.map .int))(hb:b6 b=some (ys.map .int)):xA [a,b]=some ((xs.zip ys).map λp=>.tup [.int p.1,.int p.2]):=by simp only[xA,ha,hb];congr 1;clear ha hb;induction xs generalizing ys with|nil=>simp|cons x xs ih=>cases ys with|nil=>simp|cons y ys=>simp[ih]
@[simp] theorem OX(xs:UX):u9 (Z xs)=some (T xs.reverse):=by simp[u9,T]
theorem uf(f:Int->D)(xs:UX)(lo hi:Vy):cutD (xs.map f) lo hi=((xs.drop<|gP xs.length 0 lo).take<|gP xs.length xs.length hi-gP xs.length 0 lo).map f:=by simp[cutD,List.map_take,List.map_drop]
@[simp] theorem Mg(xs:UX)(lo hi:Vy):fK (T xs) lo hi=some (T<|(xs.drop<|gP xs.length 0 lo).take<|gP xs.length xs.length hi-gP xs.length 0 lo):=by simp only[T,Bw,uf]
@[simp] theorem Mh(xs:UX)(lo hi:Vy):fK (Z xs) lo hi=some (Z<|(xs.drop<|gP xs.length 0 lo).take<|gP xs.length xs.length hi-gP xs.length 0 lo):=by simp only[Z,Q0E,uf]
theorem pd(j:Int)(n:Nat)(h:j.toNat=n)(h2:-(2 ^ 62)<=j)(h3:j<2 ^ 62):sE [.int j]=some ((List.range n).map λ(k:Nat)=>.int k):=by subst h;exact Q0H j h2 h3
noncomputable def aF(g:D->M Unit)(body:M Fl)(d:D)(r:ax):Res Fl:=(g d r).then λ_=>body
noncomputable def cont:Res Fl->Option ax|.ok .nx r=>some r|.ok .ct r=>some r|_=>none
@[simp] theorem Q2W(r:ax):cont (.ok .nx r)=some r:=Tf
theorem fm(h:cont (aF g body d r)=some r'):loop g body (d::ds) r=loop g body ds r':=by rw[gJ];unfold aF at h;cases q:g d r with|no=>rw[q] at h;cases h|exc x r=>rw[q] at h;cases h|ok u r1=>rw[q,ag] at h;rw[ag];cases q2:body r1 with|no=>rw[q2] at h;cases h|exc x r=>rw[q2] at h;cases h|ok k r2=>rw[q2] at h;cases k with|nx=>cases h;rfl|ct=>cases h;rfl|bk=>cases h|rt v=>cases h
theorem Q1E(h:aF g body d r=.ok (.rt v) r'):loop g body (d::ds) r=.ok (.rt v) r':=by rw[gJ];unfold aF at h;cases q:g d r with|no=>rw[q] at h;cases h|exc x r=>rw[q] at h;cases h|ok u r1=>rw[q,ag] at h;rw[ag,h];rfl
theorem CJ(h:aF g body d r=.exc x r'):loop g body (d::ds) r=.exc x r':=by rw[gJ];unfold aF at h;cases q:g d r with|no=>rw[q] at h;cases h|exc y r=>rw[q] at h;exact h|ok u r1=>rw[q,ag] at h;rw[ag,h];rfl
noncomputable def iQ{S E A:Type}(step:S->A->E ⊕ S):List A->S->E ⊕ S|[],s=>.inr s|a::as,s=>match step s a with|.inl e=>.inl e|.inr s'=>iQ step as s'
theorem j6{S Tm A:Type}(mk:A->D)(R:S->Tm->ax)(ok:Tm->Prop)(step:S->A->D ⊕ S):∀(as:List A)(P:Nat->S->Prop)(s:S)(t:Tm),ok t->P 0 s ->
  (∀(i:Nat)(a:A),as[i]?=some a->∀s t,ok t->P i s->match step s a with|.inr s'=>P (i+1) s'/\∃t',ok t'/\cont (aF g body (mk a)<|R s t)=some (R s' t')|.inl v=>∃s' t',aF g body (mk a) (R s t)=.ok (.rt v) (R s' t')) ->
  match iQ step as s with|.inr s'=>P as.length s'/\∃t',ok t'/\loop g body (as.map mk) (R s t)=.ok .nx (R s' t')|.inl v=>∃s' t',loop g body (as.map mk) (R s t)=.ok (.rt v) (R s' t'):=by
 intro as;induction as with|nil=>intro P s t ht hs _;exact⟨hs,t,ht,rfl⟩|cons a as ih=>intro P s t ht hs h;have h1:=h 0 a rfl s t ht hs;simp only[iQ,List.map_cons];cases q:step s a with|inl v=>rw[q] at h1;obtain⟨s',t',e⟩:=h1;exact⟨s',t',Q1E e⟩|inr s1=>rw[q] at h1;obtain⟨p1,t1,o1,e1⟩:=h1;have h2:=ih (λk=>P<|k+1) s1 t1 o1 p1 λi a' ha=>h (i+1) a' (by simpa using ha);have e:(a::as).length=as.length+1:=Qj;dsimp only;rw[e];cases q2:iQ step as s1 with|inl v=>rw[q2] at h2;obtain⟨s',t',z⟩:=h2;exact⟨s',t',by rw[fm e1];exact z⟩|inr s2=>rw[q2] at h2;obtain⟨p2,t2,o2,z⟩:=h2;exact⟨p2,t2,o2,by rw[fm e1];exact z⟩
theorem oJ{S Tm A:Type}(mk:A->D)(R:S->Tm->ax)(ok:Tm->Prop)(P:Nat->S->Prop)(step:S->A->S)(as:List A)(s:S)(t:Tm)(ht:ok t)(hs:P 0 s)
  (h:∀(i:Nat)(a:A),as[i]?=some a->∀s t,ok t->P i s->P (i+1) (step s a)/\∃t',ok t'/\cont (aF g body (mk a)<|R s t)=some (R (step s a) t')) :
  P as.length (as.foldl step s)/\∃t',ok t'/\loop g body (as.map mk) (R s t)=.ok .nx (R (as.foldl step s) t'):=by
 have:=j6 (g:=g) (body:=body) mk R ok (λs a=>.inr<|step s a) as P s t ht hs h;have e:∀(as:List A)(s:S),iQ (E:=D) (λs a=>.inr<|step s a) as s=.inr (as.foldl step s):=by intro as;induction as with|nil=>intro s;rfl|cons a as ih=>intro s;exact ih _
 rw[e] at this;exact this
theorem bE(h:(List.range n)[i]?=some k):k=i/\i<n:=by have h1:=(List.getElem?_eq_some_iff.mp h).1;simp at h1;rw[El h1] at h;exact⟨(Qe h).symm,h1⟩
def kv(s:Sl):Prop:=free (some s)=true
def mf(s:Sl×Sl):Prop:=free (some s.1)=true/\free (some s.2)=true
def JN(s:Sl×Sl×Sl):Prop:=free (some s.1)=true/\free (some s.2.1)=true/\free (some s.2.2)=true
@[simp] theorem FX(j:Nat)(i:D)(r:ax):Cw j i r=(opt (own r[j]?) r).then λd=>opt (aj d i):=by unfold Cw;cases own r[j]?<;>rfl
@[simp] theorem Ge(j:Nat)(fb:M D)(r:ax):iW j fb r=if (own r[j]?).isSome=true then(fb r).then (Cw j) else .no:=by unfold iW;split;exact au _ _ _;rfl
theorem FY(n:Nat)(i:Int)(h0:0<=i)(h:i<n):mj n i=some i.toNat:=by unfold mj;rw[YN h0,YN h]
theorem Ar(xs:Vt)(i:Int)(v:D)(h0:0<=i)(h:i<xs.length):setAt (.int i) v (.lst xs)=some (.lst<|xs.set i.toNat v):=by show (mj xs.length i).map _=_;rw[FY _ _ h0 h];rfl
noncomputable def outs{S A B:Type}(step:S->A->S)(f:S->A->B):S->List A->List B|_,[]=>[]|s,a::as=>f s a::outs step f (step s a) as
theorem JD{S A:Type}(mk:A->D)(R:S->ax)(P:Nat->S->Prop)(step:S->A->S)(f:S->A->D)(as:List A)(s:S)
  (YL:∀s,(R s).length=k) (lC:it r0=.ok (as.map mk) (R s)) (hL:as.length<=16777216) (hP:P 0 s)
  (he:∀(i:Nat)(a:A),as[i]?=some a->∀s acc,P i s->P (i+1) (step s a)/\elt (R s++[.sh<|mk a,.ow acc])=.ok (f s a) (R (step s a)++[.sh<|mk a,.ow acc])) :
  aD 1 it (aq k) (ret true) elt r0=.ok (.lst<|outs step f s as) (R<|as.foldl step s)/\P as.length (as.foldl step s):=by
 have key:∀(es:List A)(n:Nat)(acc:Vt)(x:Sl)(s:S),free (some x)=true->(∀(i:Nat)(a:A),es[i]?=some a->as[n+i]?=some a)->acc.length+es.length<=16777216->P n s->(∃x',turns (k+1) (aq k) (ret true) elt (es.map mk) (R s++[x,.ow<|.lst acc])=.ok () (R (es.foldl step s)++[x',.ow<|.lst<|acc++outs step f s es]))/\P (n+es.length) (es.foldl step s):=by
  intro es;induction es with
  |nil=>intro n acc x s _ _ _ hp;exact⟨⟨x,by simp[outs]⟩,hp⟩|cons a es ih=>
   intro n acc x s hx hm hl hp;obtain⟨p1,e1⟩:=he n a (hm 0 a rfl) s (.lst acc) hp;obtain⟨⟨x',e2⟩,p2⟩:=ih (n+1) (acc++[f s a]) (.sh<|mk a) (step s a) rfl (λi b hb=>by rw[Nat.add_assoc,Nat.add_comm 1 i];exact hm (i+1) b hb) (by simp at hl ⊢;lia) p1;refine⟨⟨x',?_⟩,?_⟩;have g1:aq k (mk a) (R s++[x,.ow<|.lst acc])=.ok () (R s++[.sh<|mk a,.ow<|.lst acc]):=by have:=bS (r:=R s) (xs:=[.ow<|.lst acc]) (s:=x);have:=b7 (r:=R s) (xs:=[.ow<|.lst acc]) (s:=x) (s':=.sh<|mk a);rw[YL s] at *;rw[ky];simp_all
   have u1:gM (k+1) (df<|f s a) (R (step s a)++[.sh<|mk a,.ow<|.lst acc])=.ok () (R (step s a)++[.sh<|mk a,.ow<|.lst<|acc++[f s a]]):=by have:=kT (r:=R<|step s a) (s:=.sh<|mk a) (acc:=acc) (x:=f s a) (by simp at hl;lia);rw[YL] at this;exact this
   rw[Yk,dY,g1,ag,bT,ag,YN rfl,e1,ag,u1,ag,e2];simp[outs];have e:n+(a::es).length=n+1+es.length:=by simp;lia
   rw[e];exact p2
 obtain⟨⟨x',z⟩,p⟩:=key as 0 [] .no s rfl (λi a h=>by rw[Nat.zero_add];exact h) (by simpa using hL) hP;refine⟨?_,by rw[Nat.zero_add] at p;exact p⟩;rw[iV,lC,ag];unfold inner;have e:R s++List.replicate 1 Sl.no++[Sl.ow<|.lst []]=R s++[.no,.ow<|.lst []]:=Qj;dsimp only;rw[e,YL,z];have e2:(R (as.foldl step s)++[x',Sl.ow<|.lst<|[]++outs step f s as])[k+1]?=some (.ow<|.lst<|[]++outs step f s as):=by rw[Oy (by rw[YL];lia),YL];simp
 simp only[e2];have e3:List.take k (R (as.foldl step s)++[x',Sl.ow<|.lst<|[]++outs step f s as])=R (as.foldl step s):=by rw[<-YL (as.foldl step s)];simp
 rw[e3];simp
theorem uW{S A B:Type}(f:A->B)(s:S):∀as:List A,outs (λ(s:S)(_:A)=>s) (λ_ a=>f a) s as=as.map f|[]=>rfl|a::as=>by simp[outs,uW f s as]
theorem cY{A:Type}{it:M (List D)}{elt:M D}{k:Nat}{r:ax}{out:D}(mk:A->D)(f:A->D)(as:List A)(lC:it r=.ok (as.map mk) r)(hL:as.length<=16777216)(Cn:D.lst (as.map f)=out)(he:∀a∈as,∀acc,elt (r++[.sh<|mk a,.ow acc])=.ok (f a) (r++[.sh<|mk a,.ow acc])) (hk:r.length=k:=by rfl):aD 1 it (aq k) (ret true) elt r=.ok out r:=by have:=(JD (elt:=elt) mk (λ(_:Unit)=>r) (λ_ _=>True) (λs _=>s) (λ_ a=>f a) as () (λ_=>hk) lC hL trivial λi a ha s acc _=>⟨trivial,he a (Rb ha) acc⟩).1;rw[uW,Cn] at this;exact this
@[simp] theorem TK(xs ys:UX):gW (Z xs) (Z ys)=some (.bl<|!decide (xs=ys)):=by unfold gW Z;simp[plain,gk,uh,ui,ji]
@[simp] theorem Q0t(a:D)(xs:Vt):wk (a::xs) 0=some a:=lF _ _ _ Uz rfl
@[simp] theorem Q2j(a b:D)(xs:Vt):wk (a::b::xs) 1=some b:=lF _ _ _ Uz rfl
theorem RK{A:Type}(mk:A->D)(sl:A->List Sl)(t:A->Bool)(f:A->D)(as:List A)(hk:r.length=k)(lC:it r=.ok (as.map mk) r)(hL:as.length<=16777216)
  (FO:∀a∈as,(sl a).length=n/\∀x∈sl a,free (some x)=true)
  (hg:∀a∈as,∀(ts:List Sl) acc,ts.length=n->(∀x∈ts,free (some x)=true)->g (mk a) (r++ts++[.ow acc])=.ok () (r++sl a++[.ow acc]))
  (ht:∀a∈as,∀acc,test (r++sl a++[.ow acc])=.ok (t a) (r++sl a++[.ow acc]))
  (he:∀a∈as,t a=true->∀acc,elt (r++sl a++[.ow acc])=.ok (f a) (r++sl a++[.ow acc])) :
  aD n it g test elt r=.ok (.lst<|(as.filter t).map f) r:=by
 subst hk;have U2:∀(ts:List Sl)(acc:Vt)(x:D),ts.length=n->acc.length<16777216->gM (r.length+n) (df x) (r++ts++[.ow<|.lst acc])=.ok () (r++ts++[.ow<|.lst<|acc++[x]]):=by
  intro ts acc x h1 h2;have e2:r.length+n=(r++ts).length:=by simp[h1]
  rw[e2,kL];have:=bS (r:=r++ts) (xs:=[]) (s:=.ow<|.lst acc);rw[this];have:=b7 (r:=r++ts) (xs:=[]) (s:=.ow<|.lst acc) (s':=.ow<|.lst<|acc++[x]);simp only[wM,bw,bT,ag,gY x acc h2,kN,bS,sr,this]
 have key:∀(es:List A)(acc:Vt)(ts:List Sl),ts.length=n->(∀x∈ts,free (some x)=true)->(∀d∈es,d∈as)->acc.length+es.length<=16777216->∃Az,Az.length=n/\turns (r.length+n) g test elt (es.map mk) (r++ts++[.ow<|.lst acc])=.ok () (r++Az++[.ow<|.lst<|acc++(es.filter t).map f]):=by intro es;induction es with|nil=>intro acc ts h1 _ _ _;exact⟨ts,h1,Qj⟩|cons a es ih=>intro acc ts h1 h2 hm hl;have ha:=hm a R9;have J0:∀x∈es,x∈as:=λx hx=>hm x<|Pe _ hx;rw[Yk,dY,hg a ha ts _ h1 h2,ag,ht a ha,ag];cases q:t a with|false=>obtain⟨Az,z1,z2⟩:=ih acc (sl a) (FO a ha).1 (FO a ha).2 J0 (by simp at hl;lia);refine⟨Az,z1,?_⟩;rw[YO Qj,z2,M7,q,YO Qj]|true=>obtain⟨Az,z1,z2⟩:=ih (acc++[f a]) (sl a) (FO a ha).1 (FO a ha).2 J0 (by simp at hl ⊢;lia);refine⟨Az,z1,?_⟩;rw[YN rfl,he a ha q,ag,U2 _ _ _ (FO a ha).1 (by simp at hl;lia),ag,z2,M7,q,YN rfl];simp
 obtain⟨Az,z1,z2⟩:=key as [] (List.replicate n .no) Qj (λx hx=>by rw[List.eq_of_mem_replicate hx];rfl) (λ_ h=>h) (by simpa using hL);rw[iV,lC,ag];unfold inner;dsimp only;rw[z2];have e2:(r++Az++[Sl.ow<|.lst<|[]++(as.filter t).map f])[r.length+n]?=some (.ow<|.lst<|[]++(as.filter t).map f):=by rw[Oy (by simp;lia)];simp[z1]
 simp only[e2];simp
theorem Sa{r:ax}{ts:List Sl}{acc x y:D}(h1:ts.length=2)(h2:∀x∈ts,free (some x)=true):fW [r.length,r.length+1] (.tup [x,y]) (r++ts++[.ow acc])=.ok () (r++[.sh x,.sh y]++[.ow acc]):=by
 match ts,h1,h2 with
 |[s,s2],_,h2=>
  have hs:=h2 s R9;have j2:=h2 s2<|Pe _ R9;have g2:(r++[Sl.sh x,s2,.ow acc])[r.length+1]?=some s2:=by rw[Oy Uz];simp
  have g3:(r++[Sl.sh x,s2,.ow acc]).set (r.length+1) (.sh y)=r++[.sh x,.sh y,.ow acc]:=by rw[List.set_append_right _ _ Uz];simp
  simp only[List.append_assoc,List.cons_append,List.nil_append];rw[Q1S,qw,yG,bS,YN hs,b7,ag,qw,yG,g2,YN j2,g3];rfl
theorem Mf{A:Type}{it:M (List D)}{test:M Bool}{elt:M D}{k:Nat}{r:ax}{out:D}(m1 m2:A->D)(t:A->Bool)(f:A->D)(as:List A)(lC:it r=.ok (as.map λa=>.tup [m1 a,m2 a]) r)(hL:as.length<=16777216)(Cn:D.lst ((as.filter t).map f)=out)
  (ht:∀a∈as,∀acc,test (r++[.sh<|m1 a,.sh<|m2 a,.ow acc])=.ok (t a) (r++[.sh<|m1 a,.sh<|m2 a,.ow acc]))
  (he:∀a∈as,t a=true->∀acc,elt (r++[.sh<|m1 a,.sh<|m2 a,.ow acc])=.ok (f a) (r++[.sh<|m1 a,.sh<|m2 a,.ow acc])) (hk:r.length=k:=by rfl) :
  aD 2 it (fW [k,k+1]) test elt r=.ok out r:=by
 rw[<-Cn];subst hk;refine RK (λa=>.tup [m1 a,m2 a]) (λa=>[.sh<|m1 a,.sh<|m2 a]) t f as rfl lC hL (λa _=>⟨rfl,by intro x hx;simp at hx;rcases hx with rfl|rfl<;>rfl⟩) (λa ha ts acc h1 h2=>Sa h1 h2) (λa ha acc=>?_) λa ha q acc=>?_;have:=ht a ha acc;simpa using this;have:=he a ha q acc;simpa using this
theorem Bt{A:Type}{it:M (List D)}{elt:M D}{k:Nat}{r:ax}{out:D}(m1 m2:A->D)(f:A->D)(as:List A)(lC:it r=.ok (as.map λa=>.tup [m1 a,m2 a]) r)(hL:as.length<=16777216)(Cn:D.lst (as.map f)=out)
  (he:∀a∈as,∀acc,elt (r++[.sh<|m1 a,.sh<|m2 a,.ow acc])=.ok (f a) (r++[.sh<|m1 a,.sh<|m2 a,.ow acc])) (hk:r.length=k:=by rfl) :
  aD 2 it (fW [k,k+1]) (ret true) elt r=.ok out r:=
 Mf m1 m2 (λ_=>true) f as lC hL (by rw[List.filter_eq_self.mpr (λ_ _=>rfl)];exact Cn) (λ_ _ _=>rfl) (λa ha _ acc=>he a ha acc) hk
@[simp] theorem DR(i:Nat)(cs:Xa)(f:Str)(fv:M D)(r:ax):mD i cs f fv r=(fv r).then λv r=>(gM i (mE cs f v) r).then λ_=>ret .nx:=by unfold mD;rw[au];congr;funext v r;exact pe _ _
@[simp] theorem uP(c:Str)(f:Fn)(as:List Arg)(r:ax):jS c f as r=(aV as r).then λvs=>z9 c f vs:=au _ _ _
@[simp] theorem Q1Y(c m:Str)(f:Fn)(fo:M D)(as:List Arg)(r:ax):gL c m f fo as r=(fo r).then λo r=>if qz c m o=true then(aV as r).then λvs=>oL f (.val o::vs) else .no:=by unfold gL;rw[au];congr;funext o r;split;exact au _ _ _;rfl
@[simp] theorem CN(fl:List (M D))(r:ax):uM fl r=(mL fl r).then λxs=>opt (nW xs):=au _ _ _
@[simp] theorem Q2p(fl:List (M D))(r:ax):yF fl r=(mL fl r).then λxs=>opt (DP xs):=au _ _ _
theorem qj{A:Type}(mk:A->D)(as:List A):ko (as.map mk)=(List.range as.length).zipWith (λi a=>D.tup [.int (i:Nat),mk a]) as:=by unfold ko;rw[VE,List.zipWith_map_right]
@[simp] theorem A2(al:Bool)(ds:Vt):nK al (.lst ds)=(iG ds).map λbs=>.bl (if al then bs.all id else bs.any id):=Tf
theorem nU{A:Type}(f:A->Bool):∀as:List A,iG (as.map λa=>D.bl<|f a)=some (as.map f)|[]=>rfl|a::as=>by simp[iG,nU f as]
theorem vO{A:Type}(f:A->Bool)(as:List A):nK true (.lst<|as.map λa=>D.bl<|f a)=some (.bl<|as.all f):=by rw[A2,nU];simp[Function.comp_def]
theorem CR(c:Str)(f:Fn)(vals:Vt)(d:D)(r:ax)(h:f (.ins c [] []::vals)=.ok .aP [d]):z9 c f (vals.map AV.val) r=.ok d r:=by
 have e1:∀(vs:Vt)(r:ax),gu (vs.map AV.val) r=some vs:=λvs r=>by induction vs with|nil=>rfl|cons v vs ih=>simp[ih]
 have e2:∀vs:Vt,bI (vs.map AV.val)=[]:=λvs=>by induction vs with|nil=>rfl|cons v vs ih=>simp[ih]
 have g:(r++[Sl.ow<|.ins c [] []])[r.length]?=some (.ow<|.ins c [] []):=Qj;have p:putAll [r.length] [d] (r++[Sl.ow<|.ins c [] []])=r++[.ow d]:=by rw[u4,wX,kN,g,sr,b7]
 unfold z9;rw[m9,LN,g];simp only[wM,Option.bind_some,e1,Option.map_some,bw,bT,ag,Q1d,e2];rw[YN Qj,h,nR,p];simp
def Tb(s c:UX):D:=.ins "Table" ["sides","cells"] [T s,Z c]
@[simp] theorem Q00(g:D->D->Pu)(j:Nat)(d:D)(r:ax):tZ g j d r=(opt (own r[j]?) r).then λx=>opt (g x d):=by unfold tZ;cases own r[j]?<;>rfl
@[simp] theorem Q02(g:D->D->Pu)(j:Nat)(fb:M D)(r:ax):qF g j fb r=if (own r[j]?).isSome=true then(fb r).then (tZ g j) else .no:=by unfold qF;split;exact au _ _ _;rfl
@[simp] theorem Q2g(x y:D):P7 true x y=gW x y:=Tf
theorem cZ:∀ns:UX,b4 (ns.map .int)=some ns|[]=>rfl|n::ns=>by rw[Yk,b4,cZ ns];rfl
theorem Hk(xs:UX)(h:xs.length<64):qR (T xs)=some (Z<|sortI xs):=by have e:b6 (T xs)=some (xs.map .int):=rfl;unfold qR;rw[e];dsimp only;rw[cZ];dsimp only;rw[if_pos h];rfl
noncomputable def kU(n:Nat):UX:=(List.range n).map λ(k:Nat)=>(k:Int)
theorem F5(n:Nat)(h:n<=1000):CL [.int n]=some (Z<|kU n):=by simp only[CL];rw[YN Uz];simp[Z,kU,Function.comp_def]
theorem qT(h:sortI xs=kU n)(hx:x∈xs):∃k:Nat,x=k/\k<n:=by have:=(sortI_perm xs).mem_iff.mpr hx;rw[h] at this;obtain⟨k,hk,rfl⟩:=List.mem_map.mp this;exact⟨k,rfl,by simpa using hk⟩
def GP(i:Nat)(r:ax):D->Res D
|.lst xs=>match xs.getLast? with
  |some d=>.ok d (cu i (.lst xs.dropLast) r)|none=>.no
 |_=>.no
@[simp] theorem Q2b(i:Nat)(r:ax):CT i r=(opt (own r[i]?) r).then λd r=>GP i r d:=by unfold CT;cases own r[i]? with|none=>rfl|some d=>cases d<;>rfl
@[simp] theorem Dv(i:Nat)(r:ax)(xs:Vt)(d:D):GP i r (.lst<|xs++[d])=.ok d (cu i (.lst xs) r):=by unfold GP;simp
@[simp] theorem Q0q(neg:Bool)(j:Nat)(x:D)(r:ax):Cq neg j x r=(opt (own r[j]?) r).then λy=>opt (inD neg x y):=by unfold Cq;cases own r[j]?<;>rfl
@[simp] theorem Q2S(neg:Bool)(fa:M D)(j:Nat)(r:ax):F9 neg fa j r=(fa r).then (Cq neg j):=au _ _ _
def Lz(r:ax):Res D->Res D|.ok (.lst ds) _=>if noLs ds then .ok (.lst ds) r else .no|_=>.no
@[simp] theorem CY(f:M D)(r:ax):mn f r=Lz r (f<|r.map gq):=by unfold mn;cases f (r.map gq) with|ok d r=>cases d<;>rfl|exc e r=>rfl|no=>rfl
theorem Q1W(r r':ax)(ds:Vt)(h:noLs ds=true):Lz r (.ok (.lst ds) r')=.ok (.lst ds) r:=YN h
@[simp] theorem Ek(d:D):gq (.ow d)=.sh d:=rfl
@[simp] theorem Q20(d:D):gq (.io d)=.sh d:=rfl
@[simp] theorem Q1j(d:D):gq (.sh d)=.sh d:=rfl
@[simp] theorem Ej:gq .no=.no:=rfl
theorem vy(h:c r=.ok false r'):gC c b (n+1) r=.ok .nx r':=by unfold gC;rw[au,h];rfl
theorem AE(h:c r=.ok true r1)(h2:b r1=.ok .nx r2):gC c b (n+1) r=gC c b n r2:=by rw[gC,au,h];show (Tp b _) r1=_;rw[au,h2];rfl
theorem C3(xs:UX)(d:D):lI (T xs) d=match xs with|[]=>some d|i::is=>some (.int<|is.foldl (λa b=>if a<b then b else a) i):=by
 have e:b4 (xs.map .int)=some xs:=by induction xs with|nil=>rfl|cons x xs ih=>simp[b4,ih]
 show (match b4 (xs.map .int) with|some []=>some d|some (i::is)=>some (.int<|is.foldl (λa b=>if a<b then b else a) i)|none=>none)=_;rw[e];cases xs<;>rfl
def Q0d(i:Nat)(cs:Xa)(f:Str):D->M Fl|.lst ds=>if ds.length<=16777216 then xc (gM i<|mE cs f<|.lst ds) else stuck|_=>stuck
def SU(fe:M D):D->M D|.tup ds=>Tp fe λy=>opt (pP ds y)|_=>stuck
@[simp] theorem Q1V(fo fe:M D)(r:ax):uO fo fe r=(fo r).then (SU fe):=by unfold uO;rw[au];congr
def SS(fe:M D):D->M D|.lst ds=>Tp fe λy=>opt (pP ds y)|_=>stuck
@[simp] theorem CO(fo fe:M D)(r:ax):uN fo fe r=(fo r).then (SS fe):=by unfold uN;rw[au];congr
theorem MT(fe:M D)(xs:UX)(k:Int)(r r':ax)(he:fe r=.ok (.int k) r')(hk:k∈xs):SU fe (T xs) r=.ok (.int (xs.idxOf k:Nat)) r':=by show Tp fe (λy=>opt<|pP (xs.map .int) y) r=_;rw[au,he];unfold pP;rw[cZ];simp[hk]
theorem MS(fe:M D)(xs:UX)(k:Int)(r r':ax)(he:fe r=.ok (.int k) r')(hk:k∈xs):SS fe (Z xs) r=.ok (.int (xs.idxOf k:Nat)) r':=by show Tp fe (λy=>opt<|pP (xs.map .int) y) r=_;rw[au,he];unfold pP;rw[cZ];simp[hk]
theorem JE{A:Type}{it:M (List D)}{elt:M D}{k:Nat}{r:ax}{x:Xn}(mk:A->D)(f:A->D)(pre:List A)(a:A)(post:List A)(lC:it r=.ok ((pre++a::post).map mk) r)(hL:pre.length<=1000000)(he:∀b∈pre,∀acc,elt (r++[.sh<|mk b,.ow acc])=.ok (f b) (r++[.sh<|mk b,.ow acc])) (hx:∀acc,elt (r++[.sh<|mk a,.ow acc])=.exc x (r++[.sh<|mk a,.ow acc])) (hk:r.length=k:=by rfl):aD 1 it (aq k) (ret true) elt r=.exc x r:=by
 have g1:∀(b:A)(y:Sl)(acc:D),free (some y)=true->aq k (mk b) (r++[y,.ow acc])=.ok () (r++[.sh<|mk b,.ow acc]):=λb y acc hy=>by have:=bS (r:=r) (xs:=[.ow acc]) (s:=y);have:=b7 (r:=r) (xs:=[.ow acc]) (s:=y) (s':=.sh<|mk b);rw[hk] at *;rw[ky];simp_all
 have key:∀(es:List A),(∀b∈es,b∈pre)->∀(acc:Vt)(y:Sl),free (some y)=true->acc.length+es.length<=1000000->∃y' nG,turns (k+1) (aq k) (ret true) elt ((es++a::post).map mk) (r++[y,.ow<|.lst acc])=.exc x (r++[y',.ow nG]):=by
  intro es;induction es with
  |nil=>intro _ acc y hy _;refine⟨.sh<|mk a,.lst acc,?_⟩;rw[G2,Yk,dY,g1 a y _ hy,ag,bT,ag,YN rfl,hx,D9]|cons b es ih=>
   intro hm acc y hy hl;obtain⟨y',nG,e⟩:=ih (λc hc=>hm c<|Pe _ hc) (acc++[f b]) (.sh<|mk b) rfl (by simp at hl ⊢;lia);refine⟨y',nG,?_⟩;have u1:gM (k+1) (df<|f b) (r++[.sh<|mk b,.ow<|.lst acc])=.ok () (r++[.sh<|mk b,.ow<|.lst<|acc++[f b]]):=by have:=kT (r:=r) (s:=.sh<|mk b) (acc:=acc) (x:=f b) (by simp at hl;lia);rw[hk] at this;exact this
   rw[List.cons_append,Yk,dY,g1 b y _ hy,ag,bT,ag,YN rfl,he b<|hm b R9,ag,u1,ag,e]
 obtain⟨y',nG,z⟩:=key pre (λb h=>h) [] .no rfl (by simpa using hL);rw[iV,lC,ag];unfold inner;have e:r++List.replicate 1 Sl.no++[Sl.ow<|.lst []]=r++[.no,.ow<|.lst []]:=Qj;dsimp only;rw[e,hk,z];dsimp only;congr 1;rw[<-hk];simp
variable{α β:Type}
theorem qV(h:f r=.ok .nx r1)(h2:g r1=R):ak f g r=R:=by rw[sJ,h];exact h2
def Pb:Fl->M Fl->M Fl|.nx,g=>g|k,_=>ret k
theorem UH(h:f r=.ok k r1)(h2:Pb k g r1=R):ak f g r=R:=by rw[sJ,h];cases k<;>exact h2
theorem Hd(h:g r=R):Pb .nx g r=R:=h
theorem Hg:Pb (.rt d) g r=.ok (.rt d) r:=rfl
theorem WB:mC d r=.ok d r:=rfl
theorem Q1m:aI r=.ok .nx r:=rfl
theorem Ak{a:α}:ret a r=.ok a r:=rfl
theorem JH(h:i=j):dP (.int i) (.int j)=some (.bl true):=by rw[eX,Qi h]
theorem BH(h:¬i=j):dP (.int i) (.int j)=some (.bl false):=by rw[eX,VY h]
theorem Ki(h:i<j):ltI (.int i) (.int j)=some (.bl true):=by rw[gA,Qi h]
theorem Kh(h:¬i<j):ltI (.int i) (.int j)=some (.bl false):=by rw[gA,VY h]
theorem yx(h:c r=.ok t r1)(h2:(bif t then a else b) r1=R):ef c a b r=R:=by rw[O5,h];cases t<;>exact h2
theorem C4(h:c r=.ok t r1)(h2:(bif t then a else b) r1=R):Ni c a b r=R:=by rw[Nj,h];cases t<;>exact h2
theorem IU{a b:M α}{R:Res α}(ht:t=true)(h:a r=R):(bif t then a else b) r=R:=by subst ht;exact h
theorem IT{a b:M α}{R:Res α}(ht:t=false)(h:b r=R):(bif t then a else b) r=R:=by subst ht;exact h
theorem Q27{i:Nat}{f:M D}{r r1 r2:ax}{d:D}(h:f r=.ok d r1)(hf:free r1[i]?=true)(h2:r1.set i (.sh d)=r2):aM i f r=.ok .nx r2:=by rw[y4,h,ag,YN hf,h2]
theorem Ow{i:Nat}{f:M D}{r r1 r2:ax}{d:D}(h:f r=.ok d r1)(hf:free r1[i]?=true)(h2:r1.set i (.ow d)=r2):iC i f r=.ok .nx r2:=by rw[Q0h,h,ag,YN hf,h2]
theorem OW(h:f r=.ok d r1):aY f r=.ok (.rt d) r1:=by rw[yZ,h];rfl
theorem Py(h:r[i]?=some (.sh d)):aa i r=.ok d r:=by rw[Gn,h];rfl
theorem Tq(h:a r=.ok x r1)(hg:g x=some z):m1 g a r=.ok z r1:=by rw[Kj,h,ag,hg];rfl
theorem Tu(h:a r=.ok x r1)(h2:b r1=.ok y r2)(hg:g x y=some z):m2 g a b r=.ok z r2:=by rw[Q1T,h,ag,h2,ag,hg];rfl
theorem Tz(h:mL as r=.ok xs r1)(hg:g xs=some z):mF g as r=.ok z r1:=by rw[Tx,h,ag,hg];rfl
theorem z8:mL [] r=.ok [] r:=rfl
theorem TB(h:f r=.ok x r1)(h2:mL fs r1=.ok xs r2):mL (f::fs) r=.ok (x::xs) r2:=by rw[Gg,h,ag,h2];rfl
theorem Pt(h:mL fs r=.ok xs r1)(hl:(decide<|xs.length<=16777216)=true):bY fs r=.ok (.tup xs) r1:=by rw[Gm,h,ag,Hy _<|P0 hl];rfl
theorem Q1P(h:mL fs r=.ok xs r1)(hl:(decide<|xs.length<=16777216)=true):fX fs r=.ok (.lst xs) r1:=by rw[Gh,h,ag,F6 _<|P0 hl];rfl
theorem UN(h:a r=.ok (.bl b) r1):tB a r=.ok b r1:=by rw[UM,h];rfl
theorem ND(h:a r=.ok b r1):i7 a r=.ok (!b) r1:=by rw[Hr,h];rfl
theorem LJ(h:a r=.ok x r1)(h2:(bif x then b else ret false) r1=.ok t r2):mR a b r=.ok t r2:=by rw[Q0n,h];cases x<;>exact h2
theorem TX(h:a r=.ok x r1)(h2:(bif x then ret true else b) r1=.ok t r2):y9 a b r=.ok t r2:=by rw[Q2Q,h];cases x<;>exact h2
theorem E9(h:a r=.ok (.bl x) r1)(h2:(bif x then b else ret<|.bl false) r1=R):oK a b r=R:=by rw[CM,h];cases x<;>exact h2
theorem Oq(h:a r=.ok (.bl x) r1)(h2:(bif x then ret (.bl true) else b) r1=R):CS a b r=R:=by rw[Gi,h];cases x<;>exact h2
theorem UD(e:f r=.ok d r1)(e1:kK lo r1=.ok l r2)(e2:kK hi r2=.ok h r3)(hg:g d l h=some z):vF g f lo hi r=.ok z r3:=by rw[Q1F,e,ag,e1,ag,e2,ag,hg];rfl
theorem Ub(h:f r=.ok (.int i) r1):kK (some f) r=.ok (some i) r1:=by rw[wz,h];rfl
theorem Fg(h:aV as r=.ok vs r1)(ha:gu vs r1=some ds)(hn:decide (bI vs).Nodup=true)(hf:f ds=.ok d ios)(hp:putAll (bI vs) ios r1=r2):aw f as r=.ok d r2:=by rw[uL,h,ag,m9,ha,bw,bT,ag,YN<|P0 hn,hf,nR,hp]
theorem tD:aV [] r=.ok [] r:=rfl
theorem tH(h:f r=.ok d r1)(h2:aV as r1=.ok vs r2):aV (.val f::as) r=.ok (.val d::vs) r2:=by show Tp _ _ r=_;rw[au,h,ag,au,h2];rfl
theorem vP(h:(own r[j]?).isSome=true)(h2:aV as r=.ok vs r2):aV (.io j::as) r=.ok (.io j::vs) r2:=by show (if _ then _ else _)=_;rw[YN h,au,h2];rfl
theorem Q2K(h0:(own r[j]?).isSome=true)(h:f r=.ok i r1)(h1:own r1[j]?=some d)(h2:aj d i=some z):iW j f r=.ok z r1:=by rw[Ge,YN h0,h,ag,FX,h1,bw,bT,ag,h2];rfl
theorem R3(hl:decide (ds.length=fl.length)=true)(h:b (aU n fl ds)=.ok (.rt d) r)(hi:bp fl r=some ios):defn n fl b ds=.ok d ios:=by rw[gh _ _ _ _<|P0 hl,h];show (match bp fl r with|some ios=>FR.ok d ios|none=>FR.no)=_;rw[hi]
theorem R4(hl:decide (ds.length=fl.length)=true)(h:b (aU n fl ds)=.ok .nx r)(hi:bp fl r=some ios):defn n fl b ds=.ok .aP ios:=by rw[gh _ _ _ _<|P0 hl,h];show (match bp fl r with|some ios=>FR.ok .aP ios|none=>FR.no)=_;rw[hi]
theorem Gs(ho:fo r=.ok o r1)(hi:qz c m o=true)(h:aV as r1=.ok vs r2)(ha:gu vs r2=some ds)(hn:decide (bI vs).Nodup=true)(hf:f (o::ds)=.ok d ios)(hp:putAll (bI vs) ios r2=r3):gL c m f fo as r=.ok d r3:=by rw[Q1Y,ho,ag,YN hi,h,ag,m9,mY,ha,Option.map_some,bw,bT,ag,Ct,YN<|P0 hn,hf,nR,hp]
theorem Mw(h:it r=.ok ds r1)(h2:loop g b ds r1=R):iY it g b r=R:=by rw[yX,h];exact h2
theorem OZ(h:mL fl r=.ok xs r1)(h2:sE xs=some ds):bH fl r=.ok ds r1:=by rw[CV,h,ag,h2];rfl
theorem Q1a(h:f r=.ok d r1)(h2:b6 d=some ds):cR f r=.ok ds r1:=by rw[Gk,h,ag,h2];rfl
theorem PW(h:mL fl r=.ok xs r1)(h2:xA xs=some ds):uQ fl r=.ok ds r1:=by rw[Gp,h,ag,h2];rfl
theorem Fq(h:mL fl r=.ok xs r1)(h2:nW xs=some ds):uM fl r=.ok ds r1:=by rw[CN,h,ag,h2];rfl
theorem Q0T(h:f r=.ok d r1)(h2:(b6 d).map List.reverse=some ds):CU f r=.ok ds r1:=by rw[Gj,h,ag,h2];rfl
theorem LL(h0:isLst (own r[i]?)=true)(h:f r=.ok x r1)(h1:own r1[i]?=some d)(h2:df x d=some d')(h3:cu i d' r1=r2):jJ i f r=.ok .nx r2:=by rw[yW,YN h0,h,ag,kL,h1,bw,bT,ag,h2,bw,bT,ag,h3];rfl
theorem Pd(hv:fv r=.ok v r1)(h0:isLst (own r1[i]?)=true)(hk:fk r1=.ok k r3)(h1:own r3[i]?=some d)(h2:setAt k v d=some d')(h3:cu i d' r3=r2):ke i fk fv r=.ok .nx r2:=by rw[Ap,hv,ag,YN h0,hk,ag,kL,h1,bw,bT,ag,h2,bw,bT,ag,h3];rfl
theorem Q0p(hv:fv r=.ok v r1)(h1:own r1[i]?=some d)(h2:mE cs f v d=some d')(h3:cu i d' r1=r2):mD i cs f fv r=.ok .nx r2:=by rw[DR,hv,ag,kL,h1,bw,bT,ag,h2,bw,bT,ag,h3];rfl
theorem R8(h:Nh i r=.ok () r1)(h2:f r1=R):AR i f r=R:=by rw[O4,h];exact h2
theorem Us(h:anyOf r[i]?=some d):vE i r=.ok d r:=by rw[Nk,h];rfl
theorem Q24(h:a r=.ok x r1)(h2:b r1=.ok y r2)(hg:g x y=some (.bl k))(h3:(bif k then m1 (g2 y) c else ret<|.bl false) r2=R):F8 g g2 a b c r=R:=by rw[Ng,h,ag,h2,ag,hg];cases k;exact h3;rw[<-h3];exact(Kj ..).symm
theorem Gr(h:aV as r=.ok vs r1)(hv:ds.map AV.val=vs)(hf:f (.ins c [] []::ds)=.ok .aP [d]):jS c f as r=.ok d r1:=by subst hv;rw[uP,h,ag];exact CR c f ds d r1 hf
theorem Q1R(h:ds.map AV.val=vs):(d::ds).map AV.val=.val d::vs:=by rw[Yk,h]
theorem Q2P:([]:Vt).map AV.val=[]:=rfl
theorem FC(e:o=some s)(h:free (some s)=true):free o=true:=by rw[e];exact h
end VP
end
section
set_option maxRecDepth 100000
set_option linter.all false
namespace LW
open PySem VP
def names:Xa:=(["given","even","turn","cut","drop","wide","spread","shape","shift","one","both","where","fold","run","pick","join","minus","half","none","add","less","times","least","most","below","alike","line","number","numbers","place","sides","many"]:Xa)++(["a number to pick by is not a place of the side"]:Xa)
def nm(i:Nat):Str:=names.getD i ""
abbrev cI(i:Int):M D:=mC (.int i)
abbrev cS(i:Nat):M D:=mC (.str<|nm i)
abbrev cT:M D:=mC (.bl true)
abbrev cF:M D:=mC (.bl false)
def p7:Xa:=[(nm 27),(nm 28),(nm 26)]
def lR:List (Str×D):=[((nm 9),.tup [.str<|nm 16,.str<|nm 17,.str<|nm 18]),((nm 10),.tup [.str<|nm 19,.str<|nm 20,.str<|nm 21,.str<|nm 22,.str<|nm 23,.str<|nm 24,.str<|nm 25]),((nm 12),.tup [.str<|nm 19,.str<|nm 21,.str<|nm 22,.str<|nm 23])]
def Q0B:Xa:=[]
def eS:List (Str×D):=[((nm 19),.int 0),((nm 21),.int 1)]
def zw:Xa:=[]
def lS:List (Str×D):=[((nm 0),.tup [.str<|nm 27]),((nm 1),.tup [.str<|nm 28,.str<|nm 27]),((nm 2),.tup [.str<|nm 26,.str<|nm 28]),((nm 3),.tup [.str<|nm 26,.str<|nm 27,.str<|nm 27,.str<|nm 27,.str<|nm 27]),((nm 4),.tup [.str<|nm 26,.str<|nm 27,.str<|nm 27]),((nm 5),.tup [.str<|nm 26,.str<|nm 27]),((nm 6),.tup [.str<|nm 26,.str<|nm 28]),((nm 7),.tup [.str<|nm 26,.str<|nm 28]),((nm 8),.tup [.str<|nm 26,.str<|nm 27,.str<|nm 27,.str<|nm 27]),((nm 9),.tup [.str<|nm 9,.str<|nm 26]),((nm 10),.tup [.str<|nm 10,.str<|nm 26,.str<|nm 26]),((nm 11),.tup [.str<|nm 26,.str<|nm 26,.str<|nm 26]),((nm 12),.tup [.str<|nm 12,.str<|nm 26,.str<|nm 27]),((nm 13),.tup [.str<|nm 12,.str<|nm 26,.str<|nm 27]),((nm 14),.tup [.str<|nm 26,.str<|nm 27,.str<|nm 26]),((nm 15),.tup [.str<|nm 26,.str<|nm 26,.str<|nm 27])]
def br:Xa:=["Table"]
def bO:Xa:=["Table"]
noncomputable def lD:PE:=[("Table",true)]
def g6:PE:=[("BadLine",false),("NoCell",true)]
def top(i:Nat):PySem.Stmt:=PySem.Challenge.pw_loomarrays_k17_whole_plain_deeds.main.body.getD i (.Pass ⟨0,0,0,0⟩)
def L:VS.E5 where
 b:=["all","bool","enumerate","int","isinstance","len","list","max","min","range","reversed","sorted","sum","tuple","zip"]
 n:=[("LONGEST_SIDE",.int 64),("MOST_CELLS",.int 4096),("MOST_LINES",.int 40),("MOST_SIDES",.int 4),("REST",.int 1000003)]
 t:=[("DEEDS",lR,p7),("FOLDED_NONE",eS,Q0B),("FORMS",lS,zw)]
 d:=([("cells_in",top 26,["sides"]),
  ("is_rest",top 3,["number"]),
  ("sides_can_be",top 25,["sides"]),
  ("_law_cells",top 71,["_law_sides"]),
  ("_law_taken",top 68,["_law_row","_law_many"]),
  ("_law_drawn",top 86,["_law_row","_law_sides","_law_index_here"]),
  ("_law_whole",top 69,["_law_found"]),
  ("_law_numbers",top 70,["_law_found","_law_due"]),
  ("_law_is_table",top 79,["_law_found","_law_sides","_law_cells_here"]),
  ("_law_both",top 75,["_law_deed","_law_one_here","_law_other"]),
  ("_law_changed",top 80,["_law_sides","_law_side","_law_size"]),
  ("_law_folded",top 78,["_law_deed","_law_numbers_here"]),
  ("_law_one",top 74,["_law_deed","_law_number"]),
  ("_law_look",top 76,["_law_sides","_law_cells_here","_law_at"]),
  ("_law_see",top 77,["_law_one_here","_law_at"]),
  ("_law_under",top 81,["_law_line","_law_own","_law_at"]),
  ("_law_cell",top 89,["_law_line","_law_own","_law_at"]),
  ("_law_index",top 72,["_law_sides","_law_place"]),
  ("_law_reads",top 87,["_law_line"]),
  ("_law_wanted",top 88,["_law_program_here"]),
  ("_law_plain",top 90,["_law_program_here","_law_sides","_law_cells_here"]),
  ("_law_met",top 73,["_law_one_here","_law_other"]),
  ("_law_more",top 84,["_law_row","_law_a","_law_sides","_law_way","_law_index_here"]),
  ("_law_sided",top 83,["_law_row","_law_a","_law_own","_law_way"])]:List VS.vM) ++
  ([("_law_view",top 82,["_law_row","_law_a","_law_own","_law_way"]),
  ("_law_program",top 85,["_law_row"]),
  ("deed_is_known",top 18,["line"]),
  ("number_is_cell",top 41,["line"]),
  ("named_by",top 17,["line"]),
  ("places_are_there",top 40,["line","lines_ahead","tables"]),
  ("has_side",top 44,["sides","side"]),
  ("without",top 33,["row","side"]),
  ("folded_sides",top 50,["deed","sides","side"]),
  ("replaced",top 35,["row","side","number"]),
  ("joined_sides",top 52,["one","other","side"]),
  ("picked_sides",top 51,["sides","side","places"]),
  ("with_ones_ahead",top 32,["sides","many"]),
  ("sides_met",top 31,["one","other"]),
  ("has_place",top 45,["sides","side","place"]),
  ("cut_sides",top 47,["sides","side","begin","step","many"]),
  ("dropped_sides",top 48,["sides","side","place"]),
  ("put_in",top 34,["row","side","number"]),
  ("turned_sides",top 46,["sides","order"]),
  ("sides_viewed",top 43,["line","sides"]),
  ("three_met",top 49,["one","other","third"]),
  ("sides_told",top 42,["line","ahead","given"]),
  ("sides_looked_over",top 39,["at","line","ahead","given"]),
  ("sides_of",top 38,["program","given"])]:List VS.vM) ++
  ([("strides_of",top 27,["sides"]),
  ("place_at",top 28,["sides","at"]),
  ("one_if",top 8,["holds"]),
  ("both_deed",top 5,["deed","one","other"]),
  ("folded_none",top 6,["deed"]),
  ("folded",top 7,["deed","numbers"]),
  ("fold_cell",top 63,["deed","source","side","at"]),
  ("join_cell",top 65,["ahead","behind","side","at"]),
  ("one_deed",top 4,["deed","number"]),
  ("pick_cell",top 64,["source","side","numbers","at"]),
  ("shift_cell",top 66,["source","side","by","number","at"]),
  ("spread_cell",top 61,["source","at"]),
  ("view_cell",top 60,["line","source","at"]),
  ("where_cell",top 62,["asked","left","right","at"]),
  ("cell_made",top 59,["line","sides","made","at"]),
  ("index_of",top 29,["sides","place"]),
  ("indexes_of",top 30,["sides"]),
  ("run_cells",top 58,["deed","source","side"]),
  ("table_made",top 57,["line","sides","made","tables"]),
  ("wanted_lines",top 20,["program"]),
  ("plain_answer",top 56,["program","tables"]),
  ("law",top 91,["_law_script"])]:List VS.vM)
 m:=([("Table","__init__","Table.__init__",false,L2.inClass (top 54) 0,["self","sides","cells"]),("Table","cell","Table.cell",false,L2.inClass (top 54) 1,["self","at"])]:List VS.AZ)
 k:=["Table"]
 f:=([("cells",br),("sides",bO)]:List (Str×List Str))
 a:=["Table"]
 i:=[("Table",lD)]
 j:=[]
def tc(s:PySem.Stmt)(N:Xa)(ds:List VS.aE:=[])(ow:Xa:=[])(ms:List (Str×VS.aE):=[])(ks:List VS.aE:=[])(fz:List (Nat×Nat):=[])(dc:Xa:=[]):VS.Tc:=⟨N,L2.az s,ow,dc,fz,ds,ms,ks,L,VS.U0 nm names VS.nums,s⟩
def tAp:=ak (DS 0 ["BadLine"] "at"<|aa 1) (ak (DS 0 ["BadLine"] "why"<|aa 2) aI)
def bM:Fn:=defn 3 [true,false,false] tAp
def LZ:VS.Tc:=tc (top 26) ["sides","many","side"]
@[reducible] def d7:M Fl:=by refine' (?k:VS.AH LZ 0) _ rfl;exactλf _=>f
def Q0:M Fl:=by refine' (?k:VS.bc LZ) _ rfl;exactλf _=>f
def BV:Fn:=defn 3 [false] Q0
def G5:VS.aE:=("cells_in",[false],BV)
def IZ:VS.Tc:=tc (top 3) ["number"]
def Ia:M Fl:=by refine' (?k:VS.bc IZ) _ rfl;exactλf _=>f
def x9:Fn:=defn 1 [false] Ia
def DG:VS.aE:=("is_rest",[false],x9)
def Ju:VS.Tc:=tc (top 25) ["sides"] [G5]
@[reducible] def f9:M D:=(F8 CH CH (cI 0) (aa 1)<|cI 64)
def IG:M Fl:=by refine' (?k:VS.bc Ju) _ rfl;exactλf _=>f
def uA:Fn:=defn 1 [false] IG
def K4:VS.aE:=("sides_can_be",[false],uA)
def WY:VS.Tc:=tc (L2.inClass (top 54) 0) ["self","sides","cells"] [DG] ["self"]
def eO:=aw x9 [.val<|aa 3]
def QX:=ak (mD 0 bO "sides"<|m1 fS<|aa 1) (ak (mD 0 br "cells"<|m1 gK<|aa 2)<|ak (ef (i7<|tB<|aw uA [.val<|m1 (gw bO "sides")<|vE 0]) (ak ph aI) aI)<|ak (ef (tB<|m2 gW (m1 bG<|m1 (gw br "cells")<|vE 0)<|aw BV [.val<|m1 (gw bO "sides")<|vE 0]) (ak ph aI) aI)<|ak (ef (i7<|tB<|m1 (nK true)<|aD 1 (cR<|m1 (gw br "cells")<|vE 0) (aq 3) (VP.ret true) eO) (ak ph aI) aI) aI)
def BK:Fn:=defn 3 [true,false,false] QX
def Uj:VS.aE:=("Table",[false,false],BK)
def Bi:VS.Tc:=tc (top 71) ["_law_sides","_law_found","_law_size"]
@[reducible] def kH:M Fl:=by refine' (?k:VS.AH Bi 0) _ rfl;exactλf _=>f
def Ig:M Fl:=by refine' (?k:VS.bc Bi) _ rfl;exactλf _=>f
def lX:Fn:=defn 3 [false] Ig
def qL:VS.aE:=("_law_cells",[false],lX)
def Jk:VS.Tc:=tc (top 68) ["_law_row","_law_many","_law_at"] [] ["_law_row"]
def Iv:M Fl:=by refine' (?k:VS.bc Jk) _ rfl;exactλf _=>f
def bN:Fn:=defn 3 [true,false] Iv
def oY:VS.aE:=("_law_taken",[true,false],bN)
def xM:VS.Tc:=tc (top 86) ["_law_row","_law_sides","_law_index_here","_law_found","_law_k","_law_seed","_law_number","_law_cells_here","_law_p"] [oY,qL] ["_law_found","_law_cells_here"] [] [] [(499,7),(500,7),(501,3)]
@[reducible] def e8:M Fl:=by refine' (?k:VS.AH xM 1) _ rfl;exactλf _=>f
@[reducible] def kj:M D:=(m2 eJ (m2 qt (aa 9)<|cI 7)<|cI 4)
@[reducible] def dD:M Fl:=by refine' (?k:VS.AH xM 0) _ rfl;exactλf _=>f
def Ii:M Fl:=by refine' (?k:VS.bc xM) _ rfl;exactλf _=>f
def um:Fn:=defn 9 [true,false,false] Ii
def Q16:VS.aE:=("_law_drawn",[true,false,false],um)
def Rq:VS.Tc:=tc (top 69) ["_law_found"]
def Q1:=ak (aY<|oK (m1 (uJ "int")<|aa 0)<|TC<|i7<|tB<|m1 (uJ "bool")<|aa 0) aI
def JJ:Fn:=defn 1 [false] Q1
def KU:VS.aE:=("_law_whole",[false],JJ)
def Rj:VS.Tc:=tc (top 70) ["_law_found","_law_due","_law_number"] [KU]
def dE:=ak (ef (i7<|tB<|aw JJ [.val<|aa 2]) (ak (aY cF) aI) aI) aI
def Io:=ak (ef (y9 (i7<|tB<|m1 (uJ "tuple")<|aa 0)<|tB<|m2 gW (m1 bG<|aa 0)<|m1 bG<|aa 1) (ak (aY cF) aI) aI) (ak (iY (cR<|aa 0) (aq 2) dE)<|ak (aY<|m2 dP (aa 0)<|aa 1) aI)
def uo:Fn:=defn 3 [false,false] Io
def KH:VS.aE:=("_law_numbers",[false,false],uo)
def Rg:VS.Tc:=tc (top 79) ["_law_found","_law_sides","_law_cells_here"] [KH]
def Il:=ak (ef (y9 (i7<|tB<|m1 (zT lD)<|aa 0)<|i7<|tB<|aw uo [.val<|m1 (gw bO "sides")<|aa 0,.val<|aa 1]) (ak (aY cF) aI) aI) (ak (aY<|oK (m1 (uJ "list")<|m1 (gw br "cells")<|aa 0)<|aw uo [.val<|m1 fS<|m1 (gw br "cells")<|aa 0,.val<|m1 fS<|aa 2]) aI)
def nX:Fn:=defn 3 [false,false,false] Il
def KA:VS.aE:=("_law_is_table",[false,false,false],nX)
def Jc:VS.Tc:=tc (top 75) ["_law_deed","_law_one_here","_law_other"]
def Ie:M Fl:=by refine' (?k:VS.bc Jc) _ rfl;exactλf _=>f
def BQ:Fn:=defn 3 [false,false,false] Ie
def DI:VS.aE:=("_law_both",[false,false,false],BQ)
def Je:VS.Tc:=tc (top 80) ["_law_sides","_law_side","_law_size"]
def Ih:M Fl:=by refine' (?k:VS.bc Je) _ rfl;exactλf _=>f
def qk:Fn:=defn 3 [false,false,false] Ih
def u6:VS.aE:=("_law_changed",[false,false,false],qk)
def Bj:VS.Tc:=tc (top 78) ["_law_deed","_law_numbers_here","_law_found","_law_k"] [DI]
@[reducible] def cB:M Fl:=by refine' (?k:VS.AH Bj 0) _ rfl;exactλf _=>f
def Ij:M Fl:=by refine' (?k:VS.bc Bj) _ rfl;exactλf _=>f
def BR:Fn:=defn 4 [false,false] Ij
def Ky:VS.aE:=("_law_folded",[false,false],BR)
def Jg:VS.Tc:=tc (top 74) ["_law_deed","_law_number"]
def Ip:M Fl:=by refine' (?k:VS.bc Jg) _ rfl;exactλf _=>f
def BU:Fn:=defn 2 [false,false] Ip
def KI:VS.aE:=("_law_one",[false,false],BU)
def Bl:VS.Tc:=tc (top 76) ["_law_sides","_law_cells_here","_law_at","_law_place","_law_k","_law_where"]
@[reducible] def eH:M Fl:=by refine' (?k:VS.AH Bl 0) _ rfl;exactλf _=>f
def Im:M Fl:=by refine' (?k:VS.bc Bl) _ rfl;exactλf _=>f
def BS:Fn:=defn 6 [false,false,false] Im
def KC:VS.aE:=("_law_look",[false,false,false],BS)
def Ji:VS.Tc:=tc (top 77) ["_law_one_here","_law_at"] [KC]
def Ir:M Fl:=by refine' (?k:VS.bc Ji) _ rfl;exactλf _=>f
def nY:Fn:=defn 2 [false,false] Ir
def KO:VS.aE:=("_law_see",[false,false],nY)
def Rn:VS.Tc:=tc (top 81) ["_law_line","_law_own","_law_at"] [u6]
def eW:=m2 aj (aa 2) (uN (m1 gK<|m2 aj (aa 0)<|cI 2)<|aa 3)
def p8:=ak (ef (tB<|m2 dP (m2 aj (aa 0)<|cI 0)<|cS 2) (ak (aY<|m1 fS<|aD 1 (bH [(m1 bG<|aa 1)]) (aq 3) (VP.ret true) eW) aI) aI) (ak (ef (tB<|m2 dP (m2 aj (aa 0)<|cI 0)<|cS 5) (ak (aY<|m2 bq (vF fK (aa 2) none<|some<|m2 aj (aa 0)<|cI 2)<|vF fK (aa 2) (some<|m2 bq (m2 aj (aa 0)<|cI 2)<|cI 1) none) aI) aI)<|ak (ef (tB<|m2 dP (m2 aj (aa 0)<|cI 0)<|cS 6) (ak (aY<|vF fK (aa 2) (some<|m2 gR (m1 bG<|aa 2)<|m1 bG<|aa 1) none) aI) aI)<|ak (ef (tB<|m2 dP (m2 aj (aa 0)<|cI 0)<|cS 4) (ak (aY<|m2 bq (m2 bq (vF fK (aa 2) none<|some<|m2 aj (aa 0)<|cI 2)<|bY [(m2 aj (aa 0)<|cI 3)])<|vF fK (aa 2) (some<|m2 aj (aa 0)<|cI 2) none) aI) aI)<|ak (aY<|aw qk [.val<|aa 2,.val<|m2 aj (aa 0)<|cI 2,.val<|m2 bq (m2 aj (aa 0)<|cI 3)<|m2 pR (m2 aj (aa 2)<|m2 aj (aa 0)<|cI 2)<|m2 aj (aa 0)<|cI 4]) aI)
def iw:Fn:=defn 3 [false,false,false] p8
def KQ:VS.aE:=("_law_under",[false,false,false],iw)
def Jd:VS.Tc:=tc (top 89) ["_law_line","_law_own","_law_at","_law_kind","_law_side","_law_last","_law_where","_law_size"] [KI,KO,DI,u6,Ky,KQ]
@[reducible] def iI:M D:=(aw nY [.val<|m2 aj (aa 1)<|cI 0,.val<|m2 bq (m2 bq (vF fK (aa 2) none<|some<|aa 4)<|bY [(aa 8)])<|vF fK (aa 2) (some<|aa 4) none])
def fG:M Fl:=by refine' (?k:VS.bc Jd) _ rfl;exactλf _=>f
def bQ:Fn:=defn 8 [false,false,false] fG
def Kx:VS.aE:=("_law_cell",[false,false,false],bQ)
def Bk:VS.Tc:=tc (top 72) ["_law_sides","_law_place","_law_found","_law_k","_law_behind"] [qL]
@[reducible] def hK:M Fl:=by refine' (?k:VS.AH Bk 0) _ rfl;exactλf _=>f
def Ik:M Fl:=by refine' (?k:VS.bc Bk) _ rfl;exactλf _=>f
def yb:Fn:=defn 5 [false,false] Ik
def Kz:VS.aE:=("_law_index",[false,false],yb)
def Jh:VS.Tc:=tc (top 87) ["_law_line"]
def Q15:M Fl:=by refine' (?k:VS.bc Jh) _ rfl;exactλf _=>f
def qp:Fn:=defn 1 [false] Q15
def KN:VS.aE:=("_law_reads",[false],qp)
def Q1u:VS.Tc:=tc (top 88) ["_law_program_here","_law_due","_law_ahead","_law_place"] [] ["_law_due","_law_ahead"] [] [] [(524,1)]
def d8:=ak (ef (tB<|F9 true (aa 3) 1) (ak (jJ 1<|aa 3)<|ak (jJ 2<|aa 3) aI) aI) aI
def cK:=tB (qF (P7 true) 2<|fX [])
def ew:=ak (iY (cR<|aw qp [.val<|m2 aj (aa 0)<|CT 2]) (aq 3) d8) aI
def Iw:=ak (iC 1<|fX [(m2 gR (m1 bG<|aa 0)<|cI 1)]) (ak (iC 2<|fX [(m2 gR (m1 bG<|aa 0)<|cI 1)])<|ak (sL cK ew)<|ak (AR 1<|aY<|aa 1) aI)
def yd:Fn:=defn 4 [false] Iw
def KS:VS.aE:=("_law_wanted",[false],yd)
def Rk:VS.Tc:=tc (top 90) ["_law_program_here","_law_sides","_law_cells_here","_law_wanted_here","_law_found","_law_k","_law_line","_law_own","_law_made"] [KS,KN,qL,Kx,Kz] ["_law_found"] [] [] [(574,4)]
def dh:=bY [(m2 aj (aa 1)<|aa 9),(iW 4<|aa 9)]
def eV:=aw bQ [.val<|aa 6,.val<|aa 7,.val<|aw yb [.val<|m2 aj (aa 1)<|aa 5,.val<|aa 9]]
def aK:=ak (aM 6<|m2 aj (aa 0)<|aa 5) (ak (aM 7<|aD 1 (cR<|aw qp [.val<|aa 6]) (aq 9) (VP.ret true) dh)<|ak (aM 8<|mC .aP)<|ak (ef (mR (tB<|m2 (inD false) (aa 5)<|aa 3)<|tB<|m2 dP (m2 aj (aa 6)<|cI 0)<|cS 0) (ak (aM 8<|m1 gK<|m2 aj (aa 2)<|m2 aj (aa 6)<|cI 1) aI)<|ak (ef (mR (tB<|m2 (inD false) (aa 5)<|aa 3)<|tB<|m2 dP (m2 aj (aa 6)<|cI 0)<|cS 1) (ak (aM 8<|m2 mulL (fX [(m2 aj (aa 6)<|cI 2)])<|aw lX [.val<|m2 aj (aa 1)<|aa 5]) aI)<|ak (ef (mR (tB<|m2 (inD false) (aa 5)<|aa 3)<|tB<|m2 dP (m2 aj (aa 6)<|cI 0)<|cS 7) (ak (aM 8<|m1 gK<|m2 aj (m2 aj (aa 7)<|cI 0)<|cI 1) aI)<|ak (ef (tB<|m2 (inD false) (aa 5)<|aa 3) (ak (aM 8<|aD 1 (bH [(aw lX [.val<|m2 aj (aa 1)<|aa 5])]) (aq 9) (VP.ret true) eV)<|ak (ef (tB<|m2 (inD false) (mC .aP)<|aa 8) (ak (aY<|mC .aP) aI) aI) aI) aI) aI) aI) aI)<|ak (jJ 4<|aa 8) aI)
def A8:=ak (aM 3<|aw yd [.val<|aa 0]) (ak (iC 4<|fX [])<|ak (iY (bH [(m1 bG<|aa 0)]) (aq 5) aK)<|ak (AR 4<|aY<|aa 4) aI)
def lY:Fn:=defn 9 [false,false,false] A8
def KJ:VS.aE:=("_law_plain",[false,false,false],lY)
def Rh:VS.Tc:=tc (top 73) ["_law_one_here","_law_other","_law_many","_law_left","_law_right","_law_found","_law_k"]
def hU:=ak (ef (mR (tB<|m2 gW (m2 aj (aa 3)<|aa 6)<|m2 aj (aa 4)<|aa 6)<|mR (tB<|m2 gW (m2 aj (aa 3)<|aa 6)<|cI 1)<|tB<|m2 gW (m2 aj (aa 4)<|aa 6)<|cI 1) (ak (aY<|mC .aP) aI) aI) (ak (aM 5<|m2 bq (aa 5)<|bY [(m2 aj (fX [(m2 aj (aa 3)<|aa 6),(m2 aj (aa 4)<|aa 6)])<|mF intD [(m2 dP (m2 aj (aa 3)<|aa 6)<|cI 1)])]) aI)
def A7:=ak (aM 2<|mF maxD [(m1 bG<|aa 0),(m1 bG<|aa 1)]) (ak (aM 3<|m2 bq (m2 wF (bY [(cI 1)])<|m2 gR (aa 2)<|m1 bG<|aa 0)<|aa 0)<|ak (aM 4<|m2 bq (m2 wF (bY [(cI 1)])<|m2 gR (aa 2)<|m1 bG<|aa 1)<|aa 1)<|ak (aM 5<|bY [])<|ak (iY (bH [(aa 2)]) (aq 6) hU)<|ak (aY<|aa 5) aI)
def qo:Fn:=defn 7 [false,false] A7
def KD:VS.aE:=("_law_met",[false,false],qo)
def Jf:VS.Tc:=tc (top 84) ["_law_row","_law_a","_law_sides","_law_way","_law_index_here","_law_own","_law_b","_law_deed","_law_c","_law_found","_law_side"] [oY,KD,u6] ["_law_sides"]
@[reducible] def lW:M D:=(m2 bq (cI 1)<|aw bN [.io 0,.val<|cI 3])
def lV:M Fl:=by refine' (?k:VS.bc Jf) _ rfl;exactλf _=>f
def dQ:Fn:=defn 11 [true,false,true,false,false] lV
def KG:VS.aE:=("_law_more",[true,false,true,false,false],dQ)
def Jj:VS.Tc:=tc (top 83) ["_law_row","_law_a","_law_own","_law_way","_law_side","_law_size","_law_folds","_law_by","_law_deed","_law_begin","_law_step","_law_room","_law_many"] [oY,u6]
def Iu:M Fl:=by refine' (?k:VS.bc Jj) _ rfl;exactλf _=>f
def ur:Fn:=defn 13 [true,false,false,false] Iu
def KP:VS.aE:=("_law_sided",[true,false,false,false],ur)
def Q0O:VS.Tc:=tc (top 82) ["_law_row","_law_a","_law_own","_law_way","_law_many","_law_turn","_law_order","_law_at","_law_sides","_law_cells_here"] [oY,qL]
def iJ:=m2 eJ (m2 bq (aa 10)<|aa 5) (aa 4)
def iK:=m2 aj (aa 2) (aa 10)
def iL:=m2 aj (fX [(aa 10),(aw bN [.io 0,.val<|cI 4])]) (mF intD [(m2 dP (aa 10)<|cI 1)])
def nP:=ak (aM 4<|m1 bG<|aa 2) (ak (ef (tB<|m2 dP (aa 3)<|cI 0) (ak (aM 5<|aw bN [.io 0,.val<|mF maxD [(cI 1),(aa 4)]])<|ak (aM 6<|aD 1 (bH [(aa 4)]) (aq 10) (VP.ret true) iJ)<|ak (ef (tB<|m2 dP (aw bN [.io 0,.val<|cI 2])<|cI 1) (ak (aM 6<|m1 G6<|aa 6) aI) aI)<|ak (aY<|bY [(bY [(cS 2),(aa 1),(m1 fS<|aa 6)]),(m1 fS<|aD 1 (cR<|aa 6) (aq 10) (VP.ret true) iK)]) aI) aI)<|ak (ef (tB<|m2 dP (aa 3)<|cI 1) (ak (aM 7<|aw bN [.io 0,.val<|m2 bq (aa 4)<|cI 1])<|ak (aY<|bY [(bY [(cS 5),(aa 1),(aa 7)]),(m2 bq (m2 bq (vF fK (aa 2) none<|some<|aa 7)<|bY [(cI 1)])<|vF fK (aa 2) (some<|aa 7) none)]) aI) aI)<|ak (ef (tB<|m2 dP (aa 3)<|cI 2) (ak (aM 8<|m1 fS<|aD 1 (cR<|aa 2) (aq 10) (VP.ret true) iL)<|ak (ef (tB<|m2 dP (aw bN [.io 0,.val<|cI 2])<|cI 1) (ak (aM 8<|m2 bq (bY [(aw bN [.io 0,.val<|cI 4])])<|aa 8) aI) aI)<|ak (aY<|bY [(bY [(cS 6),(aa 1),(aa 8)]),(aa 8)]) aI) aI)<|ak (aM 9<|aw lX [.val<|aa 2])<|ak (aM 8<|m2 aj (fX [(m1 u9<|aa 2),(bY [(aa 9)]),(bY [(cI 1),(aa 9)]),(bY [(aa 9),(cI 1)])])<|aw bN [.io 0,.val<|cI 4])<|ak (aY<|bY [(bY [(cS 7),(aa 1),(aa 8)]),(aa 8)]) aI)
def gi:Fn:=defn 10 [true,false,false,false] nP
def KR:VS.aE:=("_law_view",[true,false,false,false],gi)
def Q18:VS.Tc:=tc (top 85) ["_law_row","_law_given","_law_k","_law_many","_law_count","_law_turn","_law_program_here","_law_sides","_law_index_here","_law_a","_law_way","_law_found"] [oY,KR,KP,KG,qL] ["_law_given","_law_program_here","_law_sides"] [] [] [(488,6)]
def fH:=m2 aj (fX [(cI 2),(cI 3),(cI 1),(cI 2),(cI 3),(cI 1),(cI 2),(cI 0)]) (aw bN [.io 0,.val<|cI 8])
def dF:=ak (aM 3<|aw bN [.io 0,.val<|cI 4]) (ak (jJ 1<|m1 fS<|aD 1 (bH [(aa 3)]) (aq 12) (VP.ret true) fH) aI)
def di:=bY [(cS 0),(m2 eJ (m2 bq (aa 12)<|aa 5)<|aa 4)]
def dj:=m2 aj (aa 1) (m2 aj (aa 12)<|cI 1)
def dG:=ak (aM 9<|m2 gR (m2 gR (m1 bG<|vE 6)<|cI 1)<|aw bN [.io 0,.val<|m1 bG<|vE 6]) (ak (aM 10<|aw bN [.io 0,.val<|cI 16])<|ak (ef (tB<|m2 ltI (aa 10)<|cI 4) (ak (aM 11<|aw gi [.io 0,.val<|aa 9,.val<|iW 7<|aa 9,.val<|aa 10]) aI)<|ak (ef (mR (tB<|m2 ltI (aa 10)<|cI 9)<|tB<|m2 gW (iW 7<|aa 9)<|bY []) (ak (aM 11<|aw ur [.io 0,.val<|aa 9,.val<|iW 7<|aa 9,.val<|aa 10]) aI)<|ak (ef (tB<|m2 dP (aa 10)<|cI 15) (ak (aM 11<|bY [(bY [(cS 0),(m2 eJ (aa 9)<|aa 4)]),(iW 1<|m2 eJ (aa 9)<|aa 4)]) aI)<|ak (aM 11<|aw dQ [.io 0,.val<|aa 9,.io 7,.val<|aa 10,.val<|aa 8]) aI) aI) aI)<|ak (ef (y9 (tB<|m2 Mx (aw lX [.val<|m2 aj (aa 11)<|cI 1])<|cI 27)<|y9 (tB<|m2 Mx (m1 bG<|m2 aj (aa 11)<|cI 1)<|cI 4)<|tB<|m2 Mx (m2 lI (m2 aj (aa 11)<|cI 1)<|cI 0)<|cI 24) (ak (aM 11<|bY [(bY [(cS 9),(cS 16),(aa 9)]),(iW 7<|aa 9)]) aI) aI)<|ak (jJ 6<|m2 aj (aa 11)<|cI 0)<|ak (jJ 7<|m2 aj (aa 11)<|cI 1) aI)
def Iq:=ak (iC 1<|fX []) (ak (iY (bH [(m2 bq (cI 1)<|aw bN [.io 0,.val<|cI 2])]) (aq 2) dF)<|ak (jJ 1<|bY [(m2 aj (fX [(cI 2),(cI 3),(cI 1),(cI 4)])<|aw bN [.io 0,.val<|cI 4])])<|ak (aM 4<|m1 bG<|vE 1)<|ak (aM 5<|aw bN [.io 0,.val<|aa 4])<|ak (iC 6<|aD 1 (bH [(aa 4)]) (aq 12) (VP.ret true) di)<|ak (iC 7<|mn<|aD 1 (cR<|aa 6) (aq 12) (VP.ret true) dj)<|ak (aM 8<|m2 eJ (m2 gR (m2 gR (aa 4)<|cI 1)<|aa 5)<|aa 4)<|ak (iY (bH [(m2 bq (cI 1)<|aw bN [.io 0,.val<|cI 10])]) (aq 2) dG)<|ak (AR 1<|AR 7<|AR 6<|aY<|bY [(aa 6),(aa 7),(aa 4),(aa 1)]) aI)
def yc:Fn:=defn 12 [true] Iq
def KL:VS.aE:=("_law_program",[true],yc)
def W0:VS.Tc:=tc (top 18) ["line"]
def jW:=m2 (inD false) (aa 2) (m1 (Aw lR)<|aa 1)
def jY:=tB (m1 (sR false lR p7)<|aa 1)
def WT:=ak (aY<|m1 (nK true)<|aD 2 (uQ [(m1 (Aw lS)<|m2 aj (aa 0)<|cI 0),(vF fK (aa 0) (some<|cI 1) none)]) (fW [1,2]) jY jW) aI
def Mq:Fn:=defn 1 [false] WT
def Un:VS.aE:=("deed_is_known",[false],Mq)
def Jl:VS.Tc:=tc (top 41) ["line"] [DG]
def xF:M Fl:=by refine' (?k:VS.bc Jl) _ rfl;exactλf _=>f
def lZ:Fn:=defn 1 [false] xF
def KV:VS.aE:=("number_is_cell",[false],lZ)
def Q12:VS.Tc:=tc (top 17) ["line"]
def pL:=aa 2
def pM:=tB (m2 dP (aa 1)<|cS 26)
def Q2:=ak (aY<|aD 2 (uQ [(m1 (Aw lS)<|m2 aj (aa 0)<|cI 0),(vF fK (aa 0) (some<|cI 1) none)]) (fW [1,2]) pM pL) aI
def uv:Fn:=defn 1 [false] Q2
def DJ:VS.aE:=("named_by",[false],uv)
def Jq:VS.Tc:=tc (top 40) ["line","lines_ahead","tables"] [DJ]
@[reducible] def dO:M D:=(F8 CH ltI (cI 0) (aa 3)<|aa 1)
def A9:M Fl:=by refine' (?k:VS.bc Jq) _ rfl;exactλf _=>f
def qq:Fn:=defn 3 [false,false,false] A9
def K0:VS.aE:=("places_are_there",[false,false,false],qq)
def IX:VS.Tc:=tc (top 44) ["sides","side"]
def HX:M Fl:=by refine' (?k:VS.bc IX) _ rfl;exactλf _=>f
def BO:Fn:=defn 2 [false,false] HX
def oX:VS.aE:=("has_side",[false,false],BO)
def JC:VS.Tc:=tc (top 33) ["row","side"]
def IS:M Fl:=by refine' (?k:VS.bc JC) _ rfl;exactλf _=>f
def yi:Fn:=defn 2 [false,false] IS
def u7:VS.aE:=("without",[false,false],yi)
def IV:VS.Tc:=tc (top 50) ["deed","sides","side"] [oX,u7]
def HV:M Fl:=by refine' (?k:VS.bc IV) _ rfl;exactλf _=>f
def BM:Fn:=defn 3 [false,false,false] HV
def Kt:VS.aE:=("folded_sides",[false,false,false],BM)
def Js:VS.Tc:=tc (top 35) ["row","side","number"]
def IE:M Fl:=by refine' (?k:VS.bc Js) _ rfl;exactλf _=>f
def uy:Fn:=defn 3 [false,false,false] IE
def mB:VS.aE:=("replaced",[false,false,false],uy)
def Jb:VS.Tc:=tc (top 52) ["one","other","side"] [oX,u7,mB]
def Ib:M Fl:=by refine' (?k:VS.bc Jb) _ rfl;exactλf _=>f
def BP:Fn:=defn 3 [false,false,false] Ib
def Kw:VS.aE:=("joined_sides",[false,false,false],BP)
def Jo:VS.Tc:=tc (top 51) ["sides","side","places"] [oX,mB]
def IB:M Fl:=by refine' (?k:VS.bc Jo) _ rfl;exactλf _=>f
def BX:Fn:=defn 3 [false,false,false] IB
def KZ:VS.aE:=("picked_sides",[false,false,false],BX)
def JB:VS.Tc:=tc (top 32) ["sides","many"]
@[reducible] def iM:M D:=(cI 1)
def IQ:M Fl:=by refine' (?k:VS.bc JB) _ rfl;exactλf _=>f
def B4:Fn:=defn 2 [false,false] IQ
def Lh:VS.aE:=("with_ones_ahead",[false,false],B4)
def Bo:VS.Tc:=tc (top 31) ["one","other","many","met","left","right"] [Lh] ["met"]
@[reducible] def fO:M Fl:=by refine' (?k:VS.AH Bo 0) _ rfl;exactλf _=>f
def Bb:M Fl:=by refine' (?k:VS.bc Bo) _ rfl;exactλf _=>f
def uB:Fn:=defn 6 [false,false] Bb
def yS:VS.aE:=("sides_met",[false,false],uB)
def IW:VS.Tc:=tc (top 45) ["sides","side","place"] [oX]
def HW:M Fl:=by refine' (?k:VS.bc IW) _ rfl;exactλf _=>f
def BN:Fn:=defn 3 [false,false,false] HW
def DE:VS.aE:=("has_place",[false,false,false],BN)
def Rv:VS.Tc:=tc (top 47) ["sides","side","begin","step","many"] [oX,DE,mB]
def Q3:M Fl:=by refine' (?k:VS.bc Rv) _ rfl;exactλf _=>f
def Mp:Fn:=defn 5 [false,false,false,false,false] Q3
def Um:VS.aE:=("cut_sides",[false,false,false,false,false],Mp)
def RE:VS.Tc:=tc (top 48) ["sides","side","place"] [DE,u7]
def Q4:M Fl:=by refine' (?k:VS.bc RE) _ rfl;exactλf _=>f
def Mr:Fn:=defn 3 [false,false,false] Q4
def Uo:VS.aE:=("dropped_sides",[false,false,false],Mr)
def Jr:VS.Tc:=tc (top 34) ["row","side","number"]
def ID:M Fl:=by refine' (?k:VS.bc Jr) _ rfl;exactλf _=>f
def ux:Fn:=defn 3 [false,false,false] ID
def yR:VS.aE:=("put_in",[false,false,false],ux)
def Rz:VS.Tc:=tc (top 46) ["sides","order"]
def dq:=m2 aj (aa 0) (aa 2)
def IM:=ak (ef (tB<|m2 gW (m1 qR<|aa 1)<|mF CL [(m1 bG<|aa 0)]) (ak (aY<|mC .aP) aI) aI) (ak (aY<|m1 fS<|aD 1 (cR<|aa 1) (aq 2) (VP.ret true) dq) aI)
def B2:Fn:=defn 2 [false,false] IM
def Lb:VS.aE:=("turned_sides",[false,false],B2)
def Jw:VS.Tc:=tc (top 43) ["line","sides","kind"] [Lb,Um,Uo,yR,yS,G5]
def nQ:M Fl:=by refine' (?k:VS.bc Jw) _ rfl;exactλf _=>f
def gH:Fn:=defn 3 [false,false] nQ
def K8:VS.aE:=("sides_viewed",[false,false],gH)
def Jz:VS.Tc:=tc (top 49) ["one","other","third","met"] [yS]
def IL:M Fl:=by refine' (?k:VS.bc Jz) _ rfl;exactλf _=>f
def B1:Fn:=defn 4 [false,false,false] IL
def La:VS.aE:=("three_met",[false,false,false],B1)
def Jv:VS.Tc:=tc (top 42) ["line","ahead","given","kind"] [yS,La,Kt,oX,KZ,Kw,K8] ["ahead"]
def eB:M Fl:=by refine' (?k:VS.bc Jv) _ rfl;exactλf _=>f
def dz:Fn:=defn 4 [false,true,false] eB
def K7:VS.aE:=("sides_told",[false,true,false],dz)
def Rw:VS.Tc:=tc (top 39) ["at","line","ahead","given","sides"] [K0,KV,Un,K7,K4] ["ahead"]
def IH:=ak (ef (i7<|tB<|aw qq [.val<|aa 1,.val<|m1 bG<|vE 2,.val<|m1 bG<|aa 3]) (ak (jx "BadLine" bM [(aa 0),(cS 29)]) aI) aI) (ak (ef (i7<|tB<|aw lZ [.val<|aa 1]) (ak (jx "BadLine" bM [(aa 0),(cS 27)]) aI) aI)<|ak (aM 4<|Ni (tB<|aw Mq [.val<|aa 1]) (aw dz [.val<|aa 1,.io 2,.val<|aa 3])<|mC .aP)<|ak (ef (y9 (tB<|m2 isND (aa 4)<|mC .aP)<|i7<|tB<|aw uA [.val<|aa 4]) (ak (jx "BadLine" bM [(aa 0),(cS 30)]) aI) aI)<|ak (aY<|aa 4) aI)
def yf:Fn:=defn 5 [false,false,true,false] IH
def K5:VS.aE:=("sides_looked_over",[false,false,true,false],yf)
def Rx:VS.Tc:=tc (top 38) ["program","given","ahead","at","line"] [K5] ["ahead"] [] [] [(123,2)]
def ed:=ak (jJ 2<|aw yf [.val<|aa 3,.val<|aa 4,.io 2,.val<|aa 1]) aI
def II:=ak (ef (tB<|m2 dP (m1 bG<|aa 0)<|cI 0) (ak (jx "BadLine" bM [(cI 0),(cS 31)]) aI) aI) (ak (ef (tB<|m2 Mx (m1 bG<|aa 0)<|cI 40) (ak (jx "BadLine" bM [(cI 40),(cS 31)]) aI) aI)<|ak (iC 2<|fX [])<|ak (iY (uM [(aa 0)]) (fW [3,4]) ed)<|ak (AR 2<|aY<|aa 2) aI)
def B0:Fn:=defn 5 [false,false] II
def K6:VS.aE:=("sides_of",[false,false],B0)
def Ry:VS.Tc:=tc (top 27) ["sides","backwards","stride","side"] [] ["backwards"]
def cN:=ak (jJ 1<|aa 2) (ak (aM 2<|m2 pR (aa 2)<|aa 3) aI)
def IK:=ak (iC 1<|fX []) (ak (aM 2<|cI 1)<|ak (iY (CU<|aa 0) (aq 3) cN)<|ak (aY<|m1 u9<|vE 1) aI)
def yg:Fn:=defn 4 [false] IK
def yU:VS.aE:=("strides_of",[false],yg)
def Jp:VS.Tc:=tc (top 28) ["sides","at"] [yU]
@[reducible] def jL:M D:=(m2 pR (aa 2)<|aa 3)
def IC:M Fl:=by refine' (?k:VS.bc Jp) _ rfl;exactλf _=>f
def BY:Fn:=defn 2 [false,false] IC
def DL:VS.aE:=("place_at",[false,false],BY)
def Rd:VS.Tc:=tc (L2.inClass (top 54) 1) ["self","at"] [DL]
def QW:M Fl:=by refine' (?k:VS.bc Rd) _ rfl;exactλf _=>f
def mM:Fn:=defn 2 [false,false] QW
def w6:Str×VS.aE:=("cell","Table",[false],mM)
def Jn:VS.Tc:=tc (top 8) ["holds"]
def Iz:M Fl:=by refine' (?k:VS.bc Jn) _ rfl;exactλf _=>f
def uw:Fn:=defn 1 [false] Iz
def DK:VS.aE:=("one_if",[false],uw)
def WZ:VS.Tc:=tc (top 5) ["deed","one","other"] [DK]
def QY:=ak (ef (tB<|m2 dP (aa 0)<|cS 19) (ak (aY<|m2 eJ (m2 bq (aa 1)<|aa 2)<|cI 1000003) aI) aI) (ak (ef (tB<|m2 dP (aa 0)<|cS 20) (ak (aY<|m2 eJ (m2 gR (aa 1)<|aa 2)<|cI 1000003) aI) aI)<|ak (ef (tB<|m2 dP (aa 0)<|cS 21) (ak (aY<|m2 eJ (m2 pR (aa 1)<|aa 2)<|cI 1000003) aI) aI)<|ak (ef (tB<|m2 dP (aa 0)<|cS 22) (ak (aY<|mF minD [(aa 1),(aa 2)]) aI) aI)<|ak (ef (tB<|m2 dP (aa 0)<|cS 23) (ak (aY<|mF maxD [(aa 1),(aa 2)]) aI) aI)<|ak (ef (tB<|m2 dP (aa 0)<|cS 24) (ak (aY<|aw uw [.val<|m2 ltI (aa 1)<|aa 2]) aI) aI)<|ak (aY<|aw uw [.val<|m2 dP (aa 1)<|aa 2]) aI)
def Mo:Fn:=defn 3 [false,false,false] QY
def G4:VS.aE:=("both_deed",[false,false,false],Mo)
def Rf:VS.Tc:=tc (top 6) ["deed"]
def HU:=ak (aY<|m1 (Aw eS)<|aa 0) aI
def BL:Fn:=defn 1 [false] HU
def Ks:VS.aE:=("folded_none",[false],BL)
def L6:VS.Tc:=tc (top 7) ["deed","numbers","number","other"] [Ks,G4]
@[reducible] def iU:M Fl:=by refine' (?k:VS.AH L6 0) _ rfl;exactλf _=>f
def LO:M Fl:=by refine' (?k:VS.bc L6) _ rfl;exactλf _=>f
def Fw:Fn:=defn 4 [false,false] LO
def Uq:VS.aE:=("folded",[false,false],Fw)
def RG:VS.Tc:=tc (top 63) ["deed","source","side","at"] [Uq,yR] [] [w6]
@[reducible] def iH:M D:=(gL "Table" "cell" mM (aa 1) [.val<|aw ux [.val<|aa 3,.val<|aa 2,.val<|aa 4]])
def Q5:M Fl:=by refine' (?k:VS.bc RG) _ rfl;exactλf _=>f
def Ms:Fn:=defn 4 [false,false,false,false] Q5
def Up:VS.aE:=("fold_cell",[false,false,false,false],Ms)
def Ja:VS.Tc:=tc (top 65) ["ahead","behind","side","at","place","size"] [mB] [] [w6]
def A6:M Fl:=by refine' (?k:VS.bc Ja) _ rfl;exactλf _=>f
def ya:Fn:=defn 6 [false,false,false,false] A6
def Kv:VS.aE:=("join_cell",[false,false,false,false],ya)
def Jm:VS.Tc:=tc (top 4) ["deed","number"] [DK]
def Iy:M Fl:=by refine' (?k:VS.bc Jm) _ rfl;exactλf _=>f
def BW:Fn:=defn 2 [false,false] Iy
def KW:VS.aE:=("one_deed",[false,false],BW)
def Ru:VS.Tc:=tc (top 64) ["source","side","numbers","at","place"] [mB] [] [w6]
def IA:=ak (aM 4<|gL "Table" "cell" mM (aa 2) [.val<|bY [(m2 aj (aa 3)<|aa 1)]]) (ak (ef (tB<|m2 VH (aa 4)<|m2 aj (m1 (gw bO "sides")<|aa 0)<|aa 1) (ak (sI "NoCell" [(cS 32)]) aI) aI)<|ak (aY<|gL "Table" "cell" mM (aa 0) [.val<|aw uy [.val<|aa 3,.val<|aa 1,.val<|aa 4]]) aI)
def ye:Fn:=defn 5 [false,false,false,false] IA
def KY:VS.aE:=("pick_cell",[false,false,false,false],ye)
def Jt:VS.Tc:=tc (top 66) ["source","side","by","number","at","place"] [mB] [] [w6]
def xG:M Fl:=by refine' (?k:VS.bc Jt) _ rfl;exactλf _=>f
def uz:Fn:=defn 6 [false,false,false,false,false] xG
def K3:VS.aE:=("shift_cell",[false,false,false,false,false],uz)
def Jx:VS.Tc:=tc (top 61) ["source","at","last"] [] [] [w6]
@[reducible] def gE:M D:=(Ni (tB<|m2 dP (aa 3)<|cI 1) (cI 0)<|aa 4)
def IJ:M Fl:=by refine' (?k:VS.bc Jx) _ rfl;exactλf _=>f
def uC:Fn:=defn 3 [false,false] IJ
def yT:VS.aE:=("spread_cell",[false,false],uC)
def RC:VS.Tc:=tc (top 60) ["line","source","at","kind"] [mB,yR,u7,yT] [] [w6]
def du:=m2 aj (aa 2) (uO (m2 aj (aa 0)<|cI 2)<|aa 4)
def p9:=ak (aM 3<|m2 aj (aa 0)<|cI 0) (ak (ef (tB<|m2 dP (aa 3)<|cS 2) (ak (aY<|gL "Table" "cell" mM (aa 1) [.val<|m1 fS<|aD 1 (bH [(m1 bG<|aa 2)]) (aq 4) (VP.ret true) du]) aI) aI)<|ak (ef (tB<|m2 dP (aa 3)<|cS 3) (ak (aY<|gL "Table" "cell" mM (aa 1) [.val<|aw uy [.val<|aa 2,.val<|m2 aj (aa 0)<|cI 2,.val<|m2 bq (m2 aj (aa 0)<|cI 3)<|m2 pR (m2 aj (aa 0)<|cI 4)<|m2 aj (aa 2)<|m2 aj (aa 0)<|cI 2]]) aI) aI)<|ak (ef (tB<|m2 dP (aa 3)<|cS 4) (ak (aY<|gL "Table" "cell" mM (aa 1) [.val<|aw ux [.val<|aa 2,.val<|m2 aj (aa 0)<|cI 2,.val<|m2 aj (aa 0)<|cI 3]]) aI) aI)<|ak (ef (tB<|m2 dP (aa 3)<|cS 5) (ak (aY<|gL "Table" "cell" mM (aa 1) [.val<|aw yi [.val<|aa 2,.val<|m2 aj (aa 0)<|cI 2]]) aI) aI)<|ak (aY<|aw uC [.val<|aa 1,.val<|aa 2]) aI)
def iy:Fn:=defn 4 [false,false,false] p9
def Ld:VS.aE:=("view_cell",[false,false,false],iy)
def JA:VS.Tc:=tc (top 62) ["asked","left","right","at"] [yT]
def Bc:M Fl:=by refine' (?k:VS.bc JA) _ rfl;exactλf _=>f
def yh:Fn:=defn 4 [false,false,false,false] Bc
def Lg:VS.aE:=("where_cell",[false,false,false,false],yh)
def Ri:VS.Tc:=tc (top 59) ["line","sides","made","at","kind"] [KW,G4,yT,Lg,Up,KY,Kv,K3,DL,Ld] ["made"] [w6]
def mH:M Fl:=by refine' (?k:VS.bc Ri) _ rfl;exactλf _=>f
def eD:Fn:=defn 5 [false,false,true,false] mH
def Ul:VS.aE:=("cell_made",[false,false,true,false],eD)
def Bh:VS.Tc:=tc (top 29) ["sides","place","at","rest","stride","step"] [yU] ["at"]
@[reducible] def gy:M Fl:=by refine' (?k:VS.AH Bh 0) _ rfl;exactλf _=>f
def HY:M Fl:=by refine' (?k:VS.bc Bh) _ rfl;exactλf _=>f
def uk:Fn:=defn 6 [false,false] HY
def DF:VS.aE:=("index_of",[false,false],uk)
def IY:VS.Tc:=tc (top 30) ["sides"] [G5,DF]
@[reducible] def ik:M D:=(aw uk [.val<|aa 0,.val<|aa 1])
def HZ:M Fl:=by refine' (?k:VS.bc IY) _ rfl;exactλf _=>f
def xZ:Fn:=defn 1 [false] HZ
def Ku:VS.aE:=("indexes_of",[false],xZ)
def Bn:VS.Tc:=tc (top 58) ["deed","source","side","stride","cells","place","number","begins"] [yU,DF,G4] ["cells"] [] [] [(247,4)]
@[reducible] def b5:M Fl:=by refine' (?k:VS.AH Bn 0) _ rfl;exactλf _=>f
def IF:M Fl:=by refine' (?k:VS.bc Bn) _ rfl;exactλf _=>f
def BZ:Fn:=defn 8 [false,false,false] IF
def K2:VS.aE:=("run_cells",[false,false,false],BZ)
def Jy:VS.Tc:=tc (top 57) ["line","sides","made","tables"] [K2,Ku,Ul] ["made"] [] [Uj]
@[reducible] def bU:M D:=(aw eD [.val<|aa 0,.val<|aa 1,.io 2,.val<|aa 4])
def tP:M Fl:=by refine' (?k:VS.bc Jy) _ rfl;exactλf _=>f
def jN:Fn:=defn 4 [false,false,true,false] tP
def K9:VS.aE:=("table_made",[false,false,true,false],jN)
def RD:VS.Tc:=tc (top 20) ["program","wanted","at","named"] [DJ] ["wanted"] [] [] [(64,1)]
def dy:M D:=cF
def dH:=ak (ke 1 (aa 3) cT) aI
def a6:=ak (ef (tB<|iW 1<|aa 2) (ak (iY (cR<|aw uv [.val<|m2 aj (aa 0)<|aa 2]) (aq 3) dH) aI) aI) aI
def IP:=ak (iC 1<|aD 1 (cR<|aa 0) (aq 4) (VP.ret true) dy) (ak (ke 1 (m2 gR (m1 bG<|aa 0)<|cI 1) cT)<|ak (iY (yF [(m2 gR (m1 bG<|aa 0)<|cI 1),(m1 rS<|cI 1),(m1 rS<|cI 1)]) (aq 2) a6)<|ak (AR 1<|aY<|aa 1) aI)
def B3:Fn:=defn 4 [false] IP
def Lf:VS.aE:=("wanted_lines",[false],B3)
def Bm:VS.Tc:=tc (top 56) ["program","tables","sides","wanted","made","at","line"] [K6,Lf,K9] ["made"]
@[reducible] def fZ:M D:=(m1 (gw bO "sides")<|aa 7)
@[reducible] def aZ:M Fl:=by refine' (?k:VS.AH Bm 0) _ rfl;exactλf _=>f
def Ba:M Fl:=by refine' (?k:VS.bc Bm) _ rfl;exactλf _=>f
def nZ:Fn:=defn 7 [false,false] Ba
def K1:VS.aE:=("plain_answer",[false,false],nZ)
def Ra:VS.Tc:=tc (top 91) ["_law_script","_law_row","_law_seeds","_law_drawn_here","_law_sides","_law_given","_law_cells_here","_law_tables","_law_program_here","_law_due","_law_told","_law_k"] [oY,KL,KJ,K1,KA] ["_law_row"] [] [Uj]
def tU:=rO "Table" BK [.val<|m2 aj (aa 5)<|aa 12,.val<|m2 aj (aa 6)<|aa 12]
def fR:=ak (aM 10<|aw nZ [.val<|aa 8,.val<|aa 7]) aI
def pD:=ak (aY<|m2 isND (aa 9)<|mC .aP) aI
def kI:=ak (ef (i7<|tB<|aw nX [.val<|m2 aj (aa 7)<|aa 11,.val<|m2 aj (aa 5)<|aa 11,.val<|m2 aj (aa 6)<|aa 11]) (ak (aY cF) aI) aI) aI
@[reducible] def pE:M Bool:=(y9 (tB<|m2 isND (aa 9)<|mC .aP)<|y9 (tB<|m2 gW (aa 8)<|m2 aj (aa 3)<|cI 0)<|y9 (tB<|m2 gW (m1 bG<|aa 7)<|m2 aj (aa 3)<|cI 2)<|i7<|tB<|aw nX [.val<|aa 10,.val<|m2 aj (aa 4)<|m1 rS<|cI 1,.val<|m2 aj (aa 9)<|m1 rS<|cI 1])
@[reducible] def sU:M Fl:=(ak (iY (bH [(m2 aj (aa 3)<|cI 2)]) (aq 11) kI)
 (ak (aY cT)
 aI))
def A5:=ak (iC 1<|fX [(aa 0),(cI 0)]) (ak (aM 2<|fX [(aw bN [.io 1,.val<|cI 1000003]),(aw bN [.io 1,.val<|cI 1000003]),(aw bN [.io 1,.val<|cI 1000003])])<|ak (aM 3<|aw yc [.io 1])<|ak (aM 4<|m2 aj (aa 3)<|cI 1)<|ak (aM 5<|m2 aj (aa 3)<|cI 3)<|ak (aM 6<|kJ um (fX [(aa 2),(cI 0)]) [(aa 5),(m2 aj (aa 3)<|cI 2)])<|ak (aM 7<|aD 1 (bH [(m2 aj (aa 3)<|cI 2)]) (aq 12) (VP.ret true) tU)<|ak (aM 8<|m1 gK<|m2 aj (aa 3)<|cI 0)<|ak (aM 9<|aw lY [.val<|aa 8,.val<|aa 4,.val<|aa 6])<|ve br 10 11 fR [(g6,none,pD)] pE (ak (aY cF) aI) sU)
def uj:Fn:=defn 12 [false] A5
end LW
end
section
set_option maxRecDepth 100000
set_option linter.all false
namespace LW
open PySem VP
def cell(ns:UX)(k:Nat):Int:=ns.getD k 0
def Row(ns:UX)(p:Nat):D:=.lst [Z ns,.int p]
theorem vm(ns:UX)(p:Nat)(m:Int)(h:0<m):bN [Row ns p,.int m]=.ok (.int<|cell ns p % m) [Row ns<|p+1]:=by rw[bN,gh _ _ _ _ rfl];unfold Iv cell Row;have i0:∀(j:Int),wk [Z ns,.int j] 0=some (Z ns):=λ_=>rfl;have i1:∀(j:Int),wk [Z ns,.int j] 1=some (.int j):=λ_=>rfl;have st:∀(i j:Int),setAt (.int 1) (.int j) (.lst [Z ns,.int i])=some (.lst [Z ns,.int j]):=λ_ _=>rfl;by_cases hp:p<ns.length;have e:=bV ns p Uz Uz;simp[i0,i1,st,hp,e,cE _ _ h];have hp':¬(p:Int)<ns.length:=Uz;have g:ns[p]?=none:=Bv Uz;simp[i0,i1,st,hp,g]
theorem oM:names.all kP=true/\names.Nodup:=⟨by decide +kernel,by decide +kernel⟩
theorem rT{i:Nat}(h:i<names.length):nm i=names[i]:=by simp[nm,h]
theorem Ml(i j:Nat)(hi:i<names.length)(hj:j<names.length):dP (.str<|nm i) (.str<|nm j)=some (.bl<|decide<|i=j):=by
 have f:∀k,k<names.length->kP (nm k)=true:=λk h=>by rw[rT h];exact List.all_eq_true.mp oM.1 _ (NM h)
 have e:(nm i == nm j)=decide (i=j):=by rw[rT hi,rT hj];by_cases h:i=j;subst h;simp;have:names[i]≠names[j]:=λz=>h<|(List.getElem_inj oM.2).mp z;simp[h,this]
 simp[dP,VP.plain,f i hi,f j hj,JG,e]
theorem Yp:32<=names.length:=by decide
theorem EJ(i j:Nat)(hi:i<32)(hj:j<32):dP (.str<|nm i) (.str<|nm j)=some (.bl<|decide<|i=j):=Ml i j (Hz hi Yp) (Hz hj Yp)
abbrev TyD(x y:Res D):Prop:=x=y
abbrev TyO(x y:Pu):Prop:=x=y
abbrev TyF(x y:Res Fl):Prop:=x=y
abbrev TyA(x y:Res (List AV)):Prop:=x=y
abbrev TyB(x y:Res Bool):Prop:=x=y
abbrev TyL(x y:Res (List D)):Prop:=x=y
theorem ao{α:Type}{x y:α}(h:x=y:=by
  repeat' first
    |with_reducible assumption
    | (with_reducible refine(?_:TyD _ _)
       first
         | ((with_reducible apply Py);exact rfl)
         |with_reducible first|exact WB|apply Tq|apply Tu|apply Fg|exact Ak|apply C4|apply Tz|apply Pt|apply Q1P|apply E9|apply Oq|apply UD|apply Q2K|apply VI|apply Q24|apply Gr|apply Gs
         | ((with_reducible apply Us);exact rfl))
    | (with_reducible refine(?_:TyO _ _)
       with_reducible first|exact EJ _ _ (by decide) (by decide)|exact tw _ _|exact sP _ _|exact eX _ _|exact bX _ _|exact gA _ _|exact iT _ _|exact Q0o _ _|exact Gw _|exact Na _|exact wt _|exact zb _|exact Q0C _|exact F7 _|exact rM _)
    | (with_reducible refine(?_:TyF _ _)
       first
         |with_reducible first|apply UH|apply Hd|apply Q27|apply Ow|apply yx|apply OW|exact Q1m|exact Hg|apply VB|exact Ak|apply Mw|apply LL|apply W8|apply Pd|apply Q0p|apply R8|apply Wc
        )
    | (with_reducible refine(?_:TyA _ _)
       with_reducible first|exact tD|apply tH|apply vP|exact Ak)
    | (with_reducible refine(?_:TyB _ _)
       first
         |with_reducible first|apply UN|apply ND|apply LJ|apply TX|exact Ak
        )
    | (with_reducible refine(?_:TyL _ _)
       with_reducible first|exact z8|apply TB|apply Q1a|apply OZ|apply PW|apply Fq|apply Q0T|apply V3|exact Ak)
    | ((with_reducible apply IU);refine Qi ?_;with_reducible assumption)|((with_reducible apply IT);refine VY ?_;with_reducible assumption)|((with_reducible apply IU);exact rfl)|((with_reducible apply IT);exact rfl)
    |with_reducible first|apply Ub|exact Q2P|apply Q1R|exact O8 _|exact O9 _|exact Ak
    | ((dsimp only[List.set,putAll,cu,bI,List.getElem?_cons_zero,List.getElem?_cons_succ,gu,own,Option.map_some]);first|done|with_reducible exact rfl)
    |exact rfl|(refine FC rfl ?_;with_reducible assumption)):x=y:=h
theorem Uw(n:Nat)(bs:ZU)(d:D)(ds:Vt):aU (n+1) (false::bs) (d::ds)=.sh d::aU n bs ds:=rfl
theorem Uy(n:Nat)(bs:ZU)(d:D)(ds:Vt):aU (n+1) (true::bs) (d::ds)=.io d::aU n bs ds:=rfl
theorem Ux(n:Nat):aU n [] []=List.replicate n .no:=rfl
theorem Uv(n:Nat):List.replicate (n+1) Sl.no=.no::List.replicate n .no:=rfl
theorem Uu:List.replicate 0 Sl.no=[]:=rfl
theorem rn{n:Nat}{fl:ZU}{b:M Fl}{ds ios:Vt}{r r0:ax}{d:D}(hl:decide (ds.length=fl.length)=true:=by exact rfl)(h0:aU n fl ds=r0:=by((dsimp only[Uw,Uy,Ux,Uv,Uu]);first|done|with_reducible exact rfl))(h:b r0=.ok (.rt d) r:=by exact ao)(hi:bp fl r=some ios:=by exact rfl):defn n fl b ds=.ok d ios:=R3 hl (h0 ▸ h) hi
theorem rnN{n:Nat}{fl:ZU}{b:M Fl}{ds ios:Vt}{r r0:ax}(hl:decide (ds.length=fl.length)=true:=by exact rfl)(h0:aU n fl ds=r0:=by((dsimp only[Uw,Uy,Ux,Uv,Uu]);first|done|with_reducible exact rfl))(h:b r0=.ok .nx r:=by exact ao)(hi:bp fl r=some ios:=by exact rfl):defn n fl b ds=.ok .aP ios:=R4 hl (h0 ▸ h) hi
theorem neS(i j:Nat)(hi:i<32)(hj:j<32):gW (.str<|nm i) (.str<|nm j)=some (.bl<|!decide (i=j)):=by
 have e:=EJ i j hi hj;unfold dP at e;unfold gW;split at e;rename_i hp;rw[YN hp];have e':eqB (D.str<|nm i) (.str<|nm j)=decide (i=j):=by simpa using e
 rw[e'];cases e
theorem m2_(i:Int):eJ (.int i) (.int 2)=some (.int<|i % 2):=cE _ _ Uz
theorem d2_(i:Int):qt (.int i) (.int 2)=some (.int<|i / 2):=gI _ _ Uz Uz
theorem Kk(i:Int):eJ (.int i) (.int 1000003)=some (.int<|i % 1000003):=cE _ _ Uz
theorem jk(k:Bool):intD [.bl k]=some (.int<|if k=true then 1 else 0):=rfl
def Rt(a:Int):Prop:=0<=a/\a<1000003
def ah:UX->Int|[]=>1|x::r=>x*ah r
def cH:UX->List Int|[]=>[]|_::r=>ah r::cH r
def idx:UX->Int->List Int|[],_=>[]|_::r,p=>p / max (ah r) 1::idx r (p % max (ah r) 1)
def aG:UX->Int->List Int|[],_=>[]|x::r,p=>p / ah r % x::aG r p
def dot:UX->UX->Int|x::xs,y::ys=>x*y+dot xs ys|_,_=>0
structure Sd(xs:UX):Prop where
 len:xs.length<=4
 bd:∀x∈xs,0<=x/\x<=64
theorem sg:∀(xs:UX),(∀x∈xs,0<=x/\x<=64)->0<=ah xs/\ah xs<=64 ^ xs.length|[],_=>by simp[ah]|x::r,h=>by have hx:=h x R9;have hr:=sg r λy hy=>h y<|Pe _ hy;simp only[ah,List.length_cons];refine⟨Dp hx.1 hr.1,?_⟩;have:x*ah r<=64*64 ^ r.length:=Int.mul_le_mul hx.2 hr.2 hr.1 Uz;rw[Int.pow_succ];lia
theorem uY:∀{n:Nat},n<=4->(64:Int) ^ n<=16777216|0,_=>by decide|1,_=>by decide|2,_=>by decide|3,_=>by decide|4,_=>by decide
theorem Sd.prod{xs:UX}(h:Sd xs):0<=ah xs/\ah xs<=16777216:=by
 have:=sg xs h.bd;have:=uY h.len
 lia
theorem Sd.tail{x:Int}{r:UX}(h:Sd (x::r)):Sd r:=⟨by have:=h.len;simp at this;lia,λy hy=>h.bd y<|Pe _ hy⟩
theorem Sd.drop{xs:UX}(h:Sd xs)(k:Nat):Sd (xs.drop k):=⟨by have:=h.len;simp;lia,λy hy=>h.bd y<|zW hy⟩
theorem j9:∀(xs:UX)(a:Int),xs.foldl (λp x=>p*x) a=a*ah xs|[],a=>by simp[ah]|x::r,a=>by simp only[List.foldl_cons,ah];rw[j9 r];rw[Int.mul_assoc]
theorem Bx(xs:UX)(k:Nat)(h:k<xs.length):fK (T xs) (some<|(k:Int)+1) none=some (T<|xs.drop<|k+1):=by
 have e:gP xs.length 0 (some<|(k:Int)+1)=k+1:=by unfold gP;simp only[];rw[YO Uz];lia
 rw[Mg,e];simp only[gP];rw[xv Qj]
def back(xs:UX)(k:Nat):Int:=if k<xs.length then xs.getD (xs.length-1-k) 1 else 1
def oQ(x y:Int):Bool:=decide (x=1\/y=1\/x=y)
def pk(x y:Int):Int:=if x=1 then y else x
def Lq(acc:UX)(p:Int×Int):D ⊕ List Int:=if oQ p.1 p.2 then .inr (acc++[pk p.1 p.2]) else .inl .aP
theorem qu(ps:List (Int×Int)):∀acc,iQ Lq ps acc=if ps.all (λp=>oQ p.1 p.2) then .inr (acc++ps.map λp=>pk p.1 p.2) else .inl .aP:=by induction ps with|nil=>intro acc;simp[iQ]|cons p ps ih=>intro acc;simp only[iQ,Lq,List.all_cons];by_cases q:oQ p.1 p.2=true;simp only[q,if_true,ih,Bool.true_and];simp;simp[q]
def Ae:Option (List Int)->D|some xs=>T xs|none=>.aP
def pairs(one other:UX):List (Int×Int):=(List.range<|max one.length other.length).map λk=>(back one k,back other k)
def meet(one other:UX):Option (List Int):=if (pairs one other).all (λp=>oQ p.1 p.2) then some ((pairs one other).map λp=>pk p.1 p.2).reverse else none
def ahead(xs:UX)(n:Nat):UX:=List.replicate (n-xs.length) 1++xs
theorem jB(one other:UX):(ahead one<|max one.length other.length).zip (ahead other<|max one.length other.length)=(pairs one other).reverse:=by
 have len:∀(xs:UX)(n:Nat),xs.length<=n->(ahead xs n).length=n:=λxs n h=>by simp[ahead];omega
 have get:∀(xs:UX)(n i:Nat),xs.length<=n->i<n->(ahead xs n)[i]?=some (back xs<|n-1-i):=λxs n i h hi=>by unfold ahead back;by_cases c:i<n-xs.length;rw[zF (by simpa using c),YO Vc];simp[c];rw[Oy (by simp;omega),YN Vc];have e:xs.length-1-(n-1-i)=i-(n-xs.length):=Vc;have hl:i-(n-xs.length)<xs.length:=Vc;simp[e,hl]
 refine List.ext_getElem? λi=>?_;by_cases hi:i<max one.length other.length;rw[show (List.zip (ahead one<|max one.length other.length)<|ahead other<|max one.length other.length)[i]?=some (back one<|max one.length other.length-1-i,back other<|max one.length other.length-1-i) from List.getElem?_zip_eq_some.mpr ⟨get one _ _ Vc hi,get other _ _ Vc hi⟩];rw[WA (by simp[pairs];omega)];simp only[pairs,List.length_map,List.length_range,List.getElem?_map];rw[El Vc];rfl;rw[Bv (by rw[List.length_zip,len _ _ Vc,len _ _ Vc];omega),Bv (by simp[pairs];omega)]
theorem lg(xs:UX)(n:Nat)(h:xs.length<=n):(ahead xs n).length=n:=by simp[ahead];lia
theorem oF(one other:UX)(h1:one.length<=4)(h2:other.length<=4):qo [T one,T other]=.ok (Ae<|meet one other) []:=by
 obtain⟨n,hn⟩:∃n,max one.length other.length=n:=⟨_,rfl⟩;have o1:one.length<=n:=hn ▸ PQ ..;have o2:other.length<=n:=hn ▸ Nat.le_max_right ..;have mx:maxD [.int (one.length:Int),.int (other.length:Int)]=some (.int (n:Int)):=by rw[rP,show max (one.length:Int) other.length=n by lia]
 have er:sE [.int (n:Int)]=some ((List.range n).map λ(k:Nat)=>.int k):=pd _ _ Uz Uz Uz;have mu:∀(xs:UX),xs.length<=n->wF (.tup [.int 1]) (.int<|(n:Int)-xs.length)=some (T<|List.replicate (n-xs.length) 1):=λxs hx=>by
  have e:((n:Int)-xs.length).toNat=n-xs.length:=Uz;have d:wF (.tup [.int 1]) (.int<|(n:Int)-xs.length)=if -(gU:Int)<=(n:Int)-xs.length/\(n:Int)-xs.length<=gU/\[D.int 1].length*((n:Int)-xs.length).toNat<=gU then some (.tup (List.replicate ((n:Int)-xs.length).toNat [D.int 1]).flatten) else none:=rfl
  rw[d,YN (by simp[gU];lia),e];simp[T,List.map_replicate]
 have ad:∀(xs:UX),xs.length<=n->bq (T<|List.replicate (n-xs.length) 1) (T xs)=some (T<|ahead xs n):=λxs hx=>by rw[bZ _ _ (by simp[gU];lia)];rfl
 have l1:=lg one n Uz;have l2:=lg other n Uz;have zp:=jB one other;rw[hn] at zp;have L:=j6 (g:=aq 6) (body:=hU) (λ(k:Nat)=>D.int k) (λ(s:UX)(t:Sl)=>[.sh<|T one,.sh<|T other,.sh<|.int (n:Int),.sh<|T<|ahead one n,.sh<|T<|ahead other n,.sh<|T s,t]) kv (λacc k=>Lq acc ((ahead one n).getD k 0,(ahead other n).getD k 0)) (List.range n) (λk s=>s.length=k) [] .no rfl rfl ?_;have e:iQ (λacc k=>Lq acc ((ahead one n).getD k 0,(ahead other n).getD k 0)) (List.range n) []=iQ Lq (pairs one other).reverse []:=by
  have em:(pairs one other).reverse=(List.range n).map λk=>((ahead one n).getD k 0,(ahead other n).getD k 0):=by
   rw[<-zp];refine O6 (by simp[l1,l2]) λk a b=>?_;have hk:k<n:=by simpa using b
   simp[l1,l2,hk]
  rw[em];generalize (List.range n)=ks;generalize ([]:UX)=acc;induction ks generalizing acc with|nil=>rfl|cons k ks ih=>simp only[iQ,List.map_cons];split<;>simp_all
 rw[e,qu,tW] at L;unfold meet;have m1':=mu one o1;have m2':=mu other o2;have a1':=ad one o1;have a2':=ad other o2;by_cases q:(pairs one other).all (λp=>oQ p.1 p.2)=true;rw[YN q] at L;obtain⟨_,t,_,L⟩:=L;simp only[List.nil_append] at L;rw[YN q];rw[show T []=D.tup [] from rfl,Pp] at L;unfold qo A7 Ae;exact rn;rw[YO q] at L;obtain⟨s',t,L⟩:=L;rw[YO q];rw[show T []=D.tup [] from rfl] at L;unfold qo A7 Ae;exact rn;intro i k hk acc t ht hP;obtain⟨rfl,hk⟩:=bE hk;have hf:free (some t)=true:=ht;have e1:∀x:Int,bq (T acc) (.tup [.int x])=some (T<|acc++[x]):=λx=>bZ acc [x] (by simp[gU];lia);have i1:aj (T<|ahead one n) (.int (k:Int))=_:=bV (ahead one n) k Uz Uz;have i2:aj (T<|ahead other n) (.int (k:Int))=_:=bV (ahead other n) k Uz Uz;simp only[Es] at i1 i2;generalize (ahead one n).getD k 0=x at *;generalize (ahead other n).getD k 0=y at *;clear er mu ad zp mx;generalize T (ahead one n)=A at *;generalize T (ahead other n)=B at *;generalize T one=O1 at *;generalize T other=O2 at *;have x1:aF (aq 6) hU (.int k) [.sh O1,.sh O2,.sh<|.int n,.sh A,.sh B,.sh<|T acc,t]=if oQ x y then .ok .nx [.sh O1,.sh O2,.sh<|.int n,.sh A,.sh B,.sh<|T<|acc++[pk x y],.sh<|.int k] else .ok (.rt .aP) [.sh O1,.sh O2,.sh<|.int n,.sh A,.sh B,.sh<|T acc,.sh<|.int k]:=by have n1:=bX x y;have n2:=bX x 1;have n3:=bX y 1;have n4:=eX x 1;have e1x:=e1 x;have e1y:=e1 y;rw[show oQ x y=(decide (x=1)||decide (y=1)||decide (x=y)) by simp[oQ,Bool.or_assoc],show pk x y=if decide (x=1)=true then y else x by simp[pk],aF,show aq 6 (.int k) _=.ok () [.sh O1,.sh O2,.sh<|.int n,.sh A,.sh B,.sh<|T acc,.sh<|.int k] by simp[hf],ag];generalize decide (x=1)=b1 at *;generalize decide (y=1)=b2 at *;generalize decide (x=y)=b3 at *;unfold hU;cases b1<;>cases b2<;>cases b3<;>exact ao
 unfold Lq;dsimp only;rw[x1];by_cases q:oQ x y=true;rw[YN q,YN q];exact⟨by simp[hP],.sh<|.int k,rfl,rfl⟩;rw[YO q,YO q];exact⟨acc,.sh<|.int k,rfl⟩
def Sm(xs:UX):Prop:=∀x∈xs,-100000<=x/\x<=100000
theorem yY(n k:Nat)(d:Nat)(h:k<=n):gP n d (some (k:Int))=k:=by unfold gP;dsimp only;rw[if_neg Uz];lia
@[simp] theorem vd(n d:Nat):gP n d none=d:=Tf
def wo(s:UX)(k:Nat):UX:=s.take k++s.drop (k+1)
def pin(s:UX)(k:Nat)(x:Int):UX:=s.take k++x::s.drop k
def rep(s:UX)(k:Nat)(x:Int):UX:=s.take k++x::s.drop (k+1)
theorem u0:∀(a b:UX),ah (a++b)=ah a*ah b|[],b=>by simp[ah]|x::a,b=>by simp only[List.cons_append,ah,u0 a b];rw[Int.mul_assoc]
def aW(ss:V7):D:=.lst (ss.map T)
theorem S1(ss:V7)(i:Nat)(s:UX)(h:ss[i]?=some s):wk (ss.map T) (i:Int)=some (T s):=by refine lF _ _ _ Uz ?_;simp[h]
theorem d6(ss:V7):bG (aW ss)=some (.int ss.length):=by simp[aW]
theorem FW(ss:V7)(i:Nat)(s:UX)(h:ss[i]?=some s):aj (aW ss) (.int i)=some (T s):=S1 ss i s h
theorem cC{s t m:UX}(h:meet s t=some m):m.length=max s.length t.length:=by unfold meet at h;split at h;cases h;simp[pairs];cases h
theorem GO(n:Nat)(s:UX):VP.plain (n+1) (T s)=true:=by unfold T;rw[VP.plain];exact gk n s
theorem RX(s:UX):eqB (T s) (T s)=true:=by unfold T;rw[ui,ji];simp
theorem Fx(k:Nat)(h:k<32):kP (nm k)=true:=by have h':=Hz h Yp;rw[rT h'];exact List.all_eq_true.mp oM.1 _ (NM h')
inductive PL where
 |given (j:Int)|mK (s:UX) (x:Int)|turn (a:Nat) (o:UX)|cut (a:Nat) (k b st m:Int)|drop (a:Nat) (k p:Int)|wide (a:Nat) (k:Int)|spread (a:Nat) (t:UX)|shape (a:Nat) (t:UX)|shift (a:Nat) (k n x:Int)|one (d a:Nat)|both (d a b:Nat)|kW (a b c:Nat)|fold (d a:Nat) (k:Int)|run (d a:Nat) (k:Int)|pick (a:Nat) (k:Int) (b:Nat)|join (a b:Nat) (k:Int)
abbrev RY:=List PL
instance:Inhabited PL:=⟨.given 0⟩
def PL.k:PL->Nat|.given _=>0|.mK _ _=>1|.turn _ _=>2|.cut _ _ _ _ _=>3|.drop _ _ _=>4|.wide _ _=>5|.spread _ _=>6|.shape _ _=>7|.shift _ _ _ _=>8|.one _ _=>9|.both _ _ _=>10|.kW _ _ _=>11|.fold _ _ _=>12|.run _ _ _=>13|.pick _ _ _=>14|.join _ _ _=>15
def PL.ps:PL->List D|.given j=>[.int j]|.mK s x=>[T s,.int x]|.turn a o=>[.int a,T o]|.cut a k b st m=>[.int a,.int k,.int b,.int st,.int m]|.drop a k p=>[.int a,.int k,.int p]|.wide a k=>[.int a,.int k]|.spread a t=>[.int a,T t]|.shape a t=>[.int a,T t]|.shift a k n x=>[.int a,.int k,.int n,.int x]|.one d a=>[.str<|nm d,.int a]|.both d a b=>[.str<|nm d,.int a,.int b]|.kW a b c=>[.int a,.int b,.int c]|.fold d a k=>[.str<|nm d,.int a,.int k]|.run d a k=>[.str<|nm d,.int a,.int k]|.pick a k b=>[.int a,.int k,.int b]|.join a b k=>[.int a,.int b,.int k]
def PL.d(l:PL):D:=.tup (.str (nm l.k)::l.ps)
def PL.ns:PL->List Nat|.given _=>[]|.mK _ _=>[]|.turn a _=>[a]|.cut a _ _ _ _=>[a]|.drop a _ _=>[a]|.wide a _=>[a]|.spread a _=>[a]|.shape a _=>[a]|.shift a _ _ _=>[a]|.one _ a=>[a]|.both _ a b=>[a,b]|.kW a b c=>[a,b,c]|.fold _ a _=>[a]|.run _ a _=>[a]|.pick a _ b=>[a,b]|.join a b _=>[a,b]
def PL.jZ:PL->Prop|.one d _=>d<32|.both d _ _=>d<32|.fold d _ _=>d<32|.run d _ _=>d<32|_=>True
theorem PL.V2(l:PL):l.k<16:=by cases l<;>simp[PL.k]
theorem PL.W9(l:PL):l.ns.length<=3:=by cases l<;>simp[PL.ns]
theorem PL.kind(l:PL):aj l.d (.int 0)=some (.str<|nm l.k):=by unfold PL.d;simp
theorem PL.named(l:PL):uv [l.d]=.ok (.lst<|l.ns.map λa=>D.int (a:Nat)) []:=by cases l<;>kernel_rfl!
def PL.ok(l:PL):Prop:=l.jZ
theorem PL.plain(l:PL)(h:l.jZ)(n:Nat):VP.plain (n+2) l.d=true:=by have f:∀k,k<32->kP (nm k)=true:=Fx;have p:∀s:UX,VP.plain (n+1) (T s)=true:=GO n;cases l<;>simp[PL.d,PL.k,PL.ps,PL.jZ,VP.plain,dU,p,f] at h ⊢<;>exact f _ h
theorem PL.refl(l:PL):eqB l.d l.d=true:=by cases l<;>simp[PL.d,PL.k,PL.ps,ui,JG,ug,lB,RX]
def Pg(ls:RY):D:=.lst (ls.map PL.d)
theorem AY(ls:RY)(h:∀l∈ls,l.jZ):VP.plain 60 (Pg ls)=true:=by unfold Pg;rw[VP.plain];induction ls with|nil=>rfl|cons l ls ih=>rw[Yk,dU,PL.plain l (h l R9),ih λx hx=>h x<|Pe _ hx];rfl
theorem Q0N(ls:RY):eqB (Pg ls) (Pg ls)=true:=by unfold Pg;rw[uh];induction ls with|nil=>rfl|cons l ls ih=>rw[Yk,lB,PL.refl,ih];rfl
theorem Q13(ls:RY)(h:∀l∈ls,l.jZ):gW (Pg ls) (Pg ls)=some (.bl false):=by unfold gW;rw[AY ls h,Q0N];rfl
theorem Cz(ls:RY)(i:Nat)(l:PL)(h:ls[i]?=some l):aj (Pg ls) (.int (i:Int))=some l.d:=by unfold Pg;rw[qB];exact lF _ _ _ Uz (by simp[h])
theorem kF(ls:RY):bG (Pg ls)=some (.int ls.length):=by simp[Pg]
theorem DU(ls:RY):b6 (Pg ls)=some (ls.map PL.d):=rfl
theorem bu{S Tm A:Type}{g:D->M Unit}{body:M Fl}(mk:A->D)(R:S->Tm->ax)(ok:Tm->Prop):∀(as:List A)(P:Nat->S->Prop)(s:S)(t:Tm),ok t->P 0 s ->
  (∀(i:Nat)(a:A),as[i]?=some a->∀s t,ok t->P i s->∃s' t',P (i+1) s'/\ok t'/\cont (aF g body (mk a)<|R s t)=some (R s' t')) ->
  ∃s' t',P as.length s'/\ok t'/\loop g body (as.map mk) (R s t)=.ok .nx (R s' t'):=by
 intro as;induction as with|nil=>intro P s t ht hs _;exact⟨s,t,hs,ht,rfl⟩|cons a as ih=>intro P s t ht hs h;obtain⟨s1,t1,p1,o1,e1⟩:=h 0 a rfl s t ht hs;obtain⟨s2,t2,p2,o2,e2⟩:=ih (λk=>P<|k+1) s1 t1 o1 p1 λi a' ha=>h (i+1) a' (by simpa using ha);exact⟨s2,t2,by simpa using p2,o2,by rw[List.map_cons,fm e1];exact e2⟩
def Wf(ls:RY):Prop:=∀(i:Nat)(l:PL),ls[i]?=some l->∀r∈l.ns,r<i
inductive mW(ls:RY):Nat->Prop where
 |last:mW ls (ls.length-1)|step {i r:Nat} {l:PL}:mW ls i->ls[i]?=some l->r∈l.ns->mW ls r
theorem mW.lt{ls:RY}(wf:Wf ls)(h0:ls≠[]){i:Nat}(h:mW ls i):i<ls.length:=by induction h with|last=>have:=List.length_pos_iff.mpr h0;lia|step h e hr ih=>have:=wf _ _ e _ hr;lia
def nA(w:ZU):D:=.lst (w.map .bl)
def eU(ks:YK):D:=.lst (ks.map λk=>.int (k:Nat))
theorem uR:∀(ns:YK)(w:ZU)(i:Nat),(ns.foldl (λw r=>w.set r true) w).length=w.length/\((ns.foldl (λw r=>w.set r true) w)[i]?=some true<->i<w.length/\(w[i]?=some true\/i∈ns))
|[],w,i=>by refine⟨rfl,⟨λh=>⟨(List.getElem?_eq_some_iff.mp h).1,.inl h⟩,λ⟨h1,h⟩=>?_⟩⟩;rcases h with h|h;exact h;simp at h
|r::ns,w,i=>by obtain⟨h1,h2⟩:=uR ns (w.set r true) i;simp only[List.foldl_cons];refine⟨by rw[h1];simp,?_⟩;rw[h2];simp only[List.length_set,List.mem_cons];constructor;rintro⟨a,b⟩;refine⟨a,?_⟩;rcases b with b|b;by_cases e:r=i;exact .inr<|.inl e.symm;rw[Hb e] at b;exact .inl b;exact .inr<|.inr b;rintro⟨a,b⟩;refine⟨a,?_⟩;by_cases e:r=i;subst e;exact .inl (by rw[OG a]);rw[Hb e];rcases b with b|b|b;exact .inl b;exact absurd b.symm e;exact .inr b
theorem Bf(w:ZU)(r:Nat)(b:Bool)(h:r<w.length):setAt (.int (r:Int)) (.bl b) (nA w)=some (nA<|w.set r b):=by unfold nA;rw[Ar _ _ _ Uz (by simp;lia),Es,List.map_set]
theorem xK(w:ZU)(i:Nat)(b:Bool)(h:w[i]?=some b):aj (nA w) (.int (i:Int))=some (.bl b):=by unfold nA;rw[qB];exact lF _ _ _ Uz (by simp[h])
theorem qG(P:D)(s:Sl):∀(ns:YK)(w:ZU),(∀r∈ns,r<w.length)->∀t,free (some t)=true->∃t',free (some t')=true/\loop (aq 3) dH (ns.map λk=>D.int (k:Nat)) [.sh P,.ow<|nA w,s,t]=.ok .nx [.sh P,.ow<|nA<|ns.foldl (λw r=>w.set r true) w,s,t']|[],w,_,t,ht=>⟨t,ht,rfl⟩|r::ns,w,h,t,ht=>by have hr:=h r R9;obtain⟨t',h1,h2⟩:=qG P s ns (w.set r true) (λx hx=>by simpa using h x<|Pe _ hx) (.sh<|.int r) rfl;refine⟨t',h1,?_⟩;have il:isLst (some<|nA w)=true:=rfl;rw[Yk,fm (r':=[.sh P,.ow<|nA<|w.set r true,s,.sh<|.int r]) (by simp[aF,dH,ht,il,Bf w r true hr]),h2];rfl
theorem AD(ls:RY)(wf:Wf ls)(h0:ls≠[])(hl:ls.length<=100):∃w,B3 [Pg ls]=.ok (nA w) []/\w.length=ls.length/\∀i,w[i]?=some true<->mW ls i:=by
 have hn:=List.length_pos_iff.mpr h0;have c:aD 1 (cR<|aa 0) (aq 4) (VP.ret true) dy [.sh<|Pg ls,.no,.no,.no]=.ok (nA<|List.replicate ls.length false) [.sh<|Pg ls,.no,.no,.no]:=by refine cY PL.d (λ_=>D.bl false) ls (by simp[DU]) Uz (by simp[nA,List.map_const']) λl hl acc=>?_;simp[dy]
 have ln:=kF ls;have st:=Bf (List.replicate ls.length false) (ls.length-1) true (by simp;lia);rw[show (((ls.length-1:Nat)):Int)=(ls.length:Int)-1 by lia] at st;have dn:DP [.int<|(ls.length:Int)-1,.int<|-1,.int<|-1]=some ((List.range ls.length).map λ(k:Nat)=>.int<|(ls.length:Int)-1-k):=by
  have d:DP [.int<|(ls.length:Int)-1,.int<|-1,.int<|-1]=if (-1:Int)=-1/\(-(2 ^ 62)<=(ls.length:Int)-1/\(ls.length:Int)-1<2 ^ 62)/\-(2 ^ 62)<=(-1:Int)/\(-1:Int)<2 ^ 62 then some ((List.range ((ls.length:Int)-1 - -1).toNat).map λ(k:Nat)=>.int<|(ls.length:Int)-1-k) else none:=rfl
  rw[d,YN ⟨rfl,⟨Uz,Uz⟩,by decide,by decide⟩];rw[show ((ls.length:Int)-1 - -1).toNat=ls.length by lia]
 obtain⟨w,t,⟨hw,h1,h2,h3⟩,ht,L⟩:=bu (g:=aq 2) (body:=a6) (λ(k:Nat)=>D.int<|(ls.length:Int)-1-k) (λ(w:ZU)(t:Sl×Sl)=>[.sh<|Pg ls,.ow<|nA w,t.1,t.2]) mf (List.range ls.length)
  (λj w=>w.length=ls.length/\(∀i,w[i]?=some true->mW ls i)/\w[ls.length-1]?=some true/\∀i,ls.length-j<=i->w[i]?=some true->∀l,ls[i]?=some l->∀r∈l.ns,w[r]?=some true)
  ((List.replicate ls.length false).set (ls.length-1) true) (.no,.no) ⟨rfl,rfl⟩ ⟨Qj,λi h=>by
   by_cases e:ls.length-1=i;subst e;exact .last;rw[Hb e,CQ] at h;split at h<;>simp at h,by rw[List.getElem?_set_self (by simp;lia)],λi hi h l hl=>by
   have:=(List.getElem?_eq_some_iff.mp hl).1;lia⟩ (by
  intro j k hk w t ht hP;obtain⟨rfl,hj⟩:=bE hk;obtain⟨t2,t3⟩:=t;obtain⟨f2,f3⟩:=ht;obtain⟨hw,p1,p2,p3⟩:=hP;dsimp only at f2 f3;have hat:ls.length-1-k<ls.length:=Uz;have ei:((ls.length:Int)-1-k)=((ls.length-1-k:Nat):Int):=Uz;rw[ei];obtain⟨l,hl⟩:∃l,ls[ls.length-1-k]?=some l:=⟨_,Te hat⟩;have ix:=Cz ls _ l hl;generalize hi:ls.length-1-k=i at *;obtain⟨b,hb⟩:∃b,w[i]?=some b:=⟨_,Te Uz⟩;have bi:=xK w i b hb;cases b with
  |false=>refine⟨w,(.sh<|.int i,t3),⟨hw,p1,p2,λm hm h x hx=>?_⟩,⟨rfl,f3⟩,?_⟩;by_cases e:m=i;subst e;rw[hb] at h;cases h;exact p3 m Uz h x hx;dsimp only;rw[aF,show aq 2 (.int (i:Int)) _=.ok () [.sh<|Pg ls,.ow<|nA w,.sh<|.int (i:Int),t3] by simp[f2],ag,show a6 _=.ok .nx _ by unfold a6;exact ao];rfl|true=>
   have nb:=λr hr=>wf i l hl r hr;obtain⟨t',ES,L⟩:=qG (Pg ls) (.sh<|.int i) l.ns w (λr hr=>by have:=nb r hr;lia) t3 f3;have mg:=uR l.ns w;refine⟨l.ns.foldl (λw r=>w.set r true) w,(.sh<|.int i,t'),⟨by rw[(mg 0).1];exact hw,λm h=>?_,?_,λm hm h x hx r hr=>?_⟩,⟨rfl,ES⟩,?_⟩;rcases ((mg m).2.mp h).2 with q|q;exact p1 m q;exact .step (p1 i hb) hl q;exact(mg _).2.mpr ⟨Uz,.inl p2⟩;rcases ((mg m).2.mp h).2 with q|q;by_cases e:m=i;subst e;rw[hl] at hx;cases hx;exact(mg r).2.mpr ⟨by have:=nb r hr;lia,.inr hr⟩;have:=p3 m Uz q x hx r hr;exact(mg r).2.mpr ⟨(List.getElem?_eq_some_iff.mp this).1,.inl this⟩;have:=nb m q;by_cases e:m=i
   lia
   lia
   have nd:=l.named;dsimp only;rw[aF,show aq 2 (.int (i:Int)) _=.ok () [.sh<|Pg ls,.ow<|nA w,.sh<|.int (i:Int),t3] by simp[f2],ag,show a6 _=.ok .nx _ by unfold a6;exact ao];rfl)
 obtain⟨t2,t3⟩:=t;simp only[List.length_range] at h3;refine⟨w,?_,hw,λi=>⟨h1 i,λh=>?_⟩⟩;have dw:yF [(m2 gR (m1 bG<|aa 0)<|cI 1),(m1 rS<|cI 1),(m1 rS<|cI 1)] [.sh<|Pg ls,.ow<|nA<|(List.replicate ls.length false).set (ls.length-1) true,.no,.no]=.ok ((List.range ls.length).map λ(k:Nat)=>.int<|(ls.length:Int)-1-k) [.sh<|Pg ls,.ow<|nA<|(List.replicate ls.length false).set (ls.length-1) true,.no,.no]:=by simp[ln,dn]
 unfold B3 IP;exact rn;induction h with|last=>exact h2|step h e hr ih=>exact h3 _ Uz ih _ e _ hr
def a8(ls:RY)(i:Nat):PL:=ls.getD i default
def kd(ls:RY)(i:Nat):Nat:=(a8 ls i).k
def sd(ss:V7)(i:Nat):UX:=ss.getD i []
def Yv(ls:RY)(i:Nat):YK:=(a8 ls i).ns
theorem S2(ls:RY)(i:Nat)(h:i<ls.length):aj (Pg ls) (.int (i:Int))=some (a8 ls i).d:=Cz ls i _ (by simp[a8,h])
theorem bR(ss:V7)(i:Nat)(h:i<ss.length):aj (aW ss) (.int (i:Int))=some (T<|sd ss i):=FW ss i _ (by simp[sd,h])
theorem xW(ls:RY):ko (ls.map PL.d)=(List.range ls.length).map λ(i:Nat)=>D.tup [.int i,(a8 ls i).d]:=by
 rw[qj];refine O6 Qj λi h1 h2=>?_;have h:i<ls.length:=by simpa using h2
 simp[h,a8]
theorem meet_comm(one other:UX):meet one other=meet other one:=by
 have e:pairs other one=(pairs one other).map λp=>(p.2,p.1):=by unfold pairs;rw[Nat.max_comm];simp
 unfold meet;rw[e];have h1:∀x y,oQ y x=oQ x y:=λx y=>by unfold oQ;grind
 have h2:∀x y,oQ x y=true->pk y x=pk x y:=λx y=>by unfold oQ pk;grind
 simp only[List.all_map,List.map_map,Function.comp_def,h1];split;rename_i q;congr 2;refine List.map_congr_left λp hp=>(h2 _ _ ?_).symm;exact List.all_eq_true.mp q p hp;rfl
theorem meet_self(S:UX):meet S S=some S:=by
 have z:=jB S S;rw[Nat.max_self] at z;have e:ahead S S.length=S:=by simp[ahead]
 rw[e] at z;have a:(pairs S S).all (λp=>oQ p.1 p.2)=true:=by
  rw[<-tW,<-z];refine List.all_eq_true.mpr λp hp=>?_;have:p.1=p.2:=by obtain⟨i,hi,rfl⟩:=List.mem_iff_getElem.mp hp;simp
  simp[oQ,this]
 unfold meet;rw[YN a,<-Pp,<-z];congr 1;refine O6 Qj λi h1 h2=>?_;simp[pk]
theorem yj:∀(a t:UX),a.length=t.length->(((a.zip t).all (λp=>oQ p.1 p.2)=true/\(a.zip t).map (λp=>pk p.1 p.2)=t)<->∀i<t.length,a.getD i 0=1\/a.getD i 0=t.getD i 0)
|[],[],_=>Qj|x::a,y::t,h=>by
 have ih:=yj a t (by simpa using h);simp only[List.zip_cons_cons,List.all_cons,List.map_cons,Bool.and_eq_true,List.cons.injEq];constructor;rintro⟨⟨h1,h2⟩,h3,h4⟩ i hi;cases i with|zero=>simp only[List.getD_cons_zero];unfold pk at h3;split at h3;exact .inl ‹_›;exact .inr h3|succ i=>simp only[List.getD_cons_succ];exact ih.mp ⟨h2,h4⟩ i (by simpa using hi)
 intro k;have k0:=k 0 Qj;simp only[List.getD_cons_zero] at k0;have:=ih.mpr λi hi=>by have:=k (i+1) (by simpa using hi);simpa only[List.getD_cons_succ] using this
 refine⟨⟨?_,this.1⟩,?_,this.2⟩;unfold oQ;rcases k0 with h|h<;>simp[h];unfold pk;split;rfl;rcases k0 with h|h;contradiction;exact h
theorem zy(s:UX)(n i:Nat)(h:s.length<=n)(hi:i<n):(ahead s n).getD i 0=if i<n-s.length then 1 else s.getD (i-(n-s.length)) 0:=by unfold ahead;by_cases c:i<n-s.length;rw[YN c,mG,zF (by simpa using c)];simp[c];rw[YO c,mG,Oy (by simp;lia),mG];simp
theorem mq(s t:UX)(h:s.length<=t.length)(k:∀k<s.length,s.getD k 0=1\/s.getD k 0=t.getD (t.length-s.length+k) 0):meet s t=some t:=by
 have z:=jB s t;have e:max s.length t.length=t.length:=Uz;rw[e] at z;have ht:ahead t t.length=t:=by simp[ahead]
 rw[ht] at z;have f:=yj (ahead s t.length) t (by rw[lg _ _ h]);rw[z,tW,Pp] at f;obtain⟨q1,q2⟩:=f.mpr λi hi=>by rw[zy s _ _ h hi];split;exact .inl rfl;have:=k (i-(t.length-s.length)) Uz;rwa [show t.length-s.length+(i-(t.length-s.length))=i by lia] at this
 unfold meet;rw[YN q1,q2]
def gn(n tn:Nat):UX:=(List.range n).map λ(k:Nat)=>((k:Int)+tn) % n
def rX(n:Nat)(o:UX):Bool:=(decide ((kU n).Pairwise (·<=·))&&(kU n).isPerm o)&&(decide (o.length=n)&&(List.range n).all λ(j:Nat)=>o.contains (j:Int))
theorem Eb:(List.range 5).all (λn=>(List.range 4).all λtn=>decide (max 1 n<=tn)||(rX n (gn n tn)&&rX n (gn n tn).reverse))=true:=by decide +kernel
theorem ze(n tn:Nat)(hn:n<=4)(ht:tn<max 1 n)(b:Bool):sortI (if b then(gn n tn).reverse else gn n tn)=kU n/\(if b then(gn n tn).reverse else gn n tn).length=n/\∀j:Nat,j<n->(j:Int)∈(if b then(gn n tn).reverse else gn n tn):=by
 have h:=List.all_eq_true.mp (List.all_eq_true.mp Eb n (by simp;lia)) tn (by simp;lia);have h2:decide (max 1 n<=tn)=false:=by simp;lia
 rw[h2,Bool.false_or,Lp] at h;have key:∀o:UX,rX n o=true->sortI o=kU n/\o.length=n/\∀j:Nat,j<n->(j:Int)∈o:=λo q=>by simp only[rX,Bool.and_eq_true,decide_eq_true_eq,List.all_eq_true] at q;exact⟨(vh (List.isPerm_iff.mp q.1.2) q.1.1).symm,q.2.1,λj hj=>by simpa using q.2.2 j (by simpa using hj)⟩
 cases b;exact key _ h.1;exact key _ h.2
theorem Q17(s:UX):ah s.reverse=ah s:=by induction s with|nil=>rfl|cons x s ih=>rw[GI,u0,ih];simp only[ah];rw[Int.mul_one,Int.mul_comm]
def Told(n:Nat)(G S:Nat->UX):PL->UX->Prop|.given j,t=>∃k:Nat,j=k/\k<n/\t=G k|.mK s x,t=>t=s/\Rt x|.turn a o,t=>sortI o=kU (S a).length/\o.length=(S a).length/\t=o.map λx=>(S a).getD x.toNat 0|.cut a k b st m,t=>∃j:Nat,k=j/\j<(S a).length/\(st≠0/\-3<=st/\st<=3)/\0<=m/\(0<m->(0<=b/\b<(S a).getD j 0)/\0<=b+st*(m-1)/\b+st*(m-1)<(S a).getD j 0)/\t=rep (S a) j m|.drop a k p,t=>∃j:Nat,k=j/\j<(S a).length/\(0<=p/\p<(S a).getD j 0)/\t=wo (S a) j|.wide a k,t=>∃j:Nat,k=j/\j<=(S a).length/\t=pin (S a) j 1|.spread a u,t=>meet (S a) u=some u/\t=u|.shape a u,t=>ah (S a)=ah u/\t=u|.shift a k _ x,t=>∃j:Nat,k=j/\j<(S a).length/\Rt x/\t=S a|.one d a,t=>(16<=d/\d<=18)/\t=S a|.both d a b,t=>(19<=d/\d<=25)/\meet (S a) (S b)=some t|.kW a b c,t=>∃u,meet (S a) (S b)=some u/\meet u (S c)=some t|.fold d a k,t=>∃j:Nat,k=j/\j<(S a).length/\d∈[19,21,22,23]/\((S a).getD j 0=0->d≠22/\d≠23)/\t=wo (S a) j|.run d a k,t=>∃j:Nat,k=j/\j<(S a).length/\d∈[19,21,22,23]/\t=S a|.pick a k b,t=>∃(j:Nat)(y:Int),k=j/\j<(S a).length/\S b=[y]/\t=rep (S a) j y|.join a b k,t=>∃j:Nat,k=j/\j<(S a).length/\(S a).length=(S b).length/\wo (S a) j=wo (S b) j/\t=rep (S a) j ((S a).getD j 0+(S b).getD j 0)
theorem Told.mono{n:Nat}{G S S':Nat->UX}{l:PL}{t:UX}(h:Told n G S l t)(e:∀a∈l.ns,S' a=S a):Told n G S' l t:=by cases l<;>simp only[PL.ns,List.mem_cons,List.not_mem_nil,or_false,forall_eq_or_imp,forall_eq] at e<;>simp only[Told] at h ⊢<;>first|exact h|simpa only[e] using h
theorem Told.jZ{n:Nat}{G S:Nat->UX}{l:PL}{t:UX}(h:Told n G S l t):l.jZ:=by
 cases l<;>simp only[Told,PL.jZ] at h ⊢
 lia
 lia
 obtain⟨_,_,_,h,_⟩:=h;simp at h;lia;obtain⟨_,_,_,h,_⟩:=h;simp at h;lia
def SI(s:UX):Prop:=s.length<=4/\(∀x∈s,0<=x/\x<=24)/\ah s<=27
def Pre(s:UX):Prop:=s.length<=9/\∀x∈s,0<=x/\x<=100
theorem SI.pre{s:UX}(h:SI s):Pre s:=⟨by have:=h.1;lia,λx hx=>by have:=h.2.1 x hx;lia⟩
theorem SI.get{s:UX}(h:SI s)(k:Nat):0<=s.getD k 0/\s.getD k 0<=24:=by by_cases hk:k<s.length;have:=h.2.1 s[k]<|NM hk;simpa[hk] using this;rw[mG,Bv Uz];simp
theorem SI.uZ{s:UX}(h:SI s):0<=ah s:=(sg s λx hx=>by have:=h.2.1 x hx;lia).1
theorem jM(s:UX)(k:Nat)(hk:k<=s.length):fK (T s) none (some (k:Int))=some (T<|s.take k):=by have:fK (T s) none (some (k:Int))=some (.tup<|cutD (s.map .int) none<|some (k:Int)):=rfl;rw[this,cutD,VE,yY _ _ _ hk,vd];simp[T]
theorem iu(s:UX)(k:Nat)(hk:k<=s.length):fK (T s) (some (k:Int)) none=some (T<|s.drop k):=by have:fK (T s) (some (k:Int)) none=some (.tup<|cutD (s.map .int) (some (k:Int)) none):=rfl;rw[this,cutD,VE,yY _ _ _ hk,vd,xv Qj];simp[T]
theorem ly(s:UX)(h:Pre s):lX [T s]=.ok (.int<|ah s) []:=by rw[lX,gh _ _ _ _ rfl];obtain⟨_,t,_,L⟩:=oJ (g:=aq 2) (body:=kH) D.int (λ(p:Int)(t:Sl)=>[.sh<|T s,.sh<|.int p,t]) kv (λ_ _=>True) (λp x=>p*x) s 1 .no rfl trivial (by intro i x hx p t ht _;have hm:=h.2 x<|Rb hx;have hf:free (some t)=true:=ht;refine⟨trivial,.sh<|.int x,rfl,?_⟩;simp[aF,kH,hf,cU p x Uz Uz]);rw[j9,Int.one_mul] at L;simp[Ig,L]
inductive fY{A B:Type}(P:A->B->Prop):List A->List B->Prop where
 |nil:fY P [] []|cons {a:A} {b:B} {as:List A} {bs:List B} (h:P a b) (t:fY P as bs):fY P (a::as) (b::bs)
theorem fY.len{A B:Type}{P:A->B->Prop}:∀{as:List A}{bs:List B},fY P as bs->as.length=bs.length|_,_,.nil=>rfl|_,_,.cons _ t=>by simp[fY.len t]
theorem fY.right{A B:Type}{P:A->B->Prop}:∀{as:List A}{bs:List B},fY P as bs->∀b∈bs,∃a∈as,P a b|_,_,.cons (a:=a) h t,b,hb=>by rcases List.mem_cons.mp hb with rfl|hb;exact⟨a,R9,h⟩;obtain⟨a',h1,h2⟩:=fY.right t b hb;exact⟨a',Pe _ h1,h2⟩
theorem lA{A:Type}{it:M (List D)}{elt:M D}{k:Nat}{r0:ax}(mk:A->D)(R:Nat->ax)(P:A->Int->Prop)(as:List A)(p:Nat)(YL:∀q,(R q).length=k)(lC:it r0=.ok (as.map mk) (R p))(hL:as.length<=1000)
  (he:∀a∈as,∀q,∃q' b,P a b/\∀acc,elt (R q++[.sh<|mk a,.ow acc])=.ok (.int b) (R q'++[.sh<|mk a,.ow acc])) :
  ∃q' bs,aD 1 it (aq k) (ret true) elt r0=.ok (Z bs) (R q')/\fY P as bs:=by
 have ch:∀(a:A)(q:Nat),∃z:Nat×Int,a∈as->P a z.2/\∀acc,elt (R q++[.sh<|mk a,.ow acc])=.ok (.int z.2) (R z.1++[.sh<|mk a,.ow acc]):=λa q=>by by_cases h:a∈as;obtain⟨q',b,h1,h2⟩:=he a h q;exact⟨(q',b),λ_=>⟨h1,h2⟩⟩;exact⟨(0,0),λz=>absurd z h⟩
 let F:=λa q=>Classical.choose<|ch a q;have hF:∀a q,a∈as->P a (F a q).2/\∀acc,elt (R q++[.sh<|mk a,.ow acc])=.ok (.int (F a q).2) (R (F a q).1++[.sh<|mk a,.ow acc]):=λa q=>Classical.choose_spec<|ch a q;have h:=(JD (elt:=elt) mk R (λ_ _=>True) (λq a=>(F a q).1) (λq a=>.int (F a q).2) as p YL lC Uz trivial (λi a ha q acc _=>⟨trivial,(hF a q<|Rb ha).2 acc⟩)).1;have em:∀(as:List A)(s:Nat),outs (λq a=>(F a q).1) (λq a=>D.int (F a q).2) s as=(outs (λq a=>(F a q).1) (λq a=>(F a q).2) s as).map D.int:=by intro as;induction as with|nil=>intro s;rfl|cons a as ih=>intro s;simp[outs,ih]
 have ea:∀(bs:List A)(s:Nat),(∀a∈bs,a∈as)->fY P bs (outs (λq a=>(F a q).1) (λq a=>(F a q).2) s bs):=by intro bs;induction bs with|nil=>intro s _;exact .nil|cons a bs ih=>intro s hb;exact .cons (hF a s<|hb a R9).1 (ih _ λx hx=>hb x<|Pe _ hx)
 rw[em] at h;exact⟨_,_,h,ea as p λa h=>h⟩
theorem fY.Sb{P:Int->Int->Prop}:∀{as bs:UX},fY P as bs->∀k<as.length,P (as.getD k 0) (bs.getD k 0)|_,_,.cons h _,0,_=>h|_,_,.cons _ t,k+1,hk=>by simpa only[List.getD_cons_succ] using fY.Sb t k (by simpa using hk)
theorem drawn(ns:UX)(q n:Nat)(h:0<n):∃b:Nat,bN [Row ns q,.int n]=.ok (.int b) [Row ns<|q+1]/\b<n:=by have t:=vm ns q n Uz;have r1:0<=cell ns q % (n:Int):=Int.emod_nonneg _ Uz;have r2:cell ns q % (n:Int)<n:=Hw _ Uz;refine⟨(cell ns q % (n:Int)).toNat,?_,Uz⟩;rwa [show ((cell ns q % (n:Int)).toNat:Int)=cell ns q % (n:Int) by lia]
theorem aT(ns:UX)(q:Nat)(n:Int)(h:0<n):∃b:Int,bN [Row ns q,.int n]=.ok (.int b) [Row ns<|q+1]/\0<=b/\b<n:=⟨_,vm ns q n h,Int.emod_nonneg _ Uz,Hw _ h⟩
theorem hZ(n:Nat)(h:n<=1000):sE [.int (n:Int)]=some ((List.range n).map λ(k:Nat)=>.int k):=pd _ _ Uz Uz Uz
theorem tB0(ns:UX)(q a:Nat)(s:UX)(hs:SI s):∃(o:UX)(q':Nat),gi [Row ns q,.int a,T s,.int 0]=.ok (.tup [.tup [.str<|nm 2,.int a,T o],T<|o.map λx=>s.getD x.toNat 0]) [Row ns q']/\sortI o=kU s.length/\o.length=s.length:=by
 have hl:=hs.1;obtain⟨N,hN⟩:∃N:Nat,N=max 1 s.length:=⟨_,rfl⟩;obtain⟨tn,tm,htn⟩:=drawn ns q N Uz;have mx:maxD [.int 1,.int (s.length:Int)]=some (.int (N:Int)):=by rw[rP];congr 2;lia
 have er:=hZ s.length Uz;have hc:aD 1 (bH [(aa 4)]) (aq 10) (VP.ret true) iJ [.io<|Row ns<|q+1,.sh<|.int a,.sh<|T s,.sh<|.int 0,.sh<|.int s.length,.sh<|.int tn,.no,.no,.no,.no]=.ok (Z<|gn s.length tn) [.io<|Row ns<|q+1,.sh<|.int a,.sh<|T s,.sh<|.int 0,.sh<|.int s.length,.sh<|.int tn,.no,.no,.no,.no]:=by refine cY (λ(k:Nat)=>D.int k) (λk=>D.int<|((k:Int)+tn) % s.length) (List.range s.length) ao (by simp;lia) (by simp[Z,gn,Function.comp_def]) λk hk acc=>?_;have hk':=List.mem_range.mp hk;have md:=cE ((k:Int)+tn) s.length Uz;unfold iJ;exact ao
 have rD:∀o:UX,sortI o=kU s.length->o.length=s.length->aD 1 (cR<|aa 6) (aq 10) (VP.ret true) iK [.io<|Row ns<|q+2,.sh<|.int a,.sh<|T s,.sh<|.int 0,.sh<|.int s.length,.sh<|.int tn,.sh<|Z o,.no,.no,.no]=.ok (Z<|o.map λx=>s.getD x.toNat 0) [.io<|Row ns<|q+2,.sh<|.int a,.sh<|T s,.sh<|.int 0,.sh<|.int s.length,.sh<|.int tn,.sh<|Z o,.no,.no,.no]:=λo ho VN=>by refine cY D.int (λx=>D.int<|s.getD x.toNat 0) o ao Uz (by simp[Z,Function.comp_def]) λx hx acc=>?_;obtain⟨j,rfl,hj⟩:=qT ho hx;have ix:aj (T s) (.int j)=some (.int<|s.getD (j:Int).toNat 0):=bV s j Uz Uz;unfold iK;exact ao
 obtain⟨b,t2,_,_⟩:=aT ns (q+1) 2 Uz;by_cases c:b=1;obtain⟨o1,o2,_⟩:=ze s.length tn hl Uz true;simp only[if_true] at o1 o2;have h2:=rD _ o1 o2;have rv:G6 (Z<|gn s.length tn)=some (Z (gn s.length tn).reverse):=by simp[Z,G6]
 generalize gn s.length tn=o at *;refine⟨o.reverse,q+2,?_,o1,o2⟩;unfold gi nP;exact rn;obtain⟨o1,o2,_⟩:=ze s.length tn hl Uz false;simp only[Bool.false_eq_true,if_false] at o1 o2;have h2:=rD _ o1 o2;generalize gn s.length tn=o at *;refine⟨o,q+2,?_,o1,o2⟩;unfold gi nP;exact rn
theorem U4(ns:UX)(q a:Nat)(s:UX)(hs:SI s):∃(k q':Nat),gi [Row ns q,.int a,T s,.int 1]=.ok (.tup [.tup [.str<|nm 5,.int a,.int k],T<|pin s k 1]) [Row ns q']/\k<=s.length:=by have hl:=hs.1;obtain⟨k,tm,hk⟩:=drawn ns q (s.length+1) Uz;rw[show ((s.length+1:Nat):Int)=(s.length:Int)+1 by lia] at tm;have c1:=jM s k Uz;have c2:=iu s k Uz;have a1:bq (T<|s.take k) (.tup [.int 1])=_:=bZ (s.take k) [1] (by simp[gU];lia);have a2:=bZ (s.take k++[1]) (s.drop k) (by simp[gU];lia);rw[show s.take k++[1]++s.drop k=pin s k 1 by simp[pin]] at a2;exact⟨k,q+1,by unfold gi nP;exact rn,Uz⟩
theorem U5(ns:UX)(q a:Nat)(s:UX)(hs:SI s):∃(u:UX)(q':Nat),gi [Row ns q,.int a,T s,.int 2]=.ok (.tup [.tup [.str<|nm 6,.int a,T u],T u]) [Row ns q']/\meet s u=some u/\Pre u:=by
 have hl:=hs.1;obtain⟨q1,ys,hc,he⟩:=lA (it:=cR<|aa 2) (elt:=iL) (k:=10) (r0:=[.io<|Row ns q,.sh<|.int a,.sh<|T s,.sh<|.int 2,.sh<|.int s.length,.no,.no,.no,.no,.no]) D.int (λq=>[.io<|Row ns q,.sh<|.int a,.sh<|T s,.sh<|.int 2,.sh<|.int s.length,.no,.no,.no,.no,.no]) (λx y=>(0<=y/\y<=24)/\(x=1\/x=y)) s q (λ_=>rfl) ao Uz (λx hx q'=>by
  obtain⟨y,tt,_,_⟩:=aT ns q' 4 Uz;have hb:=hs.2.1 x hx;have i0:aj (.lst [.int x,.int y]) (.int<|if x=1 then 1 else 0)=some (.int<|if x=1 then y else x):=by split<;>rfl
  have ii:intD [.bl<|decide<|x=1]=some (.int<|if x=1 then 1 else 0):=by rw[jk];simp
  refine⟨q'+1,if x=1 then y else x,by split<;>lia,λacc=>?_⟩;unfold iL;exact ao)
 have hy:∀y∈ys,0<=y/\y<=24:=λy hy=>by obtain⟨_,_,h⟩:=he.right y hy;exact h.1
 have yl:=he.len;have hg:=λk (hk:k<s.length)=>(he.Sb k hk).2;obtain⟨b,tt,_,_⟩:=aT ns q1 2 Uz;by_cases c:b=1;obtain⟨v,t5,v0,v4⟩:=aT ns (q1+1) 4 Uz;have ad:bq (.tup [.int v]) (T ys)=some (T (v::ys)):=bZ [v] ys (by simp[gU];lia);refine⟨v::ys,q1+2,by unfold gi nP;exact rn,mq _ _ (by simp;lia) λk hk=>?_,by simp;lia,λx hx=>?_⟩;rw[show (v::ys).length-s.length+k=k+1 by simp;lia,List.getD_cons_succ];exact hg k hk;rcases List.mem_cons.mp hx with rfl|hx
 lia
 have:=hy x hx;lia;refine⟨ys,q1+1,by unfold gi nP;exact rn,mq _ _ Uz λk hk=>?_,Uz,λx hx=>by have:=hy x hx;lia⟩;rw[show ys.length-s.length+k=k by lia];exact hg k hk
theorem U6(ns:UX)(q a:Nat)(s:UX)(hs:SI s):∃(u:UX)(q':Nat),gi [Row ns q,.int a,T s,.int 3]=.ok (.tup [.tup [.str<|nm 7,.int a,T u],T u]) [Row ns q']/\ah s=ah u/\Pre u:=by
 have hl:=hs.1;have cl:=ly s hs.pre;have h0:=hs.uZ;have hpr:=hs.2.2;obtain⟨c,tt,_,_⟩:=aT ns q 4 Uz;have rv:u9 (T s)=some (T s.reverse):=by simp[T,u9]
 obtain⟨t,ht,hpt,hq⟩:∃t,aj (.lst [T s.reverse,.tup [.int<|ah s],.tup [.int 1,.int<|ah s],.tup [.int<|ah s,.int 1]]) (.int c)=some (T t)/\ah s=ah t/\Pre t:=by have c4:c=0\/c=1\/c=2\/c=3:=Uz;rcases c4 with c|c|c|c<;>rw[c];exact⟨s.reverse,rfl,(Q17 s).symm,by simp;lia,λx hx=>by have:=hs.2.1 x (by simpa using hx);lia⟩;exact⟨[ah s],rfl,by simp[ah],Qj,λx hx=>by simp at hx;subst hx;lia⟩;exact⟨[1,ah s],rfl,by simp[ah],Qj,λx hx=>by simp at hx;lia⟩;exact⟨[ah s,1],rfl,by simp[ah],Qj,λx hx=>by simp at hx;lia⟩
 refine⟨t,q+1,?_,hpt,hq⟩;unfold gi nP;exact rn
theorem HH(n:Nat)(G S:Nat->UX)(ns:UX)(q a:Nat)(hs:SI (S a))(w:Int)(w0:0<=w)(w4:w<4):∃(l:PL)(t:UX)(q':Nat),gi [Row ns q,.int a,T<|S a,.int w]=.ok (.tup [l.d,T t]) [Row ns q']/\Told n G S l t/\l.ns=[a]/\Pre t:=by
 have ww:w=0\/w=1\/w=2\/w=3:=Uz;rcases ww with rfl|rfl|rfl|rfl;obtain⟨o,q',e,h1,h2⟩:=tB0 ns q a _ hs;exact⟨.turn a o,_,q',e,⟨h1,h2,rfl⟩,rfl,by have:=hs.1;simp;lia,λx hx=>by obtain⟨y,_,rfl⟩:=List.mem_map.mp hx;have:=hs.get y.toNat;lia⟩;obtain⟨k,q',e,h⟩:=U4 ns q a _ hs;refine⟨.wide a k,_,q',e,⟨k,rfl,h,rfl⟩,rfl,by have:=hs.1;simp[pin];lia,λx hx=>?_⟩;simp only[pin] at hx;rcases List.mem_append.mp hx with hx|hx;have:=hs.2.1 x<|A0 hx;lia;rcases List.mem_cons.mp hx with rfl|hx
 lia
 have:=hs.2.1 x<|zW hx;lia;obtain⟨u,q',e,h,h2⟩:=U5 ns q a _ hs;exact⟨.spread a u,_,q',e,⟨h,rfl⟩,rfl,h2⟩;obtain⟨u,q',e,h,h2⟩:=U6 ns q a _ hs;exact⟨.shape a u,_,q',e,⟨h,rfl⟩,rfl,h2⟩
theorem cz(s:UX)(k:Nat)(x:Int)(hk:k<s.length)(hl:s.length<=100):qk [T s,.int k,.int x]=.ok (T<|rep s k x) []:=by have a1:bq (T<|s.take k) (.tup [.int x])=_:=bZ (s.take k) [x] (by simp[gU];lia);have a2:=bZ (s.take k++[x]) (s.drop<|k+1) (by simp[gU];lia);have c1:=jM s k Uz;have c2:=iu s (k+1) Uz;rw[show (((k+1:Nat)):Int)=(k:Int)+1 by lia] at c2;rw[show s.take k++[x]++s.drop (k+1)=rep s k x by simp[rep]] at a2;unfold qk Ih;exact rn
theorem sC{s:UX}{k:Nat}{x:Int}(h:Pre s)(hx:0<=x/\x<=100)(hk:k<s.length):Pre (rep s k x):=by refine⟨by have:=h.1;simp[rep];lia,λy hy=>?_⟩;simp only[rep] at hy;rcases List.mem_append.mp hy with hy|hy;exact h.2 y<|A0 hy;rcases List.mem_cons.mp hy with rfl|hy;exact hx;exact h.2 y (zW hy)
theorem LF{s:UX}{k:Nat}(h:Pre s):Pre (wo s k):=by refine⟨by have:=h.1;simp[wo];omega,λy hy=>?_⟩;simp only[wo] at hy;rcases List.mem_append.mp hy with hy|hy;exact h.2 y<|A0 hy;exact h.2 y (zW hy)
theorem Kq(m:Int)(h0:0<=m)(h4:m<4):∃d,(d∈[19,21,22,23]/\(m<2->d≠22/\d≠23))/\aj (.lst [.str<|nm 19,.str<|nm 21,.str<|nm 22,.str<|nm 23]) (.int m)=some (.str<|nm d):=by have:m=0\/m=1\/m=2\/m=3:=Uz;rcases this with rfl|rfl|rfl|rfl;exact⟨19,by decide,rfl⟩;exact⟨21,by decide,rfl⟩;exact⟨22,by decide,rfl⟩;exact⟨23,by decide,rfl⟩
theorem DV(n:Nat)(G S:Nat->UX)(ns:UX)(q a:Nat)(hs:SI (S a))(FK:S a≠[])(w:Int)(w0:4<=w)(w9:w<9):∃(l:PL)(t:UX)(q':Nat),ur [Row ns q,.int a,T<|S a,.int w]=.ok (.tup [l.d,T t]) [Row ns q']/\Told n G S l t/\l.ns=[a]/\Pre t:=by
 unfold ur Iu;obtain⟨s,hS⟩:∃s,s=S a:=⟨_,rfl⟩;rw[<-hS] at hs FK ⊢;have hl:=hs.1;have hp:=hs.pre;have hn:=List.length_pos_iff.mpr FK;obtain⟨j,ts,hj⟩:=drawn ns q s.length hn;obtain⟨z,hz⟩:∃z,s.getD j 0=z:=⟨_,rfl⟩;have ix:aj (T s) (.int j)=some (.int z):=by have:=bV s j Uz Uz;rw[Es,hz] at this;exact this
 have sb:=hs.get j;rw[hz] at sb;have c1:=jM s j Uz;have c2:=iu s (j+1) Uz;rw[show (((j+1:Nat)):Int)=(j:Int)+1 by lia] at c2;have a1:bq (T<|s.take j) (T<|s.drop<|j+1)=some (T<|wo s j):=bZ (s.take j) (s.drop<|j+1) (by simp[gU];lia);by_cases c4:w=4;obtain⟨x,t9,_,_⟩:=aT ns (q+1) 9 Uz;obtain⟨y,tR,y0,y1⟩:=aT ns (q+2) 1000003 Uz;exact⟨.shift a j (x-4) y,s,q+3,rn,⟨j,rfl,by rw[<-hS];exact hj,⟨y0,y1⟩,hS⟩,rfl,hp⟩;by_cases c5:w=5;obtain⟨x,t4,x0,x4⟩:=aT ns (q+1) 4 Uz;have ii:intD [.bl<|decide<|0<z]=some (.int<|if 0<z then 1 else 0):=by rw[jk];simp
 obtain⟨m,hm⟩:∃m:Int,m=if 0<z then 4 else 2:=⟨_,rfl⟩
 have i2:aj (.lst [.int 2,.int 4]) (.int<|if 0<z then 1 else 0)=some (.int m):=by rw[hm];split<;>rfl
 have md:=cE x m Uz;obtain⟨d,hd,id⟩:=Kq (x % m) (Int.emod_nonneg _ Uz) (by have:=Hw x (show 0<m by lia);lia);refine⟨.fold d a j,wo s j,q+2,rn,⟨j,rfl,by rw[<-hS];exact hj,hd.1,λh=>hd.2 ?_,by rw[hS]⟩,rfl,LF hp⟩;rw[<-hS,hz] at h;have:=Hw x (show 0<m by lia)
 lia
 by_cases c6:w=6;obtain⟨x,t4,x0,x4⟩:=aT ns (q+1) 4 Uz;obtain⟨d,hd,id⟩:=Kq x x0 x4;exact⟨.run d a j,s,q+2,rn,⟨j,rfl,by rw[<-hS];exact hj,hd.1,hS⟩,rfl,hp⟩;by_cases z0:z=0;exact⟨.one 18 a,s,q+1,rn,⟨Uz,hS⟩,rfl,hp⟩;obtain⟨b,tz,b0,b1⟩:=aT ns (q+1) z Uz;by_cases c7:w=7;exact⟨.drop a j b,wo s j,q+2,rn,⟨j,rfl,by rw[<-hS];exact hj,⟨b0,by rw[<-hS,hz];exact b1⟩,by rw[hS]⟩,rfl,LF hp⟩;obtain⟨x,t3,x0,x3⟩:=aT ns (q+2) 3 Uz;obtain⟨v,t2,v0,v2⟩:=aT ns (q+3) 2 Uz;have f1:=gI (z-1-b) (1+x) Uz Uz;have f2:=gI b (1+x) Uz Uz;have k1:0<=(z-1-b) / (1+x):=Int.ediv_nonneg Uz Uz;have k2:(z-1-b) / (1+x)*(1+x)<=z-1-b:=Int.ediv_mul_le _ Uz;have k3:0<=b / (1+x):=Int.ediv_nonneg Uz Uz;have k4:b / (1+x)*(1+x)<=b:=Int.ediv_mul_le _ Uz;have k5:(z-1-b) / (1+x)<=z-1-b:=Int.ediv_le_self _ Uz;have k6:b / (1+x)<=b:=Int.ediv_le_self _ Uz;have key:∀(u m:Int),0<=m->0<=u->m<=u+1->0<m->(1+x)*(m-1)<=u*(1+x):=λu m _ _ h3 h4=>by rw[Int.mul_comm];exact Int.mul_le_mul_of_nonneg_right Uz Uz
 have S6:∀m:Int,0<m->0<=(1+x)*(m-1):=λm h=>Dp Uz Uz;by_cases c:v=1;generalize b / (1+x)=u at *;obtain⟨m,tm,m0,m1⟩:=aT ns (q+4) (u+2) Uz;have ch:=cz s j (u+1-m) hj Uz;refine⟨.cut a j b (0-(1+x))<|u+1-m,rep s j<|u+1-m,q+5,rn,⟨j,rfl,by rw[<-hS];exact hj,Uz,Uz,λh=>?_,by rw[hS]⟩,rfl,sC hp Uz hj⟩;rw[<-hS,hz];have e:(0-(1+x))*(u+1-m-1)=-((1+x)*(u+1-m-1)):=by rw[Int.zero_sub,Int.neg_mul]
 have:=key u (u+1-m) Uz k3 Uz h;have:=S6 (u+1-m) h;rw[e];lia;generalize (z-1-b) / (1+x)=u at *;obtain⟨m,tm,m0,m1⟩:=aT ns (q+4) (u+2) Uz;have ch:=cz s j (u+1-m) hj Uz;refine⟨.cut a j b (1+x)<|u+1-m,rep s j<|u+1-m,q+5,rn,⟨j,rfl,by rw[<-hS];exact hj,Uz,Uz,λh=>?_,by rw[hS]⟩,rfl,sC hp Uz hj⟩;rw[<-hS,hz];have:=key u (u+1-m) Uz k1 Uz h;have:=S6 (u+1-m) h
 lia
theorem xH(s:UX)(h:∀x∈s,0<=x/\x<=24)(k:Nat):0<=back s k/\back s k<=24:=by unfold back;split;rename_i hk;have h2:s.length-1-k<s.length:=Vc;have:=h s[s.length-1-k]<|NM h2;simpa[h2] using this;omega
theorem yH{s t m:UX}(h1:∀x∈s,0<=x/\x<=24)(h2:∀x∈t,0<=x/\x<=24)(h:meet s t=some m):∀x∈m,0<=x/\x<=24:=λx hx=>by unfold meet at h;split at h;cases h;rw[List.mem_reverse] at hx;obtain⟨p,hp,rfl⟩:=List.mem_map.mp hx;unfold pairs at hp;obtain⟨k,_,rfl⟩:=List.mem_map.mp hp;have:=xH s h1 k;have:=xH t h2 k;unfold pk;dsimp only;split<;>lia;cases h
def AI(ss:V7):Prop:=∀s∈ss,SI s
theorem AI.at{ss:V7}(h:AI ss){i:Nat}(hi:i<ss.length):SI (sd ss i):=by
 have:sd ss i=ss[i]:=by simp[sd,hi]
 rw[this];exact h _ (NM hi)
theorem T8(m:Int)(h0:0<=m)(h3:m<3):∃d,(16<=d/\d<=18)/\aj (.lst [.str<|nm 16,.str<|nm 17,.str<|nm 18]) (.int m)=some (.str<|nm d):=by have:m=0\/m=1\/m=2:=Uz;rcases this with rfl|rfl|rfl;exact⟨16,Uz,rfl⟩;exact⟨17,Uz,rfl⟩;exact⟨18,Uz,rfl⟩
theorem T7(m:Int)(h0:0<=m)(h7:m<7):∃d,(19<=d/\d<=25)/\aj (.lst [.str<|nm 19,.str<|nm 20,.str<|nm 21,.str<|nm 22,.str<|nm 23,.str<|nm 24,.str<|nm 25]) (.int m)=some (.str<|nm d):=by have:m=0\/m=1\/m=2\/m=3\/m=4\/m=5\/m=6:=Uz;rcases this with rfl|rfl|rfl|rfl|rfl|rfl|rfl;exact⟨19,Uz,rfl⟩;exact⟨20,Uz,rfl⟩;exact⟨21,Uz,rfl⟩;exact⟨22,Uz,rfl⟩;exact⟨23,Uz,rfl⟩;exact⟨24,Uz,rfl⟩;exact⟨25,Uz,rfl⟩
theorem rQ{s t m:UX}(hs:SI s)(ht:SI t)(e:meet s t=some m):qo [T s,T t]=.ok (T m) []/\(m.length<=4/\∀x∈m,0<=x/\x<=24):=by have:=oF s t hs.1 ht.1;rw[e] at this;exact⟨this,by have:=cC e;have:=hs.1;have:=ht.1;lia,yH hs.2.1 ht.2.1 e⟩
theorem yI{s t:UX}(hs:SI s)(ht:SI t)(e:meet s t=none):qo [T s,T t]=.ok .aP []:=by have:=oF s t hs.1 ht.1;rwa [e] at this
theorem pre_of{m:UX}(h:m.length<=4/\∀x∈m,0<=x/\x<=24):Pre m:=⟨Uz,λx hx=>by have:=h.2 x hx;lia⟩
theorem dA(s:UX)(j:Nat)(h:j<s.length):aj (T s) (.int (j:Int))=some (.int<|s.getD j 0):=by have:=bV s j Uz Uz;rwa [Es] at this
theorem OV{s t:UX}{j:Nat}(h:s.length=t.length)(e:rep s j 0=rep t j 0):wo s j=wo t j:=by unfold rep at e;have h1:=List.append_inj e (by simp[h]);unfold wo;rw[h1.1,(List.cons.inj h1.2).2]
section
variable(N:Nat)(G:Nat->UX)(ns:UX)(q a ix_:Nat)(ss:V7)(jG:AI ss)(ha:a<ss.length)(hi:ix_<ss.length)(h1:(sd ss ix_).length=1)
include jG ha hi h1
theorem TJ:∃(l:PL)(t:UX)(q':Nat),dQ [Row ns q,.int a,aW ss,.int 9,.int ix_]=.ok (.tup [l.d,T t]) [Row ns q',aW ss]/\Told N G (sd ss) l t/\(∀r∈l.ns,r<ss.length)/\Pre t:=by unfold dQ lV;have ia:=bR ss a ha;have ln:=d6 ss;obtain⟨b,tb,hb⟩:=drawn ns q ss.length Uz;obtain⟨x,t3,x0,x3⟩:=aT ns (q+1) 3 Uz;obtain⟨d,hd,id⟩:=T8 x x0 x3;exact⟨.one d a,sd ss a,q+2,rn,⟨hd,rfl⟩,λr hr=>by simp[PL.ns] at hr;lia,(jG.at ha).pre⟩
theorem Np:∃(l:PL)(t:UX)(q':Nat),dQ [Row ns q,.int a,aW ss,.int 10,.int ix_]=.ok (.tup [l.d,T t]) [Row ns q',aW ss]/\Told N G (sd ss) l t/\(∀r∈l.ns,r<ss.length)/\Pre t:=by unfold dQ lV;have ia:=bR ss a ha;have ln:=d6 ss;obtain⟨b,tb,hb⟩:=drawn ns q ss.length Uz;have ib:=bR ss b hb;obtain⟨x,t7,x0,x7⟩:=aT ns (q+1) 7 Uz;obtain⟨d,hd,id⟩:=T7 x x0 x7;cases e:meet (sd ss a) (sd ss b) with|none=>have m1:=yI (jG.at ha) (jG.at hb) e;obtain⟨m2,mp⟩:=rQ (jG.at ha) (jG.at ha)<|meet_self _;exact⟨.both d a a,sd ss a,q+2,rn,⟨hd,meet_self _⟩,λr hr=>by simp[PL.ns] at hr;lia,pre_of mp⟩|some m=>obtain⟨m1,mp⟩:=rQ (jG.at ha) (jG.at hb) e;exact⟨.both d a b,m,q+2,rn,⟨hd,e⟩,λr hr=>by simp[PL.ns] at hr;lia,pre_of mp⟩
theorem Nq:∃(l:PL)(t:UX)(q':Nat),dQ [Row ns q,.int a,aW ss,.int 11,.int ix_]=.ok (.tup [l.d,T t]) [Row ns q',aW ss]/\Told N G (sd ss) l t/\(∀r∈l.ns,r<ss.length)/\Pre t:=by unfold dQ lV;have ia:=bR ss a ha;have ln:=d6 ss;obtain⟨b,tb,hb⟩:=drawn ns q ss.length Uz;have ib:=bR ss b hb;obtain⟨c,tc,hc⟩:=drawn ns (q+1) ss.length Uz;have ic:=bR ss c hc;cases e:meet (sd ss a) (sd ss b) with|none=>have m1:=yI (jG.at ha) (jG.at hb) e;exact⟨.kW a a a,sd ss a,q+2,rn,⟨_,meet_self _,meet_self _⟩,λr hr=>by simp[PL.ns] at hr;lia,(jG.at ha).pre⟩|some m=>obtain⟨m1,mp⟩:=rQ (jG.at ha) (jG.at hb) e;have m2:=oF m (sd ss c) mp.1 (jG.at hc).1;cases e2:meet m (sd ss c) with|none=>rw[e2] at m2;exact⟨.kW a a a,sd ss a,q+2,rn,⟨_,meet_self _,meet_self _⟩,λr hr=>by simp[PL.ns] at hr;lia,(jG.at ha).pre⟩|some n=>rw[e2] at m2;have nl:=cC e2;have sY:=(jG.at hc).1;exact⟨.kW b a c,n,q+2,rn,⟨_,(meet_comm _ _).trans e,e2⟩,λr hr=>by simp[PL.ns] at hr;lia,pre_of ⟨Uz,yH mp.2 (jG.at hc).2.1 e2⟩⟩
theorem Nr:∃(l:PL)(t:UX)(q':Nat),dQ [Row ns q,.int a,aW ss,.int 12,.int ix_]=.ok (.tup [l.d,T t]) [Row ns q',aW ss]/\Told N G (sd ss) l t/\(∀r∈l.ns,r<ss.length)/\Pre t:=by
 unfold dQ lV;have ia:=bR ss a ha;have ln:=d6 ss;obtain⟨b,tb,hb⟩:=drawn ns q ss.length Uz;obtain⟨n,t3,hn⟩:=drawn ns (q+1) 3 Uz;have t3:bN [Row ns<|q+1,.int 3]=.ok (.int n) [Row ns<|q+1+1]:=t3;have er:=hZ n Uz;obtain⟨q1,ys,hc,he⟩:=lA (it:=bH [(aw bN [.io 0,.val<|mC<|.int 3])]) (elt:=lW) (k:=11) (r0:=[.io<|Row ns<|q+1,.sh<|.int a,.io<|aW ss,.sh<|.int 12,.sh<|.int ix_,.sh<|T<|sd ss a,.sh<|.int b,.no,.no,.no,.no]) (λ(k:Nat)=>D.int k) (λq=>[.io<|Row ns q,.sh<|.int a,.io<|aW ss,.sh<|.int 12,.sh<|.int ix_,.sh<|T<|sd ss a,.sh<|.int b,.no,.no,.no,.no]) (λ_ y=>0<=y/\y<=24) (List.range n) (q+1+1) (λ_=>rfl) ao (by simp;lia) (λk _ q'=>by obtain⟨y,tt,_,_⟩:=aT ns q' 3 Uz;exact⟨q'+1,1+y,Uz,λacc=>by unfold lW;exact ao⟩);have hy:∀y∈ys,0<=y/\y<=24:=λy hy=>by obtain⟨_,_,h⟩:=he.right y hy;exact h
 have yl:=he.len;simp only[List.length_range] at yl;obtain⟨y,tR,y0,y1⟩:=aT ns q1 1000003 Uz;exact⟨.mK ys y,ys,q1+1,rn,⟨rfl,y0,y1⟩,λr hr=>by simp[PL.ns] at hr,pre_of ⟨Uz,hy⟩⟩
theorem TH(w:Int)(c9:¬w=9)(WV:¬w=10)(WW:¬w=11)(WX:¬w=12)(c0:sd ss a=[]):∃(l:PL)(t:UX)(q':Nat),dQ [Row ns q,.int a,aW ss,.int w,.int ix_]=.ok (.tup [l.d,T t]) [Row ns q',aW ss]/\Told N G (sd ss) l t/\(∀r∈l.ns,r<ss.length)/\Pre t:=by unfold dQ lV;have ia:=bR ss a ha;rw[c0] at ia;have ln:=d6 ss;obtain⟨b,tb,hb⟩:=drawn ns q ss.length Uz;exact⟨.one 16 a,[],q+1,rn,⟨Uz,c0.symm⟩,λr hr=>by simp[PL.ns] at hr;lia,Qj,Qj⟩
theorem Nt(c0:sd ss a≠[]):∃(l:PL)(t:UX)(q':Nat),dQ [Row ns q,.int a,aW ss,.int 13,.int ix_]=.ok (.tup [l.d,T t]) [Row ns q',aW ss]/\Told N G (sd ss) l t/\(∀r∈l.ns,r<ss.length)/\Pre t:=by
 unfold dQ lV;have ia:=bR ss a ha;have ln:=d6 ss;obtain⟨b,tb,hb⟩:=drawn ns q ss.length Uz;have ib:=bR ss b hb;have ii:=bR ss ix_ hi;have hs:=jG.at ha;have e0:dP (T<|sd ss a) (.tup [])=some (.bl false):=by rw[Pr,BF];simp[c0]
 obtain⟨j,tj,hj⟩:=drawn ns (q+1) (sd ss a).length<|List.length_pos_iff.mpr c0;obtain⟨x,t5,_,_⟩:=aT ns (q+2) 5 Uz;have fin:∀e:Nat,e<ss.length->(sd ss e).length=1->∃y,sd ss e=[y]/\aj (T<|sd ss e) (.int 0)=some (.int y)/\qk [T<|sd ss a,.int j,.int y]=.ok (T<|rep (sd ss a) j y) []/\Pre (rep (sd ss a) j y):=λe he Qa=>by have g:=(jG.at he).get 0;have:=hs.1;obtain⟨y,hy⟩:∃y,sd ss e=[y]:=List.length_eq_one_iff.mp Qa;rw[hy] at g ⊢;exact⟨y,rfl,rfl,cz _ _ _ hj Uz,sC hs.pre (by simp at g;lia) hj⟩
 obtain⟨y,hy,f1,f2,f3⟩:=fin ix_ hi h1;by_cases k5:x<4;exact⟨.pick a j ix_,_,q+3,rn,⟨j,y,rfl,hj,hy,rfl⟩,λr hr=>by simp[PL.ns] at hr;lia,f3⟩;have ne:gW (.int ((sd ss b).length:Int)) (.int 1)=some (.bl<|!decide ((sd ss b).length=1)):=by rw[bX,decide_eq_decide.mpr (show ((sd ss b).length:Int)=1<->(sd ss b).length=1 by lia)]
 by_cases kb:(sd ss b).length=1;obtain⟨y,hy,g1,g2,g3⟩:=fin b hb kb;rw[Qi kb] at ne;exact⟨.pick a j b,_,q+3,rn,⟨j,y,rfl,hj,hy,rfl⟩,λr hr=>by simp[PL.ns] at hr;lia,g3⟩;rw[VY kb] at ne;exact⟨.pick a j ix_,_,q+3,rn,⟨j,y,rfl,hj,hy,rfl⟩,λr hr=>by simp[PL.ns] at hr;lia,f3⟩
theorem Nu(c0:sd ss a≠[]):∃(l:PL)(t:UX)(q':Nat),dQ [Row ns q,.int a,aW ss,.int 14,.int ix_]=.ok (.tup [l.d,T t]) [Row ns q',aW ss]/\Told N G (sd ss) l t/\(∀r∈l.ns,r<ss.length)/\Pre t:=by
 unfold dQ lV;have ia:=bR ss a ha;have ln:=d6 ss;obtain⟨b,tb,hb⟩:=drawn ns q ss.length Uz;have ib:=bR ss b hb;have hs:=jG.at ha;have hl:=hs.1;have e0:dP (T<|sd ss a) (.tup [])=some (.bl false):=by rw[Pr,BF];simp[c0]
 obtain⟨j,tj,hj⟩:=drawn ns (q+1) (sd ss a).length<|List.length_pos_iff.mpr c0;have i1:=dA (sd ss a) j hj;have fin:∀e:Nat,e<ss.length->qk [T<|sd ss a,.int j,.int<|(sd ss a).getD j 0+(sd ss e).getD j 0]=.ok (T<|rep (sd ss a) j<|(sd ss a).getD j 0+(sd ss e).getD j 0) []/\Pre (rep (sd ss a) j<|(sd ss a).getD j 0+(sd ss e).getD j 0):=λe he=>by have g:=(jG.at he).get j;have g2:=hs.get j;exact⟨cz _ _ _ hj Uz,sC hs.pre Uz hj⟩
 have ch0:=cz (sd ss a) j 0 hj Uz;obtain⟨f2,f3⟩:=fin a ha;have ne:gW (.int ((sd ss b).length:Int)) (.int ((sd ss a).length:Int))=some (.bl<|!decide ((sd ss b).length=(sd ss a).length)):=by rw[bX,decide_eq_decide.mpr (show ((sd ss b).length:Int)=(sd ss a).length<->(sd ss b).length=(sd ss a).length by lia)]
 by_cases kl:(sd ss b).length=(sd ss a).length;have ch1:=cz (sd ss b) j 0 Uz (by have:=(jG.at hb).1;lia);rw[Qi kl] at ne;have nr:gW (T<|rep (sd ss a) j 0) (T<|rep (sd ss b) j 0)=some (.bl<|!decide (rep (sd ss a) j 0=rep (sd ss b) j 0)):=C5 _ _;by_cases kr:rep (sd ss a) j 0=rep (sd ss b) j 0;have i2:=dA (sd ss b) j Uz;obtain⟨g2,g3⟩:=fin b hb;rw[Qi kr] at nr;exact⟨.join a b j,_,q+2,rn,⟨j,rfl,hj,kl.symm,OV kl.symm kr,rfl⟩,λr hr=>by simp[PL.ns] at hr;lia,g3⟩;rw[VY kr] at nr;exact⟨.join a a j,_,q+2,rn,⟨j,rfl,hj,rfl,rfl,rfl⟩,λr hr=>by simp[PL.ns] at hr;lia,f3⟩;rw[VY kl] at ne;exact⟨.join a a j,_,q+2,rn,⟨j,rfl,hj,rfl,rfl,rfl⟩,λr hr=>by simp[PL.ns] at hr;lia,f3⟩
theorem Gu(w:Int)(w4:4<=w)(w15:w<15)(hw:w<9->sd ss a=[]) : ∃(l:PL)(t:UX)(q':Nat),dQ [Row ns q,.int a,aW ss,.int w,.int ix_]=.ok (.tup [l.d,T t]) [Row ns q',aW ss]/\Told N G (sd ss) l t/\(∀r∈l.ns,r<ss.length)/\Pre t:=by
 by_cases c9:w=9;subst c9;exact TJ N G ns q a ix_ ss jG ha hi h1;by_cases WV:w=10;subst WV;exact Np N G ns q a ix_ ss jG ha hi h1;by_cases WW:w=11;subst WW;exact Nq N G ns q a ix_ ss jG ha hi h1;by_cases WX:w=12;subst WX;exact Nr N G ns q a ix_ ss jG ha hi h1;by_cases c0:sd ss a=[];exact TH N G ns q a ix_ ss jG ha hi h1 w c9 WV WW WX c0;have:w=13\/w=14:=by
  have:¬w<9:=λz=>c0 (hw z)
  lia
 rcases this with rfl|rfl;exact Nt N G ns q a ix_ ss jG ha hi h1 c0;exact Nu N G ns q a ix_ ss jG ha hi h1 c0
end
def Nv:UX->Int|[]=>0|i::is=>is.foldl (λa b=>if a<b then b else a) i
theorem yk:∀(is:UX)(a:Int),a<=is.foldl (λa b=>if a<b then b else a) a/\∀x∈is,x<=is.foldl (λa b=>if a<b then b else a) a|[],a=>⟨Qj,λx hx=>by simp at hx⟩|i::is,a=>by obtain⟨h1,h2⟩:=yk is<|if a<i then i else a;simp only[List.foldl_cons];generalize is.foldl (λa b=>if a<b then b else a) (if a<i then i else a)=z at *;refine⟨by split at h1<;>lia,λx hx=>?_⟩;rcases List.mem_cons.mp hx with rfl|hx;split at h1<;>lia;exact h2 x hx
theorem Nw{t:UX}(h:Nv t<=24):∀x∈t,x<=24:=λx hx=>by
 cases t with
 |nil=>simp at hx|cons i is=>
  obtain⟨h1,h2⟩:=yk is i;have e:Nv (i::is)=is.foldl (λa b=>if a<b then b else a) i:=rfl;rcases List.mem_cons.mp hx with rfl|hx
  lia
  have:=h2 x hx;lia
theorem Q0w(t:UX):lI (T t) (.int 0)=some (.int<|Nv t):=by rw[C3];cases t<;>rfl
def Fp(ns:UX)(gs:V7)(c tn ix_:Int)(ls:RY)(ss:V7)(q:Nat)(s2 s3 s9 G8 Ao:Sl):ax:=[.io<|Row ns q,.ow<|aW gs,s2,s3,.sh<|.int c,.sh<|.int tn,.ow<|Pg ls,.ow<|aW ss,.sh<|.int ix_,s9,G8,Ao]
structure Gd(gs:V7)(ls:RY)(ss:V7)(ix_:Nat):Prop where
 len:ss.length=ls.length
 wf:Wf ls
 told:∀i l,ls[i]?=some l->Told gs.length (sd gs) (sd ss) l (sd ss i)
 si:AI ss
 ix:ix_<ss.length
 one:(sd ss ix_).length=1
 ne:ls≠[]
theorem ny{ss:V7}{t:UX}{i:Nat}(h:i<ss.length):sd (ss++[t]) i=sd ss i:=by unfold sd;rw[mG,zF h,mG]
theorem Gd.more{gs:V7}{ls:RY}{ss:V7}{ix_:Nat}(g:Gd gs ls ss ix_){l:PL}{t:UX}(hl:∀r∈l.ns,r<ss.length)(hf:Told gs.length (sd gs) (sd ss) l t)(ht:SI t):Gd gs (ls++[l]) (ss++[t]) ix_:=by
 have hx:∀i x,(ls++[l])[i]?=some x->ls[i]?=some x\/(i=ss.length/\x=l):=λi x hx=>by
  by_cases h:i<ls.length;rw[zF h] at hx;exact .inl hx;rw[Oy Uz] at hx;have:=(List.getElem?_eq_some_iff.mp hx).1;have e:i-ls.length=0:=by simp at this;lia
  rw[e] at hx;exact .inr ⟨by have:=g.len;lia,by simpa using hx.symm⟩
 refine⟨by simp[g.len],λi x h r hr=>?_,λi x h=>?_,λx h=>?_,by simp;have:=g.ix;lia,by rw[ny g.ix];exact g.one,Qj⟩;rcases hx i x h with h|⟨rfl,rfl⟩;exact g.wf i x h r hr;exact hl r hr;rcases hx i x h with h|⟨rfl,rfl⟩;have hi:=(List.getElem?_eq_some_iff.mp h).1;have YL:=g.len;rw[ny Uz];exact(g.told i x h).mono λr hr=>ny (by have:=g.wf i x h r hr;lia);rw[show sd (ss++[t]) ss.length=t by simp[sd]];exact hf.mono λr hr=>ny<|hl r hr;rcases List.mem_append.mp h with h|h;exact g.si x h;have:x=t:=by simpa using h
 subst this;exact ht
theorem B5(ns:UX)(gs:V7)(EN:AI gs)(tn:Int)(ix_:Nat)(ls:RY)(ss:V7)(g:Gd gs ls ss ix_)(q:Nat)(s2 s3 Ao:Sl)(Zw:free (some Ao)=true)(a:Nat)(ha:a<ss.length)(w:Int)(w0:0<=w)(w16:w<16)(hg:0<gs.length)(G:M Fl)
  (hG:G=(ef (tB<|m2 ltI (aa 10)<|mC<|.int 4) (ak (aM 11<|aw gi [.io 0,.val<|aa 9,.val<|iW 7<|aa 9,.val<|aa 10])
  aI) (ak (ef (mR (tB<|m2 ltI (aa 10)<|mC<|.int 9)<|tB<|m2 gW (iW 7<|aa 9)<|bY []) (ak (aM 11<|aw ur [.io 0,.val<|aa 9,.val<|iW 7<|aa 9,.val<|aa 10])
  aI) (ak (ef (tB<|m2 dP (aa 10)<|mC<|.int 15) (ak (aM 11<|bY [(bY [(mC<|.str<|nm 0),(m2 eJ (aa 9)<|aa 4)]),(iW 1<|m2 eJ (aa 9)<|aa 4)])
  aI) (ak (aM 11<|aw dQ [.io 0,.val<|aa 9,.io 7,.val<|aa 10,.val<|aa 8])
  aI))
  aI))
  aI))):∃(l:PL)(t:UX)(q':Nat),G (Fp ns gs gs.length tn ix_ ls ss q s2 s3 (.sh<|.int a) (.sh<|.int w) Ao)=.ok .nx (Fp ns gs gs.length tn ix_ ls ss q' s2 s3 (.sh<|.int a) (.sh<|.int w)<|.sh<|.tup [l.d,T t])/\Told gs.length (sd gs) (sd ss) l t/\(∀r∈l.ns,r<ss.length)/\Pre t:=by
 subst hG;unfold Fp;have ia:=bR ss a ha;have hs:=g.si.at ha;by_cases c1:w<4;obtain⟨l,t,q',e,h1,h2,h3⟩:=HH gs.length (sd gs) (sd ss) ns q a hs w w0 c1;refine⟨l,t,q',?_,h1,λr hr=>by rw[h2] at hr;simp at hr;lia,h3⟩;generalize l.d=ld at *;exact ao;by_cases c2:w<9/\sd ss a≠[];obtain⟨l,t,q',e,h1,h2,h3⟩:=DV gs.length (sd gs) (sd ss) ns q a hs c2.2 w Uz c2.1;refine⟨l,t,q',?_,h1,λr hr=>by rw[h2] at hr;simp at hr;lia,h3⟩;generalize l.d=ld at *;obtain⟨c21,c22⟩:=c2;have ne:gW (T<|sd ss a) (.tup [])=some (.bl true):=by rw[Pr,C5,VY c22];rfl
 exact ao;by_cases c3:w=15;have md:=cE a gs.length Uz;obtain⟨b,hb⟩:∃b,b=a % gs.length:=⟨_,rfl⟩;have Xs:b<gs.length:=by rw[hb];exact Nat.mod_lt _ hg
 have eb:((a:Int) % (gs.length:Int))=(b:Int):=by rw[hb];simp
 rw[eb] at md;have ib:=bR gs b Xs;refine⟨.given b,sd gs b,q,?_,⟨b,rfl,Xs,rfl⟩,λr hr=>by simp[PL.ns] at hr,(EN.at Xs).pre⟩;have c4:¬w<9:=Uz;simp only[PL.d,PL.k,PL.ps];exact ao;obtain⟨l,t,q',e,h1,h2,h3⟩:=Gu gs.length (sd gs) ns q a ix_ ss g.si ha g.ix g.one w Uz Uz (λz=>by cases e:sd ss a with|nil=>rfl|cons x r=>exact absurd ⟨z,by rw[e];simp⟩ c2);refine⟨l,t,q',?_,h1,h2,h3⟩;generalize l.d=ld at *;by_cases c4:w<9;have c5:sd ss a=[]:=by cases e:sd ss a with|nil=>rfl|cons x r=>exact absurd ⟨c4,by rw[e];simp⟩ c2
 have ne:gW (T<|sd ss a) (.tup [])=some (.bl false):=by rw[c5];rfl
 exact ao;exact ao
theorem Xe(x y:D):aj (.tup [x,y]) (.int 0)=some x:=rfl
theorem YQ(x y:D):aj (.tup [x,y]) (.int 1)=some y:=rfl
theorem txs(ns:UX)(gs:V7)(EN:AI gs)(hg:0<gs.length)(tn:Int)(ix_:Nat)(ls:RY)(ss:V7)(g:Gd gs ls ss ix_)(hl:ls.length<=40)(q:Nat)(s2 s3 s9 G8 Ao:Sl)(h9:free (some s9)=true)(VJ:free (some G8)=true)(Zw:free (some Ao)=true) : ∃(l:PL)(t:UX)(q':Nat)(Wh G9 Ha:Sl),dG (Fp ns gs gs.length tn ix_ ls ss q s2 s3 s9 G8 Ao)=.ok .nx (Fp ns gs gs.length tn ix_ (ls++[l]) (ss++[t]) q' s2 s3 Wh G9 Ha)/\Gd gs (ls++[l]) (ss++[t]) ix_/\free (some Wh)=true/\free (some G9)=true/\free (some Ha)=true:=by
 have ln:=kF ls;have hn:=List.length_pos_iff.mpr g.ne;have YL:=g.len;obtain⟨b,tl,hb⟩:=drawn ns q ls.length hn;obtain⟨a,hae,ha⟩:∃a:Nat,gR (.int<|(ls.length:Int)-1) (.int b)=some (.int (a:Int))/\a<ss.length:=⟨ls.length-1-b,by rw[sP];congr 2;lia,Uz⟩;obtain⟨w,t16,w0,w16⟩:=aT ns (q+1) 16 Uz;obtain⟨l,t,q',e,h1,h2,h3⟩:=B5 ns gs EN tn ix_ ls ss g (q+2) s2 s3 Ao Zw a ha w w0 w16 hg _ rfl;have cl:=ly t h3;have mx:=Q0w t;have ia:=bR ss a ha;have Zd:∀l:PL,df l.d (Pg ls)=some (Pg<|ls++[l]):=λl=>by unfold Pg;rw[gY _ _ (by simp;lia),TQ];rfl
 have Ze:∀t,df (T t) (aW ss)=some (aW<|ss++[t]):=λt=>by unfold aW;rw[gY _ _ (by simp;lia),TQ];rfl
 unfold Fp at e ⊢;unfold dG;by_cases c:ah t<=27/\t.length<=4/\Nv t<=24;refine⟨l,t,q',.sh<|.int a,.sh<|.int w,.sh<|.tup [l.d,T t],?_,g.more h2 h1 ⟨c.2.1,λx hx=>⟨(h3.2 x hx).1,Nw c.2.2 x hx⟩,c.1⟩,rfl,rfl,rfl⟩;have k1:¬27<ah t:=Uz;have k2:¬(4:Int)<t.length:=Uz;have k3:¬24<Nv t:=Uz;have a1:=Zd l;have a2:=Ze t;generalize l.d=ld at *;exact ao;refine⟨.one 16 a,sd ss a,q',.sh<|.int a,.sh<|.int w,.sh<|.tup [.tup [.str<|nm 9,.str<|nm 16,.int a],T<|sd ss a],?_,g.more (λr hr=>by simp[PL.ns] at hr;lia) ⟨Uz,rfl⟩<|g.si.at ha,rfl,rfl,rfl⟩;have a1:=Zd<|.one 16 a;have a2:=Ze<|sd ss a;have a1:df (.tup [.str<|nm 9,.str<|nm 16,.int a]) (Pg ls)=some (Pg<|ls++[.one 16 a]):=a1;generalize l.d=ld at *;by_cases k1:27<ah t;exact ao;by_cases k2:(4:Int)<t.length;exact ao;have k3:24<Nv t:=by by_cases z:24<Nv t;exact z;exact absurd ⟨Uz,Uz,Uz⟩ c
 exact ao
theorem Y0(m:Int)(h0:0<=m)(h8:m<8):∃v:Int,0<=v/\v<=3/\aj (.lst [.int 2,.int 3,.int 1,.int 2,.int 3,.int 1,.int 2,.int 0]) (.int m)=some (.int v):=by have:m=0\/m=1\/m=2\/m=3\/m=4\/m=5\/m=6\/m=7:=Uz;rcases this with rfl|rfl|rfl|rfl|rfl|rfl|rfl|rfl;exact⟨2,Uz,Uz,rfl⟩;exact⟨3,Uz,Uz,rfl⟩;exact⟨1,Uz,Uz,rfl⟩;exact⟨2,Uz,Uz,rfl⟩;exact⟨3,Uz,Uz,rfl⟩;exact⟨1,Uz,Uz,rfl⟩;exact⟨2,Uz,Uz,rfl⟩;exact⟨0,Uz,Uz,rfl⟩
theorem YZ(m:Int)(h0:0<=m)(h8:m<4):∃v:Int,0<=v/\v<=4/\aj (.lst [.int 2,.int 3,.int 1,.int 4]) (.int m)=some (.int v):=by have:m=0\/m=1\/m=2\/m=3:=Uz;rcases this with rfl|rfl|rfl|rfl;exact⟨2,Uz,Uz,rfl⟩;exact⟨3,Uz,Uz,rfl⟩;exact⟨1,Uz,Uz,rfl⟩;exact⟨4,Uz,Uz,rfl⟩
theorem Kr:∀(xs:UX),(∀x∈xs,0<=x/\x<=3)->0<=ah xs/\ah xs<=3 ^ xs.length|[],_=>by simp[ah]|x::r,h=>by have hx:=h x R9;have hr:=Kr r λy hy=>h y<|Pe _ hy;simp only[ah,List.length_cons];refine⟨Dp hx.1 hr.1,?_⟩;have:x*ah r<=3*3 ^ r.length:=Int.mul_le_mul hx.2 hr.2 hr.1 Uz;rw[Int.pow_succ];lia
theorem si3(xs:UX)(hl:xs.length<=3)(h:∀x∈xs,0<=x/\x<=3):SI xs:=by
 refine⟨Uz,λx hx=>by have:=h x hx;lia,?_⟩;have p:=(Kr xs h).2;have:(3:Int) ^ xs.length<=27:=by
  generalize xs.length=n at *
  match n,hl with|0,_=>decide|1,_=>decide|2,_=>decide|3,_=>decide
 lia
theorem noLs_T:∀ss:V7,noLs (ss.map T)=true
|[]=>rfl|s::ss=>by
 have:GZ (T s)=true:=by unfold T;rw[GZ];induction s with|nil=>rfl|cons x s ih=>rw[Yk,noLs,GZ,ih];rfl
 rw[Yk,noLs,this,noLs_T ss];rfl
def JN(t:Sl×Sl×Sl):Prop:=free (some t.1)=true/\free (some t.2.1)=true/\free (some t.2.2)=true
def JO(t:Sl×Sl×Sl×Sl):Prop:=free (some t.1)=true/\free (some t.2.1)=true/\free (some t.2.2.1)=true/\free (some t.2.2.2)=true
theorem LK(gs:V7)(t:UX)(h:gs.length<=100):df (T t) (aW gs)=some (aW<|gs++[t]):=by unfold aW;rw[gY _ _ (by simp;lia),TQ];rfl
theorem wW(ns:UX)(p:Nat):∃(ls:RY)(ss gs:V7)(ix_ q:Nat),yc [Row ns p]=.ok (.tup [Pg ls,aW ss,.int gs.length,aW gs]) [Row ns q]/\Gd gs ls ss ix_/\AI gs/\ls.length<=14/\gs.length<=3/\0<gs.length/\gs.length<ls.length:=by
 obtain⟨z,t2,z0,z2⟩:=aT ns p 2 Uz;obtain⟨n,hn,Qc⟩:∃n:Nat,bq (.int 1) (.int z)=some (.int (n:Int))/\1<=n/\n<=2:=⟨(1+z).toNat,congrArg (λz=>some<|D.int z) Uz,Uz,Uz⟩;have er:=hZ n Uz;obtain⟨⟨q1,gs⟩,t,⟨AM,EN⟩,ht,L⟩:=bu (g:=aq 2) (body:=dF) (λ(k:Nat)=>D.int k) (λ(s:Nat×List (List Int))(t:Sl×Sl)=>[.io<|Row ns s.1,.ow<|aW s.2,t.1,t.2,.no,.no,.no,.no,.no,.no,.no,.no]) mf (List.range n) (λk s=>s.2.length=k/\AI s.2) (p+1,[]) (.no,.no) ⟨rfl,rfl⟩ ⟨rfl,λs hs=>by simp at hs⟩ (by
  intro i k hk s t ht hP;obtain⟨q,gs⟩:=s;obtain⟨t3,t4⟩:=t;obtain⟨f3,f4⟩:=ht;obtain⟨hl,aL⟩:=hP;dsimp only at f3 f4 hl aL;obtain⟨rfl,hk⟩:=bE hk;obtain⟨m,tk,hm4⟩:=drawn ns q 4 Uz;have tk:bN [Row ns q,.int 4]=.ok (.int m) [Row ns<|q+1]:=tk;have er:=hZ m Uz;obtain⟨q',ys,hc,he⟩:=lA (it:=bH [(aa 3)]) (elt:=fH) (k:=12) (r0:=[.io<|Row ns<|q+1,.ow<|aW gs,.sh<|.int k,.sh<|.int m,.no,.no,.no,.no,.no,.no,.no,.no]) (λ(k:Nat)=>D.int k) (λq=>[.io<|Row ns q,.ow<|aW gs,.sh<|.int k,.sh<|.int m,.no,.no,.no,.no,.no,.no,.no,.no]) (λ_ y=>0<=y/\y<=3) (List.range m) (q+1) (λ_=>rfl) ao (by simp;lia) (λj _ q'=>by obtain⟨x,t8,x0,x8⟩:=aT ns q' 8 Uz;obtain⟨v,v0,v3,iv⟩:=Y0 x x0 x8;exact⟨q'+1,v,⟨v0,v3⟩,λacc=>by unfold fH;exact ao⟩);have yl:=he.len;simp only[List.length_range] at yl;have hy:SI ys:=si3 ys Uz λy hy=>by obtain⟨_,_,h⟩:=he.right y hy;exact h
  have ap:=LK gs ys Uz;refine⟨(q',gs++[ys]),(.sh<|.int k,.sh<|.int m),⟨by simp[hl],λx hx=>?_⟩,⟨rfl,rfl⟩,?_⟩;rcases List.mem_append.mp hx with hx|hx;exact aL x hx;have:x=ys:=by simpa using hx
  subst this;exact hy;have e:aq 2 (.int (k:Int)) [.io<|Row ns q,.ow<|aW gs,t3,t4,.no,.no,.no,.no,.no,.no,.no,.no]=.ok () [.io<|Row ns q,.ow<|aW gs,.sh<|.int k,t4,.no,.no,.no,.no,.no,.no,.no,.no]:=by simp[f3]
  dsimp only;rw[aF,e,ag,show dF _=.ok .nx _ by unfold dF;exact ao];rfl)
 obtain⟨t3,t4⟩:=t;obtain⟨f3,f4⟩:=ht;simp only[List.length_range] at AM;dsimp only at AM EN f3 f4 L;obtain⟨x,tv,x0,x4⟩:=aT ns q1 4 Uz;obtain⟨v,v0,v4,iv⟩:=YZ x x0 x4;have hv:SI [v]:=⟨Qj,λx hx=>by simp at hx;lia,by simp[ah];lia⟩;have ap:df (.tup [.int v]) (aW gs)=some (aW<|gs++[[v]]):=LK gs [v] Uz;have FI:AI (gs++[[v]]):=λx hx=>by
  rcases List.mem_append.mp hx with hx|hx;exact EN x hx;have:x=[v]:=by simpa using hx
  subst this;exact hv
 have JY:sd (gs++[[v]]) ((gs++[[v]]).length-1)=[v]:=by simp[sd]
 have hg3:2<=(gs++[[v]]).length/\(gs++[[v]]).length<=3:=by simp;lia
 generalize hgz:gs++[[v]]=gz at *;have ln:=d6 gz;obtain⟨tn,tt,htn⟩:=drawn ns (q1+1) gz.length Uz;have er2:=hZ gz.length Uz;let pl:=λ(k:Nat)=>PL.given<|((k+tn) % gz.length:Nat);have c6:aD 1 (bH [(aa 4)]) (aq 12) (VP.ret true) di [.io<|Row ns<|q1+2,.ow<|aW gz,t3,t4,.sh<|.int gz.length,.sh<|.int tn,.no,.no,.no,.no,.no,.no]=.ok (Pg<|(List.range gz.length).map pl) [.io<|Row ns<|q1+2,.ow<|aW gz,t3,t4,.sh<|.int gz.length,.sh<|.int tn,.no,.no,.no,.no,.no,.no]:=by refine cY (λ(k:Nat)=>D.int k) (λk=>(pl k).d) (List.range gz.length) ao (by simp;lia) (by simp[Pg,Function.comp_def]) λk hk acc=>?_;have md:=cE ((k:Int)+tn) gz.length Uz;rw[show ((k:Int)+tn) % (gz.length:Int)=(((k+tn) % gz.length:Nat):Int) by simp] at md;show di _=.ok (.tup [.str<|nm 0,.int (((k+tn) % gz.length:Nat):Int)]) _;generalize (k+tn) % gz.length=m at *;unfold di;exact ao
 let sl:=λ(k:Nat)=>sd gz<|(k+tn) % gz.length;have c7:aD 1 (cR<|aa 6) (aq 12) (VP.ret true) dj [.sh<|Row ns<|q1+2,.sh<|aW gz,gq t3,gq t4,.sh<|.int gz.length,.sh<|.int tn,.sh<|Pg<|(List.range gz.length).map pl,.no,.no,.no,.no,.no]=.ok (.lst<|((List.range gz.length).map sl).map T) [.sh<|Row ns<|q1+2,.sh<|aW gz,gq t3,gq t4,.sh<|.int gz.length,.sh<|.int tn,.sh<|Pg<|(List.range gz.length).map pl,.no,.no,.no,.no,.no]:=by refine cY (λ(k:Nat)=>(pl k).d) (λk=>T<|sl k) (List.range gz.length) (by simp[DU,Function.comp_def]) (by simp;lia) (by simp[Function.comp_def]) λk hk acc=>?_;have ib:=bR gz ((k+tn) % gz.length)<|Nat.mod_lt _ Uz;have i1:aj (pl k).d (.int 1)=some (.int<|((k+tn) % gz.length:Nat)):=rfl;generalize (pl k).d=ld at *;rw[show sl k=sd gz ((k+tn) % gz.length) from rfl];generalize (k+tn) % gz.length=j at ib i1 ⊢;unfold dj;exact ao
 have nl:=noLs_T<|(List.range gz.length).map sl;have v7:mn (aD 1 (cR<|aa 6) (aq 12) (VP.ret true) dj) [.io<|Row ns<|q1+2,.ow<|aW gz,t3,t4,.sh<|.int gz.length,.sh<|.int tn,.ow<|Pg<|(List.range gz.length).map pl,.no,.no,.no,.no,.no]=.ok (aW<|(List.range gz.length).map sl) [.io<|Row ns<|q1+2,.ow<|aW gz,t3,t4,.sh<|.int gz.length,.sh<|.int tn,.ow<|Pg<|(List.range gz.length).map pl,.no,.no,.no,.no,.no]:=by rw[CY];simp only[List.map_cons,List.map_nil,Q20,Ek,Q1j,Ej];rw[c7,Q1W _ _ _ nl];rfl
 obtain⟨ix_,hix⟩:∃ix_:Nat,ix_=gz.length-1-tn:=⟨_,rfl⟩;have mi:eJ (.int<|(gz.length:Int)-1-tn) (.int gz.length)=some (.int (ix_:Int)):=by rw[cE _ _ Uz,Int.emod_eq_of_lt Uz Uz];exact congrArg (λz=>some<|D.int z) Uz
 have G0:Gd gz ((List.range gz.length).map pl) ((List.range gz.length).map sl) ix_:=by
  have es:∀i,i<gz.length->sd ((List.range gz.length).map sl) i=sl i:=λi hi=>by simp[sd,hi]
  refine⟨Qj,λi l hl r hr=>?_,λi l hl=>?_,λs hs=>?_,by simp;lia,?_,λz=>?_⟩;obtain⟨k,_,rfl⟩:=List.mem_map.mp<|Rb hl;simp[pl,PL.ns] at hr;have hi:=(List.getElem?_eq_some_iff.mp hl).1;simp only[List.length_map,List.length_range] at hi;have:l=pl i:=by simpa[hi] using hl.symm
  subst this;rw[es i hi];exact⟨(i+tn) % gz.length,rfl,Nat.mod_lt _ Uz,rfl⟩;obtain⟨k,hk,rfl⟩:=List.mem_map.mp hs;exact FI.at<|Nat.mod_lt _ Uz;rw[es _ Uz];show (sd gz<|(ix_+tn) % gz.length).length=1;rw[show ix_+tn=gz.length-1 by lia,Nat.mod_eq_of_lt Uz,JY];rfl;have:=congrArg List.length z;rw[VE,Hh,List.length_nil] at this;lia
 have ZE:((List.range gz.length).map pl).length=gz.length:=Qj;generalize ((List.range gz.length).map pl)=ls0 at *;generalize ((List.range gz.length).map sl)=ss0 at *;obtain⟨y,t10,y0,y10⟩:=aT ns (q1+2) 10 Uz;obtain⟨V9,abH,ZH⟩:∃n:Nat,bq (.int 1) (.int y)=some (.int (n:Int))/\n<=10/\1<=n:=⟨(1+y).toNat,congrArg (λz=>some<|D.int z) Uz,Uz,Uz⟩;have aaZ:=hZ V9 Uz;obtain⟨⟨q3,ls,ss⟩,t,⟨ZF,hG⟩,ht,L5⟩:=bu (g:=aq 2) (body:=dG) (λ(k:Nat)=>D.int k) (λ(s:Nat×List PL×List (List Int))(t:Sl×Sl×Sl×Sl)=>Fp ns gz gz.length tn ix_ s.2.1 s.2.2 s.1 t.1 t4 t.2.1 t.2.2.1 t.2.2.2) JO (List.range V9) (λk s=>s.2.1.length=gz.length+k/\Gd gz s.2.1 s.2.2 ix_) (q1+3,ls0,ss0) (t3,.no,.no,.no) ⟨f3,rfl,rfl,rfl⟩ ⟨Uz,G0⟩ (by intro i k hk s t ht hP;obtain⟨q,ls,ss⟩:=s;obtain⟨s2,s9,G8,Ao⟩:=t;obtain⟨g2,g9,Zu,Zv⟩:=ht;obtain⟨hl,hG⟩:=hP;dsimp only at g2 g9 Zu Zv hl hG;obtain⟨rfl,hk⟩:=bE hk;obtain⟨l,t,q',Wh,G9,Ha,e,hG',k9,k10,k11⟩:=txs ns gz FI Uz tn ix_ ls ss hG Uz q (.sh<|.int k) t4 s9 G8 Ao g9 Zu Zv;refine⟨(q',ls++[l],ss++[t]),(.sh<|.int k,Wh,G9,Ha),⟨by simp;lia,hG'⟩,⟨rfl,k9,k10,k11⟩,?_⟩;dsimp only;rw[aF,show aq 2 (.int (k:Int)) (Fp ns gz gz.length tn ix_ ls ss q s2 t4 s9 G8 Ao)=.ok () (Fp ns gz gz.length tn ix_ ls ss q (.sh<|.int k) t4 s9 G8 Ao) by simp[Fp,g2],ag,e];rfl);obtain⟨s2,s9,G8,Ao⟩:=t;simp only[List.length_range] at ZF;dsimp only[Fp] at ZF hG L5;have Xk:aW []=.lst []:=rfl;rw[Xk] at L;refine⟨ls,ss,gz,ix_,q3,?_,hG,FI,Uz,hg3.2,Uz,Uz⟩;clear G0 hG FI EN nl c7 JY;unfold yc Iq;exact rn
theorem yK(xs:UX)(n:Nat)(hx:xs.length<=100)(hn:n<=100):B4 [T xs,.int n]=.ok (Z<|ahead xs n) []:=by
 rw[B4,gh _ _ _ _ rfl];unfold IQ;have er:sE [.int<|(n:Int)-xs.length]=some ((List.range<|n-xs.length).map λ(k:Nat)=>.int k):=pd _ _ Uz Uz Uz;have hc:aD 1 (bH [m2 gR (aa 1)<|m1 bG<|aa 0]) (aq 2) (VP.ret true) iM [.sh<|T xs,.sh<|.int n]=.ok (Z<|List.replicate (n-xs.length) 1) [.sh<|T xs,.sh<|.int n]:=by rw[Me (ds:=(List.range<|n-xs.length).map λ(k:Nat)=>.int k) (λ_=>.int 1)];congr 1;simp[Z,Function.comp_def,List.map_const'];simp[er];rfl;simp;lia;intro d _ acc;rfl
 have e2:bq (Z<|List.replicate (n-xs.length) 1) (Z xs)=some (Z<|ahead xs n):=by rw[LI];rfl;simp[gU];lia
 simp[hc,e2]
theorem TG(one other:UX)(h1:one.length<=100)(h2:other.length<=100):uB [T one,T other]=.ok (Ae<|meet one other) []:=by
 obtain⟨n,hn⟩:∃n,max one.length other.length=n:=⟨_,rfl⟩;have vC:n<=100:=hn ▸ Nat.max_le.mpr ⟨h1,h2⟩;have mx:maxD [.int (one.length:Int),.int (other.length:Int)]=some (.int (n:Int)):=by rw[rP,show max (one.length:Int) other.length=n by lia]
 have ez:xA [Z<|ahead one n,Z<|ahead other n]=some ((pairs one other).reverse.map λp=>.tup [.int p.1,.int p.2]):=by rw[lT _ _ _ _ rfl rfl,<-hn,jB]
 have o1:=yK one n h1 vC;have o2:=yK other n h2 vC;have L:=j6 (g:=fW [4,5]) (body:=fO) (λ(p:Int×Int)=>D.tup [.int p.1,.int p.2]) (λ(s:UX)(t:Sl×Sl)=>[.sh<|T one,.sh<|T other,.sh<|.int (n:Nat),.ow<|Z s,t.1,t.2]) mf Lq (pairs one other).reverse (λk s=>s.length=k) [] (.no,.no) ⟨rfl,rfl⟩ rfl ?_;rw[qu,tW] at L;unfold meet;by_cases q:(pairs one other).all (λp=>oQ p.1 p.2)=true;rw[YN q] at L;obtain⟨_,t,_,L⟩:=L;rw[YN q];simp only[List.nil_append] at L;rw[show Z []=D.lst [] from rfl,show (pairs one other).reverse.map (λp=>pk p.1 p.2)=((pairs one other).map λp=>pk p.1 p.2).reverse from Pp] at L;unfold uB Bb Ae;exact rn;rw[YO q] at L;obtain⟨s',t,L⟩:=L;rw[YO q];rw[show Z []=D.lst [] from rfl] at L;unfold uB Bb Ae;exact rn;intro i p hp acc t ht hP;have hi:=(List.getElem?_eq_some_iff.mp hp).1;obtain⟨t4,t5⟩:=t;obtain⟨h4,h5⟩:=ht;dsimp only at h4 h5 hP;have e1:∀x:Int,df (.int x) (Z acc)=some (Z<|acc++[x]):=λx=>nM _ _ (by simp[pairs] at hi;omega);generalize T one=O1 at *;generalize T other=O2 at *;have x1:aF (fW [4,5]) fO (.tup [.int p.1,.int p.2]) [.sh O1,.sh O2,.sh<|.int (n:Nat),.ow<|Z acc,t4,t5]=if oQ p.1 p.2 then .ok .nx [.sh O1,.sh O2,.sh<|.int (n:Nat),.ow<|Z<|acc++[pk p.1 p.2],.sh<|.int p.1,.sh<|.int p.2] else .ok (.rt .aP) [.sh O1,.sh O2,.sh<|.int (n:Nat),.ow<|Z acc,.sh<|.int p.1,.sh<|.int p.2]:=by have n1:=bX p.1 p.2;have n2:=bX p.1 1;have n3:=bX p.2 1;have n4:=eX p.1 1;have e1x:=e1 p.1;have e1y:=e1 p.2;rw[show oQ p.1 p.2=(decide (p.1=1)||decide (p.2=1)||decide (p.1=p.2)) by simp[oQ,Bool.or_assoc],show pk p.1 p.2=if decide (p.1=1)=true then p.2 else p.1 by simp[pk],aF,show fW [4,5] (.tup [.int p.1,.int p.2]) _=.ok () [.sh O1,.sh O2,.sh<|.int (n:Nat),.ow<|Z acc,.sh<|.int p.1,.sh<|.int p.2] by simp[h4,h5],ag];clear e1;generalize decide (p.1=1)=b1 at *;generalize decide (p.2=1)=b2 at *;generalize decide (p.1=p.2)=b3 at *;unfold fO;cases b1<;>cases b2<;>cases b3<;>exact ao
 unfold Lq;dsimp only;rw[x1];by_cases q:oQ p.1 p.2=true;rw[YN q,YN q];exact⟨by simp[hP],(_,_),⟨rfl,rfl⟩,rfl⟩;rw[YO q,YO q];exact⟨acc,(_,_),rfl⟩
theorem rR{s t m:UX}(h1:s.length<=100)(h2:t.length<=100)(e:meet s t=some m):uB [T s,T t]=.ok (T m) []:=by have:=TG s t h1 h2;rwa [e] at this
theorem i8(s:UX)(k:Nat)(hk:k<s.length)(hl:s.length<=100):yi [T s,.int k]=.ok (T<|wo s k) []:=by have a2:bq (T<|s.take k) (T<|s.drop<|k+1)=some (T<|wo s k):=bZ _ _ (by simp[gU];omega);have c1:=jM s k Vc;have c2:=iu s (k+1) Vc;rw[show (((k+1:Nat)):Int)=(k:Int)+1 by omega] at c2;unfold yi IS;exact rn
theorem dX(s:UX)(k:Nat)(x:Int)(hk:k<s.length)(hl:s.length<=100):uy [T s,.int k,.int x]=.ok (T<|rep s k x) []:=by have a1:bq (T<|s.take k) (.tup [.int x])=_:=bZ (s.take k) [x] (by simp[gU];lia);have a2:=bZ (s.take k++[x]) (s.drop<|k+1) (by simp[gU];lia);have c1:=jM s k Uz;have c2:=iu s (k+1) Uz;rw[show (((k+1:Nat)):Int)=(k:Int)+1 by lia] at c2;rw[show s.take k++[x]++s.drop (k+1)=rep s k x by simp[rep]] at a2;unfold uy IE;exact rn
theorem sv(s:UX)(k:Nat)(x:Int)(hk:k<=s.length)(hl:s.length<=100):ux [T s,.int k,.int x]=.ok (T<|pin s k x) []:=by have a1:bq (T<|s.take k) (.tup [.int x])=_:=bZ (s.take k) [x] (by simp[gU];lia);have a2:=bZ (s.take k++[x]) (s.drop k) (by simp[gU];lia);have c1:=jM s k Uz;have c2:=iu s k Uz;rw[show s.take k++[x]++s.drop k=pin s k x by simp[pin]] at a2;unfold ux ID;exact rn
theorem dS(s:UX)(k:Nat)(hk:k<s.length):BO [T s,.int k]=.ok (.bl true) []:=by
 have e2:ltI (.int (k:Int)) (.int s.length)=some (.bl true):=by rw[gA,Qi Uz]
 unfold BO HX;exact rn
theorem j1(s:UX)(k:Nat)(p:Int)(hk:k<s.length)(h0:0<=p)(h1:p<s.getD k 0):BN [T s,.int k,.int p]=.ok (.bl true) []:=by
 have e2:ltI (.int p) (.int<|s.getD k 0)=some (.bl true):=by rw[gA,Qi h1]
 have hs:=dS s k hk;have i1:=dA s k hk;unfold BN HW;exact rn
theorem FA(d:Nat)(s:UX)(k:Nat)(hk:k<s.length)(hl:s.length<=100)(hd:d∈[19,21,22,23])(h0:s.getD k 0=0->d≠22/\d≠23):BM [.str<|nm d,T s,.int k]=.ok (T<|wo s k) []:=by
 have hs:=dS s k hk;have i1:=dA s k hk;have w:=i8 s k hk hl;generalize s.getD k 0=z at *;unfold BM HV;by_cases z0:z=0;have h1:=h0 z0;have i2:inD false (.str<|nm d) (.tup [.str<|nm 22,.str<|nm 23])=some (.bl false):=by simp only[List.mem_cons,List.not_mem_nil,or_false] at hd;rcases hd with rfl|rfl|rfl|rfl;kernel_rfl!;kernel_rfl!;exact absurd rfl h1.1;exact absurd rfl h1.2
 exact rn;exact rn
theorem GN(s:UX)(k:Nat)(y:Int)(hk:k<s.length)(hl:s.length<=100):BX [T s,.int k,T [y]]=.ok (T<|rep s k y) []:=by have hs:=dS s k hk;have w:=dX s k y hk hl;unfold BX IB;exact rn
theorem FZ(s t:UX)(k:Nat)(hk:k<s.length)(hl:s.length<=100)(h1:s.length=t.length)(h2:wo s k=wo t k):BP [T s,T t,.int k]=.ok (T<|rep s k<|s.getD k 0+t.getD k 0) []:=by
 have hs:=dS s k hk;have w:=dX s k (s.getD k 0+t.getD k 0) hk hl;have w1:=i8 s k hk hl;have w2:=i8 t k Uz Uz;have i1:=dA s k hk;have i2:=dA t k Uz;have n1:gW (.int (s.length:Int)) (.int t.length)=some (.bl false):=by rw[bX,Qi Uz];rfl
 have n2:gW (T<|wo s k) (T<|wo t k)=some (.bl false):=by rw[C5,Qi h2];rfl
 unfold BP Ib;exact rn
theorem tnE(s o:UX)(hl:s.length<=60)(h1:sortI o=kU s.length)(h2:o.length=s.length):B2 [T s,T o]=.ok (T<|o.map λx=>s.getD x.toNat 0) []:=by
 have e1:=Hk o Uz;have e2:=F5 s.length Uz;have e3:gW (Z<|sortI o) (Z<|kU s.length)=some (.bl false):=by rw[TK,Qi h1];rfl
 have c:aD 1 (cR<|aa 1) (aq 2) (VP.ret true) dq [.sh<|T s,.sh<|T o]=.ok (Z<|o.map λx=>s.getD x.toNat 0) [.sh<|T s,.sh<|T o]:=by refine cY D.int (λx=>D.int<|s.getD x.toNat 0) o ao Uz (by simp[Z,Function.comp_def]) λx hx acc=>?_;obtain⟨j,rfl,hj⟩:=qT h1 hx;have ix:aj (T s) (.int j)=some (.int<|s.getD (j:Int).toNat 0):=bV s j Uz Uz;unfold dq;exact ao
 unfold B2 IM;exact rn
theorem RO(s:UX)(k:Nat)(b st m:Int)(hk:k<s.length)(hl:s.length<=100)(jH:st≠0/\-3<=st/\st<=3)(hm:0<=m)(hp:0<m->(0<=b/\b<s.getD k 0)/\0<=b+st*(m-1)/\b+st*(m-1)<s.getD k 0):Mp [T s,.int k,.int b,.int st,.int m]=.ok (T<|rep s k m) []:=by have hs:=dS s k hk;have w:=dX s k m hk hl;have c1:¬st=0:=jH.1;have c2:¬m<0:=Uz;unfold Mp Q3;by_cases c3:0<m;have h:=hp c3;have p1:=j1 s k b hk h.1.1 h.1.2;have p2:=j1 s k _ hk h.2.1 h.2.2;have mu:=jq st (m-1) Uz Uz;exact rn;exact rn
theorem BC(s:UX)(k:Nat)(p:Int)(hk:k<s.length)(hl:s.length<=100)(h0:0<=p)(h1:p<s.getD k 0):Mr [T s,.int k,.int p]=.ok (T<|wo s k) []:=by have p1:=j1 s k p hk h0 h1;have w:=i8 s k hk hl;unfold Mr Q4;exact rn
theorem Pq{s t u m n:UX}(hs:s.length<=4)(ht:t.length<=4)(hu:u.length<=4)(e1:meet s t=some m)(e2:meet m u=some n):B1 [T s,T t,T u]=.ok (T n) []:=by have ml:=cC e1;have m1:=rR Uz Uz e1;have m2:=rR Uz Uz e2;unfold B1 IL;exact rn
theorem rp(body:M Fl)(hb:body=d7)(xs:UX)(h:Sm xs)(d:D):∃t,loop (aq 2) body (xs.map .int) [.sh d,.sh<|.int 1,.no]=.ok .nx [.sh d,.sh<|.int<|ah xs,t]:=by subst hb;obtain⟨_,t,_,L⟩:=oJ (g:=aq 2) (body:=d7) D.int (λ(s:Int)(t:Sl)=>[.sh d,.sh<|.int s,t]) kv (λ_ _=>True) (λp x=>p*x) xs 1 .no rfl trivial (by intro i x hx p t ht _;have hm:=h x<|Rb hx;have hf:free (some t)=true:=ht;refine⟨trivial,.sh<|.int x,rfl,?_⟩;simp[aF,d7,hf,cU p x Uz Uz]);rw[j9,Int.one_mul] at L;exact⟨t,L⟩
theorem fJ(xs:UX)(h:Sm xs):BV [T xs]=.ok (.int<|ah xs) []:=by rw[BV,gh _ _ _ _ rfl];obtain⟨t,L⟩:=rp d7 rfl xs h<|T xs;simp[Q0,L]
theorem xO(s:UX)(h:SI s):uA [T s]=.ok (.bl true) []:=by
 have hl:=h.1;have c:aD 1 (cR<|aa 0) (aq 1) (VP.ret true) f9 [.sh<|T s]=.ok (.lst<|s.map λx=>D.bl true) [.sh<|T s]:=by
  refine cY D.int (λx=>D.bl true) s ao Vc rfl λx hx acc=>?_;have hb:=h.2.1 x hx;have e1:CH (.int 0) (.int x)=some (.bl true):=by rw[iT,Qi hb.1]
  have e2:CH (.int x) (.int 64)=some (.bl true):=by rw[iT,Qi Vc]
  unfold f9;exact ao
 have e:nK true (.lst<|s.map λx=>D.bl true)=some (.bl true):=by rw[vO (λ_=>true) s];simp
 have hc:=fJ s λx hx=>by have:=h.2.1 x hx;omega
 have l4:¬(4:Int)<s.length:=Vc;have e4:CH (.int<|ah s) (.int 4096)=some (.bl true):=by rw[iT,Qi (by have:=h.2.2;omega)]
 unfold uA IG;exact rn
theorem PL.nam(l:PL):uv [l.d]=.ok (eU l.ns) []:=l.named
theorem tnR{n:Nat}{G S:Nat->UX}{l:PL}{t:UX}(h:Told n G S l t):Mq [l.d]=.ok (.bl true) []:=by
 cases l with
 |one d a=>obtain⟨⟨h1,h2⟩,_⟩:=h;have:d=16\/d=17\/d=18:=Uz;rcases this with rfl|rfl|rfl<;>kernel_rfl!
 |both d a b=>obtain⟨⟨h1,h2⟩,_⟩:=h;have:d=19\/d=20\/d=21\/d=22\/d=23\/d=24\/d=25:=Uz;rcases this with rfl|rfl|rfl|rfl|rfl|rfl|rfl<;>kernel_rfl!
 |fold d a k=>obtain⟨_,_,_,h,_⟩:=h;simp only[List.mem_cons,List.not_mem_nil,or_false] at h;rcases h with rfl|rfl|rfl|rfl<;>kernel_rfl!
 |run d a k=>obtain⟨_,_,_,h,_⟩:=h;simp only[List.mem_cons,List.not_mem_nil,or_false] at h;rcases h with rfl|rfl|rfl|rfl<;>kernel_rfl!
 |_=>kernel_rfl!
theorem DO(x:Int)(h:Rt x):x9 [.int x]=.ok (.bl true) []:=by
 have e1:CH (.int 0) (.int x)=some (.bl true):=by rw[iT,Qi h.1]
 have e2:ltI (.int x) (.int 1000003)=some (.bl true):=by rw[gA,Qi h.2]
 unfold x9 Ia;exact rn
theorem Fm{n:Nat}{G S:Nat->UX}{l:PL}{t:UX}(h:Told n G S l t):lZ [l.d]=.ok (.bl true) []:=by
 by_cases c1:l.k=1;cases l<;>simp only[PL.k] at c1<;>try lia
 rename_i s x;have r:=DO x h.2;show lZ [.tup [.str<|nm 1,T s,.int x]]=_;unfold lZ xF;exact rn;by_cases c8:l.k=8;cases l<;>simp only[PL.k] at c8<;>try lia
 rename_i a k m x;obtain⟨_,_,_,hr,_⟩:=h;have r:=DO x hr;show lZ [.tup [.str<|nm 8,.int a,.int k,.int m,.int x]]=_;unfold lZ xF;exact rn;have k1:=l.kind;have Yh:=l.V2;have e1:dP (.str<|nm l.k) (.str<|nm 1)=some (.bl false):=by rw[EJ _ _ Uz Uz,VY c1]
 have e2:gW (.str<|nm l.k) (.str<|nm 8)=some (.bl true):=by rw[neS _ _ Uz Uz,VY c8];rfl
 generalize l.d=ld at *;unfold lZ xF;exact rn
theorem Ea{n:Nat}{G S:Nat->UX}{l:PL}{t:UX}{m:Nat}(h:Told n G S l t)(hl:∀r∈l.ns,r<m):qq [l.d,.int m,.int n]=.ok (.bl true) []:=by
 by_cases c0:l.k=0;cases l<;>simp only[PL.k] at c0<;>try lia
 obtain⟨k,rfl,hk,_⟩:=h;have e2:ltI (.int (k:Int)) (.int n)=some (.bl true):=by rw[gA,Qi Uz]
 show qq [.tup [.str<|nm 0,.int (k:Int)],.int m,.int n]=_;unfold qq A9;exact rn;have k1:=l.kind;have Yh:=l.V2;have lf:=l.W9;have e1:dP (.str<|nm l.k) (.str<|nm 0)=some (.bl false):=by rw[EJ _ _ Uz Uz,VY c0]
 have nb:=l.nam;generalize l.d=ld at *;have c:aD 1 (cR<|aw uv [.val<|aa 0]) (aq 3) (VP.ret true) dO [.sh ld,.sh<|.int m,.sh<|.int n]=.ok (.lst<|l.ns.map λ_=>D.bl true) [.sh ld,.sh<|.int m,.sh<|.int n]:=by
  refine cY (λa=>D.int (a:Nat)) (λ_=>D.bl true) l.ns ao Uz rfl λa ha acc=>?_;have hb:=hl a ha;have e2:ltI (.int (a:Int)) (.int m)=some (.bl true):=by rw[gA,Qi Uz]
  unfold dO;exact ao
 have e:nK true (.lst<|l.ns.map λ_=>D.bl true)=some (.bl true):=by rw[vO (λ_=>true) l.ns];simp
 unfold qq A9;exact rn
theorem Hv{gs ss:V7}{l:PL}{t:UX}(h:Told gs.length (sd gs) (sd ss) l t)(hl:∀r∈l.ns,r<ss.length)(si:AI ss)(ht:SI t):dz [l.d,aW ss,aW gs]=.ok (T t) [aW ss]:=by
 have key:∀a,a∈l.ns->aj (aW ss) (.int (a:Int))=some (T<|sd ss a)/\(sd ss a).length<=4/\SI (sd ss a):=λa ha=>⟨bR ss a<|hl a ha,(si.at<|hl a ha).1,si.at<|hl a ha⟩;have sm:∀s,SI s->Sm s:=λs h x hx=>by have:=h.2.1 x hx;lia
 cases l<;>simp only[PL.ns,List.mem_cons,List.not_mem_nil,or_false,forall_eq_or_imp,forall_eq] at key<;>simp only[PL.d,PL.k,PL.ps];rename_i j;obtain⟨k,rfl,hk,rfl⟩:=h;have ib:=bR gs k hk;unfold dz eB;exact rn;rename_i s x;obtain⟨rfl,_⟩:=h;unfold dz eB;exact rn;rename_i a o;obtain⟨h1,h2,rfl⟩:=h;obtain⟨ia,il,_⟩:=key;have w:=tnE _ _ Uz h1 h2;have v:gH [.tup [.str<|nm 2,.int a,T o],T<|sd ss a]=.ok (T<|o.map λx=>(sd ss a).getD x.toNat 0) []:=by unfold gH nQ;exact rn
 unfold dz eB;exact rn;rename_i a k b st m;obtain⟨j,rfl,hj,h1,h2,h3,rfl⟩:=h;obtain⟨ia,il,_⟩:=key;have w:=RO _ _ b st m hj Uz h1 h2 h3;have v:gH [.tup [.str<|nm 3,.int a,.int (j:Int),.int b,.int st,.int m],T<|sd ss a]=.ok (T<|rep (sd ss a) j m) []:=by unfold gH nQ;exact rn
 unfold dz eB;exact rn;rename_i a k p;obtain⟨j,rfl,hj,h1,rfl⟩:=h;obtain⟨ia,il,_⟩:=key;have w:=BC _ _ p hj Uz h1.1 h1.2;have v:gH [.tup [.str<|nm 4,.int a,.int (j:Int),.int p],T<|sd ss a]=.ok (T<|wo (sd ss a) j) []:=by unfold gH nQ;exact rn
 unfold dz eB;exact rn;rename_i a k;obtain⟨j,rfl,hj,rfl⟩:=h;obtain⟨ia,il,_⟩:=key;have w:=sv (sd ss a) j 1 hj Uz;have e2:CH (.int (j:Int)) (.int (sd ss a).length)=some (.bl true):=by rw[iT,Qi Uz]
 have v:gH [.tup [.str<|nm 5,.int a,.int (j:Int)],T<|sd ss a]=.ok (T<|pin (sd ss a) j 1) []:=by unfold gH nQ;exact rn
 unfold dz eB;exact rn;rename_i a u;obtain⟨h1,rfl⟩:=h;obtain⟨ia,il,_⟩:=key;have w:=rR Uz (by have:=ht.1;lia) h1;have e1:dP (T t) (T t)=some (.bl true):=by rw[BF,Qi rfl]
 have v:gH [.tup [.str<|nm 6,.int a,T t],T<|sd ss a]=.ok (T t) []:=by unfold gH nQ;exact rn
 unfold dz eB;exact rn;rename_i a u;obtain⟨h1,rfl⟩:=h;obtain⟨ia,il,is⟩:=key;have w1:=fJ _<|sm _ is;have w2:=fJ _<|sm _ ht;have v:gH [.tup [.str<|nm 7,.int a,T t],T<|sd ss a]=.ok (T t) []:=by unfold gH nQ;exact rn
 unfold dz eB;exact rn;rename_i a k m x;obtain⟨j,rfl,hj,h1,rfl⟩:=h;obtain⟨ia,il,_⟩:=key;have w:=dS _ _ hj;unfold dz eB;exact rn;rename_i d a;obtain⟨_,rfl⟩:=h;obtain⟨ia,il,_⟩:=key;unfold dz eB;exact rn;rename_i d a b;obtain⟨_,h1⟩:=h;obtain⟨⟨ia,il,_⟩,ib,VU,_⟩:=key;have w:=rR Uz Uz h1;unfold dz eB;exact rn;rename_i a b c;obtain⟨u,h1,h2⟩:=h;obtain⟨⟨ia,il,_⟩,⟨ib,VU,_⟩,ic,icl,_⟩:=key;have w:=Pq il VU icl h1 h2;unfold dz eB;exact rn;rename_i d a k;obtain⟨j,rfl,hj,h1,h2,rfl⟩:=h;obtain⟨ia,il,_⟩:=key;have w:=FA _ _ _ hj Uz h1 h2;unfold dz eB;exact rn;rename_i d a k;obtain⟨j,rfl,hj,h1,rfl⟩:=h;obtain⟨ia,il,_⟩:=key;have w:=dS _ _ hj;unfold dz eB;exact rn;rename_i a k b;obtain⟨j,y,rfl,hj,h1,rfl⟩:=h;obtain⟨⟨ia,il,_⟩,ib,VU,_⟩:=key;rw[h1] at ib;have w:=GN _ _ y hj Uz;unfold dz eB;exact rn;rename_i a b k;obtain⟨j,rfl,hj,h1,h2,rfl⟩:=h;obtain⟨⟨ia,il,_⟩,ib,VU,_⟩:=key;have w:=FZ _ _ _ hj Uz h1 h2;unfold dz eB;exact rn
theorem F3{gs ss:V7}{l:PL}{t:UX}(i:Nat)(h:Told gs.length (sd gs) (sd ss) l t)(hl:∀r∈l.ns,r<ss.length)(si:AI ss)(ht:SI t):yf [.int i,l.d,aW ss,aW gs]=.ok (T t) [aW ss]:=by have e1:=Ea h hl;have e2:=Fm h;have e3:=tnR h;have e4:=Hv h hl si ht;have e5:=xO t ht;have l1:=d6 ss;have l2:=d6 gs;generalize l.d=ld at *;unfold yf IH;exact rn
theorem xh{gs:V7}{ls:RY}{ss:V7}{ix_:Nat}(g:Gd gs ls ss ix_)(rA:ls.length<=14)(p:D){k:Nat}(hk:k<ls.length):ed [.sh p,.sh<|aW gs,.ow<|aW<|ss.take k,.sh<|.int k,.sh (a8 ls k).d]=.ok .nx [.sh p,.sh<|aW gs,.ow<|aW<|ss.take<|k+1,.sh<|.int k,.sh (a8 ls k).d]:=by
 have YL:=g.len;have hl:ls[k]?=some (a8 ls k):=by simp[a8,hk]
 have tl:(ss.take k).length=k:=by simp;lia
 have es:∀r,r<k->sd (ss.take k) r=sd ss r:=λr hr=>by simp[sd,hr]
 have lk:=F3 (ss:=ss.take k) k ((g.told k _ hl).mono λr hr=>es r<|g.wf k _ hl r hr) (λr hr=>by rw[tl];exact g.wf k _ hl r hr) (λs hs=>g.si s<|A0 hs)<|g.si.at Uz;have ap:=LK (ss.take k) (sd ss k) Uz;rw[show ss.take k++[sd ss k]=ss.take (k+1) by
  have:sd ss k=ss[k]:=by simp[sd,show k<ss.length by lia]
  rw[this];simp] at ap
 generalize (a8 ls k).d=ld at *;unfold ed;exact ao
theorem vg(gs:V7)(ls:RY)(ss:V7)(ix_:Nat)(g:Gd gs ls ss ix_)(rA:ls.length<=14):B0 [Pg ls,aW gs]=.ok (aW ss) []:=by
 have hn:=List.length_pos_iff.mpr g.ne;have YL:=g.len;have ln:=kF ls;have en:nW [Pg ls]=some ((List.range ls.length).map λ(i:Nat)=>D.tup [.int i,(a8 ls i).d]):=by rw[<-xW];rfl
 obtain⟨s,t,hs,ht,L⟩:=bu (g:=fW [3,4]) (body:=ed) (λ(i:Nat)=>D.tup [.int i,(a8 ls i).d]) (λ(s:V7)(t:Sl×Sl)=>[.sh<|Pg ls,.sh<|aW gs,.ow<|aW s,t.1,t.2]) mf (List.range ls.length) (λk s=>s=ss.take k) [] (.no,.no) ⟨rfl,rfl⟩ Qj (by intro i k hk s t ht hP;obtain⟨rfl,hk⟩:=bE hk;obtain⟨t3,t4⟩:=t;obtain⟨f3,f4⟩:=ht;dsimp only at f3 f4;subst hP;have tu:=xh g rA (Pg ls) hk;generalize (a8 ls k).d=ld at *;refine⟨ss.take<|k+1,(.sh<|.int k,.sh ld),rfl,⟨rfl,rfl⟩,?_⟩;dsimp only;rw[aF,show fW [3,4] (.tup [.int (k:Int),ld]) _=.ok () [.sh<|Pg ls,.sh<|aW gs,.ow<|aW<|ss.take k,.sh<|.int k,.sh ld] by simp[f3,f4],ag,tu];rfl);obtain⟨t3,t4⟩:=t;subst hs;dsimp only at L;rw[Hh,xv Uz] at L;have Xk:aW []=.lst []:=rfl;rw[Xk] at L;have c1:¬(ls.length:Int)=0:=Uz;have c2:¬(40:Int)<ls.length:=Uz;unfold B0 II;exact rn
section
variable{gs:V7}{ls:RY}{ss:V7}{ix_:Nat}(g:Gd gs ls ss ix_)
theorem m8{i:Nat}(h:i<ls.length):ls[i]?=some (a8 ls i):=by simp[a8,h]
include g
theorem kS{i:Nat}(h:i<ls.length):Told gs.length (sd gs) (sd ss) (a8 ls i) (sd ss i):=g.told i _ (m8 h)
theorem y5{i:Nat}(h:i<ls.length):SI (sd ss i):=g.si.at (by have:=g.len;lia)
theorem qI{i b:Nat}(h:i<ls.length)(hb:b∈Yv ls i):b<i:=g.wf i _ (m8 h) b hb
end
def Ix(s x:UX):Prop:=x.length=s.length/\∀k,k<s.length->0<=x.getD k 0/\x.getD k 0<s.getD k 0
def fq(s x:UX):Int:=dot x (cH s)
theorem Ix.tail{y a:Int}{s x:UX}(h:Ix (y::s) (a::x)):Ix s x:=⟨by have:=h.1;simpa using this,λk hk=>by have:=h.2 (k+1) (by simp;lia);simpa using this⟩
theorem Ix.place:∀{s x:UX},(∀y∈s,0<=y)->Ix s x->0<=fq s x/\fq s x<ah s
|[],x,_,h=>by have:=List.eq_nil_of_length_eq_zero h.1;subst this;exact⟨Int.le_refl _,by decide⟩|y::s,[],_,h=>by have:=h.1;simp at this|y::s,a::x,hs,h=>by
 have h1:=h.tail.place λz hz=>hs z<|Pe _ hz;have h0:=h.2 0 Qj;simp only[List.getD_cons_zero] at h0;show 0<=a*ah s+fq s x/\a*ah s+fq s x<y*ah s;have m1:=Dp h0.1 (show 0<=ah s by lia);have m2:=Int.mul_le_mul_of_nonneg_right (show a+1<=y by lia) (show 0<=ah s by lia);rw[Int.add_mul] at m2
 lia
theorem RU(p y P:Int)(hP:0<P)(hy:0<y):p % (y*P)=p / P % y*P+p % P:=by
 have e1:=Int.mul_ediv_add_emod p P;have e2:=Int.mul_ediv_add_emod (p / P) y;have a1:=Int.emod_nonneg p (show P≠0 by lia);have a2:=Hw p hP;have b1:=Int.emod_nonneg (p / P) (show y≠0 by lia);have b2:=Hw (p / P) hy;generalize p / P % y=u at *;generalize p % P=v at *;generalize p / P / y=k at *;have m1:=Dp b1 (show 0<=P by lia);have m2:=Int.mul_le_mul_of_nonneg_right (show u+1<=y by lia) (show 0<=P by lia);rw[Int.add_mul] at m2;have e:p=u*P+v+y*P*k:=by rw[<-e1,<-e2,Int.mul_add,Int.mul_comm P u,<-Int.mul_assoc,Int.mul_comm P y];lia
 rw[e,Int.add_mul_emod_self_left,Int.emod_eq_of_lt Uz Uz]
theorem jn:∀(s:UX)(p:Int),(∀y∈s,0<=y)->0<ah s->Ix s (aG s p)/\fq s (aG s p)=p % ah s
|[],p,_,_=>⟨⟨rfl,λk hk=>absurd hk Qj⟩,by show 0=p % 1;lia⟩|y::s,p,hs,h=>by
 have hy:=hs y R9;have hq:0<ah s/\0<y:=by have e:ah (y::s)=y*ah s:=rfl;exact⟨Int.pos_of_mul_pos_right (e ▸ h) Uz,Uz⟩
 obtain⟨h1,h2⟩:=jn s p (λz hz=>hs z<|Pe _ hz) hq.1;refine⟨⟨by simp[aG,h1.1],λk hk=>?_⟩,?_⟩;cases k with|zero=>exact⟨Int.emod_nonneg _ Uz,Hw _ hq.2⟩|succ k=>simpa[aG] using h1.2 k (by simpa using hk)
 show p / ah s % y*ah s+fq s (aG s p)=p % (y*ah s);rw[h2,RU p y _ hq.1 hq.2]
theorem jw(s:UX)(k:Nat)(x:Int)(h:k<s.length):rep s k x=s.set k x:=(List.set_eq_take_append_cons_drop ..).trans (YN h) |>.symm
def cG(s x:UX):UX:=List.zipWith (λa b=>if a=1 then 0 else b) s (x.drop<|x.length-s.length)
def zf(o x:UX):UX:=(List.range o.length).map λ(k:Nat)=>x.getD (o.idxOf (k:Int)) 0
theorem fQ:∀s:UX,(cH s).length=s.length|[]=>rfl|_::s=>congrArg (·+1) (fQ s)
theorem strides(s:UX)(h:SI s):yg [T s]=.ok (T<|cH s) []:=by
 have hl:=h.1;have hd:Sd s:=⟨hl,λx hx=>by have:=h.2.1 x hx;lia⟩;obtain⟨⟨xs,st⟩,t,⟨h1,h2⟩,ht,L⟩:=bu (g:=aq 3) (body:=cN) D.int (λ(s':List Int×Int)(t:Sl)=>[.sh<|T s,.ow<|Z s'.1,.sh<|.int s'.2,t]) kv s.reverse (λk s'=>s'.1.reverse=cH (s.drop<|s.length-k)/\s'.2=ah (s.drop<|s.length-k)) ([],1) .no rfl (by simp[cH,ah]) (by
  intro i y hy s' t ht hP;obtain⟨xs,st⟩:=s';obtain⟨p1,p2⟩:=hP;dsimp only at p1 p2;have hm:=h.2.1 y<|List.mem_reverse.mp<|Rb hy;have hi:=(List.getElem?_eq_some_iff.mp hy).1;rw[List.length_reverse] at hi;have hf:free (some t)=true:=ht;have e:s.drop (s.length-(i+1))=y::s.drop (s.length-i):=by rw[WA hi] at hy;have:=NX (l:=s) (i:=s.length-(i+1)) Uz;rw[this,show s.length-(i+1)+1=s.length-i by lia];rw[Te Uz] at hy;simp only[show s.length-(i+1)=s.length-1-i by lia,Option.some.inj hy]
  have xl:xs.length<=4:=by have:=congrArg List.length p1;rw[List.length_reverse] at this;rw[this,fQ];simp;lia
  have ap:=nM xs st Uz;have mu:=cU st y Uz Uz;refine⟨(xs++[st],st*y),.sh<|.int y,⟨?_,?_⟩,rfl,?_⟩;show (xs++[st]).reverse=_;rw[e,List.reverse_append,p1,p2];rfl;show st*y=_;rw[e,p2,Int.mul_comm];rfl;have e:aq 3 (.int y) [.sh<|T s,.ow<|Z xs,.sh<|.int st,t]=.ok () [.sh<|T s,.ow<|Z xs,.sh<|.int st,.sh<|.int y]:=by simp[hf]
  dsimp only;rw[aF,e,ag,show cN _=.ok .nx _ by unfold cN;exact ao];rfl)
 dsimp only at L h1;rw[List.length_reverse,Nat.sub_self,List.drop_zero] at h1;have e1:(b6<|T s).map List.reverse=some (s.reverse.map D.int):=Qj;have e2:u9 (Z xs)=some (T<|cH s):=h1 ▸ OX xs;have z0:Z []=.lst []:=rfl;rw[z0] at L;unfold yg IK;exact rn
theorem SI.sd{s:UX}(h:SI s):Sd s:=⟨h.1,λx hx=>by have:=h.2.1 x hx;lia⟩
theorem gD(s:UX)(k:Nat)(h:k<s.length):s.getD k 0=s[k]:=by simp[h]
theorem gB(s:UX)(k i:Nat)(x:Int)(h:k<s.length):(rep s k x).getD i 0=if i=k then x else s.getD i 0:=by rw[jw _ _ _ h];simp only[mG,List.getElem?_set];by_cases e:k=i;subst e;simp[h];simp[e,show ¬i=k fromλz=>e z.symm]
theorem bJ(s:UX)(k:Nat)(x:Int)(h:k<s.length):(rep s k x).length=s.length:=by rw[jw _ _ _ h];simp
theorem nq(s:UX)(k:Nat)(x:Int):(pin s k x).length=s.length+1:=by unfold pin;rw[rL,Dz,<-Nat.add_assoc,<-rL,List.take_append_drop]
theorem i9{s:UX}{k:Nat}(h:k<s.length):(wo s k).length+1=s.length:=by unfold wo;rw[rL,Nat.add_assoc,List.length_drop,Eh,Nat.min_eq_left<|Nat.le_of_lt h,<-Nat.sub_sub,Nat.sub_add_cancel<|Nat.sub_pos_of_lt h,Nat.add_sub_cancel'<|Nat.le_of_lt h]
theorem vz(s:UX)(k i:Nat):(wo s k).getD i 0=if i<k then s.getD i 0 else s.getD (i+1) 0:=by
 unfold wo;by_cases hk:k<=s.length;by_cases h:i<k;simp[h,zF,Nat.lt_min,Hz h hk];have e:k+1+(i-k)=i+1:=by rw[Nat.add_right_comm,Nat.add_sub_cancel'<|Nat.le_of_not_lt h]
 rw[YO h,mG,Oy (by rw[Eh,Nat.min_eq_left hk];exact Nat.le_of_not_lt h)];simp[List.getElem?_drop,Nat.min_eq_left hk,e];have hk:=Nat.le_of_not_le hk;rw[xv hk,List.drop_of_length_le<|Nat.le_succ_of_le hk,FU];split;rfl;rename_i h;have h:=YM hk<|Nat.le_of_not_lt h;simp[Bv h,Bv<|Nat.le_succ_of_le h]
theorem wQ(s:UX)(k i:Nat)(x:Int)(hk:k<=s.length):(pin s k x).getD i 0=if i<k then s.getD i 0 else if i=k then x else s.getD (i-1) 0:=by unfold pin;by_cases h:i<k;simp[h,zF,Nat.lt_min,Hz h hk];rw[YO h,mG,Oy (by rw[Eh,Nat.min_eq_left hk];exact Nat.le_of_not_lt h)];by_cases e:i=k;subst e;simp[Nat.min_eq_left hk];obtain⟨j,rfl⟩:=Nat.le.dest<|Nat.lt_of_le_of_ne (Nat.le_of_not_lt h) λz=>e z.symm;rw[YO e,Eh,Nat.min_eq_left hk,Nat.succ_add,Nat.succ_sub<|Nat.le_add_right ..,Nat.add_sub_cancel_left];simp
theorem yN(x:UX)(j:Nat)(p:Int)(h:x.length<=100):bq (T<|x.take j) (.tup [.int p])=some (T<|x.take j++[p])/\bq (T<|x.take j++[p]) (T<|x.drop j)=some (T<|pin x j p):=by
 have h1:=List.length_take_le' j x;have h2:(x.drop j).length<=x.length:=by rw[List.length_drop];exact Nat.sub_le ..
 refine⟨bZ _ [p] (by show _+1<=16777216;lia),?_⟩;rw[bZ _ _ (by rw[rL];show _+1+_<=16777216;lia),List.append_assoc];rfl
theorem EA(x:UX)(j:Nat)(h:x.length<=100):bq (T<|x.take j) (T<|x.drop<|j+1)=some (T<|wo x j):=by
 have h1:=List.length_take_le' j x;have h2:(x.drop<|j+1).length<=x.length:=by rw[List.length_drop];exact Nat.sub_le ..
 exact bZ _ _ (by show _+_<=16777216;lia)
theorem eP{s x:UX}{k:Nat}{y v:Int}(h:Ix (rep s k y) x)(hk:k<s.length)(h0:0<=v)(h1:v<s.getD k 0):Ix s (rep x k v):=by obtain⟨hl,hx⟩:=h;rw[bJ _ _ _ hk] at hl hx;refine⟨by rw[bJ _ _ _ Uz,hl],λi hi=>?_⟩;have:=hx i hi;rw[gB _ _ _ _ hk] at this;rw[gB _ _ _ _ Uz];split;rename_i e;subst e;exact⟨h0,h1⟩;rename_i e;rw[YO e] at this;exact this
theorem rK{s x:UX}{k:Nat}{v:Int}(h:Ix (wo s k) x)(hk:k<s.length)(h0:0<=v)(h1:v<s.getD k 0):Ix s (pin x k v):=by obtain⟨hl,hx⟩:=h;have l2:x.length+1=s.length:=hl ▸ i9 hk;have kx:k<=x.length:=Nat.le_of_lt_succ<|Nat.lt_of_lt_of_eq hk l2.symm;refine⟨(nq ..).trans l2,λi hi=>?_⟩;rw[wQ _ _ _ _ kx];rw[<-l2] at hi;by_cases c:i<k;have:=hx i<|hl ▸ Hz c kx;rw[vz,YN c] at this;rw[YN c];exact this;rw[YO c];by_cases e:i=k;rw[YN e];subst e;exact⟨h0,h1⟩;cases i with|zero=>exact absurd (Nat.le_zero.mp<|Nat.le_of_not_lt c).symm e|succ i=>have:=hx i<|hl ▸ Nat.lt_of_succ_lt_succ hi;rw[vz,YO (λz:i<k=>c<|Nat.lt_of_le_of_ne z e)] at this;rw[YO e];exact this
theorem Ka{s x:UX}{k:Nat}{y:Int}(h:Ix (pin s k y) x)(hk:k<=s.length):Ix s (wo x k):=by obtain⟨hl,hx⟩:=h;rw[nq] at hl hx;refine⟨Nat.succ.inj ((i9<|hl ▸ Nat.lt_succ_of_le hk).trans hl),λi hi=>?_⟩;rw[vz];by_cases c:i<k;have:=hx i<|LP hi;rw[wQ _ _ _ _ hk,YN c] at this;rw[YN c];exact this;have:=hx (i+1)<|Nat.succ_lt_succ hi;rw[wQ _ _ _ _ hk,YO (λz:i+1<k=>c<|Nat.lt_of_succ_lt z),YO (λz:i+1=k=>c<|z ▸ M4 i)] at this;rw[YO c];exact this
theorem CA{s x o:UX}(h:Ix (o.map λy=>s.getD y.toNat 0) x)(hl:o.length=s.length)(ha:∀j:Nat,j<s.length->(j:Int)∈o):Ix s (zf o x):=by
 obtain⟨h1,h2⟩:=h;refine⟨by simp[zf,hl],λk hk=>?_⟩;have hi:=List.idxOf_lt_length_of_mem<|ha k hk;have q:=h2 (o.idxOf (k:Int)) (by simpa using hi);have e:(zf o x).getD k 0=x.getD (o.idxOf (k:Int)) 0:=by simp[zf,hl,hk]
 have e2:(o.map λy=>s.getD y.toNat 0).getD (o.idxOf (k:Int)) 0=s.getD k 0:=by rw[gD _ _ (by simpa using hi),List.getElem_map,List.getElem_idxOf,Es]
 rw[e2] at q;rw[e];exact q
def Sp(s t:UX):Prop:=s.length<=t.length/\∀k,k<s.length->s.getD k 0=1\/s.getD k 0=t.getD (t.length-s.length+k) 0
theorem Pf{a M k:Nat}(h:a<=M):M-1-(M-a+k)=a-1-k:=by obtain⟨c,rfl⟩:=Nat.le.dest h;rw[Nat.add_sub_cancel_left,Nat.sub_sub,Nat.add_left_comm,Nat.add_comm c,Nat.add_sub_add_right,Nat.add_comm,Nat.sub_sub,Nat.add_comm]
theorem Fe{s:UX}{k:Nat}(hk:k<s.length):back s (s.length-1-k)=s.getD k 0:=by unfold back;rw[YN<|Nat.lt_of_le_of_lt (Nat.sub_le _ _)<|Nat.sub_one_lt_of_lt hk,Nat.sub_sub_self<|Nat.le_sub_one_of_lt hk];simp[hk]
theorem bK{s t m:UX}(h:meet s t=some m):Sp s m:=by
 have hl:=cC h;have hM:s.length<=m.length:=hl ▸ PQ ..;unfold meet at h;split at h;rename_i ok;cases h;refine⟨hM,λk hk=>?_⟩;have lt:s.length-1-k<max s.length t.length:=Hz (Nat.lt_of_le_of_lt (Nat.sub_le _ _)<|Nat.sub_one_lt_of_lt hk)<|PQ ..;have hp:(pairs s t)[s.length-1-k]?=some (back s<|s.length-1-k,back t<|s.length-1-k):=by rw[pairs,Nn,El lt];rfl
 have q:(((pairs s t).map λp=>pk p.1 p.2).reverse)[max s.length t.length-s.length+k]?=some (pk (back s<|s.length-1-k)<|back t<|s.length-1-k):=by rw[List.length_reverse] at hl hM;rw[WA (by rw[hl];exact Hz (Nat.add_lt_add_left hk _)<|Nat.le_of_eq<|Nat.sub_add_cancel<|hl ▸ hM),hl,Pf<|hl ▸ hM,Nn,hp];rfl
 rw[hl,mG (l:=List.reverse _),q,<-Fe hk];show _\/_=(if _ then _ else _);split;exact .inl ‹_›;exact .inr rfl;cases h
theorem Sp.trans{s t u:UX}(h:Sp s t)(k:Sp t u):Sp s u:=by refine⟨YM h.1 k.1,λi hi=>?_⟩;rcases h.2 i hi with e|e;exact .inl e;rcases k.2 (t.length-s.length+i) (Hz (Nat.add_lt_add_left hi _)<|Nat.le_of_eq<|Nat.sub_add_cancel h.1) with z|z;exact .inl<|e.trans z;refine .inr ?_;obtain⟨c,hc⟩:=Nat.le.dest h.1;obtain⟨d,hd⟩:=Nat.le.dest k.1;rw[e,z,<-Nat.add_assoc,<-hd,Nat.add_sub_cancel_left,<-hc,Nat.add_sub_cancel_left,Nat.add_assoc s.length,Nat.add_sub_cancel_left,Nat.add_comm c]
theorem sO(s x:UX)(hl:s.length<=x.length)(k:Nat)(hk:k<s.length):(cG s x).getD k 0=if s.getD k 0=1 then 0 else x.getD (x.length-s.length+k) 0:=by unfold cG;rw[gD _ _ (by simp;lia),List.getElem_zipWith,List.getElem_drop,gD s k hk,gD _ _ Uz]
theorem pz(s x:UX)(hl:s.length<=x.length):(cG s x).length=s.length:=by simp[cG];lia
theorem cM{s t x:UX}(h:Ix t x)(p:Sp s t):Ix s (cG s x):=by obtain⟨hl,hx⟩:=h;have p1:=p.1;refine⟨pz _ _ Uz,λk hk=>?_⟩;rw[sO _ _ Uz k hk];have:=hx (t.length-s.length+k) Uz;rw[hl];rcases p.2 k hk with e|e;rw[e,YN rfl];decide;split;rename_i z;rw[z];decide;rw[e];exact this
theorem Ix.self{s x:UX}(h:Ix s x):cG s x=x:=by obtain⟨hl,hx⟩:=h;refine O6 (by rw[pz _ _ Uz,hl]) λk h1 h2=>?_;rw[<-gD _ _ h1,<-gD _ _ h2,sO _ _ Uz k Uz,show x.length-s.length+k=k by lia];split;have:=hx k Uz;lia;rfl
def oR(d:Nat)(x:Int):Int:=if d=16 then(1000003-x) % 1000003 else if d=17 then(x-x % 2) / 2 else if x=0 then 1 else 0
def bL(d:Nat)(x y:Int):Int:=if d=19 then(x+y) % 1000003 else if d=20 then(x+1000003-y) % 1000003 else if d=21 then x*y % 1000003 else if d=24 then(if x<y then 1 else 0) else if d=25 then(if x=y then 1 else 0) else if decide (d=22)=decide (x<y) then x else y
theorem O3(d:Nat){x:Int}(h:Rt x):Rt (oR d x):=by unfold oR Rt at *;split<;>(try split)<;>(try split)<;>lia
theorem sF(d:Nat){x y:Int}(h:Rt x)(k:Rt y):Rt (bL d x y):=by unfold bL Rt at *;split<;>(try split)<;>(try split)<;>(try split)<;>(try split)<;>(try split)<;>lia
theorem qS{o:UX}{n:Nat}(h:sortI o=kU n):(∀j:Nat,j<n->(j:Int)∈o)/\o.Nodup:=by have p:=sortI_perm o;rw[h] at p;refine⟨λj hj=>p.mem_iff.mp<|List.mem_map.mpr ⟨j,by simpa using hj,rfl⟩,p.nodup_iff.mp ?_⟩;unfold kU List.Nodup;rw[List.pairwise_map];exact List.nodup_range.imp λh z=>h Uz
theorem fP(s:UX)(k:Nat)(h:k<s.length):rep s k (s.getD k 0)=s:=by rw[jw _ _ _ h,gD _ _ h];simp
theorem EC{s t:UX}{j:Nat}(h:s.length=t.length)(hj:j<s.length)(e:wo s j=wo t j)(v:Int):rep s j v=rep t j v:=by unfold wo at e;have:=List.append_inj e (by simp[h]);unfold rep;rw[this.1,this.2]
theorem By(st b m y:Int)(hy:0<=y/\y<m){z:Int}(h:0<m->(0<=b/\b<z)/\0<=b+st*(m-1)/\b+st*(m-1)<z):0<=b+st*y/\b+st*y<z:=by
 rcases Int.le_total 0 st with c|c;have:=Dp c hy.1;have:=Int.mul_le_mul_of_nonneg_left (show y<=m-1 by lia) c
 lia
 have:=Dp (show 0<=-st by lia) hy.1;have:=Int.mul_le_mul_of_nonneg_left (show y<=m-1 by lia) (show 0<=-st by lia);rw[Int.neg_mul,Int.neg_mul] at *
 lia
section
variable(ss:V7)(cs:Nat->UX)
def cv(a:Nat)(x:UX):Int:=(cs a).getD (fq (sd ss a) x).toNat 0
def cw(a:Nat)(x:UX):Int:=cv ss cs a (cG (sd ss a) x)
end
theorem wV:∀{s:UX},(∀y∈s,0<=y)->0<ah s->∀y∈s,0<y
|[],_,_,y,hy=>by cases hy|a::s,h0,h,y,hy=>by
 have e:ah (a::s)=a*ah s:=rfl;have a0:=h0 a R9;rcases List.mem_cons.mp hy with rfl|hy
 lia
 exact wV (λz hz=>h0 z<|Pe _ hz) (Int.pos_of_mul_pos_right (e ▸ h) Uz) y hy
theorem oT:∀{s:UX},(∀y∈s,0<y)->0<ah s|[],_=>by decide|a::s,h=>Int.mul_pos (h a R9) (oT λz hz=>h z<|Pe _ hz)
theorem xV(s:UX)(k:Nat)(h:k<s.length):s.drop k=s.getD k 0::s.drop (k+1):=by rw[NX h,gD _ _ h]
theorem Ix.get{s x:UX}(h:Ix s x)(k:Nat)(hk:k<s.length):aj (T x) (.int (k:Int))=some (.int<|x.getD k 0):=dA x k (by rw[h.1];exact hk)
theorem Q0g{s x:UX}(h:Ix s x)(j:Nat)(hj:j<s.length):Ix (wo s j) (wo x j):=by have l1:=i9 hj;refine⟨Nat.succ.inj ((i9<|h.1 ▸ hj).trans<|h.1.trans l1.symm),λi hi=>?_⟩;rw[vz,vz];split;exact h.2 i<|Hz hi<|l1 ▸ Dx _;exact h.2 (i+1) (l1 ▸ Nat.succ_lt_succ hi)
theorem qU(s x:UX)(h:s.length<=x.length):cG s (x.drop<|x.length-s.length)=cG s x:=by unfold cG;rw[show (x.drop<|x.length-s.length).length-s.length=0 by simp;lia,List.drop_zero]
theorem yP:∀{s x y:UX},(∀z∈s,0<=z)->Ix s x->Ix s y->fq s x=fq s y->x=y
|[],x,y,_,hx,hy,_=>by rw[List.eq_nil_of_length_eq_zero hx.1,List.eq_nil_of_length_eq_zero hy.1]|_::_,[],_,_,hx,_,_=>by have:=hx.1;simp at this|_::_,_::_,[],_,_,hy,_=>by have:=hy.1;simp at this|z::s,a::x,b::y,hs,hx,hy,e=>by
 have h0:=λw hw=>hs w<|Pe _ hw;have px:=hx.tail.place h0;have py:=hy.tail.place h0;have e:a*ah s+fq s x=b*ah s+fq s y:=e;have ab:a=b:=by
  rcases Int.lt_trichotomy a b with c|c|c;have:=Int.mul_le_mul_of_nonneg_right (show a+1<=b by lia) (show 0<=ah s by lia);rw[Int.add_mul] at this
  lia
  exact c;have:=Int.mul_le_mul_of_nonneg_right (show b+1<=a by lia) (show 0<=ah s by lia);rw[Int.add_mul] at this
  lia
 subst ab;rw[yP h0 hx.tail hy.tail Uz]
theorem xS:∀(ys xs:UX),((ys.zip xs).map λp=>p.1*p.2).sum=dot xs ys|[],[]=>rfl|[],_::_=>rfl|_::_,[]=>rfl|y::ys,x::xs=>by simp[dot,xS ys xs,Int.mul_comm]
theorem uX(s x:UX)(h:SI s)(hx:∀y∈x,0<=y/\y<=100):BY [T s,T x]=.ok (.int<|fq s x) []:=by
 have st:=strides s h;have hl:=h.1;have c:aD 2 (uQ [(aw yg [.val<|aa 0]),(aa 1)]) (fW [2,3]) (VP.ret true) jL [.sh<|T s,.sh<|T x]=.ok (Z<|((cH s).zip x).map λp=>p.1*p.2) [.sh<|T s,.sh<|T x]:=by have ez:=lT (T<|cH s) (T x) (cH s) x rfl rfl;refine Bt (λp:Int×Int=>D.int p.1) (λp=>D.int p.2) (λp=>D.int<|p.1*p.2) ((cH s).zip x) ao (by simp[fQ];lia) (by simp[Z,Function.comp_def]) λp hp acc=>?_;have hv:=hx p.2 (CE hp).2;have m:=cU p.1 p.2 Uz Uz;unfold jL;exact ao
 have sm:=Ph<|((cH s).zip x).map λp=>p.1*p.2;rw[xS] at sm;generalize Z (((cH s).zip x).map λp=>p.1*p.2)=zz at *;show _=FR.ok (.int<|dot x<|cH s) [];unfold BY IC;exact rn
theorem Ix.bd{s x:UX}(h:SI s)(hi:Ix s x):∀y∈x,0<=y/\y<=100:=λy hy=>by
 obtain⟨k,hk,rfl⟩:=List.mem_iff_getElem.mp hy;have a:=hi.2 k (by rw[<-hi.1];exact hk);have b:=h.get k;rw[gD _ _ hk] at a
 lia
theorem y6(s:UX)(k:Nat)(h:k<s.length):(cH s).drop k=ah (s.drop<|k+1)::(cH s).drop (k+1):=by induction s generalizing k with|nil=>simp at h|cons y s ih=>cases k with|zero=>simp[cH]|succ k=>simpa[cH] using ih k (by simpa using h)
theorem uI:∀(s:UX)(p:Int),(∀y∈s,0<=y)->0<=p->p<ah s->idx s p=aG s p
|[],_,_,_,_=>rfl|y::s,p,h0,hp,hl=>by
 have e:ah (y::s)=y*ah s:=rfl;have Xh:∀z∈s,0<=z:=λz hz=>h0 z<|Pe _ hz;have pp:0<ah s:=by
  have n0:ah s≠0:=λz=>by rw[e,z] at hl;lia
  have:0<=ah s:=by clear hl n0 e;induction s with|nil=>decide|cons a s ih=>exact Dp (Xh a R9) (ih (λz hz=>h0 z (by rcases List.mem_cons.mp hz with rfl|z<;>simp[*])) λz hz=>Xh z<|Pe _ hz)
  lia
 have mx:max (ah s) 1=ah s:=Uz;have hm:=Hw p pp;have hn:=Int.emod_nonneg p (show ah s≠0 by lia);have il:=uI s (p % ah s) Xh hn hm;have dl:p / ah s<y:=Int.ediv_lt_of_lt_mul pp (by rw[e] at hl;exact hl);have dn:0<=p / ah s:=Int.ediv_nonneg hp Uz;have ll:∀(t:UX)(q:Int),ah t ∣ ah s->aG t (p % ah s)=aG t p:=by intro t;induction t with|nil=>intro q hd;rfl|cons a t ih=>intro q hd;have ht:ah t ∣ ah s:=Int.dvd_trans (Int.dvd_mul_left a<|ah t) hd;obtain⟨w,hw⟩:=hd;have et:ah (a::t)=a*ah t:=rfl;rw[et] at hw;simp only[aG];congr 1;by_cases z:ah t=0;rw[z];simp;rw[show p % ah s=p-ah s*(p / ah s) by have:=Int.mul_ediv_add_emod p<|ah s;lia,hw,show p-a*ah t*w*(p / (a*ah t*w))=p+ah t*(-(a*(w*(p / (a*ah t*w))))) by grind,Int.add_mul_ediv_left _ _ z,show -(a*(w*(p / (a*ah t*w))))=a*(-(w*(p / (a*ah t*w)))) by grind,Int.add_mul_emod_self_left];exact ih q ht
 simp only[idx,aG,mx,il,ll s 0<|Int.dvd_refl _];rw[Int.emod_eq_of_lt dn dl]
theorem Q28(s:UX)(h:SI s)(p:Int):uk [T s,.int p]=.ok (T<|idx s p) []:=by
 have st:=strides s h;have hl:=h.1;obtain⟨⟨x,v⟩,t,⟨h1,h2⟩,ht,L⟩:=bu (g:=aq 4) (body:=gy) D.int (λ(z:List Int×Int)(t:Sl×Sl)=>[.sh<|T s,.sh<|.int p,.ow<|Z z.1,.sh<|.int z.2,t.1,t.2]) mf (cH s) (λk z=>z.1.length=k/\z.1++idx (s.drop k) z.2=idx s p) ([],p) (.no,.no) ⟨rfl,rfl⟩ ⟨rfl,rfl⟩ (by
  intro i y hy z t ht hP;obtain⟨x,v⟩:=z;obtain⟨t4,t5⟩:=t;obtain⟨f4,f5⟩:=ht;obtain⟨h1,h2⟩:=hP;dsimp only at f4 f5 h1 h2;have hi:=(List.getElem?_eq_some_iff.mp hy).1;rw[fQ] at hi;have ey:y=ah (s.drop<|i+1):=by have a:=y6 s i hi;have b:((cH s).drop i)[0]?=(cH s)[i]?:=Qj;rw[a,hy] at b;simpa using b.symm
  subst ey;have hq:=(h.sd.drop<|i+1).prod;rw[xV s i hi] at h2;have ap:=nM x (v / max (ah<|s.drop<|i+1) 1) Uz;have mx:maxD [.int<|ah<|s.drop<|i+1,.int 1]=some (.int<|max (ah<|s.drop<|i+1) 1):=by show some (D.int<|if 1 > ah (s.drop<|i+1) then 1 else ah (s.drop<|i+1))=_;congr 2;split<;>lia
  have e:aq 4 (.int<|ah<|s.drop<|i+1) [.sh<|T s,.sh<|.int p,.ow<|Z x,.sh<|.int v,t4,t5]=.ok () [.sh<|T s,.sh<|.int p,.ow<|Z x,.sh<|.int v,.sh<|.int<|ah<|s.drop<|i+1,t5]:=by simp[f4]
  refine⟨(x++[v / max (ah<|s.drop<|i+1) 1],v % max (ah<|s.drop<|i+1) 1),(.sh<|.int<|ah<|s.drop<|i+1,.sh<|.int<|max (ah<|s.drop<|i+1) 1),⟨by simp[h1],by rw[<-h2];simp[idx]⟩,⟨rfl,rfl⟩,?_⟩;have m1:0<max (ah<|s.drop<|i+1) 1:=Uz;have d1:=gI v _ m1 Uz;have d2:=cE v _ m1;dsimp only;generalize max (ah<|s.drop<|i+1) 1=m at *;generalize ah (s.drop<|i+1)=y at *;rw[aF,e,ag,show gy _=.ok .nx _ by unfold gy;exact ao];rfl)
 rw[fQ,List.drop_length] at h2;have h2:x=idx s p:=by simpa[idx] using h2
 subst h2;dsimp only at L;have z0:Z []=.lst []:=rfl;rw[z0] at L;unfold uk HY;exact rn
theorem yy(s:UX)(h:SI s)(p:Int)(h0:0<=p)(h1:p<ah s):uk [T s,.int p]=.ok (T<|aG s p) []:=by rw[Q28 s h p,uI s p (λy hy=>(h.2.1 y hy).1) h0 h1]
theorem SI.sm{s:UX}(h:SI s):Sm s:=λx hx=>by have:=h.2.1 x hx;lia
theorem indexes(s:UX)(h:SI s)(n:Nat)(hn:ah s=n):xZ [T s]=.ok (.lst<|(List.range n).map λ(p:Nat)=>T<|aG s p) []:=by
 have ci:=fJ s h.sm;rw[hn] at ci;have Qm:=h.2.2;have er:=hZ n Uz;have c:aD 1 (bH [(aw BV [.val<|aa 0])]) (aq 1) (VP.ret true) ik [.sh<|T s]=.ok (.lst<|(List.range n).map λ(p:Nat)=>T<|aG s p) [.sh<|T s]:=by refine cY (λ(p:Nat)=>D.int p) (λp=>T<|aG s p) (List.range n) ao (by simp;lia) rfl λp hp acc=>?_;have ix:=yy s h p Uz (by have:=List.mem_range.mp hp;lia);unfold ik;exact ao
 generalize D.lst ((List.range n).map λ(p:Nat)=>T<|aG s p)=z at *;unfold xZ HZ;exact rn
def Tb(s c:UX):D:=.ins "Table" ["sides","cells"] [T s,Z c]
theorem sS(s c:UX):gw bO "sides" (Tb s c)=some (T s):=TS
theorem D6(s c:UX):gw br "cells" (Tb s c)=some (Z c):=TS
theorem mT(s c:UX):qz "Table" "cell" (Tb s c)=true:=TS
def Tg(s c:UX):D:=.ins "Table" ["cells","sides"] [Z c,T s]
theorem UW(s c:UX):gw bO "sides" (Tg s c)=some (T s):=TS
theorem UU(s c:UX):gw br "cells" (Tg s c)=some (Z c):=TS
def Tk(s c:UX):Prop:=SI s/\(c.length:Int)=ah s/\∀v∈c,Rt v
theorem jz{s c:UX}(h:Tk s c):BK [.ins "Table" [] [],T s,Z c]=.ok .aP [Tb s c]:=by
 obtain⟨h1,h2,h3⟩:=h;have Qm:=h1.2.2;have cb:=xO s h1;have ci:=fJ s h1.sm;have f1:mE bO "sides" (T s) (.ins "Table" [] [])=some (.ins "Table" ["sides"] [T s]):=TS;have f2:mE br "cells" (Z c) (.ins "Table" ["sides"] [T s])=some (Tb s c):=TS;have b1:=sS s c;have b2:=D6 s c;have ne:gW (.int c.length) (.int<|ah s)=some (.bl false):=by rw[bX,Qi h2];rfl
 have cm:aD 1 (cR<|m1 (gw br "cells")<|vE 0) (aq 3) (VP.ret true) eO [.io<|Tb s c,.sh<|T s,.sh<|Z c]=.ok (.lst<|c.map λ_=>D.bl true) [.io<|Tb s c,.sh<|T s,.sh<|Z c]:=by refine cY D.int (λ_=>D.bl true) c ?_ Uz rfl λx hx acc=>?_;have sz:b6 (Z c)=some (c.map D.int):=rfl;generalize Tb s c=tb at *;exact ao;have r:=DO x<|h3 x hx;unfold eO;exact ao
 have al:nK true (.lst<|c.map λ_=>D.bl true)=some (.bl true):=by rw[vO (λ_=>true) c];simp
 generalize Tb s c=tb at *;generalize D.lst (c.map λ_=>D.bl true)=bs at *;unfold BK QX;exact rnN
theorem kh{s c x:UX}(h:Tk s c)(hi:Ix s x):mM [Tb s c,T x]=.ok (.int<|c.getD (fq s x).toNat 0) []/\Rt (c.getD (fq s x).toNat 0):=by obtain⟨h1,h2,h3⟩:=h;have pl:=hi.place λy hy=>(h1.2.1 y hy).1;have hl:(fq s x).toNat<c.length:=Uz;refine⟨?_,by rw[gD _ _ hl];exact h3 _<|NM hl⟩;have pa:=uX s x h1<|hi.bd h1;have b1:=sS s c;have b2:=D6 s c;have iv:aj (Z c) (.int<|fq s x)=some (.int<|c.getD (fq s x).toNat 0):=bV _ _ pl.1 Uz;generalize c.getD (fq s x).toNat 0=v at *;generalize Tb s c=tb at *;unfold mM QW;exact rn
theorem vA(g:Int->Int->Int):∀(s l:UX),(s.zip l).map (λp=>g p.1 p.2)=List.zipWith g s l|[],_=>Qj|_::_,[]=>Qj|a::s,b::l=>by simp[vA g s l]
theorem Q1q{s c x:UX}(h:Tk s c)(hn:s.length<=x.length)(hx:x.length<=100)(hi:Ix s (cG s x)):uC [Tb s c,T x]=.ok (.int<|c.getD (fq s<|cG s x).toNat 0) []/\Rt (c.getD (fq s<|cG s x).toNat 0):=by
 obtain⟨t1,t2⟩:=kh h hi;refine⟨?_,t2⟩;have b1:=sS s c;have bm:=mT s c;have c2:=iu x (x.length-s.length) Uz;rw[show (((x.length-s.length:Nat)):Int)=(x.length:Int)-s.length by lia] at c2;have cm:aD 2 (uQ [(m1 (gw bO "sides")<|aa 0),(aa 2)]) (fW [3,4]) (VP.ret true) gE [.sh<|Tb s c,.sh<|T x,.sh<|T<|x.drop<|x.length-s.length]=.ok (Z<|cG s x) [.sh<|Tb s c,.sh<|T x,.sh<|T<|x.drop<|x.length-s.length]:=by have ez:=lT (T s) (T<|x.drop<|x.length-s.length) s (x.drop<|x.length-s.length) rfl rfl;refine Bt (λp:Int×Int=>D.int p.1) (λp=>D.int p.2) (λp=>D.int<|if p.1=1 then 0 else p.2) (s.zip<|x.drop<|x.length-s.length) ?_ (by simp;lia) (by unfold Z cG;rw[<-vA];simp[Function.comp_def]) λp hp acc=>?_;generalize Tb s c=tb at *;exact ao;obtain⟨a,b⟩:=p;dsimp only;unfold gE;by_cases q:a=1;rw[YN q];exact ao;rw[YO q];exact ao
 generalize c.getD (fq s<|cG s x).toNat 0=v at *;generalize Tb s c=tb at *;generalize x.drop (x.length-s.length)=xd at *;generalize cG s x=sx at *;unfold uC IJ;exact rn
theorem wL(b:Bool):uw [.bl b]=.ok (.int<|if b then 1 else 0) []:=by unfold uw Iz;cases b<;>exact rn
theorem Q2O(d:Nat)(hd:16<=d/\d<=18)(x:Int):BW [.str<|nm d,.int x]=.ok (.int<|oR d x) []:=by
 have h:d=16\/d=17\/d=18:=Uz;unfold BW Iy;rcases h with rfl|rfl|rfl;have m:eJ (.int<|0-x) (.int 1000003)=some (.int<|oR 16 x):=by rw[Kk];show _=some (D.int<|(1000003-x) % 1000003);congr 2;lia
 exact rn;have m:qt (.int x) (.int 2)=some (.int<|oR 17 x):=by rw[d2_];show _=some (D.int<|(x-x % 2) / 2);congr 2;lia
 exact rn;have i:=wL<|decide<|x=0;have e:(if decide (x=0)=true then(1:Int) else 0)=oR 18 x:=by
  show _=if x=0 then(1:Int) else 0
  by_cases c:x=0<;>simp[c]
 rw[e] at i;exact rn
theorem lj(d:Nat)(hd:19<=d/\d<=25)(x y:Int)(hx:Rt x):Mo [.str<|nm d,.int x,.int y]=.ok (.int<|bL d x y) []:=by
 have h:d=19\/d=20\/d=21\/d=22\/d=23\/d=24\/d=25:=Uz;have mu:=jq x y (by have:=hx.1;lia) (by have:=hx.2;lia);unfold Mo QY;rcases h with rfl|rfl|rfl|rfl|rfl|rfl|rfl;have m:eJ (.int<|x+y) (.int 1000003)=some (.int<|bL 19 x y):=Kk _;exact rn;have m:eJ (.int<|x-y) (.int 1000003)=some (.int<|bL 20 x y):=by rw[Kk];show _=some (D.int<|(x+1000003-y) % 1000003);congr 2;lia
 exact rn;have m:eJ (.int<|x*y) (.int 1000003)=some (.int<|bL 21 x y):=Kk _;exact rn;have m:minD [.int x,.int y]=some (.int<|bL 22 x y):=by show some (D.int<|if y<x then y else x)=some (D.int<|if decide (22=22)=decide (x<y) then x else y);congr 2;by_cases c:x<y;rw[YO Uz,YN (by simp[c])];simp only[c,decide_false,decide_true,Bool.true_eq_false,if_false];split<;>lia
 exact rn;have m:maxD [.int x,.int y]=some (.int<|bL 23 x y):=by show some (D.int<|if y > x then y else x)=some (D.int<|if decide (23=22)=decide (x<y) then x else y);congr 2;by_cases c:x<y;rw[YN Uz,YO (by simp[c])];rw[YO Uz,YN (by simp[c])]
 exact rn;have i:=wL<|decide<|x<y;have e:(if decide (x<y)=true then(1:Int) else 0)=bL 24 x y:=by
  show _=if x<y then(1:Int) else 0
  by_cases c:x<y<;>simp[c]
 rw[e] at i;exact rn;have i:=wL<|decide<|x=y;have e:(if decide (x=y)=true then(1:Int) else 0)=bL 25 x y:=by
  show _=if x=y then(1:Int) else 0
  by_cases c:x=y<;>simp[c]
 rw[e] at i;exact rn
def aR(d:Nat):UX->Int|[]=>if d=21 then 1 else 0|x::xs=>xs.foldl (bL d) x
theorem vb(d:Nat):∀(xs:UX)(x:Int),Rt x->(∀v∈xs,Rt v)->Rt (xs.foldl (bL d) x)|[],_,h,_=>h|y::xs,x,h,k=>vb d xs _ (sF d h<|k y R9) λv hv=>k v (Pe _ hv)
theorem sG(d:Nat){xs:UX}(h:∀v∈xs,Rt v):Rt (aR d xs):=by cases xs with|nil=>unfold aR Rt;split<;>lia|cons x xs=>exact vb d xs x (h x R9) λv hv=>h v (Pe _ hv)
theorem Mv(d:Nat)(hd:d∈[19,21,22,23])(xs:UX)(hx:∀x∈xs,Rt x)(hl:xs.length<=1000)(h0:xs=[]->d=19\/d=21):Fw [.str<|nm d,Z xs]=.ok (.int<|aR d xs) []:=by
 have qx:d<32/\19<=d/\d<=25:=by simp at hd;lia
 cases xs with
 |nil=>
  have fn:BL [.str<|nm d]=.ok (.int<|aR d []) []:=by
   have t:Aw eS (.str<|nm d)=some (.int<|aR d []):=by rcases h0 rfl with rfl|rfl<;>kernel_rfl!
   unfold BL HU;exact rn
  generalize aR d []=v at *;unfold Fw LO;exact rn
 |cons x xs=>
  have ln:=wt (x::xs);have ne:¬(((x::xs).length:Nat):Int)=0:=by simp;lia
  have i0:aj (Z (x::xs)) (.int 0)=some (.int x):=bV (x::xs) 0 Uz Qj;have ct:fK (Z (x::xs)) (some 1) none=some (Z xs):=by rw[Mh];simp[gP]
  obtain⟨v,t,hP,ht,L⟩:=bu (g:=aq 3) (body:=iU) D.int (λ(v:Int)(t:Sl)=>[.sh<|.str<|nm d,.sh<|Z (x::xs),.sh<|.int v,t]) kv xs (λk v=>Rt v/\v=(xs.take k).foldl (bL d) x) x .no rfl ⟨hx x R9,rfl⟩ (by
   intro i y hy v t ht hP;have hf:free (some t)=true:=ht;have rv:=hx y<|Pe _<|Rb hy;have lb:=lj d qx.2 v y hP.1;have e:aq 3 (.int y) [.sh<|.str<|nm d,.sh<|Z (x::xs),.sh<|.int v,t]=.ok () [.sh<|.str<|nm d,.sh<|Z (x::xs),.sh<|.int v,.sh<|.int y]:=by simp[hf]
   refine⟨bL d v y,.sh<|.int y,⟨sF d hP.1 rv,?_⟩,rfl,?_⟩;rw[List.take_add_one,hy,hP.2];simp;generalize bL d v y=u at *;generalize Z (x::xs)=zx at *;rw[aF,e,ag,show iU _=.ok .nx _ by unfold iU;exact ao];rfl)
  obtain⟨_,hv⟩:=hP;rw[List.take_length] at hv;have hv:v=aR d (x::xs):=hv;subst hv;generalize aR d (x::xs)=v at *;generalize (((x::xs).length:Nat):Int)=n at *;have sz:b6 (Z xs)=some (xs.map D.int):=rfl;generalize Z xs=z1 at *;generalize Z (x::xs)=zx at *;unfold Fw LO;exact rn
def NC:Xn:=⟨"NoCell",[],[]⟩
theorem vj{f g:M Fl}{r r1:ax}{x:Xn}(h:f r=.exc x r1):ak f g r=.exc x r1:=by rw[sJ,h];rfl
theorem oB{c:M Bool}{A g:M Fl}{R:Res Fl}{r:ax}(h1:c r=.ok false r)(h2:g r=R):ak (ef c A aI) g r=R:=qV (yx h1 rfl) h2
theorem Li{f:M D}{r r1:ax}{x:Xn}(h:f r=.exc x r1):aY f r=.exc x r1:=by rw[yZ,h];rfl
theorem Q2H{c:Str}{fs:List (M D)}{r r1:ax}{ds:Vt}(h:mL fs r=.ok ds r1)(hl:decide (ds.length<=1000)=true):sI c fs r=.exc ⟨c,[],[]⟩ r1:=by unfold sI;rw[au,h,ag,YN<|P0 hl]
theorem ro{f:Fn}{as:List VP.Arg}{r r1 r2:ax}{vs:List AV}{ds ios:Vt}{x:Xn}(h:aV as r=.ok vs r1)(ha:gu vs r1=some ds)(hn:decide (bI vs).Nodup=true)(hf:f ds=.exc x ios)(hp:putAll (bI vs) ios r1=r2):aw f as r=.exc x r2:=by rw[uL,h,ag,m9,ha,bw,bT,ag,YN<|P0 hn,hf,zE,hp]
theorem Fz{n:Nat}{fl:ZU}{b:M Fl}{ds ios:Vt}{r r0:ax}{x:Xn}(hl:decide (ds.length=fl.length)=true)(h0:aU n fl ds=r0)(h:b r0=.exc x r)(hi:bp fl r=some ios):defn n fl b ds=.exc x ios:=by rw[gh _ _ _ _<|P0 hl,h0,h];show (match bp fl r with|some ios=>FR.exc x ios|none=>FR.no)=_;rw[hi]
section
variable(ss:V7)(cs:Nat->UX)
def gF(t x:UX):PL->Option Int|.mK _ y=>some y|.one d a=>some (oR d<|cw ss cs a x)|.both d a b=>some (bL d (cw ss cs a x)<|cw ss cs b x)|.kW a b c=>some (if cw ss cs a x=0 then cw ss cs c x else cw ss cs b x)|.shift a k n y=>some (if 0<=x.getD k.toNat 0-n/\x.getD k.toNat 0-n<(sd ss a).getD k.toNat 0 then cw ss cs a (rep x k.toNat<|x.getD k.toNat 0-n) else y)|.join a b k=>some (if x.getD k.toNat 0<(sd ss a).getD k.toNat 0 then cw ss cs a x else cw ss cs b (rep x k.toNat<|x.getD k.toNat 0-(sd ss a).getD k.toNat 0))|.shape a _=>some ((cs a).getD (fq t x).toNat 0)|.turn a o=>some (cw ss cs a<|zf o x)|.cut a k b st _=>some (cw ss cs a<|rep x k.toNat<|b+x.getD k.toNat 0*st)|.drop a k p=>some (cw ss cs a<|pin x k.toNat p)|.wide a k=>some (cw ss cs a<|wo x k.toNat)|.spread a _=>some (cw ss cs a x)|.fold d a k=>some (aR d<|(List.range ((sd ss a).getD k.toNat 0).toNat).map λ(j:Nat)=>cw ss cs a<|pin x k.toNat j)|.pick a k b=>if (sd ss a).getD k.toNat 0<=(cs b).getD (x.getD k.toNat 0).toNat 0 then none else some (cw ss cs a<|rep x k.toNat<|(cs b).getD (x.getD k.toNat 0).toNat 0)|_=>none
end
section
variable{ss:V7}{cs:Nat->UX}{M:D}{t x:UX}
def Lm(ss:V7)(cs:Nat->UX)(M:D)(a:Nat):Prop:=aj M (.int (a:Int))=some (Tb (sd ss a)<|cs a)/\Tk (sd ss a) (cs a)
def PC(ss:V7)(cs:Nat->UX)(M:D)(t x:UX)(l:PL):Prop:=match gF ss cs t x l with|some v=>eD [l.d,T t,M,T x]=.ok (.int v) [M]/\Rt v|none=>eD [l.d,T t,M,T x]=.exc NC [M]
theorem Qo{a:Nat}(h:Tk (sd ss a) (cs a)){x:UX}(hn:(sd ss a).length<=x.length)(hx:x.length<=100)(hi:Ix (sd ss a) (cG (sd ss a) x)):uC [Tb (sd ss a)<|cs a,T x]=.ok (.int<|cw ss cs a x) []/\Rt (cw ss cs a x):=Q1q h hn hx hi
theorem EU{a:Nat}(h:Tk (sd ss a) (cs a)){x:UX}(hi:Ix (sd ss a) x):mM [Tb (sd ss a)<|cs a,T x]=.ok (.int<|cw ss cs a x) []/\Rt (cw ss cs a x):=by
 have e:cw ss cs a x=cv ss cs a x:=by unfold cw;rw[hi.self]
 rw[e];exact kh h hi
theorem TZ{n:Nat}{G:Nat->UX}(d a:Nat)(hT:Told n G (sd ss) (.one d a) t)(ha:Lm ss cs M a)(hx:Ix t x):PC ss cs M t x (.one d a):=by obtain⟨h1,rfl⟩:=hT;obtain⟨i1,ta⟩:=ha;obtain⟨c1,r1⟩:=EU ta hx;refine⟨?_,O3 d r1⟩;have o:=Q2O d h1<|cw ss cs a x;have Lx:=mT (sd ss a)<|cs a;show eD [.tup [.str<|nm 9,.str<|nm d,.int a],T<|sd ss a,M,T x]=_;generalize Tb (sd ss a) (cs a)=ta at *;unfold eD mH;exact rn
theorem Ox{n:Nat}{G:Nat->UX}(d a b:Nat)(hT:Told n G (sd ss) (.both d a b) t)(ha:Lm ss cs M a)(hb:Lm ss cs M b)(hx:Ix t x):PC ss cs M t x (.both d a b):=by obtain⟨h1,h3⟩:=hT;obtain⟨i1,ta⟩:=ha;obtain⟨i2,tb⟩:=hb;have ml:=cC h3;have l1:=ta.1.1;have l2:=tb.1.1;have hl:=hx.1;obtain⟨c1,r1⟩:=Qo ta (x:=x) Uz Uz<|cM hx<|bK h3;obtain⟨c2,r2⟩:=Qo tb (x:=x) Uz Uz<|cM hx<|bK<|meet_comm _ _ ▸ h3;refine⟨?_,sF d r1 r2⟩;have o:=lj d h1 (cw ss cs a x) (cw ss cs b x) r1;show eD [.tup [.str<|nm 10,.str<|nm d,.int a,.int b],T t,M,T x]=_;generalize Tb (sd ss a) (cs a)=ta at *;generalize Tb (sd ss b) (cs b)=tb at *;unfold eD mH;exact rn
theorem Q1t{n:Nat}{G:Nat->UX}(a b c:Nat)(hT:Told n G (sd ss) (.kW a b c) t)(ha:Lm ss cs M a)(hb:Lm ss cs M b)(hc:Lm ss cs M c)(hx:Ix t x):PC ss cs M t x (.kW a b c):=by
 obtain⟨u,h2,h3⟩:=hT;obtain⟨i1,ta⟩:=ha;obtain⟨i2,tb⟩:=hb;obtain⟨i3,tc⟩:=hc;have ml:=cC h3;have ml2:=cC h2;have l1:=ta.1.1;have l2:=tb.1.1;have l3:=tc.1.1;have hl:=hx.1;obtain⟨c1,r1⟩:=Qo ta (x:=x) Uz Uz<|cM hx<|(bK h2).trans<|bK h3;obtain⟨c2,r2⟩:=Qo tb (x:=x) Uz Uz<|cM hx<|(bK<|meet_comm _ _ ▸ h2).trans<|bK h3;obtain⟨c3,r3⟩:=Qo tc (x:=x) Uz Uz<|cM hx<|bK<|meet_comm _ _ ▸ h3;have w:yh [Tb (sd ss a)<|cs a,Tb (sd ss b)<|cs b,Tb (sd ss c)<|cs c,T x]=.ok (.int<|if cw ss cs a x=0 then cw ss cs c x else cw ss cs b x) []:=by have e:gW (.int<|cw ss cs a x) (.int 0)=some (.bl<|!decide (cw ss cs a x=0)):=bX _ _;generalize Tb (sd ss a) (cs a)=ta at *;generalize Tb (sd ss b) (cs b)=tb at *;generalize Tb (sd ss c) (cs c)=tc at *;by_cases q:cw ss cs a x=0;rw[Qi q] at e;rw[YN q];unfold yh Bc;exact rn;rw[VY q] at e;rw[YO q];unfold yh Bc;exact rn
 refine⟨?_,by split;exact r3;exact r2⟩;show eD [.tup [.str<|nm 11,.int a,.int b,.int c],T t,M,T x]=_;generalize Tb (sd ss a) (cs a)=ta at *;generalize Tb (sd ss b) (cs b)=tb at *;generalize Tb (sd ss c) (cs c)=tc at *;generalize (if cw ss cs a x=0 then cw ss cs c x else cw ss cs b x)=v at *;unfold eD mH;exact rn
theorem GD{n:Nat}{G:Nat->UX}(a:Nat)(k b y:Int)(hT:Told n G (sd ss) (.shift a k b y) t)(ha:Lm ss cs M a)(hx:Ix t x):PC ss cs M t x (.shift a k b y):=by
 obtain⟨j,rfl,hj,hy,rfl⟩:=hT;obtain⟨i1,ta⟩:=ha;have hl:=hx.1;have l1:=ta.1.1;have g1:=hx.get j hj;have g3:=dA (sd ss a) j hj;have p1:=sS (sd ss a)<|cs a;have Lx:=mT (sd ss a)<|cs a;have ch:=dX x j (x.getD j 0-b) Uz Uz;have l1:=iT 0<|x.getD j 0-b;have l2:=gA (x.getD j 0-b)<|(sd ss a).getD j 0;have key:uz [Tb (sd ss a)<|cs a,.int j,.int b,.int y,T x]=.ok (.int<|if 0<=x.getD j 0-b/\x.getD j 0-b<(sd ss a).getD j 0 then cw ss cs a (rep x j<|x.getD j 0-b) else y) []/\Rt (if 0<=x.getD j 0-b/\x.getD j 0-b<(sd ss a).getD j 0 then cw ss cs a (rep x j<|x.getD j 0-b) else y):=by by_cases q:0<=x.getD j 0-b/\x.getD j 0-b<(sd ss a).getD j 0;obtain⟨c1,r1⟩:=EU ta<|eP (by rw[fP _ _ hj];exact hx) hj q.1 q.2;rw[YN q];refine⟨?_,r1⟩;rw[Qi q.1] at l1;rw[Qi q.2] at l2;generalize Tb (sd ss a) (cs a)=ta at *;generalize T (rep x j<|x.getD j 0-b)=x' at *;generalize T (sd ss a)=sa at *;unfold uz xG;exact rn;rw[YO q];refine⟨?_,hy⟩;generalize Tb (sd ss a) (cs a)=ta at *;generalize T (rep x j<|x.getD j 0-b)=x' at *;generalize T (sd ss a)=sa at *;by_cases q1:0<=x.getD j 0-b;rw[Qi q1] at l1;rw[VY λz=>q ⟨q1,z⟩] at l2;unfold uz xG;exact rn;rw[VY q1] at l1;unfold uz xG;exact rn
 obtain⟨key,r⟩:=key;refine⟨?_,r⟩;show eD [.tup [.str<|nm 8,.int a,.int j,.int b,.int y],T<|sd ss a,M,T x]=FR.ok (.int<|if 0<=x.getD j 0-b/\x.getD j 0-b<(sd ss a).getD j 0 then cw ss cs a (rep x j<|x.getD j 0-b) else y) [M];generalize (if 0<=x.getD j 0-b/\x.getD j 0-b<(sd ss a).getD j 0 then cw ss cs a (rep x j<|x.getD j 0-b) else y)=v at *;generalize Tb (sd ss a) (cs a)=ta at *;unfold eD mH;exact rn
theorem OB{n:Nat}{G:Nat->UX}(a b:Nat)(k:Int)(hT:Told n G (sd ss) (.join a b k) t)(ha:Lm ss cs M a)(hb:Lm ss cs M b)(hx:Ix t x):PC ss cs M t x (.join a b k):=by
 obtain⟨j,rfl,hj,h2,h4,rfl⟩:=hT;obtain⟨i1,ta⟩:=ha;obtain⟨i2,tb⟩:=hb;have hl:x.length=(sd ss a).length:=by rw[hx.1,bJ _ _ _ hj]
 have l1:=ta.1.1;have g1:=dA x j Uz;have g3:=dA (sd ss a) j hj;have p1:=sS (sd ss a)<|cs a;have Lx:=mT (sd ss a)<|cs a;have tm2:=mT (sd ss b)<|cs b;have b0:=hx.2 j (by rw[bJ _ _ _ hj];exact hj);rw[gB _ _ _ _ hj,YN rfl] at b0;have key:ya [Tb (sd ss a)<|cs a,Tb (sd ss b)<|cs b,.int j,T x]=.ok (.int<|if x.getD j 0<(sd ss a).getD j 0 then cw ss cs a x else cw ss cs b (rep x j<|x.getD j 0-(sd ss a).getD j 0)) []/\Rt (if x.getD j 0<(sd ss a).getD j 0 then cw ss cs a x else cw ss cs b (rep x j<|x.getD j 0-(sd ss a).getD j 0)):=by by_cases q:x.getD j 0<(sd ss a).getD j 0;have i1:=eP hx hj b0.1 q;rw[fP _ _ Uz] at i1;obtain⟨c1,r1⟩:=EU ta i1;rw[YN q];refine⟨?_,r1⟩;generalize Tb (sd ss a) (cs a)=ta at *;generalize Tb (sd ss b) (cs b)=tb at *;generalize T (sd ss a)=sa at *;unfold ya A6;exact rn;obtain⟨c1,r1⟩:=EU tb (x:=rep x j<|x.getD j 0-(sd ss a).getD j 0)<|eP (EC h2 hj h4 _ ▸ hx) Uz Uz Uz;have ch:=dX x j (x.getD j 0-(sd ss a).getD j 0) Uz Uz;rw[YO q];refine⟨?_,r1⟩;generalize Tb (sd ss a) (cs a)=ta at *;generalize Tb (sd ss b) (cs b)=tb at *;generalize T (rep x j<|x.getD j 0-(sd ss a).getD j 0)=x' at *;generalize T (sd ss a)=sa at *;unfold ya A6;exact rn
 obtain⟨key,r⟩:=key;refine⟨?_,r⟩;show eD [.tup [.str<|nm 15,.int a,.int b,.int j],T _,M,T x]=FR.ok (.int<|if x.getD j 0<(sd ss a).getD j 0 then cw ss cs a x else cw ss cs b (rep x j<|x.getD j 0-(sd ss a).getD j 0)) [M];generalize (if x.getD j 0<(sd ss a).getD j 0 then cw ss cs a x else cw ss cs b (rep x j<|x.getD j 0-(sd ss a).getD j 0))=v at *;generalize Tb (sd ss a) (cs a)=ta at *;generalize Tb (sd ss b) (cs b)=tb at *;unfold eD mH;exact rn
theorem OC{n:Nat}{G:Nat->UX}(a b:Nat)(k:Int)(hT:Told n G (sd ss) (.pick a k b) t)(ha:Lm ss cs M a)(hb:Lm ss cs M b)(hx:Ix t x):PC ss cs M t x (.pick a k b):=by
 obtain⟨j,y,rfl,hj,h2,rfl⟩:=hT;obtain⟨i1,ta⟩:=ha;obtain⟨i2,tb⟩:=hb;have hl:x.length=(sd ss a).length:=by rw[hx.1,bJ _ _ _ hj]
 have l1:=ta.1.1;have g1:=dA x j Uz;have g3:=dA (sd ss a) j hj;have p1:=sS (sd ss a)<|cs a;have Lx:=mT (sd ss a)<|cs a;have tm2:=mT (sd ss b)<|cs b;have b0:=hx.2 j (by rw[bJ _ _ _ hj];exact hj);rw[gB _ _ _ _ hj,YN rfl] at b0;have ib:Ix (sd ss b) [x.getD j 0]:=by
  rw[h2];refine⟨rfl,λi hi=>?_⟩;have:i=0:=by simpa using hi
  subst this;exact b0
 obtain⟨c2,r2⟩:=kh tb ib;have e2:fq (sd ss b) [x.getD j 0]=x.getD j 0:=by rw[h2];show x.getD j 0*1+0=_;lia
 rw[e2] at c2 r2;have t1:T [x.getD j 0]=.tup [.int<|x.getD j 0]:=rfl;rw[t1] at c2;show match (if (sd ss a).getD j 0<=(cs b).getD (x.getD j 0).toNat 0 then none else some (cw ss cs a<|rep x j<|(cs b).getD (x.getD j 0).toNat 0)) with|some v=>eD [.tup [.str<|nm 14,.int a,.int j,.int b],T<|rep (sd ss a) j y,M,T x]=.ok (.int v) [M]/\Rt v|none=>eD [.tup [.str<|nm 14,.int a,.int j,.int b],T<|rep (sd ss a) j y,M,T x]=.exc NC [M]
 generalize (cs b).getD (x.getD j 0).toNat 0=w at *;have ge:=B9 w<|(sd ss a).getD j 0;by_cases q:(sd ss a).getD j 0<=w;rw[YN q];rw[Qi q] at ge;have key:ye [Tb (sd ss a)<|cs a,.int j,Tb (sd ss b)<|cs b,T x]=.exc NC []:=by generalize Tb (sd ss a) (cs a)=ta at *;generalize Tb (sd ss b) (cs b)=tb at *;generalize T (sd ss a)=sa at *;refine Fz rfl (r0:=[.sh ta,.sh<|.int j,.sh tb,.sh<|T x,.no]) rfl (r:=[.sh ta,.sh<|.int j,.sh tb,.sh<|T x,.sh<|.int w]) ?_ rfl;refine qV (r1:=[.sh ta,.sh<|.int j,.sh tb,.sh<|T x,.sh<|.int w]) ao (vj<|yx (t:=true) ao<|vj<|Q2H (ds:=[.str<|nm 32]) ao rfl)
 show eD _=_;generalize Tb (sd ss a) (cs a)=ta at *;generalize Tb (sd ss b) (cs b)=tb at *;generalize T (rep (sd ss a) j y)=tt at *;refine Fz rfl (r0:=[.sh<|.tup [.str<|nm 14,.int a,.int j,.int b],.sh tt,.io M,.sh<|T x,.no]) rfl (r:=[.sh<|.tup [.str<|nm 14,.int a,.int j,.int b],.sh tt,.io M,.sh<|T x,.sh<|.str<|nm 14]) ?_ rfl;unfold mH;refine qV (r1:=[.sh<|.tup [.str<|nm 14,.int a,.int j,.int b],.sh tt,.io M,.sh<|T x,.sh<|.str<|nm 14]) ao ?_;refine oB ao<|oB ao<|oB ao<|oB ao<|oB ao<|vj<|yx (t:=true) ao<|vj<|Li<|ro ao rfl rfl key rfl;rw[YO q];rw[VY q] at ge;obtain⟨c1,r1⟩:=EU ta<|eP hx hj r2.1 Uz;refine⟨?_,r1⟩;have ch:=dX x j w Uz Uz;have key:ye [Tb (sd ss a)<|cs a,.int j,Tb (sd ss b)<|cs b,T x]=.ok (.int<|cw ss cs a<|rep x j w) []:=by generalize Tb (sd ss a) (cs a)=ta at *;generalize Tb (sd ss b) (cs b)=tb at *;generalize T (rep x j w)=x' at *;generalize T (sd ss a)=sa at *;unfold ye IA;exact rn
 generalize Tb (sd ss a) (cs a)=ta at *;generalize Tb (sd ss b) (cs b)=tb at *;unfold eD mH;exact rn
end
section
variable{ss:V7}{cs:Nat->UX}{M:D}{t x:UX}
theorem Rt.map{m:Nat}{f:Nat->Int}(h:∀k:Nat,k<m->Rt (f k)):∀v∈(List.range m).map f,Rt v:=λv hv=>by obtain⟨k,hk,rfl⟩:=List.mem_map.mp hv;exact h k (List.mem_range.mp hk)
theorem OA{n:Nat}{G:Nat->UX}(d a:Nat)(k:Int)(hT:Told n G (sd ss) (.fold d a k) t)(ha:Lm ss cs M a)(hx:Ix t x):PC ss cs M t x (.fold d a k):=by
 obtain⟨j,rfl,hj,hd,h0,rfl⟩:=hT;obtain⟨i1,ta⟩:=ha;have hs:=ta.1.get j;have g3:=dA (sd ss a) j hj;have p1:=sS (sd ss a)<|cs a;have Lx:=mT (sd ss a)<|cs a;have hl:=hx.1;have l1:=i9 hj;have l2:=ta.1.1;obtain⟨m,hm⟩:∃m:Nat,(sd ss a).getD j 0=m:=⟨((sd ss a).getD j 0).toNat,Uz⟩;rw[hm] at g3;have er:=hZ m Uz;have s:∀k:Nat,k<m->_:=λk hk=>EU ta<|rK hx hj (show 0<=(k:Int) by lia) Uz;have cm:aD 1 (bH [(m2 aj (m1 (gw bO "sides")<|aa 1)<|aa 2)]) (aq 4) (VP.ret true) iH [.sh<|.str<|nm d,.sh<|Tb (sd ss a)<|cs a,.sh<|.int j,.sh<|T x]=.ok (Z<|(List.range m).map λ(k:Nat)=>cw ss cs a<|pin x j k) [.sh<|.str<|nm d,.sh<|Tb (sd ss a)<|cs a,.sh<|.int j,.sh<|T x]:=by refine cY (λ(k:Nat)=>D.int k) (λk=>D.int<|cw ss cs a<|pin x j k) (List.range m) ?_ (by simp;lia) (by simp[Z,Function.comp_def]) λk hk acc=>?_;generalize Tb (sd ss a) (cs a)=ta at *;generalize T (sd ss a)=sa at *;exact ao;have s1:=(s k<|List.mem_range.mp hk).1;have pi:=sv x j (k:Int) Uz Uz;generalize Tb (sd ss a) (cs a)=ta at *;generalize T (pin x j k)=x' at *;unfold iH;exact ao
 have rr:=Rt.map λk hk=>(s k hk).2;have fo:=Mv d hd ((List.range m).map λ(k:Nat)=>cw ss cs a<|pin x j k) rr (by simp;lia) (λz=>by
  have m0:m=0:=by simpa using z
  have:=h0 (by rw[hm,m0];rfl);simp at hd;lia)
 have key:Ms [.str<|nm d,Tb (sd ss a)<|cs a,.int j,T x]=.ok (.int<|aR d<|(List.range m).map λ(k:Nat)=>cw ss cs a<|pin x j k) []:=by generalize aR d ((List.range m).map λ(k:Nat)=>cw ss cs a<|pin x j k)=v at *;generalize Z ((List.range m).map λ(k:Nat)=>cw ss cs a<|pin x j k)=z at *;generalize Tb (sd ss a) (cs a)=ta at *;generalize T (sd ss a)=sa at *;unfold Ms Q5;exact rn
 have ev:gF ss cs (wo (sd ss a) j) x (.fold d a (j:Int))=some (aR d<|(List.range m).map λ(k:Nat)=>cw ss cs a<|pin x j k):=by show some (aR d<|(List.range ((sd ss a).getD j 0).toNat).map λ(k:Nat)=>cw ss cs a<|pin x j k)=_;rw[hm,Es]
 unfold PC;rw[ev];refine⟨?_,sG d rr⟩;show eD [.tup [.str<|nm 12,.str<|nm d,.int a,.int j],_,M,T x]=_;generalize aR d ((List.range m).map λ(k:Nat)=>cw ss cs a<|pin x j k)=v at *;generalize Tb (sd ss a) (cs a)=ta at *;unfold eD mH;exact rn
theorem oS{a:Nat}{l:PL}(hk:l.k=2\/l.k=3\/l.k=4\/l.k=5\/l.k=6)(i1:aj M (.int (a:Int))=some (Tb (sd ss a)<|cs a))(h1:aj l.d (.int 1)=some (.int a)){v:Int}(hv:iy [l.d,Tb (sd ss a)<|cs a,T x]=.ok (.int v) [])(r:Rt v)(e:gF ss cs t x l=some v):PC ss cs M t x l:=by
 unfold PC;rw[e];refine⟨?_,r⟩;have k1:=l.kind;have ne:∀j,j<32->l.k≠j->dP (.str<|nm l.k) (.str<|nm j)=some (.bl false):=λj hj h=>by rw[EJ _ _ Uz hj,VY h]
 have n1:=ne 1 Uz Uz;have n9:=ne 9 Uz Uz;have V9:=ne 10 Uz Uz;have n11:=ne 11 Uz Uz;have n12:=ne 12 Uz Uz;have n14:=ne 14 Uz Uz;have n15:=ne 15 Uz Uz;have n8:=ne 8 Uz Uz;have n7:=ne 7 Uz Uz;generalize Tb (sd ss a) (cs a)=ta at *;generalize l.d=ld at *;unfold eD mH;exact rn
theorem OD{n:Nat}{G:Nat->UX}(a:Nat)(o:UX)(hT:Told n G (sd ss) (.turn a o) t)(ha:Lm ss cs M a)(hx:Ix t x):PC ss cs M t x (.turn a o):=by
 obtain⟨h1,h2,rfl⟩:=hT;obtain⟨i1,ta⟩:=ha;have h4:=ta.1.1;obtain⟨hm,hd⟩:=qS h1;obtain⟨c1,r1⟩:=EU ta<|CA hx h2 hm;refine oS (by simp[PL.k]) i1 rfl ?_ r1 rfl;have Lx:=mT (sd ss a)<|cs a;have hl:=hx.1;rw[VE] at hl;have er:=hZ x.length Uz;show iy [.tup [.str<|nm 2,.int a,T o],Tb (sd ss a)<|cs a,T x]=.ok (.int<|cw ss cs a<|zf o x) [];have c:aD 1 (bH [(m1 bG<|aa 2)]) (aq 4) (VP.ret true) du [.sh<|.tup [.str<|nm 2,.int a,T o],.sh<|Tb (sd ss a)<|cs a,.sh<|T x,.sh<|.str<|nm 2]=.ok (Z<|zf o x) [.sh<|.tup [.str<|nm 2,.int a,T o],.sh<|Tb (sd ss a)<|cs a,.sh<|T x,.sh<|.str<|nm 2]:=by
  refine cY (λ(k:Nat)=>D.int k) (λk=>D.int<|x.getD (o.idxOf (k:Int)) 0) (List.range x.length) ao (by simp;lia) (by simp[Z,zf,Function.comp_def,hl]) λk hk acc=>?_;have hk:=List.mem_range.mp hk;have ho:=hm k Uz;have hi:=List.idxOf_lt_length_of_mem ho;have g:=dA x (o.idxOf (k:Int)) Uz;have ix:uO (m2 aj (aa 0)<|cI 2) (aa 4) [.sh<|.tup [.str<|nm 2,.int a,T o],.sh<|Tb (sd ss a)<|cs a,.sh<|T x,.sh<|.str<|nm 2,.sh<|.int k,.ow acc]=.ok (.int (o.idxOf (k:Int):Nat)) [.sh<|.tup [.str<|nm 2,.int a,T o],.sh<|Tb (sd ss a)<|cs a,.sh<|T x,.sh<|.str<|nm 2,.sh<|.int k,.ow acc]:=by rw[Q1V,show m2 aj (aa 0) (cI 2) _=.ok (T o) _ from ao,ag];exact MT (aa 4) o k _ _ ao ho
  show du [.sh<|.tup [.str<|nm 2,.int a,T o],.sh<|Tb (sd ss a)<|cs a,.sh<|T x,.sh<|.str<|nm 2,.sh<|.int k,.ow acc]=.ok _ [.sh<|.tup [.str<|nm 2,.int a,T o],.sh<|Tb (sd ss a)<|cs a,.sh<|T x,.sh<|.str<|nm 2,.sh<|.int k,.ow acc];unfold du;exact ao
 generalize cw ss cs a (zf o x)=v at *;generalize Tb (sd ss a) (cs a)=ta at *;generalize zf o x=u at *;unfold iy p9;exact rn
theorem TY{n:Nat}{G:Nat->UX}(a:Nat)(k b st m:Int)(hT:Told n G (sd ss) (.cut a k b st m) t)(ha:Lm ss cs M a)(hx:Ix t x):PC ss cs M t x (.cut a k b st m):=by
 obtain⟨j,rfl,hj,h1,_,h2,rfl⟩:=hT;obtain⟨i1,ta⟩:=ha;have hl:x.length=(sd ss a).length:=by rw[hx.1,bJ _ _ _ hj]
 have h4:=ta.1.1;have b0:=hx.2 j (by rw[bJ _ _ _ hj];exact hj);rw[gB _ _ _ _ hj,YN rfl] at b0;have c:=By st b m (x.getD j 0) b0 h2;rw[Int.mul_comm] at c;obtain⟨c1,r1⟩:=EU ta<|eP hx hj c.1 c.2;refine oS (by simp[PL.k]) i1 rfl ?_ r1 rfl;have Lx:=mT (sd ss a)<|cs a;show iy [.tup [.str<|nm 3,.int a,.int j,.int b,.int st,.int m],Tb (sd ss a)<|cs a,T x]=.ok (.int<|cw ss cs a<|rep x j<|b+x.getD j 0*st) [];have g:=dA x j Uz;have mu:=jq st (x.getD j 0) Uz Uz;rw[Int.mul_comm] at mu;have ch:=dX x j (b+x.getD j 0*st) Uz Uz;generalize cw ss cs a (rep x j<|b+x.getD j 0*st)=v at *;generalize Tb (sd ss a) (cs a)=ta at *;generalize T (rep x j<|b+x.getD j 0*st)=u at *;unfold iy p9;exact rn
theorem Q0f{n:Nat}{G:Nat->UX}(a:Nat)(k p:Int)(hT:Told n G (sd ss) (.drop a k p) t)(ha:Lm ss cs M a)(hx:Ix t x):PC ss cs M t x (.drop a k p):=by obtain⟨j,rfl,hj,h2,rfl⟩:=hT;obtain⟨i1,ta⟩:=ha;have h4:=ta.1.1;have hl:=hx.1;have l1:=i9 hj;obtain⟨c1,r1⟩:=EU ta<|rK hx hj h2.1 h2.2;refine oS (by simp[PL.k]) i1 rfl ?_ r1 rfl;have Lx:=mT (sd ss a)<|cs a;show iy [.tup [.str<|nm 4,.int a,.int j,.int p],Tb (sd ss a)<|cs a,T x]=.ok (.int<|cw ss cs a<|pin x j p) [];have ch:=sv x j p Uz Uz;generalize cw ss cs a (pin x j p)=v at *;generalize Tb (sd ss a) (cs a)=ta at *;generalize T (pin x j p)=u at *;unfold iy p9;exact rn
theorem OF{n:Nat}{G:Nat->UX}(a:Nat)(k:Int)(hT:Told n G (sd ss) (.wide a k) t)(ha:Lm ss cs M a)(hx:Ix t x):PC ss cs M t x (.wide a k):=by obtain⟨j,rfl,hj,rfl⟩:=hT;obtain⟨i1,ta⟩:=ha;have h4:=ta.1.1;have hl:=hx.1;have l1:=nq (sd ss a) j 1;obtain⟨c1,r1⟩:=EU ta<|Ka hx hj;refine oS (by simp[PL.k]) i1 rfl ?_ r1 rfl;have Lx:=mT (sd ss a)<|cs a;show iy [.tup [.str<|nm 5,.int a,.int j],Tb (sd ss a)<|cs a,T x]=.ok (.int<|cw ss cs a<|wo x j) [];have ch:=i8 x j Uz Uz;generalize cw ss cs a (wo x j)=v at *;generalize Tb (sd ss a) (cs a)=ta at *;generalize T (wo x j)=u at *;unfold iy p9;exact rn
theorem Dr{n:Nat}{G:Nat->UX}(a:Nat)(u:UX)(hT:Told n G (sd ss) (.spread a u) t)(ha:Lm ss cs M a)(hx:Ix t x)(h9:x.length<=100):PC ss cs M t x (.spread a u):=by obtain⟨h1,rfl⟩:=hT;obtain⟨i1,ta⟩:=ha;have hs:=bK h1;have hl:=hx.1;obtain⟨c1,r1⟩:=Qo ta (x:=x) (by have:=hs.1;lia) h9<|cM hx hs;refine oS (by simp[PL.k]) i1 rfl ?_ r1 rfl;show iy [.tup [.str<|nm 6,.int a,T t],Tb (sd ss a)<|cs a,T x]=.ok (.int<|cw ss cs a x) [];generalize cw ss cs a x=v at *;generalize Tb (sd ss a) (cs a)=ta at *;unfold iy p9;exact rn
theorem Oz{n:Nat}{G:Nat->UX}(s:UX)(y:Int)(hT:Told n G (sd ss) (.mK s y) t):PC ss cs M t x (.mK s y):=by obtain⟨_,hy⟩:=hT;refine⟨?_,hy⟩;show eD [.tup [.str<|nm 1,T s,.int y],T t,M,T x]=_;unfold eD mH;exact rn
theorem GC{n:Nat}{G:Nat->UX}(a:Nat)(u:UX)(hT:Told n G (sd ss) (.shape a u) t)(ha:Lm ss cs M a)(ht:SI t)(hx:Ix t x):PC ss cs M t x (.shape a u):=by
 obtain⟨h1,h3⟩:=hT;obtain⟨i1,ta⟩:=ha;have pl:=hx.place λy hy=>(ht.2.1 y hy).1;have lc:=ta.2.1;have hl:(fq t x).toNat<(cs a).length:=by rw[h1,<-h3] at lc;lia
 refine⟨?_,by rw[gD _ _ hl];exact ta.2.2 _<|NM hl⟩;have pa:=uX t x ht<|hx.bd ht;have b2:=D6 (sd ss a)<|cs a;have iv:aj (Z<|cs a) (.int<|fq t x)=some (.int<|(cs a).getD (fq t x).toNat 0):=bV _ _ pl.1 Uz;show eD [.tup [.str<|nm 7,.int a,T u],T t,M,T x]=_;generalize (cs a).getD (fq t x).toNat 0=v at *;generalize Tb (sd ss a) (cs a)=ta at *;unfold eD mH;exact rn
theorem Q1Z{n:Nat}{G:Nat->UX}{l:PL}(hT:Told n G (sd ss) l t)(h:∀b∈l.ns,Lm ss cs M b)(ht:SI t)(hx:Ix t x)(h0:l.k≠0/\l.k≠13):PC ss cs M t x l:=by
 have h9:x.length<=100:=by have:=hx.1;have:=ht.1;lia
 cases l with|given=>exact absurd rfl h0.1|run=>exact absurd rfl h0.2|mK s y=>exact Oz s y hT|shape a u=>exact GC a u hT (h a (by simp[PL.ns])) ht hx|turn a o=>exact OD a o hT (h a (by simp[PL.ns])) hx|cut a k b st m=>exact TY a k b st m hT (h a (by simp[PL.ns])) hx|drop a k p=>exact Q0f a k p hT (h a (by simp[PL.ns])) hx|wide a k=>exact OF a k hT (h a (by simp[PL.ns])) hx|spread a u=>exact Dr a u hT (h a (by simp[PL.ns])) hx h9|shift a k b y=>exact GD a k b y hT (h a (by simp[PL.ns])) hx|one d a=>exact TZ d a hT (h a (by simp[PL.ns])) hx|both d a b=>exact Ox d a b hT (h a (by simp[PL.ns])) (h b (by simp[PL.ns])) hx|kW a b c=>exact Q1t a b c hT (h a (by simp[PL.ns])) (h b (by simp[PL.ns])) (h c (by simp[PL.ns])) hx|fold d a k=>exact OA d a k hT (h a (by simp[PL.ns])) hx|pick a k b=>exact OC a b k hT (h a (by simp[PL.ns])) (h b (by simp[PL.ns])) hx|join a b k=>exact OB a b k hT (h a (by simp[PL.ns])) (h b (by simp[PL.ns])) hx
end
theorem xR:∀(x ys:UX)(j:Nat)(v:Int),j<x.length->x.length=ys.length->dot (rep x j v) ys=dot x ys+(v-x.getD j 0)*ys.getD j 0
|[],_,_,_,h,_=>by simp at h|_::_,[],_,_,_,h=>by simp at h|a::x,b::ys,0,v,_,_=>by simp[rep,dot];grind|a::x,b::ys,j+1,v,h,e=>by
 have ih:=xR x ys j v (by simpa using h) (by simpa using e);have:rep (a::x) (j+1) v=a::rep x j v:=by simp[rep]
 rw[this];simp only[dot,ih,List.getD_cons_succ]
 lia
theorem vk(s:UX)(k:Nat)(h:k<s.length):(cH s).getD k 0=ah (s.drop<|k+1):=by have a:=y6 s k h;have b:((cH s).drop k)[0]?=(cH s)[k]?:=Qj;rw[a] at b;rw[mG,<-b];rfl
def gO(d:Nat)(s c:UX)(j:Nat)(p:Int):Int:=aR d ((List.range ((aG s p).getD j 0+1).toNat).map λ(k:Nat)=>c.getD (fq s<|rep (aG s p) j k).toNat 0)
theorem oi(d:Nat)(xs:UX)(y:Int)(h:xs≠[]):aR d (xs++[y])=bL d (aR d xs) y:=by cases xs with|nil=>exact absurd rfl h|cons x xs=>simp[aR]
theorem Am(d:Nat)(hd:d∈[19,21,22,23]){s c:UX}(h:Tk s c)(j:Nat)(hj:j<s.length):BZ [.str<|nm d,Tb s c,.int j]=.ok (Z<|(List.range c.length).map λ(p:Nat)=>gO d s c j p) []/\∀v∈(List.range c.length).map (λ(p:Nat)=>gO d s c j p),Rt v:=by
 have qx:d<32/\19<=d/\d<=25:=by simp at hd;lia
 obtain⟨h1,h2,h3⟩:=h;have s0:∀y∈s,0<=y:=λy hy=>(h1.2.1 y hy).1;have Qm:=h1.2.2;have st:=strides s h1;have gs:=dA (cH s) j (by rw[fQ];exact hj);have b1:=sS s c;have b2:=D6 s c;have li:∀p:Nat,p<c.length->Ix s (aG s p)/\fq s (aG s p)=p:=λp hp=>by obtain⟨a,b⟩:=jn s (p:Int) s0 Uz;exact⟨a,by rw[b];exact Int.emod_eq_of_lt Uz Uz⟩
 have sp:∀p:Nat,p<c.length->0<ah (s.drop<|j+1):=λp hp=>oT λy hy=>wV s0 Uz y<|zW hy;have cg:∀k:Int,0<=k->k<ah s->Rt (c.getD k.toNat 0):=λk a b=>by have hl:k.toNat<c.length:=Uz;rw[gD _ _ hl];exact h3 _ (NM hl)
 have pr:∀(p:Nat)(v:Int),p<c.length->fq s (rep (aG s p) j v)=p+(v-(aG s p).getD j 0)*ah (s.drop<|j+1):=λp v hp=>by obtain⟨a,b⟩:=li p hp;show dot _ _=_;rw[xR _ _ _ _ (by rw[a.1];exact hj) (by rw[fQ,a.1]),vk s j hj];show fq s (aG s p)+_=_;rw[b]
 have ir:∀(p:Nat)(v:Int),p<c.length->0<=v->v<s.getD j 0->Ix s (rep (aG s p) j v):=λp v hp v0 v1=>eP (y:=s.getD j 0) (by rw[fP _ _ hj];exact(li p hp).1) hj v0 v1;have rts:∀p:Nat,p<c.length->Rt (gO d s c j p):=λp hp=>sG d (Rt.map λk hk=>by have b0:=(li p hp).1.2 j hj;have pl:=(ir p k hp Uz Uz).place s0;exact cg _ pl.1 pl.2);have one:∀p:Nat,p<c.length->(aG s p).getD j 0=0->gO d s c j p=c.getD p 0:=λp hp z=>by
  unfold gO;rw[z];show aR d [c.getD (fq s<|rep (aG s p) j ((0:Nat):Int)).toNat 0]=_;have:fq s (rep (aG s p) j ((0:Nat):Int))=p:=by rw[pr p _ hp,z];simp
  rw[this];rfl
 have more:∀p:Nat,p<c.length->¬(aG s p).getD j 0=0->∃q:Nat,(q:Int)=p-ah (s.drop<|j+1)/\q<p/\gO d s c j p=bL d (gO d s c j q) (c.getD p 0):=λp hp z=>by
  have b0:=(li p hp).1.2 j hj;have pp:=sp p hp;have ZM:=ir p ((aG s p).getD j 0-1) hp Uz Uz;have pl:=ZM.place s0;have e1:fq s (rep (aG s p) j<|(aG s p).getD j 0-1)=p-ah (s.drop<|j+1):=by rw[pr p _ hp];grind
  rw[e1] at pl;refine⟨(p-ah (s.drop<|j+1)).toNat,Uz,Uz,?_⟩;have hq:(p-ah (s.drop<|j+1)).toNat<c.length:=Uz;have eq:(((p-ah (s.drop<|j+1)).toNat:Nat):Int)=p-ah (s.drop<|j+1):=Uz;generalize (p-ah (s.drop<|j+1)).toNat=q at *;obtain⟨lq,pq⟩:=li q hq;have le:aG s q=rep (aG s p) j ((aG s p).getD j 0-1):=yP s0 lq ZM (by rw[pq,e1,eq]);have xl:j<(aG s p).length:=by rw[(li p hp).1.1];exact hj
  obtain⟨n,hn⟩:∃n:Nat,(aG s p).getD j 0=n+1:=⟨((aG s p).getD j 0-1).toNat,Uz⟩;have rr:∀v:Int,rep (aG s q) j v=rep (aG s p) j v:=λv=>by rw[le,jw _ _ _ (by rw[bJ _ _ _ xl];exact xl),jw _ _ _ xl,jw _ _ _ xl,List.set_set]
  unfold gO;rw[show (aG s q).getD j 0=n by rw[le,gB _ _ _ _ xl,YN rfl,hn];lia,hn,show ((n:Int)+1+1).toNat=(n+1)+1 by lia,show ((n:Int)+1).toNat=n+1 by lia,List.range_succ (n:=n+1),TQ];simp only[rr];rw[show List.map (λ(k:Nat)=>c.getD (fq s<|rep (aG s p) j k).toNat 0) [n+1]=[c.getD p 0] by show [c.getD (fq s<|rep (aG s p) j ((n+1:Nat):Int)).toNat 0]=_;rw[show ((n+1:Nat):Int)=(aG s p).getD j 0 by rw[hn];lia,fP _ _ xl,(li p hp).2];rfl];exact oi d _ _ Qj
 have en:nW [Z c]=some ((List.range c.length).map λ(i:Nat)=>D.tup [.int i,.int<|c.getD i 0]):=by
  show some (ko<|c.map D.int)=_;rw[qj];congr 1;refine O6 Qj λi h1 h2=>?_;have hi:i<c.length:=by simpa using h2
  simp[hi]
 obtain⟨acc,t,⟨hl,ha⟩,ht,L⟩:=bu (g:=fW [5,6]) (body:=b5) (λ(i:Nat)=>D.tup [.int i,.int<|c.getD i 0]) (λ(acc:UX)(t:Sl×Sl×Sl)=>[.sh<|.str<|nm d,.sh<|Tb s c,.sh<|.int j,.sh<|.int<|(cH s).getD j 0,.ow<|Z acc,t.1,t.2.1,t.2.2]) JN (List.range c.length) (λk acc=>acc.length=k/\acc=(List.range k).map λ(p:Nat)=>gO d s c j p) [] (.no,.no,.no) ⟨rfl,rfl,rfl⟩ ⟨rfl,rfl⟩ (by
  intro i p hi acc t ht hP;obtain⟨rfl,hp⟩:=bE hi;obtain⟨t5,t6,t7⟩:=t;obtain⟨f5,f6,f7⟩:=ht;dsimp only at f5 f6 f7;obtain⟨q1,q2⟩:=hP;have ap:=nM acc (gO d s c j p) Uz;refine⟨acc++[gO d s c j p],(.sh<|.int p,.sh<|.int<|c.getD p 0,.sh<|.bl<|decide<|(aG s p).getD j 0=0),⟨by simp[q1],by rw[q2,List.range_succ,TQ];rfl⟩,⟨rfl,rfl,rfl⟩,?_⟩;have e:fW [5,6] (.tup [.int p,.int<|c.getD p 0]) [.sh<|.str<|nm d,.sh<|Tb s c,.sh<|.int j,.sh<|.int<|(cH s).getD j 0,.ow<|Z acc,t5,t6,t7]=.ok () [.sh<|.str<|nm d,.sh<|Tb s c,.sh<|.int j,.sh<|.int<|(cH s).getD j 0,.ow<|Z acc,.sh<|.int p,.sh<|.int<|c.getD p 0,t7]:=by simp[f5,f6]
  have ix:=yy s h1 p Uz Uz;have gx:=(li p hp).1.get j hj;have eq:=eX ((aG s p).getD j 0) 0;dsimp only;rw[aF,e,ag];by_cases z:(aG s p).getD j 0=0;rw[one p hp z] at ap ⊢;rw[Qi z] at eq ⊢;generalize (aG s p).getD j 0=xj at *;generalize Tb s c=tb at *;generalize T (aG s p)=lx at *;rw[show b5 _=.ok .nx _ by unfold b5;exact ao];rfl;obtain⟨q,e1,e2,e3⟩:=more p hp z;rw[e3] at ap ⊢;rw[VY z] at eq ⊢;have su:gR (.int (p:Int)) (.int<|(cH s).getD j 0)=some (.int (q:Int)):=by rw[sP,vk s j hj,<-e1]
  have iq:aj (Z acc) (.int (q:Int))=some (.int<|gO d s c j q):=by have z:aj (Z acc) (.int (q:Int))=some (.int<|acc.getD (q:Int).toNat 0):=bV acc q Uz Uz;rw[z,Es,q2];simp[e2]
  have bo:=lj d qx.2 (gO d s c j q) (c.getD p 0)<|rts q Uz;generalize bL d (gO d s c j q) (c.getD p 0)=w at *;generalize gO d s c j q=rq at *;generalize (aG s p).getD j 0=xj at *;generalize (cH s).getD j 0=sj at *;generalize Tb s c=tb at *;generalize T (aG s p)=lx at *;rw[show b5 _=.ok .nx _ by unfold b5;exact ao];rfl)
 rw[Hh] at ha;refine⟨?_,λv hv=>?_⟩;rw[<-ha];dsimp only at L;have z0:Z []=.lst []:=rfl;rw[z0] at L;generalize (cH s).getD j 0=sj at *;generalize T (cH s)=ts at *;generalize Tb s c=tb at *;unfold BZ IF;exact rn;obtain⟨p,hp,rfl⟩:=List.mem_map.mp hv;exact rts p (List.mem_range.mp hp)
def fF{A:Type}(f:A->Vy):List A->Option (List Int)|[]=>some []|a::as=>(f a).bind λv=>(fF f as).map (v::·)
theorem jc{A:Type}{f:A->Vy}:∀{as:List A}{vs:UX},fF f as=some vs->vs.length=as.length/\as.map f=vs.map some|[],_,h=>by cases h;exact⟨rfl,rfl⟩|a::as,vs,h=>by simp only[fF] at h;cases e:f a with|none=>rw[e] at h;cases h|some v=>rw[e] at h;cases e2:fF f as with|none=>rw[e2] at h;cases h|some ws=>rw[e2] at h;cases h;obtain⟨h1,h2⟩:=jc e2;exact⟨by simp[h1],by simp[e,h2]⟩
theorem JE{A:Type}{it:M (List D)}{elt:M D}{k:Nat}{r:ax}(mk:A->D)(f:A->Vy)(x:Xn)(as:List A)(lC:it r=.ok (as.map mk) r)(hL:as.length<=16777216)
  (he:∀a∈as,∀acc,match f a with|some v=>elt (r++[.sh<|mk a,.ow acc])=.ok (.int v) (r++[.sh<|mk a,.ow acc])|none=>elt (r++[.sh<|mk a,.ow acc])=.exc x (r++[.sh<|mk a,.ow acc])) (hk:r.length=k:=by rfl) :
  match fF f as with|some vs=>aD 1 it (aq k) (ret true) elt r=.ok (Z vs) r|none=>aD 1 it (aq k) (ret true) elt r=.exc x r:=by
 cases e:fF f as with
 |some vs=>
  obtain⟨h1,h2⟩:=jc e;refine cY mk (λa=>.int<|(f a).getD 0) as lC hL ?_ (λa ha acc=>?_) hk;have:as.map (λa=>D.int<|(f a).getD 0)=(as.map f).map λo=>D.int (o.getD 0):=Qj;rw[this,h2];simp[Z,Function.comp_def];have m:f a∈vs.map some:=by rw[<-h2];exact List.mem_map.mpr ⟨a,ha,rfl⟩
  obtain⟨v,_,hv⟩:=List.mem_map.mp m;have:=he a ha acc;rw[<-hv] at this ⊢;exact this
 |none=>
  have key:∀(es:List A)(acc:Vt)(y:Sl),free (some y)=true->(∀a∈es,a∈as)->acc.length+es.length<=16777216->fF f es=none->∃q,turns (k+1) (aq k) (ret true) elt (es.map mk) (r++[y,.ow<|.lst acc])=.exc x (r++q):=by
   intro es;induction es with
   |nil=>intro _ _ _ _ _ h;cases h|cons a es ih=>
    intro acc y hy hm hl h;have g1:aq k (mk a) (r++[y,.ow<|.lst acc])=.ok () (r++[.sh<|mk a,.ow<|.lst acc]):=by have:=bS (r:=r) (xs:=[.ow<|.lst acc]) (s:=y);have:=b7 (r:=r) (xs:=[.ow<|.lst acc]) (s:=y) (s':=.sh<|mk a);rw[hk] at *;rw[ky];simp_all
    have ea:=he a (hm a R9)<|.lst acc;rw[Yk,dY,g1,ag,bT,ag,YN rfl];cases q:f a with
    |none=>rw[q] at ea;exact⟨_,by rw[ea];rfl⟩|some v=>
     rw[q] at ea;have u1:=kT (r:=r) (s:=.sh<|mk a) (acc:=acc) (x:=.int v) (by simp at hl;lia);rw[hk] at u1;have n:fF f es=none:=by simp only[fF,q] at h;cases e2:fF f es with|none=>rfl|some ws=>rw[e2] at h;cases h
     obtain⟨q2,z⟩:=ih (acc++[.int v]) (.sh<|mk a) rfl (λb hb=>hm b<|Pe _ hb) (by simp at hl ⊢;lia) n;exact⟨q2,by rw[ea,ag,u1,ag,z]⟩
  obtain⟨q,z⟩:=key as [] .no rfl (λ_ h=>h) (by simpa using hL) e;rw[iV,lC,ag];unfold inner;have e:r++List.replicate 1 Sl.no++[Sl.ow<|.lst []]=r++[.no,.ow<|.lst []]:=Qj;dsimp only;rw[e,hk,z];simp[<-hk]
theorem LM{f:M D}{as:List VP.Arg}{r r1:ax}{x:Xn}(h:f r=.exc x r1):aV (.val f::as) r=.exc x r1:=by show Tp _ _ r=_;rw[au,h];rfl
theorem Fc{f:M D}{as:List VP.Arg}{r r1 r2:ax}{d:D}{x:Xn}(h:f r=.ok d r1)(h2:aV as r1=.exc x r2):aV (.val f::as) r=.exc x r2:=by show Tp _ _ r=_;rw[au,h,ag,au,h2];rfl
theorem Nm{c:Str}{f:Fn}{as:List VP.Arg}{r r1:ax}{x:Xn}(h:aV as r=.exc x r1):jS c f as r=.exc x r1:=by rw[uP,h];rfl
section
variable{gs:V7}{ss:V7}{cs:Nat->UX}{M:D}{t:UX}
def cW(gs cl:V7):D:=.lst ((List.range gs.length).map λ(k:Nat)=>Tg (sd gs k)<|cl.getD k [])
def bW(ss:V7)(cs:Nat->UX)(cl:V7)(t:UX):PL->Option (List Int)|.given j=>some (cl.getD j.toNat [])|.run d a k=>some ((List.range (cs a).length).map λ(p:Nat)=>gO d (sd ss a) (cs a) k.toNat p)|l=>fF (λ(p:Nat)=>gF ss cs t (aG t p) l) (List.range (ah t).toNat)
def PM(ss:V7)(cs:Nat->UX)(cl gs:V7)(M:D)(t:UX)(l:PL):Prop:=match bW ss cs cl t l with|some c=>jN [l.d,T t,M,cW gs cl]=.ok (Tb t c) [M]/\Tk t c|none=>jN [l.d,T t,M,cW gs cl]=.exc NC [M]
theorem CZ{cl:V7}(hc:∀k,k<gs.length->Tk (sd gs k) (cl.getD k [])){l:PL}(hT:Told gs.length (sd gs) (sd ss) l t)(h:∀b∈l.ns,Lm ss cs M b)(ht:SI t):PM ss cs cl gs M t l:=by
 have kd:=l.kind;have Yh:=l.V2;by_cases k0:l.k=0;cases l with
 |given j=>
  obtain⟨k,rfl,hk,rfl⟩:=hT;have tk:=hc k hk;refine⟨?_,tk⟩;have ig:aj (cW gs cl) (.int (k:Int))=some (Tg (sd gs k)<|cl.getD k []):=by show (mj ((List.range gs.length).map _).length (k:Int)).bind _=_;rw[mj,YN Uz,YN (by simp;lia)];simp[hk]
  have tc:=UU (sd gs k)<|cl.getD k [];have tn:=jz tk;show jN [.tup [.str<|nm 0,.int k],T<|sd gs k,M,cW gs cl]=FR.ok (Tb (sd gs k)<|cl.getD k []) [M];generalize Tb (sd gs k) (cl.getD k [])=tb at *;generalize Tg (sd gs k) (cl.getD k [])=tg at *;generalize cW gs cl=gt at *;unfold jN tP;exact rn
 |_=>simp[PL.k] at k0
 by_cases V1:l.k=13;cases l with|run d a k=>obtain⟨j,rfl,hj,hd,rfl⟩:=hT;obtain⟨i1,ta⟩:=h a (by simp[PL.ns]);obtain⟨rc,rr⟩:=Am d hd ta j hj;have tk:Tk (sd ss a) ((List.range (cs a).length).map λ(p:Nat)=>gO d (sd ss a) (cs a) j p):=⟨ta.1,by rw[VE,Hh];exact ta.2.1,rr⟩;refine⟨?_,tk⟩;have tn:=jz tk;show jN [.tup [.str<|nm 13,.str<|nm d,.int a,.int j],T<|sd ss a,M,cW gs cl]=FR.ok (Tb (sd ss a)<|(List.range (cs a).length).map λ(p:Nat)=>gO d (sd ss a) (cs a) j p) [M];generalize (List.range (cs a).length).map (λ(p:Nat)=>gO d (sd ss a) (cs a) j p)=c at *;generalize Tb (sd ss a) (cs a)=ta at *;generalize Tb (sd ss a) c=tb at *;generalize cW gs cl=gt at *;unfold jN tP;exact rn|_=>simp[PL.k] at V1
 have ne:∀j,j<32->l.k≠j->dP (.str<|nm l.k) (.str<|nm j)=some (.bl false):=λj hj h=>by rw[EJ _ _ Uz hj,VY h]
 have n0:=ne 0 Uz k0;have n13:=ne 13 Uz V1;have Qm:=ht.2.2;have p0:=ht.uZ;obtain⟨n,hn⟩:∃n:Nat,ah t=n:=⟨(ah t).toNat,Uz⟩;have s0:∀y∈t,0<=y:=λy hy=>(ht.2.1 y hy).1;have ix:=indexes t ht n hn;have el:bW ss cs cl t l=fF (λ(p:Nat)=>gF ss cs t (aG t p) l) (List.range n):=by rw[show n=(ah t).toNat by rw[hn];rfl];cases l<;>first|rfl|exact absurd rfl k0|exact absurd rfl V1
 have pc:∀p∈List.range n,PC ss cs M t (aG t p) l:=λp hp=>Q1Z hT h ht (jn t (p:Nat) s0 (by have:=List.mem_range.mp hp;lia)).1 ⟨k0,V1⟩;have cx:=JE (k:=4) (it:=cR<|aw xZ [.val<|aa 1]) (elt:=bU) (r:=[.sh l.d,.sh<|T t,.io M,.sh<|cW gs cl]) (λ(p:Nat)=>T<|aG t p) (λ(p:Nat)=>gF ss cs t (aG t p) l) NC (List.range n) (by
   generalize l.d=ld at *;exact ao) (by simp;lia) λp hp acc=>by
  have:=pc p hp;unfold PC at this;cases e:gF ss cs t (aG t p) l with|some v=>rw[e] at this;have c1:=this.1;show bU [.sh l.d,.sh<|T t,.io M,.sh<|cW gs cl,.sh<|T<|aG t p,.ow acc]=.ok (.int v) [.sh l.d,.sh<|T t,.io M,.sh<|cW gs cl,.sh<|T<|aG t p,.ow acc];generalize l.d=ld at *;unfold bU;exact ao|none=>rw[e] at this;have c1:eD [l.d,T t,M,T<|aG t p]=.exc NC [M]:=this;show bU [.sh l.d,.sh<|T t,.io M,.sh<|cW gs cl,.sh<|T<|aG t p,.ow acc]=.exc NC [.sh l.d,.sh<|T t,.io M,.sh<|cW gs cl,.sh<|T<|aG t p,.ow acc];generalize l.d=ld at *;unfold bU;exact ro ao rfl rfl c1 rfl
 unfold PM;rw[el];cases e:fF (λ(p:Nat)=>gF ss cs t (aG t p) l) (List.range n) with
 |some c=>
  rw[e] at cx;obtain⟨h1,h2⟩:=jc e;have tk:Tk t c:=⟨ht,by rw[h1,Hh,hn],λv hv=>by
   have m:some v∈(List.range n).map λ(p:Nat)=>gF ss cs t (aG t p) l:=by rw[h2];exact List.mem_map.mpr ⟨v,hv,rfl⟩
   obtain⟨p,hp,e2⟩:=List.mem_map.mp m;have:=pc p hp;unfold PC at this;rw[e2] at this;exact this.2⟩
  refine⟨?_,tk⟩;have tn:=jz tk;dsimp only at cx;generalize Tb t c=tb at *;generalize l.d=ld at *;generalize cW gs cl=gt at *;unfold jN tP;exact rn
 |none=>rw[e] at cx;dsimp only at cx;show jN [l.d,T t,M,cW gs cl]=.exc NC [M];generalize l.d=ld at *;generalize cW gs cl=gt at *;refine Fz rfl (r0:=[.sh ld,.sh<|T t,.io M,.sh gt]) rfl (r:=[.sh ld,.sh<|T t,.io M,.sh gt]) ?_ rfl;unfold tP;exact oB ao (oB ao<|vj<|Li<|Nm<|Fc ao<|LM cx)
end
def cj(os:List (Option<|List Int))(a:Nat):UX:=(os.getD a none).getD []
theorem Bu{os:List (Option<|List Int)}{o:Option (List Int)}{a:Nat}(h:a<os.length):cj (os++[o]) a=cj os a:=by simp[cj,zF h]
def fT(s:UX):Option (List Int)->D|none=>.aP|some c=>Tb s c
def Md(ss:V7)(os:List (Option<|List Int)):D:=.lst ((List.range os.length).map λ(a:Nat)=>fT (sd ss a)<|os.getD a none)
theorem QR(ss:V7)(os:List (Option<|List Int))(o:Option (List Int))(h:os.length<=100):df (fT (sd ss os.length) o) (Md ss os)=some (Md ss<|os++[o]):=by show (if ((List.range os.length).map _).length<16777216 then _ else _)=_;rw[YN (by simp;lia)];unfold Md;rw[rL,show [o].length=1 from rfl,List.range_succ,TQ];congr 3;refine List.map_congr_left λa ha=>?_;have ha:=List.mem_range.mp ha;simp[zF ha];simp
theorem ixM(ss:V7)(os:List (Option<|List Int))(a:Nat)(h:a<os.length):aj (Md ss os) (.int (a:Int))=some (fT (sd ss a)<|os.getD a none):=by show (mj ((List.range os.length).map _).length (a:Int)).bind _=_;rw[mj,YN Uz,YN (by simp;lia)];simp[h]
theorem F4{g:D->M Unit}{body:M Fl}{d:D}{ds:Vt}{r r1:ax}(h:aF g body d r=.ok .nx r1):loop g body (d::ds) r=loop g body ds r1:=by rw[gJ];rw[aF] at h;cases z:g d r with|ok _ r=>rw[z,ag] at h;rw[ag,h];rfl|exc _ _=>rw[z] at h;cases h|no=>rw[z] at h;cases h
theorem zZ{S Tm A:Type}{g:D->M Unit}{body:M Fl}(mk:A->D)(R:S->Tm->ax)(ok:Tm->Prop)(x:Xn):∀(as:List A)(P Q:Nat->S->Prop)(s:S)(t:Tm),ok t->P 0 s ->
  (∀(i:Nat)(a:A),as[i]?=some a->∀s t,ok t->P i s->(∃s' t',P (i+1) s'/\ok t'/\aF g body (mk a) (R s t)=.ok .nx (R s' t'))\/(Q i s/\∃t',ok t'/\aF g body (mk a) (R s t)=.exc x (R s t'))) ->
  (∃s' t',P as.length s'/\ok t'/\loop g body (as.map mk) (R s t)=.ok .nx (R s' t'))\/∃i s' t',i<as.length/\P i s'/\Q i s'/\ok t'/\loop g body (as.map mk) (R s t)=.exc x (R s' t'):=by
 intro as;induction as with
 |nil=>intro P Q s t ht hs _;exact .inl ⟨s,t,hs,ht,rfl⟩|cons a as ih=>
  intro P Q s t ht hs h;rcases h 0 a rfl s t ht hs with ⟨s1,t1,p1,o1,e1⟩|⟨q,t1,o1,e⟩
  have tl:=F4 (ds:=as.map mk) e1;rw[Yk,tl];rcases ih (λk=>P<|k+1) (λk=>Q<|k+1) s1 t1 o1 p1 λi a' ha=>h (i+1) a' (by simpa using ha) with z|⟨i,s',t',h1,h2⟩;exact .inl z;exact .inr ⟨i+1,s',t',by simpa using h1,h2⟩;exact .inr ⟨0,s,t1,Qj,hs,q,o1,by rw[Yk];exact CJ e⟩
theorem QT{i:Nat}{f:M D}{r r1:ax}{x:Xn}(h0:isLst (own r[i]?)=true)(h:f r=.exc x r1):jJ i f r=.exc x r1:=by rw[yW,YN h0,h];rfl
theorem UB{i:Nat}{f:M D}{r r1:ax}{x:Xn}(h:f r=.exc x r1):aM i f r=.exc x r1:=by rw[y4,h];rfl
theorem R5{it:M (List D)}{g:D->M Unit}{b:M Fl}{r r1 r2:ax}{ds:Vt}{x:Xn}(h:it r=.ok ds r1)(h2:loop g b ds r1=.exc x r2):iY it g b r=.exc x r2:=by rw[yX,h];exact h2
theorem vS{ss:V7}{cs RM:Nat->UX}{t x:UX}{l:PL}(e:∀a∈l.ns,RM a=cs a):gF ss RM t x l=gF ss cs t x l:=by cases l<;>simp_all [gF,cw,cv,PL.ns]
theorem j4{ss:V7}{cs RM:Nat->UX}{cl:V7}{t:UX}{l:PL}(e:∀a∈l.ns,RM a=cs a):bW ss RM cl t l=bW ss cs cl t l:=by have ec:=λx=>vS (ss:=ss) (t:=t) (x:=x) e;cases l with|given=>rfl|run d a k=>have:=e a (by simp[PL.ns]);simp only[bW,this]|_=>simp only[bW,ec]
theorem Q1K{gs cl:V7}(hg:gs.length<=50)(p:D):aD 1 (cR<|aa 1) (aq 7) (VP.ret true) fZ [.sh p,.sh<|cW gs cl,.no,.no,.no,.no,.no]=.ok (aW gs) [.sh p,.sh<|cW gs cl,.no,.no,.no,.no,.no]:=by
 have sq:b6 (cW gs cl)=some ((List.range gs.length).map λ(k:Nat)=>Tg (sd gs k)<|cl.getD k []):=rfl;refine cY (λ(k:Nat)=>Tg (sd gs k)<|cl.getD k []) (λk=>T<|sd gs k) (List.range gs.length) ?_ (by simp;lia) ?_ λk hk acc=>?_;generalize cW gs cl=gt at *;exact ao;unfold aW;congr 1;refine O6 Qj λi h1 h2=>?_;have hi:i<gs.length:=by simpa using h2
 simp[sd,hi];have b1:=UW (sd gs k)<|cl.getD k [];generalize Tg (sd gs k) (cl.getD k [])=tb at *;unfold fZ;exact ao
section
variable{gs:V7}{ls:RY}{ss:V7}{ix_:Nat}(g:Gd gs ls ss ix_)(rA:ls.length<=14){cl:V7}(hc:∀k,k<gs.length->Tk (sd gs k) (cl.getD k []))
def nF(ls:RY)(ss cl:V7)(k:Nat)(os:List (Option<|List Int)):Prop:=os.length=k/\∀j,j<k->(mW ls j->∃c,os[j]?=some (some c)/\bW ss (cj os) cl (sd ss j) (a8 ls j)=some c/\Tk (sd ss j) c)/\(¬mW ls j->os[j]?=some none)
include g
theorem nF.more{k:Nat}{os:List (Option<|List Int)}(h:nF ls ss cl k os)(hk:k<ls.length){o:Option (List Int)}(h1:mW ls k->∃c,o=some c/\bW ss (cj os) cl (sd ss k) (a8 ls k)=some c/\Tk (sd ss k) c)(h2:¬mW ls k->o=none):nF ls ss cl (k+1) (os++[o]):=by
 have mo:∀j,j<=k->bW ss (cj<|os++[o]) cl (sd ss j) (a8 ls j)=bW ss (cj os) cl (sd ss j) (a8 ls j):=λj hj=>j4 λa ha=>Bu (by have:=qI g (show j<ls.length by lia) ha;have:=h.1;lia);refine⟨by simp[h.1],λj hj=>?_⟩;by_cases z:j=k;subst z;have e:(os++[o])[j]?=some o:=by simp[<-h.1]
 refine⟨λr=>?_,λr=>by rw[e,h2 r]⟩;obtain⟨c,rfl,l,t⟩:=h1 r;exact⟨c,e,by rw[mo j<|Wd _];exact l,t⟩;have e:(os++[o])[j]?=os[j]?:=zF (by have:=h.1;lia);rw[e,mo j Uz];exact h.2 j Uz
theorem nF.lm{k:Nat}{os:List (Option<|List Int)}(h:nF ls ss cl k os)(hk:k<ls.length)(hr:mW ls k){b:Nat}(hb:b∈(a8 ls k).ns):Lm ss (cj os) (Md ss os) b:=by
 have hl:=qI g hk hb;obtain⟨c,e,_,t⟩:=(h.2 b hl).1<|.step hr (m8 hk) hb;have e2:os.getD b none=some c:=by rw[mG,e];rfl
 have e3:cj os b=c:=by unfold cj;rw[e2];rfl
 refine⟨?_,by rw[e3];exact t⟩;rw[ixM ss os b (by have:=h.1;lia),e2,e3];rfl
include rA hc
theorem yO(hg:gs.length<=50):(∃os,nF ls ss cl ls.length os/\nZ [Pg ls,cW gs cl]=.ok (Tb (sd ss<|ls.length-1)<|cj os<|ls.length-1) [])\/∃k os,k<ls.length/\nF ls ss cl k os/\(mW ls k/\bW ss (cj os) cl (sd ss k) (a8 ls k)=none)/\nZ [Pg ls,cW gs cl]=.exc NC []:=by
 have hn:=List.length_pos_iff.mpr g.ne;have YL:=g.len;have e1:=vg gs ls ss ix_ g rA;obtain⟨w,e2,wl,hw⟩:=AD ls g.wf g.ne Uz;have en:nW [Pg ls]=some ((List.range ls.length).map λ(i:Nat)=>D.tup [.int i,(a8 ls i).d]):=by rw[<-xW];rfl
 have cm:=Q1K (cl:=cl) hg<|Pg ls;have L:=zZ (g:=fW [5,6]) (body:=aZ) (λ(i:Nat)=>D.tup [.int i,(a8 ls i).d]) (λ(os:List (Option<|List Int))(t:Sl×Sl)=>[.sh<|Pg ls,.sh<|cW gs cl,.sh<|aW ss,.sh<|nA w,.ow<|Md ss os,t.1,t.2]) mf NC (List.range ls.length) (nF ls ss cl) (λk os=>mW ls k/\bW ss (cj os) cl (sd ss k) (a8 ls k)=none) [] (.no,.no) ⟨rfl,rfl⟩ ⟨rfl,λj hj=>absurd hj Uz⟩ (by
  intro i k hk os t ht hP;obtain⟨rfl,hk⟩:=bE hk;obtain⟨t5,t6⟩:=t;obtain⟨f5,f6⟩:=ht;dsimp only at f5 f6;have e:fW [5,6] (.tup [.int (k:Int),(a8 ls k).d]) [.sh<|Pg ls,.sh<|cW gs cl,.sh<|aW ss,.sh<|nA w,.ow<|Md ss os,t5,t6]=.ok () [.sh<|Pg ls,.sh<|cW gs cl,.sh<|aW ss,.sh<|nA w,.ow<|Md ss os,.sh<|.int k,.sh (a8 ls k).d]:=by simp[f5,f6]
  have ol:=hP.1;dsimp only;rw[aF,e,ag];obtain⟨b,hb⟩:∃b,w[k]?=some b:=⟨_,Te (by rw[wl];exact hk)⟩;have bi:=xK w k b hb;have i2:=bR ss k Uz;cases b with
  |false=>
   have nr:¬mW ls k:=λz=>by have:=(hw k).mpr z;rw[hb] at this;cases this
   have ap:=QR ss os none Uz;rw[ol] at ap;refine .inl ⟨os++[none],(.sh<|.int k,.sh (a8 ls k).d),hP.more g hk (λz=>absurd z nr) λ_=>rfl,⟨rfl,rfl⟩,?_⟩;have ap:df .aP (Md ss os)=some (Md ss<|os++[none]):=ap;generalize (a8 ls k).d=ld at *;generalize cW gs cl=gt at *;rw[show aZ _=.ok .nx _ by unfold aZ;exact ao]
  |true=>have hr:=(hw k).mp hb;have pm:=CZ (cs:=cj os) (M:=Md ss os) hc (kS g hk) (λb hb=>hP.lm g hk hr hb)<|y5 g hk;unfold PM at pm;cases q:bW ss (cj os) cl (sd ss k) (a8 ls k) with|some c=>rw[q] at pm;obtain⟨m1,m2⟩:=pm;have ap:=QR ss os (some c) Uz;rw[ol] at ap;have ap:df (Tb (sd ss k) c) (Md ss os)=some (Md ss<|os++[some c]):=ap;refine .inl ⟨os++[some c],(.sh<|.int k,.sh (a8 ls k).d),hP.more g hk (λ_=>⟨c,rfl,q,m2⟩) λz=>absurd hr z,⟨rfl,rfl⟩,?_⟩;generalize (a8 ls k).d=ld at *;generalize Tb (sd ss k) c=tb at *;generalize cW gs cl=gt at *;rw[show aZ _=.ok .nx _ by unfold aZ;exact ao]|none=>rw[q] at pm;have m1:jN [(a8 ls k).d,T<|sd ss k,Md ss os,cW gs cl]=.exc NC [Md ss os]:=pm;refine .inr ⟨⟨hr,rfl⟩,(.sh<|.int k,.sh (a8 ls k).d),⟨rfl,rfl⟩,?_⟩;generalize (a8 ls k).d=ld at *;generalize cW gs cl=gt at *;unfold aZ;exact vj<|QT rfl<|C4 (t:=true) ao<|ro ao rfl rfl m1 rfl)
 have z0:Md ss []=.lst []:=rfl;rcases L with ⟨os,t,hP,ht,L⟩|⟨k,os,t,hk,hP,hQ,ht,L⟩
 rw[Hh] at hP;refine .inl ⟨os,hP,?_⟩;obtain⟨c,h1,_,_⟩:=(hP.2 (ls.length-1) Uz).1 .last;have e3:os.getD (ls.length-1) none=some c:=by rw[mG,h1];rfl
 have e4:cj os (ls.length-1)=c:=by unfold cj;rw[e3];rfl
 have im:aj (Md ss os) (.int<|-1)=some (Tb (sd ss<|ls.length-1)<|cj os<|ls.length-1):=by have ol:=hP.1;show (mj ((List.range os.length).map _).length<|-1).bind _=_;rw[VE,Hh,ol,mj,YO Uz,YN Uz,show (-1+(ls.length:Int)).toNat=ls.length-1 by lia,e4];simp only[Option.bind_some,List.getElem?_map];rw[El Uz];show some (fT (sd ss<|ls.length-1)<|os.getD (ls.length-1) none)=_;rw[e3];rfl
 dsimp only at L;rw[z0] at L;generalize Tb (sd ss<|ls.length-1) (cj os<|ls.length-1)=tb at *;generalize cW gs cl=gt at *;unfold nZ Ba;exact rn;rw[Hh] at hk;refine .inr ⟨k,os,hk,hP,hQ,?_⟩;dsimp only at L;rw[z0] at L;generalize cW gs cl=gt at *;refine Fz rfl (r0:=[.sh<|Pg ls,.sh gt,.no,.no,.no,.no,.no]) rfl (r:=[.sh<|Pg ls,.sh gt,.sh<|aW ss,.sh<|nA w,.ow<|Md ss os,t.1,t.2]) ?_ rfl;unfold Ba;exact qV (r1:=[.sh<|Pg ls,.sh gt,.sh<|aW ss,.no,.no,.no,.no]) ao (qV (r1:=[.sh<|Pg ls,.sh gt,.sh<|aW ss,.sh<|nA w,.no,.no,.no]) ao<|qV (r1:=[.sh<|Pg ls,.sh gt,.sh<|aW ss,.sh<|nA w,.ow<|.lst [],.no,.no]) ao<|vj<|R5 ao L)
end
theorem CD(d:Nat)(hd:16<=d/\d<=18)(x:Int):BU [.str<|nm d,.int x]=.ok (.int<|oR d x) []:=by
 have h:d=16\/d=17\/d=18:=Uz;unfold BU Ip;rcases h with rfl|rfl|rfl;have m:eJ (.int<|1000003-x) (.int 1000003)=some (.int<|oR 16 x):=Kk _;exact rn;have m:=m2_ x;exact rn;have i:=jk<|decide<|x=0;have j:aj (.lst [.int 0,.int 1]) (.int<|if decide (x=0)=true then 1 else 0)=some (.int<|oR 18 x):=by show _=some (D.int<|if x=0 then 1 else 0);by_cases c:x=0<;>simp[c]<;>rfl
 exact rn
theorem qD(d:Nat)(hd:19<=d/\d<=25)(x y:Int)(hx:Rt x):BQ [.str<|nm d,.int x,.int y]=.ok (.int<|bL d x y) []:=by
 have h:d=19\/d=20\/d=21\/d=22\/d=23\/d=24\/d=25:=Uz;have bb:∀p q:Bool,dP (.bl p) (.bl q)=some (.bl<|decide<|p=q):=λp q=>by cases p<;>cases q<;>rfl
 have mu:=jq x y (by have:=hx.1;lia) (by have:=hx.2;lia);unfold BQ Ie;rcases h with rfl|rfl|rfl|rfl|rfl|rfl|rfl;have m:eJ (.int<|x+y) (.int 1000003)=some (.int<|bL 19 x y):=Kk _;exact rn;have m:eJ (.int<|x+1000003-y) (.int 1000003)=some (.int<|bL 20 x y):=Kk _;exact rn;have m:eJ (.int<|x*y) (.int 1000003)=some (.int<|bL 21 x y):=Kk _;exact rn;have e:=bb true<|decide<|x<y;show _=FR.ok (.int<|if decide (22=22)=decide (x<y) then x else y) _;by_cases c:x<y;have l:=Ki c;rw[Qi c] at e ⊢;exact rn;have l:=Kh c;rw[VY c] at e ⊢;exact rn;have e:=bb false<|decide<|x<y;show _=FR.ok (.int<|if decide (23=22)=decide (x<y) then x else y) _;by_cases c:x<y;have l:=Ki c;rw[Qi c] at e ⊢;exact rn;have l:=Kh c;rw[VY c] at e ⊢;exact rn;have i:=jk<|decide<|x<y;have j:aj (.lst [.int 0,.int 1]) (.int<|if decide (x<y)=true then 1 else 0)=some (.int<|bL 24 x y):=by show _=some (D.int<|if x<y then 1 else 0);by_cases c:x<y<;>simp[c]<;>rfl
 exact rn;have i:=jk<|decide<|x=y;have j:aj (.lst [.int 0,.int 1]) (.int<|if decide (x=y)=true then 1 else 0)=some (.int<|bL 25 x y):=by show _=some (D.int<|if x=y then 1 else 0);by_cases c:x=y<;>simp[c]<;>rfl
 exact rn
theorem Q2F(s:UX)(h:SI s)(h0:0<ah s)(p:Int):yb [T s,.int p]=.ok (T<|aG s p) []:=by
 have hl:=h.1;have ps:=wV (λy hy=>(h.2.1 y hy).1) h0;have er:=hZ s.length Uz;obtain⟨x,t,⟨h1,h2⟩,ht,L⟩:=bu (g:=aq 3) (body:=hK) (λ(k:Nat)=>D.int k) (λ(x:UX)(t:Sl×Sl)=>[.sh<|T s,.sh<|.int p,.sh<|T x,t.1,t.2]) mf (List.range s.length) (λk x=>x.length=k/\x++aG (s.drop k) p=aG s p) [] (.no,.no) ⟨rfl,rfl⟩ ⟨rfl,rfl⟩ (by
  intro i k hk x t ht hP;obtain⟨rfl,hk⟩:=bE hk;obtain⟨t3,t4⟩:=t;obtain⟨f3,f4⟩:=ht;obtain⟨h1,h2⟩:=hP;dsimp only at f3 f4;rw[xV s k hk] at h2;have c:=Bx s k hk;have ce:=ly (s.drop<|k+1) ⟨by simp;lia,λy hy=>by have:=h.2.1 y<|zW hy;lia⟩;have hp:0<ah (s.drop<|k+1):=oT λy hy=>ps y<|zW hy;have hq:=(h.sd.drop<|k+1).prod.2;have hv:0<s.getD k 0:=ps _ (by rw[gD _ _ hk];exact NM hk);have i1:=dA s k hk;have d1:=gI p _ hp Uz;have d2:=cE (p / ah (s.drop<|k+1)) _ hv;have a1:bq (T x) (.tup [.int<|p / ah (s.drop<|k+1) % s.getD k 0])=some (T<|x++[p / ah (s.drop<|k+1) % s.getD k 0]):=bZ _ [_] (by simp[gU];lia);refine⟨x++[p / ah (s.drop<|k+1) % s.getD k 0],(.sh<|.int k,.sh<|.int<|ah<|s.drop<|k+1),⟨by simp[h1],by rw[<-h2];simp[aG]⟩,⟨rfl,rfl⟩,?_⟩;have e:aq 3 (.int (k:Int)) [.sh<|T s,.sh<|.int p,.sh<|T x,t3,t4]=.ok () [.sh<|T s,.sh<|.int p,.sh<|T x,.sh<|.int k,t4]:=by simp[f3]
  dsimp only;generalize s.getD k 0=v at *;generalize s.drop (k+1)=s' at *;generalize T s=Ts at *;rw[aF,e,ag,show hK _=.ok .nx _ by unfold hK;exact ao];rfl)
 rw[Hh,List.drop_length] at h2;have h2:x=aG s p:=by simpa[aG] using h2
 subst h2;dsimp only at L;have z0:T []=.tup []:=rfl;rw[z0] at L;unfold yb Ik;exact rn
theorem O7(s c x:UX)(h:SI s)(hl:(c.length:Int)=ah s)(hn:s.length<=x.length)(hx:x.length<=100)(hi:Ix s (cG s x)):nY [.tup [T s,Z c],T x]=.ok (.int<|c.getD (fq s<|cG s x).toNat 0) []:=by
 have er:=hZ s.length Uz;have pl:=hi.place λy hy=>(h.2.1 y hy).1;have sl:=pz s x hn;have look:BS [T s,Z c,T x]=.ok (.int<|c.getD (fq s<|cG s x).toNat 0) []:=by
  obtain⟨v,t,hP,ht,L⟩:=bu (g:=aq 4) (body:=eH) (λ(k:Nat)=>D.int k) (λ(v:Int)(t:Sl×Sl)=>[.sh<|T s,.sh<|Z c,.sh<|T x,.sh<|.int v,t.1,t.2]) mf (List.range s.length) (λk v=>v*ah (s.drop k)+fq (s.drop k) ((cG s x).drop k)=fq s (cG s x)) 0 (.no,.no) ⟨rfl,rfl⟩ Qj (by
   intro i k hk v t ht hP;obtain⟨rfl,hk⟩:=bE hk;obtain⟨t4,t5⟩:=t;obtain⟨f4,f5⟩:=ht;dsimp only at f4 f5;rw[xV s k hk,xV (cG s x) k Uz,sO s x hn k hk] at hP;have i1:=dA s k hk;have i2:=dA x (x.length-s.length+k) Uz;rw[show ((x.length-s.length+k:Nat):Int)=(x.length:Int)-s.length+k by lia] at i2;have hs:=h.get k;have mu:=cU v (s.getD k 0) Uz Uz;have e:aq 4 (.int (k:Int)) [.sh<|T s,.sh<|Z c,.sh<|T x,.sh<|.int v,t4,t5]=.ok () [.sh<|T s,.sh<|Z c,.sh<|T x,.sh<|.int v,.sh<|.int k,t5]:=by simp[f4]
   have hP:v*(s.getD k 0*ah (s.drop<|k+1))+((if s.getD k 0=1 then 0 else x.getD (x.length-s.length+k) 0)*ah (s.drop<|k+1)+fq (s.drop<|k+1) ((cG s x).drop<|k+1))=_:=hP;rw[<-Int.mul_assoc,<-Int.add_assoc,<-Int.add_mul] at hP;have eq:=eX (s.getD k 0) 1;by_cases q:s.getD k 0=1;rw[YN q] at hP;rw[Qi q] at eq;refine⟨_,(.sh<|.int k,.sh<|.int 0),hP,⟨rfl,rfl⟩,?_⟩;dsimp only;generalize s.getD k 0=u at *;generalize x.getD (x.length-s.length+k) 0=y at *;rw[aF,e,ag,show eH _=.ok .nx _ by unfold eH;exact ao];rfl;rw[YO q] at hP;rw[VY q] at eq;refine⟨_,(.sh<|.int k,.sh<|.int<|x.getD (x.length-s.length+k) 0),hP,⟨rfl,rfl⟩,?_⟩;dsimp only;generalize s.getD k 0=u at *;generalize x.getD (x.length-s.length+k) 0=y at *;rw[aF,e,ag,show eH _=.ok .nx _ by unfold eH;exact ao];rfl)
  dsimp only at L;have hv:v=fq s (cG s x):=by
   rw[Hh,List.drop_length,List.drop_of_length_le Uz] at hP;have hP:v*1+0=_:=hP
   lia
  subst hv;have i:aj (Z c) (.int<|fq s<|cG s x)=some (.int<|c.getD (fq s<|cG s x).toNat 0):=bV c _ pl.1 Uz;generalize c.getD (fq s<|cG s x).toNat 0=y at *;generalize fq s (cG s x)=v at *;unfold BS Im;exact rn
 have p1:=Xe (T s)<|Z c;have p2:=YQ (T s)<|Z c;generalize D.tup [T s,Z c]=d at *;unfold nY Ir;exact rn
theorem v9(d:Nat)(xs:UX)(k:Nat)(hk:k<xs.length):aR d (xs.take<|k+1)=if k=0 then xs.getD k 0 else bL d (aR d<|xs.take k) (xs.getD k 0):=by rw[List.take_add_one,Te hk,gD _ _ hk];by_cases q:k=0;subst q;simp[aR];rw[YO q];exact oi d _ _ (λz=>by have:=congrArg List.length z;rw[Eh,List.length_nil] at this;lia)
theorem qv(d:Nat)(hd:d∈[19,21,22,23])(xs:UX)(hx:∀x∈xs,Rt x)(hl:xs.length<=1000):BR [.str<|nm d,Z xs]=.ok (.int<|aR d xs) []:=by
 have qx:d<32/\19<=d/\d<=25:=by simp at hd;lia
 have er:=hZ xs.length hl;have e0:=EJ d 21 qx.1 Uz;have i0:=jk<|decide<|d=21;rw[show (if decide (d=21)=true then(1:Int) else 0)=aR d (xs.take 0) by simp[aR]] at i0;obtain⟨v,t,hP,ht,L⟩:=bu (g:=aq 3) (body:=cB) (λ(k:Nat)=>D.int k) (λ(v:Int)(t:Sl)=>[.sh<|.str<|nm d,.sh<|Z xs,.sh<|.int v,t]) kv (List.range xs.length) (λk v=>v=aR d (xs.take k)) (aR d<|xs.take 0) .no rfl rfl (by
  intro i k hk v t ht hP;obtain⟨rfl,hk⟩:=bE hk;have hf:free (some t)=true:=ht;have i1:aj (Z xs) (.int (k:Int))=some (.int<|xs.getD k 0):=by have:=bV xs k Uz Uz;rwa [Es] at this
  have e:aq 3 (.int (k:Int)) [.sh<|.str<|nm d,.sh<|Z xs,.sh<|.int v,t]=.ok () [.sh<|.str<|nm d,.sh<|Z xs,.sh<|.int v,.sh<|.int k]:=by simp[hf]
  have eq:=eX (k:Int) 0;have ft:=v9 d xs k hk;refine⟨aR d<|xs.take<|k+1,.sh<|.int k,rfl,rfl,?_⟩;by_cases q:k=0;rw[Qi Uz] at eq;rw[YN q] at ft;rw[ft];have i2:aj (Z xs) (.int 0)=some (.int<|xs.getD k 0):=by rw[q] at i1 ⊢;exact i1
  generalize xs.getD k 0=u at *;generalize Z xs=zx at *;rw[aF,e,ag,show cB _=.ok .nx _ by unfold cB;exact ao];rfl;rw[VY Uz] at eq;rw[YO q,<-hP] at ft;have lb:=qD d qx.2 v (xs.getD k 0)<|hP ▸ sG d λv hv=>hx v<|A0 hv;rw[<-ft] at lb;generalize aR d (xs.take<|k+1)=u at *;generalize xs.getD k 0=y at *;generalize Z xs=zx at *;rw[aF,e,ag,show cB _=.ok .nx _ by unfold cB;exact ao];rfl)
 rw[Hh,List.take_length] at hP;subst hP;generalize aR d (xs.take 0)=y at *;have ln:=wt xs;generalize aR d xs=v at *;generalize Z xs=zx at *;unfold BR Ij;exact rn
theorem PL.reads(l:PL):qp [l.d]=.ok (.lst<|l.ns.map λa=>D.int (a:Nat)) []:=by cases l<;>kernel_rfl!
theorem uU:∀(n:Nat)(xs:YK),xs.Nodup->(∀x∈xs,x<n)->xs.length<=n
|0,xs,_,h=>by cases xs with|nil=>simp|cons x xs=>exact absurd (h x R9) Uz
|n+1,xs,nd,h=>by
 have h1:=uU n (xs.erase n) (nd.erase n) (λx hx=>by
  have:=(List.Nodup.mem_erase_iff nd).mp hx;have:=h x this.2
  lia)
 have:=List.length_erase (a:=n) (l:=xs);split at this<;>lia
theorem Fb(k:Nat)(ks:YK):((ks.map λk=>D.int (k:Nat)).any λy=>eqB y<|.int (k:Nat))=decide (k∈ks):=by induction ks with|nil=>simp|cons x ks ih=>rw[Yk,HA,ih,ug];by_cases h:x=k;simp[h];have:¬(x:Int)=(k:Int):=Uz;have h':¬k=x:=λz=>h z.symm;simp[this,h']
theorem zK(ks:YK):(ks.map λk=>D.int (k:Nat)).all gj=true:=by rw[List.all_eq_true];intro d hd;obtain⟨k,_,rfl⟩:=List.mem_map.mp hd;rfl
theorem Cr(neg:Bool)(k:Nat)(ks:YK):inD neg (.int (k:Int)) (eU ks)=some (.bl<|if neg then !decide (k∈ks) else decide (k∈ks)):=by unfold inD eU;rw[DT];dsimp only;rw[zK,Fb];rfl
def gX(s:List Nat×List Nat)(p:Nat):List Nat×List Nat:=if p∈s.1 then s else(s.1++[p],s.2++[p])
structure PX(ls:RY)(bh ahead:YK):Prop where
 nd:bh.Nodup
 rc:∀x∈bh,mW ls x
 la:ls.length-1∈bh
 sub:∀x∈ahead,x∈bh
 cl:∀i∈bh,i∉ahead->∀l,ls[i]?=some l->∀r∈l.ns,r∈bh
theorem PX.le{ls:RY}{bh ahead:YK}(h:PX ls bh ahead)(wf:Wf ls)(h0:ls≠[]):bh.length<=ls.length:=uU _ _ h.nd λx hx=>(h.rc x hx).lt wf h0
theorem C8(ks:YK)(k:Nat)(h:ks.length<=1000):df (.int (k:Int)) (eU ks)=some (eU<|ks++[k]):=by unfold eU;rw[gY _ _ (by simp;lia),TQ];rfl
theorem nH(P:D):∀(ns:YK)(bh ahead:YK),bh.length+ns.length<=1000->ahead.length+ns.length<=1000->∀t,free (some t)=true->∃t',free (some t')=true/\loop (aq 3) d8 (ns.map λk=>D.int (k:Nat)) [.sh P,.ow<|eU bh,.ow<|eU ahead,t]=.ok .nx [.sh P,.ow<|eU (ns.foldl gX (bh,ahead)).1,.ow<|eU (ns.foldl gX (bh,ahead)).2,t']
|[],bh,ahead,_,_,t,ht=>⟨t,ht,rfl⟩|r::ns,bh,ahead,h1,h2,t,ht=>by simp only[List.length_cons] at h1 h2;have ind:=Cr true r bh;have il:∀w,isLst (some<|eU w)=true:=λ_=>rfl;have a1:=C8 bh r Uz;have a2:=C8 ahead r Uz;by_cases q:r∈bh;obtain⟨t',k1,k2⟩:=nH P ns bh ahead Uz Uz (.sh<|.int r) rfl;refine⟨t',k1,?_⟩;rw[Yk,fm (r':=[.sh P,.ow<|eU bh,.ow<|eU ahead,.sh<|.int r]) (by simp[aF,d8,ht,ind,q]),k2];simp[gX,q];obtain⟨t',k1,k2⟩:=nH P ns (bh++[r]) (ahead++[r]) (by simp;lia) (by simp;lia) (.sh<|.int r) rfl;refine⟨t',k1,?_⟩;rw[Yk,fm (r':=[.sh P,.ow<|eU<|bh++[r],.ow<|eU<|ahead++[r],.sh<|.int r]) (by simp[aF,d8,ht,ind,q,il,a1,a2]),k2];simp[gX,q]
theorem k8:∀(ns:YK)(bh ahead:YK),bh.Nodup->(∀x∈ahead,x∈bh) ->
  (ns.foldl gX (bh,ahead)).1.Nodup/\(∀x,x∈(ns.foldl gX (bh,ahead)).1<->x∈bh\/x∈ns)/\(∀x∈(ns.foldl gX (bh,ahead)).2,x∈(ns.foldl gX (bh,ahead)).1)/\(∀x∈ahead,x∈(ns.foldl gX (bh,ahead)).2) /\
  (∀x∈(ns.foldl gX (bh,ahead)).1,x∈bh\/x∈(ns.foldl gX (bh,ahead)).2)/\(ns.foldl gX (bh,ahead)).1.length+ahead.length=(ns.foldl gX (bh,ahead)).2.length+bh.length
 |[],bh,ahead,nd,sb=>⟨nd,Qj,sb,λx h=>h,λx h=>.inl h,by simp;lia⟩|r::ns,bh,ahead,nd,sb=>by
  simp only[List.foldl_cons];by_cases q:r∈bh;rw[show gX (bh,ahead) r=(bh,ahead) by simp[gX,q]];obtain⟨a,b,c,d,e,f⟩:=k8 ns bh ahead nd sb;refine⟨a,λx=>?_,c,d,e,f⟩;rw[b];simp only[List.mem_cons];constructor;rintro (h|h);exact .inl h;exact .inr<|.inr h;rintro (h|rfl|h);exact .inl h;exact .inl q;exact .inr h;rw[show gX (bh,ahead) r=(bh++[r],ahead++[r]) by simp[gX,q]];obtain⟨a,b,c,d,e,f⟩:=k8 ns (bh++[r]) (ahead++[r]) (by
   rw[List.nodup_append];exact⟨nd,Qj,λx hx y hy z=>by simp at hy;subst hy z;exact q hx⟩) (λx hx=>by
   rcases List.mem_append.mp hx with h|h;exact List.mem_append_left _<|sb x h;exact NY _ h)
  refine⟨a,λx=>?_,c,λx hx=>d x (List.mem_append_left _ hx),λx hx=>?_,by simp at f;lia⟩;rw[b];simp only[List.mem_append,List.mem_cons,List.not_mem_nil,or_false];constructor;rintro ((h|h)|h);exact .inl h;exact .inr<|.inl h;exact .inr<|.inr h;rintro (h|h|h);exact .inl<|.inl h;exact .inl<|.inr h;exact .inr h;rcases e x hx with h|h;rcases List.mem_append.mp h with h|h;exact .inl h;exact .inr<|d x<|NY _ h;exact .inr h
theorem ne_nil(ks:YK)(k:Nat):gW (eU<|ks++[k]) (.lst [])=some (.bl true):=by
 have p:VP.plain 60 (eU<|ks++[k])=true:=by unfold eU;rw[VP.plain];generalize ks++[k]=xs;induction xs with|nil=>rfl|cons x xs ih=>rw[Yk,dU,ih];rfl
 have e:eqB (eU<|ks++[k]) (.lst [])=false:=by unfold eU;rw[uh];cases ks<;>rfl
 unfold gW;rw[p,e];rfl
theorem qi(ls:RY)(wf:Wf ls)(h0:ls≠[])(hl:ls.length<=100):∀(m N:Nat)(bh ahead:YK),PX ls bh ahead->(ls.length-bh.length)+ahead.length=m->m<=100->m<N->∀t,free (some t)=true->∃Fo t',gC cK ew N [.sh<|Pg ls,.ow<|eU bh,.ow<|eU ahead,t]=.ok .nx [.sh<|Pg ls,.ow<|eU Fo,.ow<|eU [],t']/\PX ls Fo []
|m,0,bh,ahead,_,_,_,h,_,_=>absurd h Uz|m,N+1,bh,ahead,J,hm,aa6,hN,t,ht=>by
 have dl:=J.le wf h0;rcases List.eq_nil_or_concat ahead with rfl|⟨a,i,rfl⟩;refine⟨bh,t,vy ?_,J⟩;have e:gW (eU []) (.lst [])=some (.bl false):=rfl;simp[cK,e];rw[List.concat_eq_append] at *;have hi:=J.sub i Qj;have fj:=(J.rc i hi).lt wf h0;obtain⟨l,pG⟩:∃l,ls[i]?=some l:=⟨_,Te fj⟩;have ix:=Cz ls i l pG;have fw:=l.W9;have J0:ls.length-bh.length+(a.length+1)=m:=by simpa using hm
 obtain⟨t',ES,L⟩:=nH (Pg ls) l.ns bh a Uz Uz t ht;obtain⟨p1,p2,p3,p4,p5,p6⟩:=k8 l.ns bh a J.nd (λx hx=>J.sub x<|List.mem_append_left _ hx);have J':PX ls (l.ns.foldl gX (bh,a)).1 (l.ns.foldl gX (bh,a)).2:=by refine⟨p1,λx hx=>?_,(p2 _).mpr (.inl J.la),p3,λx hx ZI y hy r hr=>?_⟩;rcases (p2 x).mp hx with h|h;exact J.rc x h;exact .step (J.rc i hi) pG h;rcases p5 x hx with h|h;by_cases e:x=i;subst e;rw[pG] at hy;cases hy;exact(p2 r).mpr<|.inr hr;refine(p2 r).mpr<|.inl<|J.cl x h (λz=>?_) y hy r hr;rcases List.mem_append.mp z with z|z;exact ZI<|p4 x z;exact e (by simpa using z);exact absurd h ZI
 have dl':=J'.le wf h0;obtain⟨Fo,t'',e,J''⟩:=qi ls wf h0 hl (m-1) N _ _ J' Uz Uz Uz t' ES;refine⟨Fo,t'',?_,J''⟩;rw[<-e];have po:∀r:ax,GP 2 r (eU<|a++[i])=.ok (.int (i:Nat)) (cu 2 (eU a) r):=λr=>by unfold eU;rw[TQ];exact Dv _ _ _ _
 refine AE (r1:=[.sh<|Pg ls,.ow<|eU bh,.ow<|eU<|a++[i],t]) (by simp[cK,ne_nil]) ?_;simp[ew,po,ix,PL.reads,L]
theorem uK(ls:RY)(wf:Wf ls)(h0:ls≠[])(hl:ls.length<=100):∃bh,yd [Pg ls]=.ok (eU bh) []/\bh.Nodup/\∀i,i∈bh<->mW ls i:=by
 rw[yd,gh _ _ _ _ rfl];have hn:=List.length_pos_iff.mpr h0;have ln:=kF ls;have e1:D.lst [.int<|(ls.length:Int)-1]=eU [ls.length-1]:=by unfold eU;rw[Yk,List.map_nil,show ((ls.length-1:Nat):Int)=(ls.length:Int)-1 by lia]
 have J:PX ls [ls.length-1] [ls.length-1]:=⟨Qj,λx hx=>by simp at hx;subst hx;exact .last,Qj,λx h=>h,λi h n=>absurd h n⟩;obtain⟨bh,t,e,J'⟩:=qi ls wf h0 hl ls.length 10000 _ _ J (by simp;lia) hl Uz .no rfl;refine⟨bh,?_,J'.nd,λi=>⟨J'.rc i,λh=>?_⟩⟩;have e':sL cK ew [.sh<|Pg ls,.ow<|eU [ls.length-1],.ow<|eU [ls.length-1],.no]=.ok .nx [.sh<|Pg ls,.ow<|eU bh,.ow<|eU [],t]:=e;simp[Iw,ln,e1,e'];induction h with|last=>exact J'.la|step h e hr ih=>exact J'.cl _ ih Qj _ e _ hr
section
variable{ss:V7}{cs:Nat->UX}
def Lk(ss:V7)(cs:Nat->UX)(a:Nat):Prop:=SI (sd ss a)/\((cs a).length:Int)=ah (sd ss a)/\∀v∈cs a,Rt v
def pr(ss:V7)(cs:Nat->UX)(a:Nat):D:=.tup [T<|sd ss a,Z<|cs a]
theorem xf{a:Nat}(h:Lk ss cs a){x:UX}(hn:(sd ss a).length<=x.length)(hx:x.length<=100)(hi:Ix (sd ss a) (cG (sd ss a) x)):nY [pr ss cs a,T x]=.ok (.int<|cw ss cs a x) []/\Rt (cw ss cs a x):=by refine⟨O7 _ _ _ h.1 h.2.1 hn hx hi,?_⟩;have p:=hi.place λy hy=>(h.1.2.1 y hy).1;have l:=h.2.1;have hl:(fq (sd ss a)<|cG (sd ss a) x).toNat<(cs a).length:=Uz;unfold cw cv;rw[gD _ _ hl];exact h.2.2 _ (NM hl)
theorem pS{a:Nat}(h:Lk ss cs a){x:UX}(hi:Ix (sd ss a) x):nY [pr ss cs a,T x]=.ok (.int<|cw ss cs a x) []/\Rt (cw ss cs a x):=xf h (by rw[hi.1];exact Wd _) (by have:=h.1.1;have:=hi.1;lia) (by rw[hi.self];exact hi)
theorem zL(a:Nat):aj (pr ss cs a) (.int 0)=some (T<|sd ss a):=rfl
theorem UE(a:Nat):aj (pr ss cs a) (.int 1)=some (Z<|cs a):=rfl
def oD:Vy->D|some v=>.int v|none=>.aP
def CG(ss:V7)(cs:Nat->UX)(t x:UX):PL->Option Int|.run d a k=>some (aR d<|(List.range (x.getD k.toNat 0+1).toNat).map λ(j:Nat)=>cw ss cs a<|pin (wo x k.toNat) k.toNat j)|l=>gF ss cs t x l
def Got(ss:V7)(cs:Nat->UX)(t x:UX)(l:PL)(d:D):Prop:=d=oD (CG ss cs t x l)
abbrev cO(ss:V7)(cs:Nat->UX)(t x:UX)(l:PL):Prop:=∃d,bQ [l.d,.lst<|l.ns.map<|pr ss cs,T x]=.ok d []/\Got ss cs t x l d
variable{t x:UX}
theorem Q09{n:Nat}{G:Nat->UX}(d a:Nat)(hT:Told n G (sd ss) (.one d a) t)(ha:Lk ss cs a)(hx:Ix t x):cO ss cs t x (.one d a):=by obtain⟨h1,rfl⟩:=hT;have s1:=pS ha hx;have o:=CD d h1<|cw ss cs a x;refine⟨.int<|oR d<|cw ss cs a x,?_,rfl⟩;have s1:=s1.1;show bQ [.tup [.str<|nm 9,.str<|nm d,.int a],.lst [pr ss cs a],T x]=_;generalize pr ss cs a=pa at *;unfold bQ fG;exact rn
theorem Q25{n:Nat}{G:Nat->UX}(d a b:Nat)(hT:Told n G (sd ss) (.both d a b) t)(ha:Lk ss cs a)(hb:Lk ss cs b)(hx:Ix t x):cO ss cs t x (.both d a b):=by obtain⟨h1,h3⟩:=hT;have ml:=cC h3;have l1:=ha.1.1;have l2:=hb.1.1;have hl:=hx.1;have s1:=xf ha (x:=x) Uz Uz<|cM hx<|bK h3;have s2:=xf hb (x:=x) Uz Uz<|cM hx<|bK<|meet_comm _ _ ▸ h3;have o:=qD d h1 (cw ss cs a x) (cw ss cs b x) s1.2;refine⟨.int<|bL d (cw ss cs a x)<|cw ss cs b x,?_,rfl⟩;have s1:=s1.1;have s2:=s2.1;show bQ [.tup [.str<|nm 10,.str<|nm d,.int a,.int b],.lst [pr ss cs a,pr ss cs b],T x]=_;generalize pr ss cs a=pa at *;generalize pr ss cs b=pb at *;unfold bQ fG;exact rn
theorem LX{n:Nat}{G:Nat->UX}(a b c:Nat)(hT:Told n G (sd ss) (.kW a b c) t)(ha:Lk ss cs a)(hb:Lk ss cs b)(hc:Lk ss cs c)(hx:Ix t x):cO ss cs t x (.kW a b c):=by obtain⟨u,h2,h3⟩:=hT;have ml:=cC h3;have ml2:=cC h2;have l1:=ha.1.1;have l2:=hb.1.1;have l3:=hc.1.1;have hl:=hx.1;have s1:=xf ha (x:=x) Uz Uz<|cM hx<|(bK h2).trans<|bK h3;have s2:=xf hb (x:=x) Uz Uz<|cM hx<|(bK<|meet_comm _ _ ▸ h2).trans<|bK h3;have s3:=xf hc (x:=x) Uz Uz<|cM hx<|bK<|meet_comm _ _ ▸ h3;refine⟨.int<|if cw ss cs a x=0 then cw ss cs c x else cw ss cs b x,?_,rfl⟩;have s1:=s1.1;have s2:=s2.1;have s3:=s3.1;show bQ [.tup [.str<|nm 11,.int a,.int b,.int c],.lst [pr ss cs a,pr ss cs b,pr ss cs c],T x]=_;have e:=eX (cw ss cs a x) 0;generalize pr ss cs a=pa at *;generalize pr ss cs b=pb at *;generalize pr ss cs c=pc at *;by_cases q:cw ss cs a x=0;rw[Qi q] at e;rw[YN q];unfold bQ fG;exact rn;rw[VY q] at e;rw[YO q];unfold bQ fG;exact rn
theorem Ff{n:Nat}{G:Nat->UX}(a:Nat)(k b y:Int)(hT:Told n G (sd ss) (.shift a k b y) t)(ha:Lk ss cs a)(hx:Ix t x):cO ss cs t x (.shift a k b y):=by
 obtain⟨j,rfl,hj,hy,rfl⟩:=hT;have hl:=hx.1;have l1:=ha.1.1;have g1:=hx.get j hj;have ch:=cz x j (x.getD j 0-b) Uz Uz;have g2:aj (T<|rep x j<|x.getD j 0-b) (.int (j:Int))=some (.int<|x.getD j 0-b):=by rw[dA _ j (by rw[bJ _ _ _ Uz];lia),gB _ _ _ _ Uz,YN rfl]
 have g3:=dA (sd ss a) j hj;have p1:=zL (ss:=ss) (cs:=cs) a;have l1:=iT 0<|x.getD j 0-b;have l2:=gA (x.getD j 0-b)<|(sd ss a).getD j 0;show ∃d,bQ [.tup [.str<|nm 8,.int a,.int j,.int b,.int y],.lst [pr ss cs a],T x]=_/\Got ss cs (sd ss a) x (.shift a (j:Int) b y) d;by_cases q:0<=x.getD j 0-b/\x.getD j 0-b<(sd ss a).getD j 0;have s1:=pS ha<|eP (by rw[fP _ _ hj];exact hx) hj q.1 q.2;refine⟨.int<|cw ss cs a<|rep x j<|x.getD j 0-b,?_,congrArg D.int (YN q).symm⟩;have s1:=s1.1;rw[Qi q.1] at l1;rw[Qi q.2] at l2;generalize pr ss cs a=pa at *;generalize T (rep x j<|x.getD j 0-b)=x' at *;generalize T (sd ss a)=sa at *;unfold bQ fG;exact rn;refine⟨.int y,?_,congrArg D.int (YO q).symm⟩;generalize pr ss cs a=pa at *;generalize T (rep x j<|x.getD j 0-b)=x' at *;generalize T (sd ss a)=sa at *;by_cases q1:0<=x.getD j 0-b;rw[Qi q1] at l1;rw[VY λz=>q ⟨q1,z⟩] at l2;unfold bQ fG;exact rn;rw[VY q1] at l1;unfold bQ fG;exact rn
theorem LS{n:Nat}{G:Nat->UX}(a b:Nat)(k:Int)(hT:Told n G (sd ss) (.join a b k) t)(ha:Lk ss cs a)(hb:Lk ss cs b)(hx:Ix t x):cO ss cs t x (.join a b k):=by
 obtain⟨j,rfl,hj,h2,h4,rfl⟩:=hT;have hl:x.length=(sd ss a).length:=by rw[hx.1,bJ _ _ _ hj]
 have l1:=ha.1.1;have g1:=dA x j Uz;have g3:=dA (sd ss a) j hj;have p1:=zL (ss:=ss) (cs:=cs) a;have b0:=hx.2 j (by rw[bJ _ _ _ hj];exact hj);rw[gB _ _ _ _ hj,YN rfl] at b0;show ∃d,bQ [.tup [.str<|nm 15,.int a,.int b,.int j],.lst [pr ss cs a,pr ss cs b],T x]=_/\Got ss cs _ x (.join a b (j:Int)) d;by_cases q:x.getD j 0<(sd ss a).getD j 0;have i1:=eP hx hj b0.1 q;rw[fP _ _ Uz] at i1;have s1:=pS ha i1;refine⟨.int<|cw ss cs a x,?_,congrArg D.int (YN q).symm⟩;have s1:=s1.1;generalize pr ss cs a=pa at *;generalize pr ss cs b=pb at *;generalize T (sd ss a)=sa at *;unfold bQ fG;exact rn;have i2:Ix (sd ss b) (rep x j<|x.getD j 0-(sd ss a).getD j 0):=eP (EC h2 hj h4 _ ▸ hx) Uz Uz Uz;have s1:=pS hb i2;have ch:=cz x j (x.getD j 0-(sd ss a).getD j 0) Uz Uz;refine⟨.int<|cw ss cs b<|rep x j<|x.getD j 0-(sd ss a).getD j 0,?_,congrArg D.int (YO q).symm⟩;have s1:=s1.1;generalize pr ss cs a=pa at *;generalize pr ss cs b=pb at *;generalize T (rep x j<|x.getD j 0-(sd ss a).getD j 0)=x' at *;generalize T (sd ss a)=sa at *;unfold bQ fG;exact rn
theorem LU{n:Nat}{G:Nat->UX}(a b:Nat)(k:Int)(hT:Told n G (sd ss) (.pick a k b) t)(ha:Lk ss cs a)(hb:Lk ss cs b)(hx:Ix t x):cO ss cs t x (.pick a k b):=by
 obtain⟨j,y,rfl,hj,h2,rfl⟩:=hT;have hl:x.length=(sd ss a).length:=by rw[hx.1,bJ _ _ _ hj]
 have l1:=ha.1.1;have g1:=dA x j Uz;have g3:=dA (sd ss a) j hj;have p1:=zL (ss:=ss) (cs:=cs) a;have p2:=UE (ss:=ss) (cs:=cs) b;have b0:=hx.2 j (by rw[bJ _ _ _ hj];exact hj);rw[gB _ _ _ _ hj,YN rfl] at b0;have lb:=hb.2.1;rw[h2] at lb;have lb:((cs b).length:Int)=y*1:=lb;have hq:(x.getD j 0).toNat<(cs b).length:=Uz;have g4:aj (Z<|cs b) (.int<|x.getD j 0)=some (.int<|(cs b).getD (x.getD j 0).toNat 0):=bV _ _ b0.1 Uz;have rw_:Rt ((cs b).getD (x.getD j 0).toNat 0):=by rw[gD _ _ hq];exact hb.2.2 _ (NM hq)
 show ∃d,bQ [.tup [.str<|nm 14,.int a,.int j,.int b],.lst [pr ss cs a,pr ss cs b],T x]=_/\Got ss cs _ x (.pick a (j:Int) b) d;have hv:CG ss cs (rep (sd ss a) j y) x (.pick a (j:Int) b)=if (sd ss a).getD j 0<=(cs b).getD (x.getD j 0).toNat 0 then none else some (cw ss cs a<|rep x j<|(cs b).getD (x.getD j 0).toNat 0):=rfl
 unfold Got;rw[hv];generalize (cs b).getD (x.getD j 0).toNat 0=w at *;have ge:=B9 w<|(sd ss a).getD j 0;by_cases q:(sd ss a).getD j 0<=w;rw[Qi q] at ge;refine⟨.aP,?_,by rw[YN q];rfl⟩;generalize pr ss cs a=pa at *;generalize pr ss cs b=pb at *;generalize T (sd ss a)=sa at *;unfold bQ fG;exact rn;rw[VY q] at ge;have s1:=pS ha<|eP hx hj rw_.1 Uz;have ch:=cz x j w Uz Uz;refine⟨.int<|cw ss cs a<|rep x j w,?_,by rw[YO q];rfl⟩;have s1:=s1.1;generalize pr ss cs a=pa at *;generalize pr ss cs b=pb at *;generalize T (rep x j w)=x' at *;generalize T (sd ss a)=sa at *;unfold bQ fG;exact rn
end
section
variable{ss:V7}{cs:Nat->UX}{t x:UX}
theorem xC{a j:Nat}(ha:Lk ss cs a)(hj:j<(sd ss a).length){x:UX}(hx:Ix (wo (sd ss a) j) x)(m:Nat)(hm:(m:Int)<=(sd ss a).getD j 0)(l:D)(q3:Sl) : aD 1 (bH [(aa 5)]) (aq 8) (VP.ret true) iI [.sh l,.sh<|.lst [pr ss cs a],.sh<|T x,q3,.sh<|.int j,.sh<|.int m,.no,.no]=.ok (Z<|(List.range m).map λ(k:Nat)=>cw ss cs a<|pin x j k) [.sh l,.sh<|.lst [pr ss cs a],.sh<|T x,q3,.sh<|.int j,.sh<|.int m,.no,.no]/\∀k:Nat,k<m->Rt (cw ss cs a<|pin x j k):=by have hl:=hx.1;have l1:=i9 hj;have l2:=ha.1.1;have l3:=ha.1.get j;have er:=hZ m Uz;have s:∀k:Nat,k<m->_:=λk hk=>pS ha<|rK hx hj (show 0<=(k:Int) by lia) Uz;refine⟨?_,λk hk=>(s k hk).2⟩;refine cY (λ(k:Nat)=>D.int k) (λk=>D.int<|cw ss cs a<|pin x j k) (List.range m) ao (by simp;lia) (by simp[Z,Function.comp_def]) λk hk acc=>?_;have s1:=(s k<|List.mem_range.mp hk).1;have c1:=jM x j Uz;have c2:=iu x j Uz;obtain⟨a1,a2⟩:=yN x j (k:Int) Uz;generalize pr ss cs a=pa at *;generalize T (pin x j k)=x' at *;generalize T (x.take j)=x1 at *;generalize T (x.take j++[(k:Int)])=x2 at *;generalize T (x.drop j)=x3 at *;show iI [.sh l,.sh<|.lst [pa],.sh<|T x,q3,.sh<|.int j,.sh<|.int m,.no,.no,.sh<|.int k,.ow acc]=_;unfold iI;exact ao
theorem LR{n:Nat}{G:Nat->UX}(d a:Nat)(k:Int)(hT:Told n G (sd ss) (.fold d a k) t)(ha:Lk ss cs a)(hx:Ix t x):cO ss cs t x (.fold d a k):=by
 obtain⟨j,rfl,hj,hd,_,rfl⟩:=hT;have hs:=ha.1.get j;have g3:=dA (sd ss a) j hj;have p1:=zL (ss:=ss) (cs:=cs) a;obtain⟨m,hm⟩:∃m:Nat,(sd ss a).getD j 0=m:=⟨((sd ss a).getD j 0).toNat,Uz⟩;obtain⟨c1,c2⟩:=xC ha hj hx m Uz (.tup [.str<|nm 12,.str<|nm d,.int a,.int j])<|.sh<|.str<|nm 12;have f1:=qv d hd _ (Rt.map c2) (by simp;lia);refine⟨.int<|aR d<|(List.range m).map λ(k:Nat)=>cw ss cs a<|pin x j k,?_,?_⟩;rotate_left
 ·show _=D.int (aR d<|(List.range ((sd ss a).getD j 0).toNat).map λ(k:Nat)=>cw ss cs a<|pin x j k);rw[hm];rfl
 rw[hm] at g3;show bQ [.tup [.str<|nm 12,.str<|nm d,.int a,.int j],.lst [pr ss cs a],T x]=_;generalize aR d ((List.range m).map λ(k:Nat)=>cw ss cs a<|pin x j k)=v at *;generalize Z ((List.range m).map λ(k:Nat)=>cw ss cs a<|pin x j k)=z at *;generalize pr ss cs a=pa at *;generalize T (sd ss a)=sa at *;unfold bQ fG;exact rn
theorem Rc{n:Nat}{G:Nat->UX}(d a:Nat)(k:Int)(hT:Told n G (sd ss) (.run d a k) t)(ha:Lk ss cs a)(hx:Ix t x):cO ss cs t x (.run d a k):=by
 obtain⟨j,rfl,hj,hd,rfl⟩:=hT;have hs:=ha.1.get j;have h4:=ha.1.1;have hl:=hx.1;have g3:=dA (sd ss a) j hj;have g1:=hx.get j hj;have p1:=zL (ss:=ss) (cs:=cs) a;have b0:=hx.2 j hj;obtain⟨m,hm⟩:∃m:Nat,x.getD j 0+1=m:=⟨(x.getD j 0+1).toNat,Uz⟩;have e1:bq (.int<|x.getD j 0) (.int 1)=some (.int m):=by rw[tw,hm]
 obtain⟨c1,c2⟩:=xC ha hj (Q0g hx j hj) m Uz (.tup [.str<|nm 13,.str<|nm d,.int a,.int j])<|.sh<|.str<|nm 13;have f1:=qv d hd _ (Rt.map c2) (by simp;lia);refine⟨.int<|aR d<|(List.range m).map λ(k:Nat)=>cw ss cs a<|pin (wo x j) j k,?_,?_⟩;rotate_left
 ·show _=D.int (aR d<|(List.range (x.getD j 0+1).toNat).map λ(k:Nat)=>cw ss cs a<|pin (wo x j) j k);rw[hm];rfl
 have u1:=jM x j Uz;have u2:=iu x (j+1) Uz;rw[show (((j+1:Nat)):Int)=(j:Int)+1 by lia] at u2;have u3:=EA x j Uz;show bQ [.tup [.str<|nm 13,.str<|nm d,.int a,.int j],.lst [pr ss cs a],T x]=_;generalize aR d ((List.range m).map λ(k:Nat)=>cw ss cs a<|pin (wo x j) j k)=v at *;generalize Z ((List.range m).map λ(k:Nat)=>cw ss cs a<|pin (wo x j) j k)=z at *;generalize pr ss cs a=pa at *;generalize T (sd ss a)=sa at *;generalize T (wo x j)=x1 at *;generalize T (x.take j)=x2 at *;generalize T (x.drop<|j+1)=x3 at *;generalize x.getD j 0=xj at *;unfold bQ fG;exact rn
theorem nV{a:Nat}{l:PL}(hk:l.k=2\/l.k=3\/l.k=4\/l.k=5\/l.k=6)(hn:l.ns=[a]){u:UX}(hu:iw [l.d,T<|sd ss a,T x]=.ok (T u) []){v:Int}(s1:nY [pr ss cs a,T u]=.ok (.int v) [])(e:CG ss cs t x l=some v):cO ss cs t x l:=by
 refine⟨.int v,?_,by unfold Got;rw[e];rfl⟩;rw[hn];show bQ [l.d,.lst [pr ss cs a],T x]=_;have k1:=l.kind;have ne:∀j,j<32->l.k≠j->dP (.str<|nm l.k) (.str<|nm j)=some (.bl false):=λj hj h=>by rw[EJ _ _ Uz hj,VY h]
 have n9:=ne 9 Uz Uz;have V9:=ne 10 Uz Uz;have n11:=ne 11 Uz Uz;have n8:=ne 8 Uz Uz;have n12:=ne 12 Uz Uz;have n13:=ne 13 Uz Uz;have n14:=ne 14 Uz Uz;have n15:=ne 15 Uz Uz;have p1:=zL (ss:=ss) (cs:=cs) a;generalize l.d=ld at *;generalize pr ss cs a=pa at *;generalize T (sd ss a)=sa at *;generalize T u=tu at *;unfold bQ fG;exact rn
theorem LV{n:Nat}{G:Nat->UX}(a:Nat)(o:UX)(hT:Told n G (sd ss) (.turn a o) t)(ha:Lk ss cs a)(hx:Ix t x):cO ss cs t x (.turn a o):=by
 obtain⟨h1,h2,rfl⟩:=hT;have h4:=ha.1.1;obtain⟨hm,hd⟩:=qS h1;have s1:=pS ha<|CA hx h2 hm;refine nV (by simp[PL.k]) rfl ?_ s1.1 rfl;show iw [.tup [.str<|nm 2,.int a,T o],T<|sd ss a,T x]=.ok (T<|zf o x) [];have er:=hZ (sd ss a).length Uz;have hl:=hx.1;rw[VE] at hl;have c:aD 1 (bH [(m1 bG<|aa 1)]) (aq 3) (VP.ret true) eW [.sh<|.tup [.str<|nm 2,.int a,T o],.sh<|T<|sd ss a,.sh<|T x]=.ok (Z<|zf o x) [.sh<|.tup [.str<|nm 2,.int a,T o],.sh<|T<|sd ss a,.sh<|T x]:=by
  refine cY (λ(k:Nat)=>D.int k) (λk=>D.int<|x.getD (o.idxOf (k:Int)) 0) (List.range (sd ss a).length) ao (by simp;lia) (by simp[Z,zf,Function.comp_def,h2]) λk hk acc=>?_;have hk:=List.mem_range.mp hk;have hi:=List.idxOf_lt_length_of_mem<|hm k hk;have g:=dA x (o.idxOf (k:Int)) Uz;show eW [.sh<|.tup [.str<|nm 2,.int a,T o],.sh<|T<|sd ss a,.sh<|T x,.sh<|.int k,.ow acc]=.ok _ [.sh<|.tup [.str<|nm 2,.int a,T o],.sh<|T<|sd ss a,.sh<|T x,.sh<|.int k,.ow acc];have ix:uN (m1 gK<|m2 aj (aa 0)<|cI 2) (aa 3) [.sh<|.tup [.str<|nm 2,.int a,T o],.sh<|T<|sd ss a,.sh<|T x,.sh<|.int k,.ow acc]=.ok (.int (o.idxOf (k:Int):Nat)) [.sh<|.tup [.str<|nm 2,.int a,T o],.sh<|T<|sd ss a,.sh<|T x,.sh<|.int k,.ow acc]:=by rw[CO,show m1 gK (m2 aj (aa 0)<|cI 2) _=.ok (Z o) _ from ao,ag];exact MS (aa 3) o k _ _ ao (hm k hk)
  unfold eW;exact ao
 generalize zf o x=u at *;unfold iw p8;exact rn
theorem Q9{n:Nat}{G:Nat->UX}(a:Nat)(k b st m:Int)(hT:Told n G (sd ss) (.cut a k b st m) t)(ha:Lk ss cs a)(hx:Ix t x):cO ss cs t x (.cut a k b st m):=by
 obtain⟨j,rfl,hj,h1,_,h2,rfl⟩:=hT;have hl:x.length=(sd ss a).length:=by rw[hx.1,bJ _ _ _ hj]
 have h4:=ha.1.1;have b0:=hx.2 j (by rw[bJ _ _ _ hj];exact hj);rw[gB _ _ _ _ hj,YN rfl] at b0;have c:=By st b m (x.getD j 0) b0 h2;rw[Int.mul_comm] at c;have s1:=pS ha<|eP hx hj c.1 c.2;refine nV (by simp[PL.k]) rfl ?_ s1.1 rfl;show iw [.tup [.str<|nm 3,.int a,.int j,.int b,.int st,.int m],T<|sd ss a,T x]=.ok (T<|rep x j<|b+x.getD j 0*st) [];have g:=dA x j Uz;have mu:=cU (x.getD j 0) st Uz Uz;have ch:=cz x j (b+x.getD j 0*st) Uz Uz;generalize T (rep x j<|b+x.getD j 0*st)=u at *;unfold iw p8;exact rn
theorem LQ{n:Nat}{G:Nat->UX}(a:Nat)(k p:Int)(hT:Told n G (sd ss) (.drop a k p) t)(ha:Lk ss cs a)(hx:Ix t x):cO ss cs t x (.drop a k p):=by obtain⟨j,rfl,hj,h2,rfl⟩:=hT;have h4:=ha.1.1;have hl:=hx.1;have l1:=i9 hj;have s1:=pS ha<|rK hx hj h2.1 h2.2;refine nV (by simp[PL.k]) rfl ?_ s1.1 rfl;show iw [.tup [.str<|nm 4,.int a,.int j,.int p],T<|sd ss a,T x]=.ok (T<|pin x j p) [];have c1:=jM x j Uz;have c2:=iu x j Uz;obtain⟨a1,a2⟩:=yN x j p Uz;generalize T (pin x j p)=u at *;unfold iw p8;exact rn
theorem LY{n:Nat}{G:Nat->UX}(a:Nat)(k:Int)(hT:Told n G (sd ss) (.wide a k) t)(ha:Lk ss cs a)(hx:Ix t x):cO ss cs t x (.wide a k):=by obtain⟨j,rfl,hj,rfl⟩:=hT;have h4:=ha.1.1;have hl:=hx.1;have l1:=nq (sd ss a) j 1;have s1:=pS ha<|Ka hx hj;refine nV (by simp[PL.k]) rfl ?_ s1.1 rfl;show iw [.tup [.str<|nm 5,.int a,.int j],T<|sd ss a,T x]=.ok (T<|wo x j) [];have c1:=jM x j Uz;have c2:=iu x (j+1) Uz;rw[show (((j+1:Nat)):Int)=(j:Int)+1 by lia] at c2;have a2:=EA x j Uz;generalize T (wo x j)=u at *;unfold iw p8;exact rn
theorem Bg{n:Nat}{G:Nat->UX}(a:Nat)(u:UX)(hT:Told n G (sd ss) (.spread a u) t)(ha:Lk ss cs a)(hx:Ix t x)(h9:x.length<=100):cO ss cs t x (.spread a u):=by
 obtain⟨h1,rfl⟩:=hT;have hs:=bK h1;have hl:=hx.1;have hn:(sd ss a).length<=x.length:=by have:=hs.1;lia
 have dl:(x.drop<|x.length-(sd ss a).length).length=(sd ss a).length:=by simp;lia
 have s1:=xf ha (x:=x.drop<|x.length-(sd ss a).length) (by rw[dl];exact Wd _) Uz (by rw[qU _ _ hn];exact cM hx hs);refine nV (by simp[PL.k]) rfl ?_ s1.1<|congrArg some (by show cv _ _ _ _=cv _ _ _ _;rw[qU _ _ hn]);show iw [.tup [.str<|nm 6,.int a,T t],T<|sd ss a,T x]=.ok (T<|x.drop<|x.length-(sd ss a).length) [];have c2:=iu x (x.length-(sd ss a).length) Uz;rw[show (((x.length-(sd ss a).length:Nat)):Int)=(x.length:Int)-(sd ss a).length by lia] at c2;generalize T (x.drop<|x.length-(sd ss a).length)=u' at *;unfold iw p8;exact rn
theorem Fj{n:Nat}{G:Nat->UX}{l:PL}(hT:Told n G (sd ss) l t)(h:∀b∈l.ns,Lk ss cs b)(ht:SI t)(hx:Ix t x)(h0:l.k≠0/\l.k≠1/\l.k≠7):cO ss cs t x l:=by
 have h9:x.length<=100:=by have:=hx.1;have:=ht.1;lia
 cases l with|given=>exact absurd rfl h0.1|mK=>exact absurd rfl h0.2.1|shape=>exact absurd rfl h0.2.2|turn a o=>exact LV a o hT (h a (by simp[PL.ns])) hx|cut a k b st m=>exact Q9 a k b st m hT (h a (by simp[PL.ns])) hx|drop a k p=>exact LQ a k p hT (h a (by simp[PL.ns])) hx|wide a k=>exact LY a k hT (h a (by simp[PL.ns])) hx|spread a u=>exact Bg a u hT (h a (by simp[PL.ns])) hx h9|shift a k b y=>exact Ff a k b y hT (h a (by simp[PL.ns])) hx|one d a=>exact Q09 d a hT (h a (by simp[PL.ns])) hx|both d a b=>exact Q25 d a b hT (h a (by simp[PL.ns])) (h b (by simp[PL.ns])) hx|kW a b c=>exact LX a b c hT (h a (by simp[PL.ns])) (h b (by simp[PL.ns])) (h c (by simp[PL.ns])) hx|fold d a k=>exact LR d a k hT (h a (by simp[PL.ns])) hx|run d a k=>exact Rc d a k hT (h a (by simp[PL.ns])) hx|pick a k b=>exact LU a b k hT (h a (by simp[PL.ns])) (h b (by simp[PL.ns])) hx|join a b k=>exact LS a b k hT (h a (by simp[PL.ns])) (h b (by simp[PL.ns])) hx
end
def fD:Option (List Int)->D|none=>.aP|some c=>Z c
def Fd(os:List (Option<|List Int)):D:=.lst (os.map fD)
def dN(cl:V7):D:=.lst (cl.map Z)
theorem A3(os:List (Option<|List Int))(o:Option (List Int))(h:os.length<=100):df (fD o) (Fd os)=some (Fd<|os++[o]):=by show (if (os.map fD).length<16777216 then _ else _)=_;rw[YN (by simp;lia)];simp[Fd]
theorem V0(os:List (Option<|List Int))(a:Nat)(h:a<os.length):aj (Fd os) (.int (a:Int))=some (fD<|os.getD a none):=by show (mj (os.map fD).length (a:Int)).bind _=_;rw[mj,YN Uz,YN (by simp;lia)];simp[h]
theorem mX{A:Type}{f:A->Vy}{v:A->Int}:∀{as:List A},(∀a∈as,f a=some (v a))->fF f as=some (as.map v)|[],_=>rfl|a::as,h=>by simp only[fF,h a R9,mX λb hb=>h b<|Pe _ hb];rfl
theorem zA{A:Type}{f:A->Vy}{as:List A}{vs:UX}(h:fF f as=some vs):(as.map λa=>oD<|f a)=vs.map D.int:=by have e:=(jc h).2;have:(as.map λa=>oD<|f a)=(as.map f).map oD:=Qj;rw[this,e];simp only[List.map_map];rfl
theorem MV{A:Type}(f:A->Vy)(as:List A):inD false .aP (.lst<|as.map λa=>oD<|f a)=some (.bl (fF f as).isNone):=by
 have fl:(as.map λa=>oD<|f a).all gj=true:=List.all_eq_true.mpr λd hd=>by obtain⟨a,_,rfl⟩:=List.mem_map.mp hd;cases f a<;>rfl
 show (if (gj D.aP&&(as.map λa=>oD<|f a).all gj)=true then some (D.bl<|(as.map λa=>oD<|f a).any λy=>eqB y .aP) else none)=_;rw[fl,show ((as.map λa=>oD<|f a).any λy=>eqB y .aP)=(fF f as).isNone by clear fl;induction as with|nil=>rfl|cons a as ih=>rw[Yk,HA,ih];simp only[fF];cases f a with|none=>rfl|some v=>cases fF f as<;>rfl];rfl
section
variable{ss:V7}{cs:Nat->UX}{cl:V7}{t:UX}
theorem ON(x:UX)(j:Nat)(v:Int)(h:j<x.length):pin (wo x j) j v=rep x j v:=by
 unfold pin wo rep;have e:(x.take j).length=j:=by simp;lia
 rw[List.take_append_of_le_length Uz,List.drop_append_of_le_length Uz,xv Uz,List.drop_of_length_le Uz,G2]
theorem CF{G:Nat->UX}{m n:Nat}{l:PL}(hn:ah t=n)(hT:Told m G (sd ss) l t)(h:∀b∈l.ns,Lk ss cs b)(ht:SI t)(h0:l.k≠0):fF (λ(p:Nat)=>CG ss cs t (aG t p) l) (List.range n)=bW ss cs cl t l:=by
 have en:(ah t).toNat=n:=Uz;cases l with
 |given=>exact absurd rfl h0|run d a k=>
  obtain⟨j,rfl,hj,hd,rfl⟩:=hT;have la:=h a (by simp[PL.ns]);have ln:(cs a).length=n:=by have:=la.2.1;lia
  have s0:∀y∈sd ss a,0<=y:=λy hy=>(la.1.2.1 y hy).1;show _=some ((List.range (cs a).length).map λ(p:Nat)=>gO d (sd ss a) (cs a) j p);rw[ln];refine mX λp hp=>?_;have hp:=List.mem_range.mp hp;obtain⟨i1,_⟩:=jn (sd ss a) (p:Int) s0 Uz;have b0:=i1.2 j hj;show some (aR d _)=some (aR d _);congr 2;refine List.map_congr_left λk hk=>?_;have hk:(k:Int)<(aG (sd ss a) p).getD j 0+1:=by have:=List.mem_range.mp hk;simp only[Es] at this;lia
  show cw ss cs a (pin (wo (aG (sd ss a) p) j) j k)=_;rw[ON _ _ _ (by rw[i1.1];exact hj)];unfold cw cv;have ir:Ix (sd ss a) (rep (aG (sd ss a) p) j k):=eP (y:=(sd ss a).getD j 0) (by rw[fP _ _ hj];exact i1) hj Uz Uz;rw[ir.self]
 |_=>exact en ▸ rfl
theorem zV{s:UX}{y:Int}{n:Nat}(hn:ah t=n):bW ss cs cl t (.mK s y)=some (List.replicate n y):=by show fF _ (List.range (ah t).toNat)=_;rw[show (ah t).toNat=n by lia];exact(mX (v:=λ_=>y) λ_ _=>rfl).trans (by simp[List.map_const'])
theorem wx{a:Nat}{u:UX}(hl:((cs a).length:Int)=ah t)(ht:SI t):bW ss cs cl t (.shape a u)=some (cs a):=by show fF _ (List.range (ah t).toNat)=_;rw[show (ah t).toNat=(cs a).length by lia,mX (v:=λ(p:Nat)=>(cs a).getD p 0) λp hp=>?_];congr 1;refine O6 Qj λi h1 h2=>?_;simp[h2];have hp:=List.mem_range.mp hp;have e:=(jn t (p:Int) (λy hy=>(ht.2.1 y hy).1) Uz).2;rw[Int.emod_eq_of_lt Uz Uz] at e;show some ((cs a).getD (fq t<|aG t p).toNat 0)=_;rw[e];rfl
end
theorem Q1k{S Tm A:Type}{g:D->M Unit}{body:M Fl}(mk:A->D)(R:S->Tm->ax)(ok:Tm->Prop)(Q:D->ax->Prop):∀(as:List A)(P:Nat->S->Prop)(s:S)(t:Tm),ok t->P 0 s ->
  (∀(i:Nat)(a:A),as[i]?=some a->∀s t,ok t->P i s->(∃s' t',P (i+1) s'/\ok t'/\aF g body (mk a) (R s t)=.ok .nx (R s' t'))\/∃d r,Q d r/\aF g body (mk a) (R s t)=.ok (.rt d) r) ->
  (∃s' t',P as.length s'/\ok t'/\loop g body (as.map mk) (R s t)=.ok .nx (R s' t'))\/∃d r,Q d r/\loop g body (as.map mk) (R s t)=.ok (.rt d) r:=by
 intro as;induction as with
 |nil=>intro P s t ht hs _;exact .inl ⟨s,t,hs,ht,rfl⟩|cons a as ih=>
  intro P s t ht hs h;have tl:∀r,loop g body (mk a::as.map mk) r=(aF g body (mk a) r).turn (loop g body<|as.map mk):=λr=>by rw[gJ,aF];cases g (mk a) r<;>rfl
  rcases h 0 a rfl s t ht hs with ⟨s1,t1,p1,o1,e1⟩|⟨d,r,q,e⟩
  rw[Yk,tl,e1,Q1e];exact ih (λk=>P<|k+1) s1 t1 o1 p1 λi a' ha=>h (i+1) a' (by simpa using ha);exact .inr ⟨d,r,q,by rw[Yk,tl,e,HB]⟩
section
variable{gs:V7}{ls:RY}{ss:V7}{ix_:Nat}(g:Gd gs ls ss ix_)(rA:ls.length<=14){cl:V7}(sY:cl.length=gs.length)(hc:∀k,k<gs.length->Tk (sd gs k) (cl.getD k []))
include g rA
def pZ(ls:RY)(ss:V7)(cl:V7)(bh:YK)(os:List (Option<|List Int))(s5 s6 s7 s8:Sl):ax:=[.sh<|Pg ls,.sh<|aW ss,.sh<|dN cl,.sh<|eU bh,.ow<|Fd os,s5,s6,s7,s8]
theorem tC1(bh:YK)(os:List (Option<|List Int))(k:Nat)(hk:k<ls.length)(ho:os.length=k)(s5 s7 s8:Sl):aD 1 (cR<|aw qp [.val<|aa 6]) (aq 9) (VP.ret true) dh (pZ ls ss cl bh os s5 (.sh (a8 ls k).d) s7 s8)=.ok (.lst<|(a8 ls k).ns.map λa=>.tup [T<|sd ss a,fD<|os.getD a none]) (pZ ls ss cl bh os s5 (.sh (a8 ls k).d) s7 s8):=by have r:=(a8 ls k).reads;refine cY (λ(a:Nat)=>D.int a) (λa=>.tup [T<|sd ss a,fD<|os.getD a none]) (a8 ls k).ns ?_ (by have:=(a8 ls k).W9;lia) rfl λa ha acc=>?_;unfold pZ;generalize (a8 ls k).d=ld at *;exact ao;have hl:=qI g hk ha;have i1:=bR ss a (by have:=g.len;lia);have i2:=V0 os a Uz;show dh [.sh<|Pg ls,.sh<|aW ss,.sh<|dN cl,.sh<|eU bh,.ow<|Fd os,s5,.sh (a8 ls k).d,s7,s8,.sh<|.int a,.ow acc]=.ok _ [.sh<|Pg ls,.sh<|aW ss,.sh<|dN cl,.sh<|eU bh,.ow<|Fd os,s5,.sh (a8 ls k).d,s7,s8,.sh<|.int a,.ow acc];unfold dh;exact ao
theorem Gq(bh:YK)(os:List (Option<|List Int))(k:Nat)(hk:k<ls.length)(h:∀b∈(a8 ls k).ns,Lk ss (cj os) b)(h0:(a8 ls k).k≠0/\(a8 ls k).k≠1/\(a8 ls k).k≠7)(n:Nat)(hn:ah (sd ss k)=n)(s8:Sl):aD 1 (bH [(aw lX [.val<|m2 aj (aa 1)<|aa 5])]) (aq 9) (VP.ret true) eV (pZ ls ss cl bh os (.sh<|.int k) (.sh (a8 ls k).d) (.sh<|.lst<|(a8 ls k).ns.map<|pr ss<|cj os) s8)=.ok (.lst<|(List.range n).map λ(p:Nat)=>oD<|CG ss (cj os) (sd ss k) (aG (sd ss k) (p:Nat))<|a8 ls k) (pZ ls ss cl bh os (.sh<|.int k) (.sh (a8 ls k).d) (.sh<|.lst<|(a8 ls k).ns.map<|pr ss<|cj os) s8):=by have hT:=kS g hk;have si:=y5 g hk;have ce:=ly (sd ss k) si.pre;have i1:=bR ss k (by have:=g.len;lia);have Qm:=si.2.2;have s0:∀y∈sd ss k,0<=y:=λy hy=>(si.2.1 y hy).1;have er:=hZ n Uz;refine cY (λ(p:Nat)=>D.int p) (λ(p:Nat)=>oD<|CG ss (cj os) (sd ss k) (aG (sd ss k) (p:Nat))<|a8 ls k) (List.range n) ?_ (by simp;lia) rfl λp hp acc=>?_;rw[hn] at ce;unfold pZ;exact ao;have hp:=List.mem_range.mp hp;obtain⟨d,c1,gt⟩:=Fj hT h si (jn _ (p:Int) s0 Uz).1 h0;subst gt;have c2:=Q2F (sd ss k) si Uz (p:Int);show eV [.sh<|Pg ls,.sh<|aW ss,.sh<|dN cl,.sh<|eU bh,.ow<|Fd os,.sh<|.int k,.sh (a8 ls k).d,.sh<|.lst<|(a8 ls k).ns.map<|pr ss<|cj os,s8,.sh<|.int p,.ow acc]=.ok (oD<|CG ss (cj os) (sd ss k) (aG (sd ss k) (p:Nat))<|a8 ls k) [.sh<|Pg ls,.sh<|aW ss,.sh<|dN cl,.sh<|eU bh,.ow<|Fd os,.sh<|.int k,.sh (a8 ls k).d,.sh<|.lst<|(a8 ls k).ns.map<|pr ss<|cj os,s8,.sh<|.int p,.ow acc];generalize oD (CG ss (cj os) (sd ss k) (aG (sd ss k) (p:Nat))<|a8 ls k)=ov at *;generalize (a8 ls k).d=ld at *;generalize D.lst ((a8 ls k).ns.map<|pr ss<|cj os)=ow at *;unfold eV;exact ao
end
section
variable{gs:V7}{ls:RY}{ss:V7}{ix_:Nat}(g:Gd gs ls ss ix_)(rA:ls.length<=14){cl:V7}(sY:cl.length=gs.length)(hc:∀k,k<gs.length->Tk (sd gs k) (cl.getD k []))
include g
theorem nF.lk{k:Nat}{os:List (Option<|List Int)}(h:nF ls ss cl k os)(hk:k<ls.length)(hr:mW ls k){b:Nat}(hb:b∈(a8 ls k).ns):Lk ss (cj os) b/\D.tup [T<|sd ss b,fD<|os.getD b none]=pr ss (cj os) b:=by
 have hl:=qI g hk hb;obtain⟨c,e,_,f⟩:=(h.2 b hl).1<|.step hr (m8 hk) hb;have e2:os.getD b none=some c:=by rw[mG,e];rfl
 have e3:cj os b=c:=by unfold cj;rw[e2];rfl
 exact⟨by rw[<-e3] at f;exact f,by rw[e2];unfold pr;rw[e3];rfl⟩
include rA sY hc
theorem wU(bh:YK)(hd:∀i,i∈bh<->mW ls i)(k:Nat)(hk:k<ls.length)(os:List (Option<|List Int))(hP:nF ls ss cl k os)(t5 t6 t7 t8:Sl)(f5:free (some t5)=true)(f6:free (some t6)=true)(f7:free (some t7)=true)(f8:free (some t8)=true) : (∃o t7' t8',nF ls ss cl (k+1) (os++[o])/\free (some t7')=true/\free (some t8')=true/\aF (aq 5) aK (.int (k:Int)) (pZ ls ss cl bh os t5 t6 t7 t8)=.ok .nx (pZ ls ss cl bh (os++[o]) (.sh<|.int k) (.sh (a8 ls k).d) t7' t8'))\/((mW ls k/\bW ss (cj os) cl (sd ss k) (a8 ls k)=none)/\∃r,bp [false,false,false] r=some []/\aF (aq 5) aK (.int (k:Int)) (pZ ls ss cl bh os t5 t6 t7 t8)=.ok (.rt .aP) r):=by
 have e:aq 5 (.int (k:Int)) (pZ ls ss cl bh os t5 t6 t7 t8)=.ok () (pZ ls ss cl bh os (.sh<|.int k) t6 t7 t8):=by unfold pZ;simp[f5]
 rw[aF,e,ag];have i1:=S2 ls k hk;have ow:=tC1 g rA (cl:=cl) bh os k hk hP.1 (.sh<|.int k) t7 t8;have VW:=Cr false k bh;have ol:os.length<=100:=by have:=hP.1;lia
 have hT:=kS g hk;have si:=y5 g hk;have i2:=bR ss k (by have:=g.len;lia);have ce:=ly (sd ss k) si.pre;have kd:=(a8 ls k).kind;by_cases hw:mW ls k
 ·have VW:inD false (.int (k:Int)) (eU bh)=some (.bl true):=by rw[VW,YO (by decide),Qi<|(hd k).mpr hw]
  have lk:=λb hb=>(hP.lk g hk hw (b:=b) hb).1;have oe:((a8 ls k).ns.map λa=>D.tup [T<|sd ss a,fD<|os.getD a none])=(a8 ls k).ns.map (pr ss<|cj os):=List.map_congr_left λb hb=>(hP.lk g hk hw hb).2;rw[oe] at ow;have tk:∀c,bW ss (cj os) cl (sd ss k) (a8 ls k)=some c->Tk (sd ss k) c:=λc f=>by have pm:=CZ (cs:=cj os) (M:=Md ss os) hc (kS g hk) (λb hb=>hP.lm g hk hw hb)<|y5 g hk;unfold PM at pm;rw[f] at pm;exact pm.2
  have done:∀c,bW ss (cj os) cl (sd ss k) (a8 ls k)=some c->nF ls ss cl (k+1) (os++[some c]):=λc f=>hP.more g hk (λ_=>⟨c,rfl,f,tk c f⟩) λz=>absurd hw z;by_cases k0:(a8 ls k).k=0\/(a8 ls k).k=1\/(a8 ls k).k=7
  ·generalize hl:a8 ls k=l at *;unfold pZ at ow ⊢;cases l with
  |given j=>
   obtain⟨kk,rfl,hkk,ht⟩:=hT;have ic:aj (dN cl) (.int (kk:Int))=some (Z<|cl.getD kk []):=by show (mj (cl.map Z).length (kk:Int)).bind _=_;rw[mj,YN Uz,YN (by simp;lia)];simp[show kk<cl.length by lia]
   have lo:=rM<|cl.getD kk [];have ap:df (Z<|cl.getD kk []) (Fd os)=_:=A3 os (some<|cl.getD kk []) ol;refine .inl ⟨some<|cl.getD kk [],.sh<|.lst [],.sh<|Z<|cl.getD kk [],done _ rfl,rfl,rfl,?_⟩;show aK _=.ok .nx [.sh<|Pg ls,.sh<|aW ss,.sh<|dN cl,.sh<|eU bh,.ow<|Fd<|os++[some<|cl.getD kk []],.sh<|.int k,.sh<|.tup [.str<|nm 0,.int kk],.sh<|.lst [],.sh<|Z<|cl.getD kk []];generalize Z (cl.getD kk [])=zc at *;unfold aK;exact ao
  |mK s y=>
   obtain⟨ht,hy⟩:=hT;have p0:=si.uZ;have Qm:=si.2.2;obtain⟨n,hn⟩:∃n:Nat,ah (sd ss k)=n:=⟨(ah<|sd ss k).toNat,Uz⟩;rw[hn] at ce;have mu:mulL (.lst [.int y]) (.int (n:Int))=some (Z<|List.replicate n y):=by show (if -(gU:Int)<=(n:Int)/\(n:Int)<=gU/\1*(n:Int).toNat<=gU then some (D.lst (List.replicate (n:Int).toNat [D.int y]).flatten) else none)=_;rw[YN (by simp[gU];lia),Es];simp[Z]
   have ap:df (Z<|List.replicate n y) (Fd os)=_:=A3 os (some<|List.replicate n y) ol;refine .inl ⟨some<|List.replicate n y,.sh<|.lst [],.sh<|Z<|List.replicate n y,done _<|zV hn,rfl,rfl,?_⟩;show aK _=.ok .nx [.sh<|Pg ls,.sh<|aW ss,.sh<|dN cl,.sh<|eU bh,.ow<|Fd<|os++[some<|List.replicate n y],.sh<|.int k,.sh<|.tup [.str<|nm 1,T s,.int y],.sh<|.lst [],.sh<|Z<|List.replicate n y];generalize Z (List.replicate n y)=zc at *;unfold aK;exact ao
  |shape a u=>obtain⟨h1,h3⟩:=hT;have la:=lk a (by simp[PL.ns]);have lo:=rM<|cj os a;have p2:=UE (ss:=ss) (cs:=cj os) a;have ap:df (Z<|cj os a) (Fd os)=_:=A3 os (some<|cj os a) ol;refine .inl ⟨some<|cj os a,.sh<|.lst [pr ss (cj os) a],.sh<|Z<|cj os a,done _<|wx (by rw[la.2.1,h1,h3]) si,rfl,rfl,?_⟩;have ow:aD 1 (cR<|aw qp [.val<|aa 6]) (aq 9) (VP.ret true) dh [.sh<|Pg ls,.sh<|aW ss,.sh<|dN cl,.sh<|eU bh,.ow<|Fd os,.sh<|.int k,.sh<|.tup [.str<|nm 7,.int a,T u],t7,t8]=.ok (.lst [pr ss (cj os) a]) [.sh<|Pg ls,.sh<|aW ss,.sh<|dN cl,.sh<|eU bh,.ow<|Fd os,.sh<|.int k,.sh<|.tup [.str<|nm 7,.int a,T u],t7,t8]:=ow;have i1:aj (Pg ls) (.int (k:Int))=some (.tup [.str<|nm 7,.int a,T u]):=i1;show aK _=.ok .nx [.sh<|Pg ls,.sh<|aW ss,.sh<|dN cl,.sh<|eU bh,.ow<|Fd<|os++[some<|cj os a],.sh<|.int k,.sh<|.tup [.str<|nm 7,.int a,T u],.sh<|.lst [pr ss (cj os) a],.sh<|Z<|cj os a];generalize pr ss (cj os) a=pa at *;generalize Z (cj os a)=zc at *;unfold aK;exact ao|_=>simp[PL.k] at k0
  ·have S3:(a8 ls k).k≠0/\(a8 ls k).k≠1/\(a8 ls k).k≠7:=Uz;have p0:=si.uZ;obtain⟨n,hn⟩:∃n:Nat,ah (sd ss k)=n:=⟨(ah<|sd ss k).toNat,Uz⟩;have m1:=Gq g rA (cl:=cl) bh os k hk lk S3 n hn<|.sh .aP;have n1:=MV (λ(p:Nat)=>CG ss (cj os) (sd ss k) (aG (sd ss k) (p:Nat))<|a8 ls k)<|List.range n;have le:=CF (cl:=cl) hn hT lk si S3.1;have ai:=λvs=>zA (vs:=vs) (f:=λ(p:Nat)=>CG ss (cj os) (sd ss k) (aG (sd ss k) (p:Nat))<|a8 ls k) (as:=List.range n);rw[le] at n1 ai;have Yh:=(a8 ls k).V2;have ne:∀j,j<32->(a8 ls k).k≠j->dP (.str<|nm (a8 ls k).k) (.str<|nm j)=some (.bl false):=λj hj h=>by rw[EJ _ _ Uz hj,VY h]
   have e0:=ne 0 Uz S3.1;have e1:=ne 1 Uz S3.2.1;have e7:=ne 7 Uz S3.2.2;cases q:bW ss (cj os) cl (sd ss k) (a8 ls k) with|none=>rw[q] at n1;generalize lC:((List.range n).map λ(p:Nat)=>oD<|CG ss (cj os) (sd ss k) (aG (sd ss k) (p:Nat))<|a8 ls k)=ds at *;refine .inr ⟨⟨hw,rfl⟩,pZ ls ss cl bh os (.sh<|.int k) (.sh (a8 ls k).d) (.sh<|.lst<|(a8 ls k).ns.map<|pr ss<|cj os)<|.sh<|.lst ds,rfl,?_⟩;unfold pZ at *;generalize D.lst ((a8 ls k).ns.map<|pr ss<|cj os)=od at *;generalize (a8 ls k).d=ld at *;generalize D.lst ds=zd at *;unfold aK;exact ao|some c=>rw[q] at n1;rw[ai c q] at m1 n1;have ap:df (.lst<|c.map .int) (Fd os)=_:=A3 os (some c) ol;refine .inl ⟨some c,.sh<|.lst<|(a8 ls k).ns.map<|pr ss<|cj os,.sh<|.lst<|c.map .int,done _ q,rfl,rfl,?_⟩;unfold pZ at *;generalize D.lst ((a8 ls k).ns.map<|pr ss<|cj os)=od at *;generalize (a8 ls k).d=ld at *;generalize D.lst (c.map .int)=zd at *;unfold aK;exact ao
 ·have VW:inD false (.int (k:Int)) (eU bh)=some (.bl false):=by rw[VW,YO (by decide),VY λz=>hw<|(hd k).mp z]
  have ap:df .aP (Fd os)=_:=A3 os none ol;refine .inl ⟨none,.sh (.lst<|(a8 ls k).ns.map λa=>.tup [T<|sd ss a,fD<|os.getD a none]),.sh .aP,hP.more g hk (λz=>absurd z hw) λ_=>rfl,rfl,rfl,?_⟩;unfold pZ at *;generalize D.lst ((a8 ls k).ns.map λa=>.tup [T<|sd ss a,fD<|os.getD a none])=od at *;generalize (a8 ls k).d=ld at *;unfold aK;exact ao
theorem F1:(∃os,nF ls ss cl ls.length os/\lY [Pg ls,aW ss,dN cl]=.ok (Fd os) [])\/((∃k os,k<ls.length/\nF ls ss cl k os/\(mW ls k/\bW ss (cj os) cl (sd ss k) (a8 ls k)=none))/\lY [Pg ls,aW ss,dN cl]=.ok .aP []):=by
 obtain⟨bh,hw,_,hd⟩:=uK ls g.wf g.ne Uz;have er:=hZ ls.length Uz;have ln:=kF ls;have L:=Q1k (g:=aq 5) (body:=aK) (λ(k:Nat)=>D.int k) (λ(os:List (Option<|List Int))(t:Sl×Sl×Sl×Sl)=>pZ ls ss cl bh os t.1 t.2.1 t.2.2.1 t.2.2.2) JO (λd r=>(∃k os,k<ls.length/\nF ls ss cl k os/\(mW ls k/\bW ss (cj os) cl (sd ss k) (a8 ls k)=none))/\d=.aP/\bp [false,false,false] r=some []) (List.range ls.length) (nF ls ss cl) [] (.no,.no,.no,.no) ⟨rfl,rfl,rfl,rfl⟩ ⟨rfl,λj hj=>absurd hj Uz⟩ (by
  intro i k hk os t ht hP;obtain⟨rfl,hk⟩:=bE hk;obtain⟨f5,f6,f7,f8⟩:=ht;rcases wU g rA sY hc bh hd k hk os hP t.1 t.2.1 t.2.2.1 t.2.2.2 f5 f6 f7 f8 with ⟨o,t7,t8,p,g7,g8,e⟩|⟨z,r,i,e⟩
  exact .inl ⟨os++[o],(.sh<|.int k,.sh (a8 ls k).d,t7,t8),p,⟨rfl,rfl,g7,g8⟩,e⟩;exact .inr ⟨_,r,⟨⟨k,os,hk,hP,z⟩,rfl,i⟩,e⟩)
 have z0:Fd []=.lst []:=rfl;rcases L with ⟨os,t,hP,ht,L⟩|⟨d,r,⟨z,rfl,hi⟩,L⟩
 rw[Hh] at hP;refine .inl ⟨os,hP,?_⟩;unfold pZ at L;rw[z0] at L;dsimp only at L;unfold lY A8;exact rn;refine .inr ⟨z,?_⟩;unfold pZ at L;rw[z0] at L;dsimp only at L;unfold lY A8;exact rn (hi:=hi)
end
section
variable{gs:V7}{ls:RY}{ss:V7}{ix_:Nat}(g:Gd gs ls ss ix_){cl:V7}
include g
theorem nF.uniq{k k':Nat}{os GB:List (Option<|List Int)}(h:nF ls ss cl k os)(h':nF ls ss cl k' GB)(hk:k<=ls.length):∀j,j<k->j<k'->os[j]?=GB[j]?:=by intro j;induction j using Nat.strongRecOn with|_ j ih=>intro h1 h2;by_cases r:mW ls j;obtain⟨c,e,l,_⟩:=(h.2 j h1).1 r;obtain⟨c',e',l',_⟩:=(h'.2 j h2).1 r;rw[j4 (cs:=cj GB) λa ha=>by have hl:=qI g (show j<ls.length by lia) ha;unfold cj;rw[mG,mG,ih a hl Uz Uz]] at l;rw[l] at l';rw[e,e',l'];rw[(h.2 j h1).2 r,(h'.2 j h2).2 r]
theorem nF.line{k k':Nat}{os GB:List (Option<|List Int)}(h:nF ls ss cl k os)(h':nF ls ss cl k' GB)(hk:k<ls.length)(hk':k<k'):bW ss (cj os) cl (sd ss k) (a8 ls k)=bW ss (cj GB) cl (sd ss k) (a8 ls k):=j4 λa ha=>by have hl:=qI g hk ha;unfold cj;rw[mG,mG,h.uniq g h' Uz a hl Uz]
end
theorem QS(cl:V7)(c:UX)(h:cl.length<=100):df (Z c) (dN cl)=some (dN<|cl++[c]):=by show (if (cl.map Z).length<16777216 then _ else _)=_;rw[YN (by simp;lia)];simp[dN]
theorem Q2B(n:Nat)(hn:n<=1000)(ZZ:Int)(s8:Sl)(f8:free (some s8)=true)(r0 r1 r2 r3 r4 r5:Sl):∃(xs:UX)(v:Int)(t:Sl),loop (aq 8) e8 ((List.range n).map λ(k:Nat)=>D.int k) [r0,r1,r2,r3,r4,r5,.sh<|.int ZZ,.ow<|Z [],s8]=.ok .nx [r0,r1,r2,r3,r4,r5,.sh<|.int v,.ow<|Z xs,t]/\free (some t)=true/\xs.length=n/\∀x∈xs,Rt x:=by obtain⟨⟨v,xs⟩,t,⟨h1,h2⟩,ht,L⟩:=bu (g:=aq 8) (body:=e8) (λ(k:Nat)=>D.int k) (λ(s:Int×List Int)(t:Sl)=>[r0,r1,r2,r3,r4,r5,.sh<|.int s.1,.ow<|Z s.2,t]) kv (List.range n) (λk s=>s.2.length=k/\∀x∈s.2,Rt x) (ZZ,[]) s8 f8 ⟨rfl,λx hx=>by cases hx⟩ (by intro i k hk s t ht hP;obtain⟨rfl,hk⟩:=bE hk;obtain⟨v,xs⟩:=s;obtain⟨h1,h2⟩:=hP;dsimp only at h1 h2;have hf:free (some t)=true:=ht;have m:=cU v 48271 Uz Uz;have ap:=nM xs (v*48271 % 1000003) Uz;refine⟨(v*48271 % 1000003,xs++[v*48271 % 1000003]),.sh<|.int k,⟨by simp[h1],λx hx=>?_⟩,rfl,?_⟩;rcases List.mem_append.mp hx with hx|hx;exact h2 x hx;rw[List.mem_singleton.mp hx];exact⟨Int.emod_nonneg _ Uz,Hw _ Uz⟩;dsimp only;rw[aF,show aq 8 (.int (k:Int)) _=.ok () [r0,r1,r2,r3,r4,r5,.sh<|.int v,.ow<|Z xs,.sh<|.int k] by simp[hf],ag,show e8 _=.ok .nx _ by unfold e8;exact ao];rfl);exact⟨xs,v,t,L,ht,by simpa using h1,h2⟩
theorem BB(ns:UX)(p:Nat)(gs:V7)(hg:AI gs)(h3:gs.length<=50):∃(cl:V7)(q:Nat),um [Row ns p,aW gs,.int gs.length]=.ok (dN cl) [Row ns q]/\cl.length=gs.length/\∀k,k<gs.length->((cl.getD k []).length:Int)=ah (sd gs k)/\∀v∈cl.getD k [],Rt v:=by
 have er:=hZ gs.length Uz;obtain⟨⟨cl,q⟩,t,⟨h1,h2⟩,ht,L⟩:=bu (g:=aq 4) (body:=dD) (λ(k:Nat)=>D.int k) (λ(s:List (List Int)×Nat)(t:Sl×Sl×Sl×Sl×Sl)=>[.io<|Row ns s.2,.sh<|aW gs,.sh<|.int gs.length,.ow<|dN s.1,t.1,t.2.1,t.2.2.1,t.2.2.2.1,t.2.2.2.2]) (λt=>free (some t.1)=true/\free (some t.2.1)=true/\free (some t.2.2.1)=true/\free (some t.2.2.2.1)=true/\free (some t.2.2.2.2)=true) (List.range gs.length) (λk s=>s.1.length=k/\∀j,j<k->((s.1.getD j []).length:Int)=ah (sd gs j)/\∀v∈s.1.getD j [],Rt v) ([],p) (.no,.no,.no,.no,.no) ⟨rfl,rfl,rfl,rfl,rfl⟩ ⟨rfl,λj hj=>absurd hj Uz⟩ (by
  intro i k hk s t ht hP;obtain⟨rfl,hk⟩:=bE hk;obtain⟨cl,q⟩:=s;obtain⟨t4,t5,t6,t7,t8⟩:=t;obtain⟨f4,f5,f6,f7,f8⟩:=ht;obtain⟨h1,h2⟩:=hP;dsimp only at f4 f5 f6 f7 f8 h1 h2;obtain⟨Lo,tk,b0,b1⟩:=aT ns q 1000003 Uz;have si:=hg.at hk;have ig:=bR gs k hk;have ce:=ly (sd gs k) si.pre;have p0:=si.uZ;have Qm:=si.2.2;obtain⟨n,hn⟩:∃n:Nat,ah (sd gs k)=n:=⟨(ah<|sd gs k).toNat,Uz⟩;rw[hn] at ce;have er2:=hZ n Uz;obtain⟨xs,v,t,L,ft,xl,xr⟩:=Q2B n Uz (Lo+1+k) t8 f8 (.io<|Row ns<|q+1) (.sh<|aW gs) (.sh<|.int gs.length) (.ow<|dN cl) (.sh<|.int k)<|.sh<|.int Lo;have z0:Z []=.lst []:=rfl;rw[z0] at L;have e:aq 4 (.int (k:Int)) [.io<|Row ns q,.sh<|aW gs,.sh<|.int gs.length,.ow<|dN cl,t4,t5,t6,t7,t8]=.ok () [.io<|Row ns q,.sh<|aW gs,.sh<|.int gs.length,.ow<|dN cl,.sh<|.int k,t5,t6,t7,t8]:=by simp[f4]
  have more:∀c:UX,(c.length:Int)=n->(∀v∈c,Rt v)->(cl++[c]).length=k+1/\∀j,j<k+1->(((cl++[c]).getD j []).length:Int)=ah (sd gs j)/\∀v∈(cl++[c]).getD j [],Rt v:=λc c1 c2=>by refine⟨by simp[h1],λj hj=>?_⟩;by_cases z:j=k;subst z;rw[show (cl++[c]).getD j []=c by simp[<-h1],hn];exact⟨c1,c2⟩;rw[show (cl++[c]).getD j []=cl.getD j [] by simp[zF (show j<cl.length by lia)]];exact h2 j Uz
  by_cases c:Lo % 3=0\/(k:Int)=gs.length-1;obtain⟨R,hR⟩:∃R:Sl->ax,R=λx=>[.io<|Row ns<|q+1,.sh<|aW gs,.sh<|.int gs.length,.ow<|dN cl,.sh<|.int k,.sh<|.int Lo,.sh<|.int v,x,t]:=⟨_,rfl⟩;have cc:aD 1 (cR<|aa 7) (aq 9) (VP.ret true) kj (R<|.sh<|Z xs)=.ok (Z<|xs.map λx=>x / 7 % 4) (R<|.sh<|Z xs):=by subst hR;refine cY (λ(k:Int)=>D.int k) (λx=>D.int<|x / 7 % 4) xs ao Uz (by simp[Z,Function.comp_def]) λx hx acc=>?_;unfold kj;exact ao
  have ap:=QS cl (xs.map λx=>x / 7 % 4) Uz;refine⟨(cl++[xs.map λx=>x / 7 % 4],q+1),(.sh<|.int k,.sh<|.int Lo,.sh<|.int v,.sh<|Z<|xs.map λx=>x / 7 % 4,t),more _ (by simp[xl]) (λw hw=>by obtain⟨x,_,rfl⟩:=List.mem_map.mp hw;unfold Rt;lia),⟨rfl,rfl,rfl,rfl,ft⟩,?_⟩;dsimp only;rw[aF,e,ag];have tt:y9 (tB<|m2 dP (m2 eJ (aa 5)<|cI 3)<|cI 0) (tB<|m2 dP (aa 4)<|m2 gR (aa 2)<|cI 1) (R<|.ow<|Z xs)=.ok true (R<|.ow<|Z xs):=by subst hR;by_cases c1:Lo % 3=0;have e1:=JH c1;exact ao;have e1:=BH c1;have e2:=JH<|c.resolve_left c1;exact ao
  generalize Z (xs.map λx=>x / 7 % 4)=zz at *;have fz:Nh 7 (R<|.ow<|Z xs)=.ok () (R<|.sh<|Z xs):=by rw[hR];rfl
  subst hR;rw[show dD _=.ok .nx _ by unfold dD;exact ao];rfl;have c1:=BH (λz:Lo % 3=0=>c<|.inl z);have c2:=BH (λz:(k:Int)=gs.length-1=>c<|.inr z);have ap:=QS cl xs Uz;refine⟨(cl++[xs],q+1),(.sh<|.int k,.sh<|.int Lo,.sh<|.int v,.sh<|Z xs,t),more _ (by simp[xl]) xr,⟨rfl,rfl,rfl,rfl,ft⟩,?_⟩;dsimp only;rw[aF,e,ag];rw[show dD _=.ok .nx _ by unfold dD;exact ao];rfl)
 dsimp only at L h1 h2;rw[Hh] at h1 h2;have z0:dN []=.lst []:=rfl;rw[z0] at L;exact⟨cl,q,by unfold um Ii;exact rn,h1,h2⟩
theorem Q0D{f:Fn}{a:M D}{fl:List (M D)}{r r1 r2:ax}{d v w:D}{ds:Vt}(h:a r=.ok d r1)(h2:mL fl (r1.map hide)=.ok ds r2)(hf:f (d::ds)=.ok v [w]):kJ f a fl r=.ok v r1:=by show Tp _ _ r=_;rw[au,h,ag];show (match mL fl (r1.map hide) with|.ok ds _=>A4 f d ds r1|_=>.no)=_;rw[h2];show (match f (d::ds) with|.ok v [_]=>Res.ok v r1|.exc x [_]=>.exc x r1|_=>.no)=_;rw[hf]
theorem oO(xs:UX)(h:xs.length<=16777216):uo [T xs,T xs]=.ok (.bl true) []:=by
 obtain⟨_,t,_,_,L⟩:=bu (g:=aq 2) (body:=dE) D.int (λ(_:Unit)(t:Sl)=>[.sh<|T xs,.sh<|T xs,t]) kv xs (λ_ _=>True) () .no rfl trivial (by intro i y hy s t ht hP;have hf:free (some t)=true:=ht;refine⟨(),.sh<|.int y,trivial,rfl,?_⟩;rw[aF,show aq 2 (.int y) _=.ok () [.sh<|T xs,.sh<|T xs,.sh<|.int y] by simp[hf],ag,show dE _=.ok .nx _ by unfold dE;exact ao];rfl);have ln:bG (T xs)=some (.int xs.length):=by simp[bG,T]
 have ne:gW (.int xs.length) (.int xs.length)=some (.bl false):=by rw[bX];simp
 have eq:dP (T xs) (T xs)=some (.bl true):=Qj;have it:uJ "tuple" (T xs)=some (.bl true):=rfl;have sq:b6 (T xs)=some (xs.map D.int):=rfl;generalize T xs=t at *;unfold uo Io;exact rn
theorem J9(tb:D){s c:UX}(h:Tk s c)(i:zT lD tb=some (.bl true))(h1:gw bO "sides" tb=some (T s))(h2:gw br "cells" tb=some (Z c)):nX [tb,T s,Z c]=.ok (.bl true) []:=by have n1:=oO s (by have:=h.1.1;lia);have n2:=oO c (by have:=h.2.1;have:=h.1.2.2;lia);have il:uJ "list" (Z c)=some (.bl true):=rfl;have tz:=zb c;generalize Z c=zc at *;generalize T c=tc at *;unfold nX Il;exact rn
theorem gc{A:Type}(f:A->D):∀(as:List A),(∀a∈as,bj (f a)=true)->cf (as.map f)=true|[],_=>rfl|a::as,h=>by rw[Yk,cf,h a R9,gc f as λb hb=>h b<|Pe _ hb];rfl
theorem tY(xs:UX):bj (Z xs)=true:=by unfold Z;rw[bj];exact gc _ _ λ_ _=>rfl
theorem Br(xs:UX):bj (T xs)=true:=by unfold T;rw[bj];exact gc _ _ λ_ _=>rfl
theorem vV(gs:V7):bj (aW gs)=true:=by unfold aW;rw[bj];exact gc _ _ λ_ _=>Br _
theorem Ma(cl:V7):bj (dN cl)=true:=by unfold dN;rw[bj];exact gc _ _ λ_ _=>tY _
theorem Mb(os:List (Option<|List Int)):bj (Fd os)=true:=by unfold Fd;rw[bj];exact gc _ _ λo _=>by cases o with|none=>rfl|some c=>exact tY c
theorem Q0Q(gs cl:V7):bj (cW gs cl)=true:=by unfold cW;rw[bj];exact gc _ _ λk _=>by unfold Tg;rw[bj,cf,tY,cf,Br];rfl
theorem Bq(ls:RY):bj (Pg ls)=true:=by unfold Pg;rw[bj];exact gc _ _ λl _=>by cases l<;>simp[PL.d,PL.k,PL.ps,bj,cf,Br]
theorem SY{s c:UX}(h:Tk s c):nX [Tg s c,T s,Z c]=.ok (.bl true) []:=J9 _ h TS (UW s c) (UU s c)
theorem S0{s c:UX}(h:Tk s c):nX [Tb s c,T s,Z c]=.ok (.bl true) []:=J9 _ h TS (sS s c) (D6 s c)
theorem yz{A:Type}(f:A->D)(as:List A)(a:A)(h:as[as.length-1]?=some a):aj (.lst<|as.map f) (.int<|-1)=some (f a):=by
 have hl:0<as.length:=by cases as with|nil=>simp at h|cons=>simp
 show (mj (as.map f).length<|-1).bind _=_;rw[VE,mj,YO Uz,YN Uz,show (-1+(as.length:Int)).toNat=as.length-1 by lia];simp[h]
section
variable{gs:V7}{ls:RY}{ss:V7}{ix_:Nat}(g:Gd gs ls ss ix_)(rA:ls.length<=14){cl:V7}(sY:cl.length=gs.length)(hc:∀k,k<gs.length->Tk (sd gs k) (cl.getD k []))
include g rA sY hc
theorem vQ(hg:gs.length<=50):(∃os c,lY [Pg ls,aW ss,dN cl]=.ok (Fd os) []/\nZ [Pg ls,cW gs cl]=.ok (Tb (sd ss<|ls.length-1) c) []/\os.length=ls.length/\os[ls.length-1]?=some (some c)/\Tk (sd ss<|ls.length-1) c)\/(lY [Pg ls,aW ss,dN cl]=.ok .aP []/\nZ [Pg ls,cW gs cl]=.exc NC []):=by
 have hn:=List.length_pos_iff.mpr g.ne;rcases F1 g rA sY hc with ⟨os,h1,e1⟩|⟨⟨k,os,hk,h1,hr,hq⟩,e1⟩
 rcases yO g rA hc hg with ⟨GB,h2,e2⟩|⟨k,GB,hk,h2,⟨hr,hq⟩,e2⟩
 obtain⟨c,a1,_,a2⟩:=(h1.2 (ls.length-1) Uz).1 .last;refine .inl ⟨os,c,e1,?_,h1.1,a1,a2⟩;rw[e2];have:=h1.uniq g h2 (Wd _) (ls.length-1) Uz Uz;unfold cj;rw[mG,<-this,a1];rfl;obtain⟨c,_,a,_⟩:=(h1.2 k hk).1 hr;rw[h2.line g h1 hk hk,a] at hq;cases hq;rcases yO g rA hc hg with ⟨GB,h2,e2⟩|⟨_,_,_,_,_,e2⟩
 obtain⟨c,_,a,_⟩:=(h2.2 k hk).1 hr;rw[h1.line g h2 hk hk,a] at hq;cases hq;exact .inr ⟨e1,e2⟩
end
theorem M9(ns:UX):uj [Z ns]=.ok (.bl true) []:=by
 obtain⟨s1,k1,_⟩:=aT ns 0 1000003 Uz;obtain⟨s2,k2,_⟩:=aT ns 1 1000003 Uz;obtain⟨s3,k3,_⟩:=aT ns 2 1000003 Uz;obtain⟨ls,ss,gs,ix_,q,e1,g,EN,rA,h3,g0,gl⟩:=wW ns 3;obtain⟨cl,q',e2,sY,hc⟩:=BB [s1,s2,s3] 0 gs EN Uz;have tk:∀k,k<gs.length->Tk (sd gs k) (cl.getD k []):=λk hk=>⟨EN.at hk,hc k hk⟩;have il:Row ns 0=.lst [Z ns,.int 0]:=rfl;rw[il] at k1;have YL:=g.len;obtain⟨dr,ME⟩:∃dr,dr=D.tup [Pg ls,aW ss,.int gs.length,aW gs]:=⟨_,rfl⟩;have d0:aj dr (.int 0)=some (Pg ls):=by rw[ME];rfl
 have d1:aj dr (.int 1)=some (aW ss):=by rw[ME];rfl
 have d2:aj dr (.int 2)=some (.int gs.length):=by rw[ME];rfl
 have d3:aj dr (.int 3)=some (aW gs):=by rw[ME];rfl
 have cd:bj dr=true:=by rw[ME,bj,cf,Bq,cf,vV,cf,cf,vV];rfl
 rw[<-ME] at e1;clear ME;have l0:gK (Pg ls)=some (Pg ls):=rfl;obtain⟨F,hF⟩:∃F:Sl->Sl->Sl->Sl->Sl->Sl->Sl->ax,F=λo a b c d e f=>[.sh<|Z ns,o,.sh<|.lst [.int s1,.int s2,.int s3],.sh dr,.sh<|aW ss,.sh<|aW gs,a,b,c,d,e,f]:=⟨_,rfl⟩;have cs:kJ um (fX [(aa 2),(cI 0)]) [(aa 5),(m2 aj (aa 3)<|cI 2)] (F (.ow<|Row ns q) .no .no .no .no .no .no)=.ok (dN cl) (F (.ow<|Row ns q) .no .no .no .no .no .no):=by subst hF;exact Q0D (d:=.lst [.lst [.int s1,.int s2,.int s3],.int 0]) ao (show mL _ [.sh<|Z ns,.no,.sh<|.lst [.int s1,.int s2,.int s3],.sh dr,.sh<|aW ss,.sh<|aW gs,.no,.no,.no,.no,.no,.no]=_ from ao) e2
 have er:=hZ gs.length Uz;have ct:aD 1 (bH [(m2 aj (aa 3)<|cI 2)]) (aq 12) (VP.ret true) tU (F (.ow<|Row ns q) (.sh<|dN cl) .no .no .no .no .no)=.ok (cW gs cl) (F (.ow<|Row ns q) (.sh<|dN cl) .no .no .no .no .no):=by
  subst hF;refine cY (λ(k:Nat)=>D.int k) (λk=>Tg (sd gs k)<|cl.getD k []) (List.range gs.length) ao (by simp;lia) rfl λk hk acc=>?_;have hk:=List.mem_range.mp hk;have i1:=bR gs k hk;have i2:aj (dN cl) (.int (k:Int))=some (Z<|cl.getD k []):=by show (mj (cl.map Z).length (k:Int)).bind _=_;rw[mj,YN Uz,YN (by simp;lia)];simp[show k<cl.length by lia]
  have tn:=jz<|tk k hk;have pm:OO (Tb (sd gs k)<|cl.getD k [])=some (Tg (sd gs k)<|cl.getD k []):=rfl;show rO _ _ _ [.sh<|Z ns,.ow<|Row ns q,.sh<|.lst [.int s1,.int s2,.int s3],.sh dr,.sh<|aW ss,.sh<|aW gs,.sh<|dN cl,.no,.no,.no,.no,.no,.sh<|.int k,.ow acc]=.ok _ [.sh<|Z ns,.ow<|Row ns q,.sh<|.lst [.int s1,.int s2,.int s3],.sh dr,.sh<|aW ss,.sh<|aW gs,.sh<|dN cl,.no,.no,.no,.no,.no,.sh<|.int k,.ow acc];unfold rO;rw[au];generalize Tb (sd gs k) (cl.getD k [])=tb at *;generalize Z (cl.getD k [])=zc at *;generalize dN cl=cd at *;rw[show jS _ _ _ _=.ok tb _ from ao,ag,pm];rfl
 have Zm:∀d,bj d=true->(F (.ow<|Row ns q) (.sh<|dN cl) (.sh<|cW gs cl) (.sh<|Pg ls) (.sh d) .no .no).all vU=true:=λd hd=>by
  subst hF;have r1:bj (Row ns q)=true:=by unfold Row;rw[bj,cf,tY];rfl
  simp[vU,tY,r1,cd,vV,Ma,Q0Q,Bq,hd,bj,cf]
 have un:∀a b c d e f,((F (.ow<|Row ns q) a b c (.sh d) e f).map eL)=F .no (eL a) (eL b) (eL c) (.sh d) (eL e) (eL f):=λa b c d e f=>by subst hF;rfl
 rcases vQ g rA sY tk Uz with ⟨os,c,p1,p2,ol,oc,tc⟩|⟨p1,p2⟩
 have cc:=Zm _<|Mb os;have tr:fR (F .no (.sh<|dN cl) (.sh<|cW gs cl) (.sh<|Pg ls) (.sh<|Fd os) .no .no)=.ok .nx (F .no (.sh<|dN cl) (.sh<|cW gs cl) (.sh<|Pg ls) (.sh<|Fd os) (.sh<|Tb (sd ss<|ls.length-1) c) .no):=by subst hF;generalize Tb (sd ss<|ls.length-1) c=tb at *;generalize cW gs cl=gt at *;unfold fR;exact ao
 have nf:=Q13 ls λl hl=>by obtain⟨i,hi,rfl⟩:=List.getElem_of_mem hl;have:=kS g hi;rw[show a8 ls i=ls[i] by simp[a8,hi]] at this;exact this.jZ
 have lt:bG (cW gs cl)=some (.int gs.length):=by show some (D.int ((List.range gs.length).map _).length)=_;simp
 have nl:gW (.int gs.length) (.int gs.length)=some (.bl false):=by rw[bX];simp
 have i1:aj (aW ss) (.int<|-1)=some (T<|sd ss<|ls.length-1):=by refine yz T ss _ ?_;rw[YL];simp[sd,show ls.length-1<ss.length by lia]
 have i2:aj (Fd os) (.int<|-1)=some (Z c):=yz fD os (some c) (by rw[ol];exact oc);have it:=S0 tc;have nn:isND (Fd os) .aP=some (.bl false):=rfl;obtain⟨_,t,_,_,L⟩:=bu (g:=aq 11) (body:=kI) (λ(k:Nat)=>D.int k) (λ(_:Unit)(t:Sl)=>F .no (.sh<|dN cl) (.sh<|cW gs cl) (.sh<|Pg ls) (.sh<|Fd os) .no t) kv (List.range gs.length) (λ_ _=>True) () .no rfl trivial (by
  intro i k hk s t ht hP;obtain⟨rfl,hk⟩:=bE hk;have hf:free (some t)=true:=ht;refine⟨(),.sh<|.int k,trivial,rfl,?_⟩;have i1:=bR gs k hk;have i2:aj (dN cl) (.int (k:Int))=some (Z<|cl.getD k []):=by show (mj (cl.map Z).length (k:Int)).bind _=_;rw[mj,YN Uz,YN (by simp;lia)];simp[show k<cl.length by lia]
  have i3:aj (cW gs cl) (.int (k:Int))=some (Tg (sd gs k)<|cl.getD k []):=by show (mj ((List.range gs.length).map _).length (k:Int)).bind _=_;rw[mj,YN Uz,YN (by simp;lia)];simp[hk]
  have it:=SY<|tk k hk;subst hF;generalize Tg (sd gs k) (cl.getD k [])=tg at *;generalize Z (cl.getD k [])=zc at *;generalize T (sd gs k)=ts at *;generalize cW gs cl=gt at *;generalize dN cl=cd at *;generalize Fd os=fo at *;dsimp only;rw[aF,show aq 11 (.int (k:Int)) _=.ok () [.sh<|Z ns,.no,.sh<|.lst [.int s1,.int s2,.int s3],.sh dr,.sh<|aW ss,.sh<|aW gs,.sh cd,.sh gt,.sh<|Pg ls,.sh fo,.no,.sh<|.int k] by simp[hf],ag,show kI _=.ok .nx _ by unfold kI;exact ao];rfl)
 have te:pE (F .no (.sh<|dN cl) (.sh<|cW gs cl) (.sh<|Pg ls) (.sh<|Fd os) (.sh<|Tb (sd ss<|ls.length-1) c) .no)=.ok false (F .no (.sh<|dN cl) (.sh<|cW gs cl) (.sh<|Pg ls) (.sh<|Fd os) (.sh<|Tb (sd ss<|ls.length-1) c) .no):=by subst hF;generalize Tb (sd ss<|ls.length-1) c=tb at *;generalize cW gs cl=gt at *;generalize dN cl=cd at *;generalize Fd os=fo at *;generalize T (sd ss<|ls.length-1)=ts at *;generalize Z c=zc at *;dsimp only;show pE _=.ok (!true) _;exact ao
 have re:sU (F .no (.sh<|dN cl) (.sh<|cW gs cl) (.sh<|Pg ls) (.sh<|Fd os) .no .no)=.ok (.rt<|.bl true) (F .no (.sh<|dN cl) (.sh<|cW gs cl) (.sh<|Pg ls) (.sh<|Fd os) .no t):=by subst hF;dsimp only at *;generalize cW gs cl=gt at *;generalize dN cl=cd at *;generalize Fd os=fo at *;exact ao
 have st:ve br 10 11 fR [(g6,none,pD)] pE (ak (aY cF) aI) sU (F (.ow<|Row ns q) (.sh<|dN cl) (.sh<|cW gs cl) (.sh<|Pg ls) (.sh<|Fd os) .no .no)=.ok (.rt<|.bl true) (F .no (.sh<|dN cl) (.sh<|cW gs cl) (.sh<|Pg ls) (.sh<|Fd os) .no t):=by
  have s1:(F .no (.sh<|dN cl) (.sh<|cW gs cl) (.sh<|Pg ls) (.sh<|Fd os) (.sh<|Tb (sd ss<|ls.length-1) c) .no)[10]?=some (.sh<|Tb (sd ss<|ls.length-1) c):=by subst hF;rfl
  have s2:free (F .no (.sh<|dN cl) (.sh<|cW gs cl) (.sh<|Pg ls) (.sh<|Fd os) (.sh<|Tb (sd ss<|ls.length-1) c) .no)[11]?=true:=by subst hF;rfl
  have s3:((F .no (.sh<|dN cl) (.sh<|cW gs cl) (.sh<|Pg ls) (.sh<|Fd os) .no .no).set 10 .no).set 11 .no=F .no (.sh<|dN cl) (.sh<|cW gs cl) (.sh<|Pg ls) (.sh<|Fd os) .no .no:=by subst hF;rfl
  have s4:D8 br (Tb (sd ss<|ls.length-1) c)=true:=rfl;unfold ve;rw[YN cc,un];dsimp only[eL];rw[tr];dsimp only;rw[te];dsimp only;rw[s1];dsimp only;rw[s4,s2,s3,re];rfl
 subst hF;dsimp only at *;generalize cW gs cl=gt at *;generalize dN cl=cd at *;generalize Fd os=fo at *;unfold uj A5;exact rn;have cc:=Zm .aP rfl;have tr:fR (F .no (.sh<|dN cl) (.sh<|cW gs cl) (.sh<|Pg ls) (.sh .aP) .no .no)=.exc NC (F .no (.sh<|dN cl) (.sh<|cW gs cl) (.sh<|Pg ls) (.sh .aP) .no .no):=by subst hF;generalize cW gs cl=gt at *;unfold fR;exact vj (UB<|ro ao rfl rfl p2 rfl)
 have st:ve br 10 11 fR [(g6,none,pD)] pE (ak (aY cF) aI) sU (F (.ow<|Row ns q) (.sh<|dN cl) (.sh<|cW gs cl) (.sh<|Pg ls) (.sh .aP) .no .no)=.ok (.rt<|.bl true) (F .no (.sh<|dN cl) (.sh<|cW gs cl) (.sh<|Pg ls) (.sh .aP) .no .no):=by unfold ve;rw[YN cc,un];dsimp only[eL];rw[tr];subst hF;rfl
 subst hF;dsimp only at *;generalize cW gs cl=gt at *;generalize dN cl=cd at *;unfold uj A5;exact rn
end LW
end
section
set_option Elab.async false
set_option maxRecDepth 100000
set_option maxHeartbeats 4000000
set_option linter.all false
namespace WL.LW
open PySem PySem.Spec PyProof.Rows L2 VP VS _root_.LW
seal gr ja PV PB zt PF th zr PR vB q9 tq zu
structure Ax where
 je:Addr
 c_NoCell:Addr
 cP:Addr
 fL:FuncData
structure Xt(K:Frag)(mg:MG)(x:Ax):Prop where
 m_BadLine:mg "BadLine" = some (.ref x.je)
 m_NoCell:mg "NoCell" = some (.ref x.c_NoCell)
 x_BadLine:VS.EZ K x.je x.cP
 f_BadLine:EF K "__init__" "BadLine.__init__" (L2.inClass (top 13) 0) x.cP x.fL
 b_BadLine:Binds K x.fL ["self","at","why"] []
 s_BadLine_at:VS.q7 K x.je "at"
 s_BadLine_why:VS.q7 K x.je "why"
 x_NoCell:W.excIn K x.c_NoCell VS.pW "ValueError.__new__" = true
 c_NoCell:VS.EY K x.c_NoCell
 t_NoCell:∀p∈g6,∃C,mg p.1=some (.ref C)/\W.mroIn K C (.ref x.c_NoCell)=some p.2
section
variable{P:Program}{w:World}{K:Frag}{mg:MG}{base:Heap}{a:LG}(T:Txt L w K mg a){x:Ax}(U:Xt K mg x)
include T U in
theorem eK:pJ ⟨P,w,K,mg,base⟩ 1 x.cP x.fL ["self","at","why"] [true,false,false] bM:=JL (N:=["self","at","why"]) U.f_BadLine Wi rfl λus jK A outer s H hr=>(ae (zk 0 (List.forall_mem_cons.mpr ⟨⟨_,U.m_BadLine,U.s_BadLine_at⟩,List.forall_mem_nil _⟩)<|iX 1)<|ae (zk 0 (List.forall_mem_cons.mpr ⟨⟨_,U.m_BadLine,U.s_BadLine_why⟩,List.forall_mem_nil _⟩)<|iX 2) ay)
theorem yJ:b9 P base T 1 G5:=eY LZ T dn (T.d 0 rfl)
theorem Df:b9 P base T 1 DG:=eY IZ T dn (T.d 1 rfl)
theorem Dn:b9 P base T 2 K4:=eY Ju T (dc (yJ T) dn) (T.d 2 rfl)
theorem C9:Y6 P base T "Table" "__init__" false 3 [true,false,false] BK:=⟨_,_,_,_,_,_,(T.m 0 rfl),m6 WY T (dc (Df T) dn) (T.m 0 rfl).fu (λS hr _=>(ae xs<|ae xs<|ae (cJ (r7<|se<|Wb (Dn T) hr<|hW (oV (T.f 1)<|lN 0) jr) kX ay)<|ae (cJ (Z6 hr (YF (T.b 5)<|PV.rd<|oV (T.f 0)<|lN 0)<|Wb (yJ T) hr<|hW (oV (T.f 1)<|lN 0) jr) kX ay)<|ae (cJ (r7<|se<|u5 false (xY rfl true) rfl (T.b 0) VS.boot_all<|PV.rd<|PF.pv<|T6 1 ["self","sides","cells","number","?acc3"] (sW<|oV (T.f 0)<|lN 0) (λnd=>(HE 3 nd)) jt xe) kX ay) ay))⟩
theorem oP:b9 P base T 1 qL:=eY Bi T dn (T.d 3 rfl)
theorem lL:b9 P base T 1 oY:=eY Jk T dn (T.d 4 rfl)
theorem NN:b9 P base T 2 Q16:=eY xM T (dc (lL T)<|dc (oP T) dn) (T.d 5 rfl)
theorem N3:b9 P base T 1 KU:=⟨_,_,_,_,(T.d 6 rfl),m6 Rq T dn (T.d 6 rfl).fu (λS hr _=>(ae (fU<|wY (sy "int" Qj rfl (T.b 4) rfl (T.b 3) (by decide +kernel)<|PV.rd xe)<|DC<|OR<|sy "bool" Qj rfl (T.b 4) rfl (T.b 1) (by decide +kernel)<|PV.rd xe) ay))⟩
theorem NU:b9 P base T 2 KH:=⟨_,_,_,_,(T.d 7 rfl),m6 Rj T (dc (N3 T) dn) (T.d 7 rfl).fu (λS hr _=>(ae (cJ (zt.pb<|yL (r7<|se<|sy "tuple" Qj rfl (T.b 4) rfl (T.b 13) (by decide +kernel)<|PV.rd xe)<|wO xb) kX ay) kX))⟩
theorem NQ:b9 P base T 3 KA:=⟨_,_,_,_,(T.d 8 rfl),m6 Rg T (dc (NU T) dn) (T.d 8 rfl).fu (λS hr _=>(ae xs<|ae (fU<|wY (sy "list" Qj rfl (T.b 4) rfl (T.b 6) (by decide +kernel)<|PV.rd xe) xe) ay))⟩
theorem Dg:b9 P base T 1 DI:=eY Jc T dn (T.d 9 rfl)
theorem rY:b9 P base T 1 u6:=eY Je T dn (T.d 10 rfl)
theorem NO:b9 P base T 2 Ky:=eY Bj T (dc (Dg T) dn) (T.d 11 rfl)
theorem Q1U:b9 P base T 1 KI:=eY Jg T dn (T.d 12 rfl)
theorem NR:b9 P base T 1 KC:=eY Bl T dn (T.d 13 rfl)
theorem Q0v:b9 P base T 2 KO:=eY Ji T (dc (NR T) dn) (T.d 14 rfl)
theorem N0:b9 P base T 2 KQ:=⟨_,_,_,_,(T.d 15 rfl),m6 Rn T (dc (rY T) dn) (T.d 15 rfl).fu (λS hr _=>(ae (cJ xb (ae (fU<|Uc (T.b 13)<|PV.rd<|PF.pv<|T6 1 ["_law_line","_law_own","_law_at","_law_k","?acc3"] (fB rfl (T.b 9)<|aB xe a7) (λnd=>(HE 3 nd)) jt<|mz xe<|GY xe xe) ay) ay) kX))⟩
theorem Q1X:b9 P base T 3 Kx:=eY Jd T (dc (Q1U T)<|dc (Q0v T)<|dc (Dg T)<|dc (rY T)<|dc (NO T)<|dc (N0 T) dn) (T.d 16 rfl)
theorem NP:b9 P base T 2 Kz:=eY Bk T (dc (oP T) dn) (T.d 17 rfl)
theorem Di:b9 P base T 1 KN:=eY Jh T dn (T.d 18 rfl)
theorem N2:b9 P base T 2 KS:=⟨_,_,_,_,(T.d 19 rfl),m6 Q1u T dn (T.d 19 rfl).fu (λS hr _=>(ae xs<|ae xs<|ae (vx rfl (OI true hr.units 2 xe<|rV _)<|ae (Wr (sW<|Wb (Di T) hr<|hW (mz xe<|OS 2) jr) (HE 3 S.nd)<|ae (cJ (Ag 1 xe (by with_unfolding_all rfl)) kX ay) ay) ay) kX))⟩
theorem NW:b9 P base T 4 KJ:=⟨_,_,_,_,(T.d 20 rfl),m6 Rk T (dc (N2 T)<|dc (Di T)<|dc (oP T)<|dc (Q1X T)<|dc (NP T) dn) (T.d 20 rfl).fu (λS hr _=>(ae xs<|ae xs<|ae (Wr (fB rfl (T.b 9)<|aB xe a7) (HE 5 S.nd)<|ae xs<|ae (PG 7 S.nd xe)<|ae xs<|ae (cJ xb kX<|ae (cJ xb (ae (PG 8 S.nd<|qK PJ xe xe) ay) kX) ay) kX) kX))⟩
theorem NS:b9 P base T 1 KD:=⟨_,_,_,_,(T.d 21 rfl),m6 Rh T dn (T.d 21 rfl).fu (λS hr _=>(ae xs<|ae (PG 3 S.nd<|qK w_add (qK Ez xe xe) xe)<|ae (PG 4 S.nd<|qK w_add (qK Ez xe xe) xe) kX))⟩
theorem NT:b9 P base T 2 KG:=eY Jf T (dc (lL T)<|dc (NS T)<|dc (rY T) dn) (T.d 22 rfl)
theorem NZ:b9 P base T 2 KP:=eY Jj T (dc (lL T)<|dc (rY T) dn) (T.d 23 rfl)
theorem N1:b9 P base T 2 KR:=⟨_,_,_,_,(T.d 24 rfl),m6 Q0O T (dc (lL T)<|dc (oP T) dn) (T.d 24 rfl).fu (λS hr _=>(ae xs<|ae (cJ xb (ae xs<|ae xs<|ae (cJ xb (ae (PG 6 S.nd<|PF.pv<|Q1L rfl (T.b 10) rfl (T.b 6)<|PV.rd xe) ay) ay) kX) ay)<|ae xs<|ae xs<|ae xs<|ae (PG 8 S.nd<|mz (PF.pv<|sf<|aB (yQ rfl (T.b 10) rfl (T.b 13)<|PV.rd xe)<|aB xe<|aB xe<|aB xe a7) xe) kX))⟩
theorem Q22:b9 P base T 3 KL:=⟨_,_,_,_,(T.d 25 rfl),m6 Q18 T (dc (lL T)<|dc (N1 T)<|dc (NZ T)<|dc (NT T)<|dc (oP T) dn) (T.d 25 rfl).fu (λS hr _=>(ae xs<|ae xs<|ae xs<|ae xs<|ae xs<|ae xs<|ae (HJ 1 7 S.nd rfl (Or.inl rfl) rfl (N':=["_law_row","_law_given","_law_k","_law_many","_law_count","_law_turn","_law_program_here","_law_sides","_law_index_here","_law_a","_law_way","_law_found","_law_line","?acc12"]) ⟨rfl,by kernel_rfl,by decide +kernel⟩ rfl (sW xe) kz (rF (by kernel_rfl)) (λC s H ex=>(HE 12<|ZX ["_law_row","_law_given","_law_k","_law_many","_law_count","_law_turn","_law_program_here","_law_sides","_law_index_here","_law_a","_law_way","_law_found","_law_line","?acc12"])) (λC s H ex=>jt) (λC s H ex=>(mz xe xe)))<|ae xs<|ae (Wr (fB rfl (T.b 9)<|aB xe a7) (HE 2 S.nd)<|ae xs<|ae xs<|ae xs<|ae (cJ (zt.pb<|yL xb<|yL xb<|wO<|wN U8 (Q1B rfl rfl (T.b 7) boot_max xe oW) oW<|rV _) kX ay) kX)<|ae (Ep (i:=1)<|Ep (i:=7) xs) ay))⟩
theorem TR:b9 P base T 1 Un:=⟨_,_,_,_,(T.d 26 rfl),m6 W0 T dn (T.d 26 rfl).fu (λS hr _=>(ae (fU<|u5 false (xY rfl true) rfl (T.b 0) VS.boot_all<|PV.rd<|PF.pv<|T6 2 ["line","part","value","?acc1"] (xy rfl (T.b 14)<|aB (nv (T.t 2 rfl) rfl xe)<|aB xe a7) (λnd=>(xw rfl<|Ws 1 nd<|Ws 2 nd sV)) (so<|Q1l (T.t 0 rfl) rfl xe (by with_unfolding_all rfl))<|wZ U9 xe (nv (T.t 0 rfl) rfl xe) (by with_unfolding_all rfl)) ay))⟩
theorem N4:b9 P base T 2 KV:=eY Jl T (dc (Df T) dn) (T.d 27 rfl)
theorem Dj:b9 P base T 1 DJ:=⟨_,_,_,_,(T.d 28 rfl),m6 Q12 T dn (T.d 28 rfl).fu (λS hr _=>(ae (fU<|PF.pv<|T6 2 ["line","part","value","?acc1"] (xy rfl (T.b 14)<|aB (nv (T.t 2 rfl) rfl xe)<|aB xe a7) (λnd=>(xw rfl<|Ws 1 nd<|Ws 2 nd sV)) (so xb) xe) ay))⟩
theorem N8:b9 P base T 2 K0:=eY Jq T (dc (Dj T) dn) (T.d 29 rfl)
theorem lK:b9 P base T 1 oX:=eY IX T dn (T.d 30 rfl)
theorem rZ:b9 P base T 1 u7:=eY JC T dn (T.d 31 rfl)
theorem Q1f:b9 P base T 2 Kt:=eY IV T (dc (lK T)<|dc (rZ T) dn) (T.d 32 rfl)
theorem j8:b9 P base T 1 mB:=eY Js T dn (T.d 33 rfl)
theorem NL:b9 P base T 2 Kw:=eY Jb T (dc (lK T)<|dc (rZ T)<|dc (j8 T) dn) (T.d 34 rfl)
theorem N7:b9 P base T 2 KZ:=eY Jo T (dc (lK T)<|dc (j8 T) dn) (T.d 35 rfl)
theorem Q29:b9 P base T 1 Lh:=eY JB T dn (T.d 36 rfl)
theorem wI:b9 P base T 2 yS:=eY Bo T (dc (Q29 T) dn) (T.d 37 rfl)
theorem Dd:b9 P base T 2 DE:=eY IW T (dc (lK T) dn) (T.d 38 rfl)
theorem Q1C:b9 P base T 3 Um:=eY Rv T (dc (lK T)<|dc (Dd T)<|dc (j8 T) dn) (T.d 39 rfl)
theorem Q0L:b9 P base T 3 Uo:=eY RE T (dc (Dd T)<|dc (rZ T) dn) (T.d 40 rfl)
theorem wH:b9 P base T 1 yR:=eY Jr T dn (T.d 41 rfl)
theorem Oh:b9 P base T 1 Lb:=⟨_,_,_,_,(T.d 42 rfl),m6 Rz T dn (T.d 42 rfl).fu (λS hr _=>(ae (cJ (Z6 hr xe<|PF.pv<|Q26 rfl (T.b 9) rfl (T.b 6)<|aB xe a7) kX ay) kX))⟩
theorem Oe:b9 P base T 4 K8:=eY Jw T (dc (Oh T)<|dc (Q1C T)<|dc (Q0L T)<|dc (wH T)<|dc (wI T)<|dc (yJ T) dn) (T.d 43 rfl)
theorem Q0r:b9 P base T 3 La:=eY Jz T (dc (wI T) dn) (T.d 44 rfl)
theorem Od:b9 P base T 5 K7:=eY Jv T (dc (wI T)<|dc (Q0r T)<|dc (Q1f T)<|dc (lK T)<|dc (N7 T)<|dc (NL T)<|dc (Oe T) dn) (T.d 45 rfl)
include T U in
theorem Ob:b9 P base T 6 K5:=⟨_,_,_,_,(T.d 46 rfl),m6 Rw T (dc (N8 T)<|dc (N4 T)<|dc (TR T)<|dc (Od T)<|dc (Dn T) dn) (T.d 46 rfl).fu (λS hr _=>(ae (cJ xb (ae (gS U.x_BadLine (eK T U) rfl U.b_BadLine rfl (by decide) (hr.mono (by decide)) rfl U.m_BadLine rfl<|aB xe<|aB ka a7) ay) ay)<|ae (cJ xb (ae (gS U.x_BadLine (eK T U) rfl U.b_BadLine rfl (by decide) (hr.mono (by decide)) rfl U.m_BadLine rfl<|aB xe<|aB ka a7) ay) ay)<|ae xs<|ae (cJ xb (ae (gS U.x_BadLine (eK T U) rfl U.b_BadLine rfl (by decide) (hr.mono (by decide)) rfl U.m_BadLine rfl<|aB xe<|aB ka a7) ay) ay) kX))⟩
include T U in
theorem Oc:b9 P base T 7 K6:=⟨_,_,_,_,(T.d 47 rfl),m6 Rx T (dc (Ob T U) dn) (T.d 47 rfl).fu (λS hr _=>(ae (cJ xb (ae (gS U.x_BadLine (eK T U) rfl U.b_BadLine rfl (by decide) (hr.mono (by decide)) rfl U.m_BadLine rfl<|aB oW<|aB ka a7) ay) ay)<|ae (cJ xb (ae (gS U.x_BadLine (eK T U) rfl U.b_BadLine rfl (by decide) (hr.mono (by decide)) rfl U.m_BadLine rfl<|aB xe<|aB ka a7) ay) ay) kX))⟩
theorem wK:b9 P base T 1 yU:=⟨_,_,_,_,(T.d 48 rfl),m6 Ry T dn (T.d 48 rfl).fu (λS hr _=>(ae xs<|ae xs<|ae xs<|ae (fU<|yQ rfl (T.b 10) rfl (T.b 13)<|lN 1) ay))⟩
theorem Dl:b9 P base T 2 DL:=eY Jp T (dc (wK T) dn) (T.d 49 rfl)
theorem my:Y6 P base T "Table" "cell" false 3 [false,false] mM:=fmx Rd T (dc (Dl T) dn) (T.m 1 rfl)
theorem Dk:b9 P base T 1 DK:=eY Jn T dn (T.d 50 rfl)
theorem Dh:b9 P base T 2 G4:=⟨_,_,_,_,(T.d 51 rfl),m6 WZ T (dc (Dk T) dn) (T.d 51 rfl).fu (λS hr _=>(ae xs<|ae xs<|ae xs<|ae (cJ xb (ae (fU<|pF false (R0 rfl) rfl (T.b 8) boot_min<|aB xe<|aB xe a7) ay) ay) kX))⟩
theorem NH:b9 P base T 1 Ks:=⟨_,_,_,_,(T.d 52 rfl),m6 Rf T dn (T.d 52 rfl).fu (λS hr _=>(ae (fU<|nv (T.t 1 rfl) rfl xe) ay))⟩
theorem TV:b9 P base T 3 Uq:=eY L6 T (dc (NH T)<|dc (Dh T) dn) (T.d 53 rfl)
theorem TU:b9 P base T 4 Up:=eY RG T (dc (TV T)<|dc (wH T)<|dm (my T) dn) (T.d 54 rfl)
theorem Q1b:b9 P base T 4 Kv:=eY Ja T (dc (j8 T)<|dm (my T) dn) (T.d 55 rfl)
theorem N5:b9 P base T 2 KW:=eY Jm T (dc (Dk T) dn) (T.d 56 rfl)
include T U in
theorem N6:b9 P base T 4 KY:=⟨_,_,_,_,(T.d 57 rfl),m6 Ru T (dc (j8 T)<|dm (my T) dn) (T.d 57 rfl).fu (λS hr _=>(ae xs<|ae (cJ xb (ae (Q0F U.x_NoCell rfl U.m_NoCell rfl<|aB ka a7) ay) ay) kX))⟩
theorem Oa:b9 P base T 4 K3:=eY Jt T (dc (j8 T)<|dm (my T) dn) (T.d 58 rfl)
theorem wJ:b9 P base T 4 yT:=eY Jx T (dm (my T) dn) (T.d 59 rfl)
theorem Oi:b9 P base T 5 Ld:=⟨_,_,_,_,(T.d 60 rfl),m6 RC T (dc (j8 T)<|dc (wH T)<|dc (rZ T)<|dc (wJ T)<|dm (my T) dn) (T.d 60 rfl).fu (λS hr _=>(ae xs<|ae (cJ xb (ae (fU<|Z8 (my T) hr xe<|hW (Uc (T.b 13)<|PV.rd<|PF.pv<|T6 1 ["line","source","at","kind","side","?acc4"] (fB rfl (T.b 9)<|aB xe a7) (λnd=>(HE 4 nd)) jt<|mz xe<|noL xe xe) jr) ay) ay) kX))⟩
theorem Ol:b9 P base T 5 Lg:=eY JA T (dc (wJ T) dn) (T.d 61 rfl)
include T U in
theorem TP:b9 P base T 6 Ul:=eY Ri T (dc (N5 T)<|dc (Dh T)<|dc (wJ T)<|dc (Ol T)<|dc (TU T)<|dc (N6 T U)<|dc (Q1b T)<|dc (Oa T)<|dc (Dl T)<|dc (Oi T)<|dm (my T) dn) (T.d 62 rfl)
theorem De:b9 P base T 2 DF:=eY Bh T (dc (wK T) dn) (T.d 63 rfl)
theorem NJ:b9 P base T 3 Ku:=eY IY T (dc (yJ T)<|dc (De T) dn) (T.d 64 rfl)
theorem N9:b9 P base T 3 K2:=eY Bn T (dc (wK T)<|dc (De T)<|dc (Dh T) dn) (T.d 65 rfl)
include T U in
theorem Of:b9 P base T 7 K9:=eY Jy T (dc (N9 T)<|dc (NJ T)<|dc (TP T U)<|dk (C9 T) dn) (T.d 66 rfl)
theorem Q2R:b9 P base T 2 Lf:=⟨_,_,_,_,(T.d 67 rfl),m6 RD T (dc (Dj T) dn) (T.d 67 rfl).fu (λS hr _=>(ae xs<|ae xs<|ae (Wr (HF rfl (T.b 9)<|aB xe<|aB xe<|aB xe a7) (HE 2 S.nd) kX) kX))⟩
include T U in
theorem Dm:b9 P base T 8 K1:=eY Bm T (dc (Oc T U)<|dc (Q2R T)<|dc (Of T U) dn) (T.d 68 rfl)
include T U in
theorem NG:zo ⟨P,w,K,mg,base⟩ 9 (a.f 69) (a.d 69) ["_law_script"] [false] uj:=m6 Ra T (dc (lL T)<|dc (Q22 T)<|dc (NW T)<|dc (Dm T U)<|dc (NQ T)<|dk (C9 T) dn) (T.d 69 rfl).fu (λS hr _=>(ae xs<|ae xs<|ae xs<|ae xs<|ae xs<|ae (PG 6 S.nd<|YD (NN T) hr (sf<|aB xe<|aB oW a7)<|aB xe<|aB xe a7)<|ae (HL 1 7 S.nd rfl (Or.inl rfl) rfl (N':=["_law_script","_law_row","_law_seeds","_law_drawn_here","_law_sides","_law_given","_law_cells_here","_law_tables","_law_program_here","_law_due","_law_told","?11","_law_k","?acc12"]) ⟨rfl,by kernel_rfl,by decide +kernel⟩ rfl (fB rfl (T.b 9)<|aB xe a7) kz (rF (by kernel_rfl)) (λC s H ex=>HE 12<|ZX ["_law_script","_law_row","_law_seeds","_law_drawn_here","_law_sides","_law_given","_law_cells_here","_law_tables","_law_program_here","_law_due","_law_told","?11","_law_k","?acc12"]) (λC s H ex=>jt) (λC s H ex=>DA<|Z7 (C9 T) hr<|hW (mz (iX 5)<|iX 12)<|hW (mz (iX 6)<|iX 12) jr))<|ae xs<|ae xs<|U7 10 11 8 7 (Dm T U) hr (T.f 0) (T.b 9) (T.b 5) S.nd (GL U.c_NoCell rfl U.m_NoCell U.t_NoCell (GU (λe=>(ae (fU<|wZ LD (iX 9) DB<|rV _) ay))) OL) xb (ae xs ay) kX))
end
end WL.LW
end
section
set_option Elab.async false
set_option maxRecDepth 100000
set_option maxHeartbeats 4000000
namespace WL.LW
open PySem PySem.Spec PyProof.Rows L2 VP VS _root_.LW
theorem bd:Vg L.d:=by repeat (first|exact True.intro|refine⟨by first|exact Zi|exact Zj|exact WU|exact Zk|exact Zl|exact bi6|exact bi7,?_⟩)
theorem bm:Vh L.m:=by repeat (first|exact True.intro|refine⟨by first|exact Zi|exact Zj|exact WU|exact Zk|exact Zl|exact bi6|exact bi7,?_⟩)
theorem Q0M{K:Frag}{mg:MG}{h:Heap}(X:K.In h)(G:h.Ns mainGlobals mg){fg fC cP:Addr}(qH:W.nsIn K mainGlobals "BadLine" = some (some<|.ref fg)) (uT:W.nsIn K mainGlobals "NoCell" = some (some<|.ref fC)) (x_BadLine:VS.EZ K fg cP) (zN:DM K "__init__" "BadLine.__init__" (L2.inClass (top 13) 0) cP) (s_BadLine_at:VS.q7 K fg "at") (s_BadLine_why:VS.q7 K fg "why") (x_NoCell:W.excIn K fC VS.pW "ValueError.__new__" = true) (c_NoCell:VS.EY K fC) (lQ:W.mroIn K fg (.ref fC)=some false) (mS:W.mroIn K fC (.ref fC)=some true):∃x,Xt K mg x:=by obtain⟨fL,zm,zl⟩:=zN.is (ps:=["self","at","why"]) WU;exact⟨⟨fg,fC,cP,fL⟩,{m_BadLine:=zC X G qH,m_NoCell:=zC X G uT,x_BadLine:=x_BadLine,f_BadLine:=zm,b_BadLine:=zl,s_BadLine_at:=s_BadLine_at,s_BadLine_why:=s_BadLine_why,x_NoCell:=x_NoCell,c_NoCell:=c_NoCell,t_NoCell:=(List.forall_mem_cons.mpr ⟨⟨_,zC X G qH,lQ⟩,(List.forall_mem_cons.mpr ⟨⟨_,zC X G uT,mS⟩,(List.forall_mem_nil _)⟩)⟩)}⟩
theorem all_mk{l:W.OpenLaw}{w:World}{K:Frag}{mg:MG}{fa:Addr}(hfa:mg "law" = some (.ref fa))(E:∃a:LG,Txt L w K mg a)(E2:∃x,Xt K mg x):QC l w K mg fa 9 "_law_script" := by obtain⟨a,T⟩:=E;obtain⟨x,U⟩:=E2;have D:=T.d 69 rfl;have e:=hfa.symm.trans D.mg;cases e;exact⟨_,uj,D.law λ_ _ _ _ _ _ _ _=>.of_eq rfl,λns hl=>M9 ns,λbase=>(NG T U).2⟩
end WL.LW
structure PySem.W.Fast:Prop where(tw16214197812279780367 tw4011253919912157631 tw13214020338636237758 tw15143557870882294459 tw9280273796149530106 tw14216151205539338278 tw11786556784912031728 tw185554536971930285 tw4985794263108399087 tw8061817044398441972 tw184515706991105232 tw11610614706396215474 tw8538813264516037587 tw17892579441269961912 tw17691698788797845624 tw7546685417514137313 tw14633176529978331178 tw9865884090810379745 tw2356993736101048372 tw11745255135645989709 tw17403132608627461739 tw4545454652262432459 tw2386997357227769469 tw14929151115335640435 tw17993541826090930466 tw568987965505117094 tw5556167848006627547 tw8777399270198436069 tw18324534430782179966 tw4408712222746502660 tw11542805691477211164 tw1216411686431202161 tw14299245810072119523 tw18249514831773587378 tw8574935927058842807 tw17870592562341441220 tw867401164834961813 tw10860727358962139485 tw4497648088563532310 tw7516568852605968207 tw14958176951962686362 tw18350322595752074191 tw6458722315484818440 tw15954463952833643839 tw13999984890990178627 tw17950353402394053693 tw3815531456645650247 tw18287959527727928370 tw4684682510726685772 tw10331782250241939977 tw14468466586414189104 tw6423745074816693828 tw6635379039779236354 tw11662934550175277243 tw338812672280276490 tw14713603927924905617 tw17515369959464791494 tw17388168209847003587 tw13431201025005188102 tw7369069243692189289 tw8722102990533056938 tw9178120032175217745 tw13118999221068670070 tw1761294560976832242 tw13449457387148185219 tw18182378938753785533 tw10524567244388412742 tw6265376659637298973 tw16541400602900003443 tw5858948817419680290 tw2556717180284258364 tw17404470271020113597 tw18335605289284588930 tw16600280492036537031 tw11198573987095111321 tw14667552656295603596 tw12192367688858501868 tw13848113823122961333 tw5188454592284931369 tw16399539536463612952 tw16637127820641123431 tw17627305946607070924 tw16345975397084351026 tw6154610971403322163 tw13561326787644247995 tw10599874092050807584 tw12900308916280607719 tw16638902489568169761 tw169432090644042046 tw11554712098664242040 tw1196099674735441978 tw3811477860016372703 tw13686460925556592546 tw11964132089776734569 tw4076943916040710686 tw12179717363513232793 tw16897008165105270415 tw2114731563265324082 tw11013225841178166203 tw17084934732315181596 tw3397246034696713814 tw95954448097900453 tw8256298113521661081 tw5063354017757882430 tw2778255656243668966 tw12668226140734884801 tw14645707450657409533 tw15055162051536082532 tw4443811605592514914 tw3676210259178553795 tw18014752177571155270 tw8847089797653744712 tw13641444418214900813 tw3023396825823411785 tw4666351735641866367 tw18427523245104728553 tw1802569403608418475 tw17357516181464919500 tw3742436382280879325 tw17739388507452492731 tw2253955736254886658 tw9863155469707688674 tw15354711005919158640 tw3894605956633566455 tw12661952388589161848 tw4001841190280081517 tw1825038208174395315 tw7828027322869585867 tw2608056798688100389 tw3520034912010794619 tw7783761251253093309 tw14221452842966530782 tw3022454242094786572 tw6056368625089500806 tw5924231466788091761 tw2891046448140364888 tw14099851975776270579 tw11771239389022356189 tw11655003240734186346 tw6576599723978360268 tw2019008705618914893 tw14815463387881433422 tw16926998638295692817 tw2807950191230384166 tw79571593841168644 tw6322283732996973370 tw15516407378557131670 tw5470330188363805370 tw8290681147490343073 tw16899034573451182746 tw17550174617397358209 tw11054633820785313774 tw8705784896006145571 tw7475090011367244947 tw187533998893875751 tw15018977647217752927 tw2217231433726588248 tw7952934281396495543 tw897372623035970522 tw13384115787269816672 tw3498888522172492999 tw4631982718172946884 tw9469675919969951791 tw2328281231703025063 tw16347761166690905352 tw1511155703561924519 tw3828923529671527448 tw15963308867846079832 tw7357406800994214605 tw4980061831822147560 tw2192663059908699493 tw15406277120185079409 tw7044745394073083853 tw1352479611242514574 tw15995858698993730590 tw12729430270576345539 tw7867966451947314885 tw6878227819819588967 tw11559701162666355293 tw13266813357693012963 tw5042709852280701879 tw6471390124465059968 tw15228638615247070238 tw6899811927659009200 tw4868618304447948549 tw13153500757931896747 tw4293026419670937540 tw11699796955886764088 tw4049250006178361625 tw8752544179923447321 tw470674640025691382 tw9937433643494351501 tw15972865468373898791 tw7481921733164226171 tw11172235996561857778 tw7308069851281425490 tw18183950815203936282 tw13300068986314938627 tw17381588097770553527 tw15235032983506198130 tw8077034849027149713 tw4924541726744456887 tw3280650463505649350 tw8642235707800103399 tw14209728830863057550 tw8335846608370529604 tw1749827825964619958 tw17971280967064630932 tw2020475305391638829 tw16417922778512572993 tw3901199561178700681 tw13783269006776806836 tw2729643616162829974 tw14032107888676471563 tw15461612308265106306 tw6705409163847896036 tw8115953294120022834 tw4208948816694364820 tw1845181593423940309 tw5816803326913321701 tw4190498782816895846 tw6897905784117972655 tw3496695712323069291 tw16459720254404892138 tw12910267387439335595 tw8990301330263850751 tw2254705789007576941 tw10336659120062291085 tw2340150697117764779 tw8066564268201792187 tw18412143365710283465 tw12115343825465058621 tw5186846430574262446 tw2299476902184663963 tw14605548968004423406 tw3042320249781963569 tw2901929102522650876 tw16867252729636542135 tw5528180447359331342 tw7050115529166958764 tw502919174998277270 tw15899626031987800193 tw9736665186209795227 tw15131443937177268531 tw18334568091845269593 tw4918718392634829972 tw15576061828532995464 tw6332949046450416184 tw10938374673356281932 tw3713784753190801180 tw1811828471149509362 tw11759655396763080010 tw8724412985554979122 tw8318762239268451787 tw3788707825037241520 tw15202877083738015237 tw14095614305989477926 tw7376819606152179789 tw8834669114310815219 tw17355278583333171060 tw8679816839093770698 tw15256189753295643362 tw7977193199965954675 tw2759795799056026296 tw449048629066450125 tw1991776961672584679 tw1626436537009182570 tw7553630997912245998 tw3873150440757208179 tw8582727579767709181 tw7315522838587861914 tw16661195594733666846 tw15176892276364077544 tw13716206963535765586 tw18158731221461197470 tw16661518773144916438 tw7307657509183167814 tw17807303182876314442 tw4933107547562404074 tw5315151306716727696 tw9659768054629418535 tw2337590271441582422 tw2279392913840495142 tw18244003196357244629 tw4627880541898821085 tw10167690543151060584 tw13879500750304640683 tw8957685113705788724 tw6106543594864435124 tw10494322613123873132 tw4841909849506196406 tw16090198969969456594 tw3050116002995756469 tw18302267569578840857 tw7131794472889515012 tw3566944914098034109 tw12798737314948643422 tw17090442801745686541 tw1011205140343350334 tw13366609226018523796 tw12357956510173131809 tw9967351555556502182 tw288785330649360684 tw9252034614533563204 tw3742996808499189467 tw6391707150759822916 tw10312722123912473427 tw12346802132829948507 tw2649624613394096849 tw7340668609066582427 tw13232562404238317945 tw17002694237521620930 tw16982036335866990395 tw5712389559826770803 tw18282246734652028086 tw5188319259279874978 tw2118349939769027870 tw9653200237024940712 tw6201571665132454055 tw3429027693105114067 tw12567763021087667358 tw15503404145074492621 tw3044038403751434306 tw13960901064709552573 tw14208310329414332045 tw3954999183030642867 tw12112667536194862140 tw4750364232187279498 tw14219198940151679880 tw17679235147094851776 tw17573788787860952079 tw18166608568601278772 tw4171201683512187136 tw8367484387040288399 tw14385751662552068492 tw10065214907887404781 tw12531237460499235505 tw10625194111405128173 tw18108699675075015739 tw13069204896813722152 tw8908155264588972442 tw11453472388106436388 tw1876421875740933253 tw5006618565321274835 tw18344017426191301525 tw2692658987388759254 tw8139264578800112936 tw7793354054385540016 tw6144804263701313652 tw5976404782823711832 tw5319481600415593334 tw4041481084032753894 tw5975201866443344316 tw8921859938103431601 tw11119498497253979087 tw16517535952436192134 tw8169525819212157131 tw2637758653969453873 tw6721041808928807683 tw3713115544581227943 tw1353982407478364264 tw8930064645686696727 tw4373954425087942628 tw3314955239455122984 tw4285301498601317097 tw16831678258623125180 tw12779126777388805008 tw14969028027514753529 tw12755238715427201540 tw11417299992514484059 tw666437131537443289 tw5292198188351943218 tw7128673537177163473 tw5847843036007584832 tw11456704208035262468 tw9014036541073665698 tw11074862122067116946 tw3311933645300162662 tw14789608143537033272 tw9279468446789982767 tw13013338342538542179 tw13486050056226195505 tw15938267659025929115 tw7395558160721256272 tw6095409071518091436 tw18029793621629012532 tw2889978469511822472 tw11553091196119584997 tw14817414106131015571 tw1066786469760689547 tw11350667348118641921 tw16030182660891486585 tw10689820390054356661 tw11759542001712335521 tw9254040602652537915 tw52908393360610421 tw2760046864088302424 tw8651318798915484108 tw17774472941655943334 tw3743686704045566555 tw6357692194988216989 tw11176099037666732771 tw12109168109323689903 tw17890555530700704267 tw12692305286451133716 tw13811631650909808834 tw18090614579103353692 tw7685771355724525712 tw11237877077595238675 tw4677367106344350984 tw1454807082547336146 tw18090386076639189448 tw17376689934062898377 tw977379318427922169 tw12462888784474792682 tw9205604151674678229 tw3758708267088639989 tw8204959039040760819 tw2796514986473485145 tw399577498559953719 tw10815658872283546713 tw7106179588291816500 tw2790142463975970011 tw17114799796660477703 tw8851326589409454086 tw3486323861579642454 tw5911161083661796853 tw2575332553090312803 tw16126897397292922019 tw506547150289857688 tw17224773093439759056 tw10842043106922682530 tw4156885248541960091 tw2422731412149563794 tw8490177304903372255 tw6882040431081572927 tw6177134823006380120 tw11861877008616205561 tw3007970048655299816 tw9565501927557872185 tw2184583597741811822 tw1933089499070495344 tw6475387647712018261 tw11208155832008060424 tw3373579475527831542 tw5800540725018078923 tw14774064323072606733 tw4862801078857392285 tw15379501887034427820 tw9148035990582348968 tw15759369527657203909 tw4594493328108548000 tw16665847266994506507 tw15624143554365057983 tw6253322984033002601 tw1211848982058187340 tw3582421849321135550 tw13682158681207427920 tw6715982989585216398 tw1073757096761337024 tw8417813101871902807 tw2108748928745370381 tw9429063846576795718 tw461972539778952741 tw165606137185596308 tw486662686004695802 tw13485481019861133098 tw15048929504794832825 tw10272905268757232026 tw1229386094975131205 tw17015153072171380248 tw3382764890607918178 tw16061224437350938133 tw9950274213144269808 tw18394362139997117946 tw10105655676614648346 tw7902555272530669987 tw16532975792320016883 tw13391166079832678724 tw10189693925226901077 tw17567318503355284992 tw5989626561543724652 tw14600858188610794002 tw19363088195651862 tw9028210593532254721 tw10867676406362241689 tw13003393026626884352 tw15431337059763039571 tw2450014804049783008 tw6557082159295529545 tw7931815042363762492 tw2111861122243506653 tw15109949261351945090 tw12171778641428206597 tw4551740684152649926 tw8840982559522843865 tw12441572674525513812 tw16899098108492832746 tw14875321811565477184 tw9259968589774825717 tw18035836555083200902 tw15034185767932186140 tw10773125414506295131 tw3658088156747404926 tw16450069116297397171 tw13618375215473781356 tw16636937749328249078 tw4388753490869500304 tw6812007405889394586 tw2724524198983242874 tw11056835303482656692 tw2902503501540581068 tw8289776115626734921 tw14658066353842719398 tw15329100608080483649 tw9904417059350308333 tw12861087808895562346 tw11788169040830693152 tw15801743550499764742 tw18023444705596388073 tw9215852177364696319:True)
open PySem PySem.W PyProof.Rows
set_option maxRecDepth 100000 in
set_option maxHeartbeats 0 in
theorem PySem.Challenge.cw_loomarrays_k17_whole_plain_deeds_holds : PySem.Challenge.rw_loomarrays_k17_whole_plain_deeds.Holds := by
 w_on;o_law;k_head;(case hw=>w_witness2)
 k_fill
 refine WL.walk63 (l:=PySem.Challenge.rw_loomarrays_k17_whole_plain_deeds) 9 rfl rfl (fun w h Y=>PySem.W.kIn_of Y) ?F
 intro w mg fa h KX G SK
 refine' WL.LW.all_mk SK (VS.Q2f KX G (by kernel_rfl) WL.LW.bd WL.LW.bm ?zhb ?zhn ?zht ?zhd ?zhc ?zhm ?zhf ?zha ?zhi ?zhj ?zsp ?ztk) (WL.LW.Q0M KX G ?yn_BadLine ?yn_NoCell ?yx_BadLine ?yh_BadLine ?ys_BadLine_at ?ys_BadLine_why ?yx_NoCell ?yc_NoCell ?yt_NoCell_BadLine ?yt_NoCell_NoCell)
 case yn_BadLine=>k_is
 case yn_NoCell=>k_is
 case yx_BadLine=>exact ⟨⟨_,_,_,_,_,_,_,_,_,_,_,_,_,_,_,_,by k_is,by kernel_rfl,by k_is,by kernel_rfl⟩,by k_is⟩
 case yh_BadLine=>exact ⟨⟨_,_,_,_,_,_,_,_,_,by k_is,by k_is⟩,by k_is⟩
 case ys_BadLine_at=>exact ⟨by k_is,by kernel_rfl,by k_is,by k_is⟩
 case ys_BadLine_why=>exact ⟨by k_is,by kernel_rfl,by k_is,by k_is⟩
 case yx_NoCell=>k_exc
 case yc_NoCell=>exact ⟨by k_is,by k_is,by k_is⟩
 case yt_NoCell_BadLine=>k_is
 case yt_NoCell_NoCell=>k_is
 case zsp=>k_is
 case ztk=>k_is
 case zhb=>repeat (first | exact True.intro | refine ⟨by k_is,?_⟩)
 case zhn=>repeat (first | exact True.intro | refine ⟨⟨_,by k_is,⟨_,rfl⟩⟩,?_⟩)
 case zhd=>repeat (first | exact True.intro | refine ⟨⟨_,by k_is,⟨⟨_,_,_,_,_,_,_,_,_,by k_is,by k_is⟩,by k_is⟩⟩,?_⟩)
 case zhm=>repeat (first | exact True.intro | refine ⟨⟨_,_,by k_is,by k_is,by k_is,⟨⟨_,_,_,_,_,_,_,_,_,by k_is,by k_is⟩,by k_is⟩,by k_is,by k_is,by first | (intro z;cases z;done) | exact fun _=>⟨by k_is,by k_is,by k_is⟩⟩,?_⟩)
 case zhc=>repeat (first | exact True.intro | refine ⟨⟨_,by k_is,⟨by k_is,by k_is,by k_is,by k_is⟩⟩,?_⟩)
 case zha=>repeat (first | exact True.intro | refine ⟨⟨_,by k_is,⟨by k_is,by k_is,by k_is,by k_is⟩⟩,?_⟩)
 case zhf=>repeat (first | exact True.intro | refine ⟨by repeat (first | exact True.intro | refine ⟨⟨_,by k_is,by k_is⟩,?_⟩),?_⟩)
 case zhi=>repeat (first | exact True.intro | refine ⟨⟨_,by k_is,by repeat (first | exact True.intro | refine ⟨⟨_,by k_is,by kit_is⟩,?_⟩)⟩,?_⟩)
 case zhj=>repeat (first | exact True.intro | refine ⟨⟨_,_,by k_is,by k_is,by repeat (first | exact True.intro | refine ⟨⟨_,by k_is,by kit_is⟩,?_⟩)⟩,?_⟩)
 case zht=>repeat (first | exact True.intro | refine ⟨⟨_,_,_,by k_is,by decide,by k_is,by k_keys,by repeat (first | exact True.intro | refine ⟨⟨_,by k_is,by first | exact .inl ⟨_,rfl⟩ | exact VS.Q2d (by k_is) (by decide) (by repeat (first | exact .nil | refine .cons ⟨_,rfl⟩ ?_))⟩,?_⟩),by repeat (first | exact True.intro | refine ⟨by k_is,?_⟩)⟩,?_⟩)
end
