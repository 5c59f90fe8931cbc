import PyProof.Rows.All
import Wide.All
import OpenK.AllK
import Wide.FinOn
import Lean
import PyProof.EqAt
import PyProof.EqKinds
import PyProof.TupleCall
import PySem.Str
import PyProof.StrBlockL
import KE.IntText
import PyProof.StrBlock2
import KE.KRevIter
import PyProof.CollectIter
import PyProof.TupleOfGen
import PyProof.Rows.SortWalk
import PyProof.ListRange
import PyProof.StrCalls2
import PyProof.StrBlockH
import PyProof.StrWalks
import KE.KIntText
import PyProof.CallStr
import KE.KIsAll
import PyProof.ExcArgsOwn
import PyProof.InstStoreFacts
import PyProof.ExcInit
import PyProof.WalkInts
import PyProof.WalksMore
import PyProof.Rows.CallKwBuiltin
import PyProof.Rows.KernelRfl
import PySem.Challenge.RW_loomarrays_k15_shifts_joins_picks
set_option Elab.async false
section
set_option Elab.async false
set_option linter.all false
set_option maxRecDepth 100000
namespace L2
open PySem PySem.Spec PyProof.Rows
abbrev Key:=Sum Int Str
def keyIs:Key→Value→Bool
 | .inl k,v=>Value.isInt k v
 | .inr x,v=>Value.isStrOf x v
def keyH (w:World):Key→Int
 | .inl k=>hashInt k
 | .inr x=>hashStr w x
theorem aX:∀{k:Key} {v:Value},keyIs k v=true→(∃i t,k=Sum.inl i∧v=Value.int i t)∨(∃x t,k=Sum.inr x∧v=Value.str x t)
 | .inl i,v,h=>by
  obtain ⟨t,e⟩:=Value.isInt_shape (k:=i) (v:=v) h
  exact .inl ⟨i,t,rfl,e⟩
 | .inr x,v,h=>by
  obtain ⟨t,e⟩:=Value.isStrOf_shape (x:=x) (v:=v) h
  exact .inr ⟨x,t,rfl,e⟩
theorem sL (a b:Int):decide ((Sum.inl a:Key)=Sum.inl b)=(a == b):=by
 by_cases e:a=b
 ·subst e;simp
 ·have h:¬(Sum.inl a:Key)=Sum.inl b:=fun q=>e (Sum.inl.inj q)
  rw [decide_eq_false h]
  exact (beq_eq_false_iff_ne.mpr e).symm
theorem sO (a b:Str):decide ((Sum.inr a:Key)=Sum.inr b)=decide (a=b):=by
 by_cases e:a=b
 ·subst e;simp
 ·have h:¬(Sum.inr a:Key)=Sum.inr b:=fun q=>e (Sum.inr.inj q)
  rw [decide_eq_false h,decide_eq_false e]
theorem sM (a:Int) (b:Str):decide ((Sum.inl a:Key)=Sum.inr b)=false:=decide_eq_false (fun q=>nomatch q)
theorem sN (a:Str) (b:Int):decide ((Sum.inr a:Key)=Sum.inl b)=false:=decide_eq_false (fun q=>nomatch q)
def mixKind (prog:Program) (w:World):PySem.KeyKind prog w Key where
 is:=keyIs
 hash:=keyH w
 inj:=fun v a b ha hb=>by
  rcases aX ha with ⟨i,t,rfl,rfl⟩ | ⟨x,t,rfl,rfl⟩
  ·rcases aX hb with ⟨j,u,rfl,e⟩ | ⟨y,u,rfl,e⟩
   ·injection e with e1 _;rw [e1]
   ·exact nomatch e
  ·rcases aX hb with ⟨j,u,rfl,e⟩ | ⟨y,u,rfl,e⟩
   ·exact nomatch e
   ·injection e with e1 _;rw [e1]
 byValue:=fun k v h=>by
  rcases aX h with ⟨i,t,rfl,rfl⟩ | ⟨x,t,rfl,rfl⟩<;>rfl
 pyHash:=fun hv h=>by
  rcases aX hv with ⟨i,t,rfl,rfl⟩ | ⟨x,t,rfl,rfl⟩
  ·exact wpAny_pyHash_int h
  ·exact wpAny_pyHash_str h
 eqBool:=fun hu hv h=>by
  rcases aX hu with ⟨i,t,rfl,rfl⟩ | ⟨x,t,rfl,rfl⟩
  ·rcases aX hv with ⟨j,u,rfl,rfl⟩ | ⟨y,u,rfl,rfl⟩
   ·rw [sL] at h;exact wpAny_eqBool_int h
   ·rw [sM] at h;exact SeqAt.EqAt.int_str i t y u _ _ _ _ h
  ·rcases aX hv with ⟨j,u,rfl,rfl⟩ | ⟨y,u,rfl,rfl⟩
   ·rw [sN] at h;exact SeqAt.EqAt.str_int x t j u _ _ _ _ h
   ·rw [sO] at h;exact wpAny_eqBool_str h
 «strs» := fun k x t v h=>by
  rcases aX h with ⟨i,u,rfl,e⟩ | ⟨y,u,rfl,e⟩
  ·exact nomatch e
  ·injection e with e1 _
   subst e1
   cases v<;>rfl
end L2
namespace L2
open PySem PySem.Spec PyProof.Rows
inductive V where
 | non | bl (b:Bool) | int (i:Int) | str (x:Str) | byt (b:Array UInt8) | flt (b:UInt64) | ref (a:Addr) | ty (n:String)
 deriving DecidableEq
def RelV:V→Value→Prop
 | .non,u=>u=Value.none
 | .bl b,u=>u=Value.bool b
 | .int i,u=>∃t,u=Value.int i t
 | .str x,u=>∃t,u=Value.str x t
 | .byt b,u=>∃t,u=Value.bytes b t
 | .flt b,u=>∃t,u=Value.float b t
 | .ref a,u=>u=Value.ref a
 | .ty n,u=>u=Value.type n
abbrev Vals:List V→List Value→Prop:=Paired RelV
theorem Vals.length {xs:List V} {us:List Value} (r:Vals xs us):xs.length=us.length:=Paired.length r
theorem Vals.get:∀{xs:List V} {us:List Value} {i:Nat} {x:V},Vals xs us→xs[i]?=some x→∃u,us[i]?=some u∧RelV x u
 | _,_,_,_,.nil,e=>by simp at e
 | _,_,0,_,.cons r _,e=>by simp at e;subst e;exact ⟨_,rfl,r⟩
 | _,_,i+1,x,.cons _ t,e=>by
  obtain ⟨u,h1,h2⟩:=Vals.get (i:=i) (x:=x) t (by simpa using e)
  exact ⟨u,by simpa using h1,h2⟩
theorem Vals.set {x:V} {u:Value} (r:RelV x u):∀{xs:List V} {us:List Value} (i:Nat),Vals xs us→Vals (xs.set i x) (us.set i u)
 | _,_,_,.nil=>.nil
 | _,_,0,.cons _ t=>.cons r t
 | _,_,i+1,.cons q t=>.cons q (Vals.set r i t)
theorem Vals.append:∀{xs ys:List V} {us ws:List Value},Vals xs us→Vals ys ws→Vals (xs++ys) (us++ws)
 | _,_,_,_,.nil,s=>s
 | _,_,_,_,.cons r t,s=>.cons r (Vals.append t s)
theorem Vals.take:∀{xs:List V} {us:List Value} (n:Nat),Vals xs us→Vals (xs.take n) (us.take n)
 | _,_,0,_=>.nil
 | _,_,_+1,.nil=>.nil
 | _,_,n+1,.cons r t=>.cons r (Vals.take n t)
theorem Vals.drop:∀{xs:List V} {us:List Value} (n:Nat),Vals xs us→Vals (xs.drop n) (us.drop n)
 | _,_,0,r=>r
 | _,_,_+1,.nil=>.nil
 | _,_,n+1,.cons _ t=>Vals.drop n t
def RelO:Option V→Option Value→Prop
 | some v,some u=>RelV v u
 | none,none=>True
 | _,_=>False
def KV {κ:Type}:List (κ×V)→List (κ×Value)→Prop:=Paired fun (p:κ×V) (q:κ×Value)=>p.1=q.1∧RelV p.2 q.2
def kV:Key→V
 | .inl i=>.int i
 | .inr x=>.str x
inductive HO where
 | lst (xs:List V)
 | tup (xs:List V)
 | dK (kvs:List (Key×V)) | dT (kvs:List (List Key×V))
 | set (S:Int→Bool) (n:Nat)
 | ins (C dx:Addr) (fs:List (Str×V))
 | own (x:Addr)
 | xd (fs:List (Str×V))
 | met (f x:Addr)
 | rng (lo hi:Int)
 | frz (o:Obj) (u:HO)
 | tbl (ps:Array Value)
 | ext (φ:Heap→Prop)
abbrev Hp:=Addr→Option HO
def upd (H:Hp) (a:Addr) (o:HO):Hp:=fun b=>if b=a then some o else H b
theorem ax {H:Hp} {a:Addr} {o:HO}:upd H a o a=some o:=by unfold upd;rw [if_pos rfl]
theorem aq {H:Hp} {a b:Addr} {o:HO} (h:b≠a):upd H a o b=H b:=by unfold upd;rw [if_neg h]
theorem aQ {H:Hp} {a b:Addr} {o:HO} (h:H a=some o) (h':H b=none):a≠b:=by
 intro e;subst e;rw [h] at h';cases h'
def TupD (h:Heap) (a:Addr) (items:Array Value):Prop:=∃o,h.get? a=some o∧o.cls=.type "tuple" ∧ (∃n,o.data=.seq items n)∧o.dict=none
theorem TupD.tup {h:Heap} {a:Addr} {items:Array Value} (x:TupD h a items):IsTup h a items:=let ⟨o,ho,hc,hd,_⟩:=x;⟨o,ho,hc,hd⟩
theorem TupD.lt {h:Heap} {a:Addr} {items:Array Value} (x:TupD h a items):a<h.objs.size:=let ⟨_,ho,_⟩:=x;Heap.lt_size ho
theorem TupD.new (h:Heap) (items:Array Value):TupD (h.push { cls:=.type "tuple", data:=.seq items }) h.objs.size items:=⟨_,Heap.get?_push_size _ rfl,rfl,⟨_,rfl⟩,rfl⟩
section
variable (P:Program) (w:World)
def ObjOk (H:Hp) (h:Heap) (a:Addr):HO→Prop
 | .lst xs=>xs.length≤sizeLine∧∃(its:List Value) (n:Nat),Vals xs its∧h.get? a=some { cls:=.type "list", data:=.seq its.toArray n }
 | .tup xs=>xs.length≤sizeLine∧∃its:List Value,Vals xs its∧TupD h a its.toArray
 | .dK kvs=>kvs.length≤sizeLine∧(a == sysModules)=false∧∃vs,KV kvs vs∧h.DictOf (mixKind P w) a vs
 | .dT kvs=>kvs.length≤sizeLine∧(a == sysModules)=false∧∃xs:List (List Key×Addr×Value),
   Paired (fun (p:List Key×V) (q:List Key×Addr×Value)=>p.1=q.1∧H q.2.1=some (.tup (p.1.map kV))∧RelV p.2 q.2.2) kvs xs ∧
   ∃o es ep,h.get? a=some o∧o.ExactDict∧o.data=.dict es ep∧es.toList=xs.map (entryOfKey (tupleKind (mixKind P w)))∧(xs.map (·.1)).Nodup
 | .set S n=>h.SetOf (intKind P w) a S n
 | .ins C dx fs=>H dx=some (.own a)∧fs.length≤1000∧dx≠a∧h.get? a=some (PySem.W.instObj C dx) ∧
   ∃mA,h.Ns1 dx mA∧(∀f,RelO (fs.lookup f) (mA f))∧PySem.Within mA (fs.map (·.1))
 | .own _=>∃o,h.get? a=some o
 | .xd fs=>∃mA,h.Ns1 a mA∧∀f,RelO (fs.lookup f) (mA f)
 | .rng lo hi=>∃t u v,h.get? a=some { cls:=.type "range", data:=.fields #[.int lo t,.int hi u,.int 1 v] }
 | .frz o u=>h.get? a=some o∧ObjOk H h a u
 | .tbl ps=>h.get? a=some { cls:=.none,data:=.fields ps }
 | .met f x=>h.get? a=some (PySem.W.methodObj (.ref f) (.ref x))
 | .ext φ=>φ h∧(∃o,h.get? a=some o)∧∀h1 h2:Heap,φ h1→(∀o,h1.get? a=some o→h2.get? a=some o)→φ h2
def HOk (H:Hp) (h:Heap):Prop:=∀a o,H a=some o→ObjOk P w H h a o
end
section
variable {P:Program} {w:World} {H H':Hp} {h h':Heap} {a:Addr} {o:HO}
theorem ObjOk.lt (x:ObjOk P w H h a o):a<h.objs.size:=by
 cases o with
 | lst xs=>obtain ⟨_,_,_,_,e⟩:=x;exact Heap.lt_size e
 | tup xs=>obtain ⟨_,_,_,p⟩:=x;exact p.lt
 | dK kvs=>obtain ⟨_,_,_,_,o,_,_,e,_⟩:=x;exact Heap.lt_size e
 | dT kvs=>obtain ⟨_,_,_,_,o,_,_,e,_⟩:=x;exact Heap.lt_size e
 | set S n=>obtain ⟨o,_,_,_,e,_⟩:=x;exact Heap.lt_size e
 | ins C dx fs=>obtain ⟨_,_,_,e,_⟩:=x;exact Heap.lt_size e
 | own y=>obtain ⟨_,e⟩:=x;exact Heap.lt_size e
 | xd fs=>obtain ⟨_,⟨_,_,_,e,_⟩,_⟩:=x;exact Heap.lt_size e
 | rng lo hi=>obtain ⟨_,_,_,e⟩:=x;exact Heap.lt_size e
 | frz ob u=>obtain ⟨e,_⟩:=x;exact Heap.lt_size e
 | tbl ps=>exact Heap.lt_size (show h.get? a=some _ from x)
 | met f y=>exact Heap.lt_size (show h.get? a=some _ from x)
 | ext φ=>obtain ⟨_,⟨_,e⟩,_⟩:=x;exact Heap.lt_size e
theorem Paired.mapP {α β:Type} {F G:α→β→Prop}:∀{l₁:List α} {l₂:List β},Paired F l₁ l₂→(∀a b,F a b→G a b)→Paired G l₁ l₂
 | _,_,.nil,_=>.nil
 | _,_,.cons r t,f=>.cons (f _ _ r) (Paired.mapP t f)
theorem ObjOk.stay (x:ObjOk P w H h a o) (k:∀b u,(b=a∨H b=some (.own a))→h.get? b=some u→h'.get? b=some u)
  (ho:∀b,H b=some (.own a)→H' b=some (.own a)) (ht:∀b xs,H b=some (.tup xs)→H' b=some (.tup xs)):ObjOk P w H' h' a o:=by
 induction o with
 | lst xs=>obtain ⟨z,its,n,r,e⟩:=x;exact ⟨z,its,n,r,k _ _ (.inl rfl) e⟩
 | tup xs=>obtain ⟨z,its,r,ob,e,c⟩:=x;exact ⟨z,its,r,ob,k _ _ (.inl rfl) e,c⟩
 | dK kvs=>obtain ⟨z,y,vs,r,ob,es,ep,e,c⟩:=x;exact ⟨z,y,vs,r,ob,es,ep,k _ _ (.inl rfl) e,c⟩
 | dT kvs =>
  obtain ⟨z,y,xs,r,ob,es,ep,e,c⟩:=x
  exact ⟨z,y,xs,Paired.mapP r fun p q z=>⟨z.1,ht _ _ z.2.1,z.2.2⟩,ob,es,ep,k _ _ (.inl rfl) e,c⟩
 | set S n=>obtain ⟨ob,es,ep,t,e,c⟩:=x;exact ⟨ob,es,ep,t,k _ _ (.inl rfl) e,c⟩
 | ins C dx fs =>
  obtain ⟨d,z,ne,e,mA,⟨od,es,ep,e2,c⟩,r⟩:=x
  exact ⟨ho _ d,z,ne,k _ _ (.inl rfl) e,mA,⟨od,es,ep,k _ _ (.inr d) e2,c⟩,r⟩
 | own y=>obtain ⟨ob,e⟩:=x;exact ⟨ob,k _ _ (.inl rfl) e⟩
 | xd fs=>obtain ⟨mA,⟨od,es,ep,e,c⟩,r⟩:=x;exact ⟨mA,⟨od,es,ep,k _ _ (.inl rfl) e,c⟩,r⟩
 | rng lo hi=>obtain ⟨t,u,v,e⟩:=x;exact ⟨t,u,v,k _ _ (.inl rfl) e⟩
 | frz ob u ih=>obtain ⟨e,q⟩:=x;exact ⟨k _ _ (.inl rfl) e,ih q⟩
 | tbl ps =>
  have e:h.get? a=some { cls:=.none,data:=.fields ps }:=x
  show h'.get? a=some { cls:=.none,data:=.fields ps }
  exact k a _ (.inl rfl) e
 | met f y =>
  have e:h.get? a=some (PySem.W.methodObj (.ref f) (.ref y)):=x
  show h'.get? a=some (PySem.W.methodObj (.ref f) (.ref y))
  exact k a _ (.inl rfl) e
 | ext φ=>obtain ⟨p,⟨o,e⟩,st⟩:=x;exact ⟨st _ _ p fun o q=>k _ _ (.inl rfl) q,⟨o,k _ _ (.inl rfl) e⟩,st⟩
theorem HOk.lt (x:HOk P w H h) (e:H a=some o):a<h.objs.size:=(x a o e).lt
theorem HOk.fresh (x:HOk P w H h) (e:h.objs.size≤a):H a=none:=by
 cases q:H a with
 | none=>rfl
 | some u=>exact absurd (Nat.lt_of_lt_of_le (x.lt q) e) (Nat.lt_irrefl _)
theorem HOk.kept (x:HOk P w H h) (k:∀b u,h.get? b=some u→h'.get? b=some u):HOk P w H h':=fun a o e =>
 (x a o e).stay (fun b u _ q=>k b u q) (fun _ q=>q) fun _ _ q=>q
theorem HOk.laid (x:HOk P w H h) (k:∀b u,h.get? b=some u→h'.get? b=some u) (hp:h.objs.size≤a) (new:ObjOk P w (upd H a o) h' a o):HOk P w (upd H a o) h':=fun b u e=>by
 have hn:=x.fresh hp
 by_cases hb:b=a
 ·subst hb;rw [ax] at e;cases e;exact new
 ·rw [aq hb] at e
  exact (x b u e).stay (fun c v _ q=>k c v q) (fun c q=>by rw [aq (aQ q hn)];exact q) fun c xs q=>by rw [aq (aQ q hn)];exact q
end
def Rd (H:Hp) (a:Addr) (u:HO):Prop:=H a=some u∨∃o,H a=some (.frz o u)
theorem Rd.ok {P:Program} {w:World} {H:Hp} {h:Heap} {a:Addr} {u:HO} (r:Rd H a u) (x:HOk P w H h):ObjOk P w H h a u:=by
 rcases r with r | ⟨o,r⟩
 ·exact x a u r
 ·obtain ⟨_,q⟩:=x a _ r
  exact q
def Mut:Option HO→Prop
 | some (.lst _)=>True
 | some (.dK _)=>True
 | some (.dT _)=>True
 | some (.set _ _)=>True
 | some (.ins _ _ _)=>True
 | some (.ext _)=>True
 | _=>False
section
variable {P:Program} {w:World} {H:Hp} {h h':Heap} {x e:Addr} {o':HO}
theorem HOk.write (ok:HOk P w H h) (mu:Mut (H x)) (he:e=x∨H e=some (.own x)) (k:∀b u,b≠e→h.get? b=some u→h'.get? b=some u) (heo:∃u,h'.get? e=some u)
  (new:ObjOk P w (upd H x o') h' x o'):HOk P w (upd H x o') h':=fun b u q=>by
 have nown:∀c y,H c=some (.own y)→c≠x:=fun c y r z=>by subst z;rw [r] at mu;exact mu
 have ntup:∀c xs,H c=some (.tup xs)→c≠x:=fun c xs r z=>by subst z;rw [r] at mu;exact mu
 by_cases hb:b=x
 ·subst hb;rw [ax] at q;cases q;exact new
 ·rw [aq hb] at q
  by_cases hbe:b=e
  ·have q':H b=some (.own x):=by
    rcases he with z | z
    ·exact absurd (hbe.trans z) hb
    ·rw [hbe];exact z
   rw [q] at q';cases q'
   obtain ⟨v,hv⟩:=heo
   exact ⟨v,by rw [hbe];exact hv⟩
  ·refine (ok b u q).stay (fun c v hc r=>k c v ?_ r) (fun c r=>by rw [aq (nown c b r)];exact r) fun c xs r=>by rw [aq (ntup c xs r)];exact r
   rcases hc with rfl | hc
   ·exact hbe
   ·rintro rfl
    rcases he with z | z
    ·exact nown c b hc z
    ·rw [hc] at z;cases z;exact hb rfl
end
structure Un (fs ex:List Addr) (H H':Hp) (h h':Heap):Prop where
 keep:∀b o,h.get? b=some o→H b=none→b∉fs→b∉ex→h'.get? b=some o
 slot:∀b o,h.get? b=some o→H b=none→b∈fs→b∉ex→∃sl,h'.get? b=some { o with slots:=sl }
 free:∀b o,h.get? b=some o→H b=none→b∉ex→H' b=none
 there:∀b o,h.get? b=some o→b∉ex→∃o',h'.get? b=some o'
 tups:∀b xs,H b=some (.tup xs)→H' b=some (.tup xs)
 frzs:∀b o u,H b=some (.frz o u)→H' b=some (.frz o u)
 tbls:∀b ps,H b=some (.tbl ps)→∃more,H' b=some (.tbl (ps++more))
section
variable {fs fs' ex ex':List Addr} {H H1 H2:Hp} {h h1 h2 h':Heap} {a x e:Addr} {o:HO}
theorem Un.any (u:Un fs ex H H1 h h1) {b:Addr} {ob:Obj} (q:h.get? b=some ob) (n:H b=none) (hx:b∉ex):∃sl,h1.get? b=some { ob with slots:=sl }:=by
 by_cases hb:b∈fs
 ·exact u.slot b ob q n hb hx
 ·exact ⟨ob.slots,u.keep b ob q n hb hx⟩
theorem Un.kept (k:∀b u,h.get? b=some u→h'.get? b=some u):Un fs ex H H h h' :=
 ⟨fun b ob q _ _ _=>k b ob q,fun b ob q _ _ _=>⟨ob.slots,k b ob q⟩,fun _ _ _ n _=>n,fun b ob q _=>⟨ob,k b ob q⟩,fun _ _ q=>q,fun _ _ _ q=>q,fun _ ps q=>⟨#[],by rw [q];simp⟩⟩
theorem Un.refl:Un fs ex H H h h:=Un.kept fun _ _ q=>q
theorem Un.laid (k:∀b u,h.get? b=some u→h'.get? b=some u) (hp:h.objs.size≤a) (hn:H a=none):Un fs ex H (upd H a o) h h' where
 keep:=fun b u q _ _ _=>k b u q
 slot:=fun b u q _ _ _=>⟨u.slots,k b u q⟩
 free:=fun b u q n _=>by rw [aq (Nat.ne_of_lt (Nat.lt_of_lt_of_le (Heap.lt_size q) hp))];exact n
 there:=fun b u q _=>⟨u,k b u q⟩
 tups:=fun b xs q=>by rw [aq (aQ q hn)];exact q
 frzs:=fun b u xs q=>by rw [aq (aQ q hn)];exact q
 tbls:=fun b ps q=>⟨#[],by rw [aq (aQ q hn),q];simp⟩
theorem Un.write (mu:Mut (H x)) (he:e=x∨H e=some (.own x)) (k:∀b u,b≠e→h.get? b=some u→h'.get? b=some u) (heo:∃u,h'.get? e=some u):Un fs ex H (upd H x o) h h':=by
 have hx:∀b,H b=none→b≠x:=fun b n z=>by subst z;rw [n] at mu;exact mu
 have hb:∀b,H b=none→b≠e:=fun b n z=>by
  subst z
  rcases he with r | r
  ·exact hx b n r
  ·rw [n] at r;cases r
 have hm:∀b u,H b=some u→¬Mut (some u)→b≠x:=fun b u q nm z=>by subst z;rw [q] at mu;exact nm mu
 refine ⟨fun b u q n _ _=>k b u (hb b n) q,fun b u q n _ _=>⟨u.slots,k b u (hb b n) q⟩,fun b u q n _=>by rw [aq (hx b n)];exact n,fun b u q _=>?_,
  fun b xs q=>by rw [aq (hm b _ q fun z=>z)];exact q,fun b u xs q=>by rw [aq (hm b _ q fun z=>z)];exact q,fun b ps q=>⟨#[],by rw [aq (hm b _ q fun z=>z),q];simp⟩⟩
 by_cases hbe:b=e
 ·subst hbe;exact heo
 ·exact ⟨u,k b u hbe q⟩
end
def trk (h:Heap) (H:Hp):List Addr:=(List.range h.objs.size).filter fun a=>(H a).isSome
def hidT (h:Heap) (H:Hp):Heap:=PySem.W.hideAll h (trk h H)
theorem mU (h:Heap) (H:Hp):(hidT h H).objs.size=h.objs.size:=PySem.W.hideAll_size _ _
theorem oQ {h:Heap} {H:Hp} {b:Addr} {o:Obj} (e:h.get? b=some o) (n:H b=none):(hidT h H).get? b=some o :=
 PySem.W.hideAll_get _ e fun hm=>by
  have q:(H b).isSome=true:=(List.mem_filter.mp hm).2
  rw [n] at q;simp at q
theorem qR {h:Heap} {H:Hp} {b:Addr} {o:Obj} (e:(hidT h H).get? b=some o):h.get? b=some o∧H b=none:=by
 have e':h.get? b=some o:=PySem.W.of_hideAll (trk h H) e
 refine ⟨e',?_⟩
 cases q:H b with
 | none=>rfl
 | some x =>
  have hm:b∈trk h H:=List.mem_filter.mpr ⟨List.mem_range.mpr (Heap.lt_size e'),by simp [q]⟩
  have z:(hidT h H).get? b=none:=PySem.W.hideAll_none (trk h H) hm
  rw [z] at e;cases e
def allNews (g h:Heap) (L:Addr):List (Addr×Obj):=(List.range h.objs.size).filterMap fun a=>if a=L∨(g.get? a).isSome=true then none else (h.get? a).map fun o=>(a,o)
def rest (g h:Heap) (L d:Addr):List (Addr×Obj):=(allNews g h L).filter fun p=>decide (p.1≠d)
end L2
namespace L2
open PySem PySem.Spec PyProof.Rows
structure Mod (K:PySem.W.Frag) (mg:Str→Option Value) (base:Heap):Prop where
 kin:K.In base
 glob:base.Ns mainGlobals mg
 blt:∃mb,base.Ns builtinsNs mb∧∀x:Str,x ≠ "__name__" → mb x=bootBuiltins x
 nolimit:base.NoLimit
structure Cx where
 prog:Program
 w:World
 K:PySem.W.Frag
 mg:Str→Option Value
 base:Heap
 A:Around
 N:List Str
 s₀:Shared
 H₀:Hp
 env:Env
 outer:List Env
 stack:List Env
 ex:List Addr
 fn:Str→Bool
 calm:Bool
 pn:List (Addr×Obj)
 xe:Value→Shared→Prop
def frs (l:List Env):List Addr:=l.filterMap (·.frame)
abbrev Cx.fs (X:Cx):List Addr:=frs X.outer
def Vis (sc:Scope) (x:Str):Prop:=sc.names.lookup x=some .local∨sc.names.lookup x=some .cell∨sc.names.lookup x=some .free
def Loc (sc:Scope) (x:Str):Prop:=sc.names.lookup x=some .local∨sc.names.lookup x=some .cell
def Look (env:Env) (h:Heap) (m:Str→Option Value) (x:Str) (u:Value):Prop :=
 (env.kindOf x=some .local∧m x=some u)∨((env.kindOf x=some .cell∨env.kindOf x=some .free)∧∃c,env.cells.lookup x=some c∧h.IsCell c (some u))
structure Cx.Ok (X:Cx):Prop where
 mod:Mod X.K X.mg X.base
 kind:X.env.scope.kind=.function
 glob:X.env.globals=mainGlobals
 blt:X.env.builtins=builtinsNs
 above:X.s₀.heap.objs.size≤X.env.locals
 inj:∀x y c,X.env.cells.lookup x=some c→X.env.cells.lookup y=some c→x=y
 has:∀x,(X.env.kindOf x=some .cell∨X.env.kindOf x=some .free)→∃c,X.env.cells.lookup x=some c
 cab:∀x c,X.fn x=true→X.env.cells.lookup x=some c→X.s₀.heap.objs.size≤c
 hd:X.calm=true→X.A.handled=none
 frames:X.A.frames=some X.stack
 stk:X.stack=X.outer∨(X.stack=X.env::X.outer∧X.env.frame=some X.env.locals)
 exf:∀b∈X.ex,b≠X.env.locals∧∀x c,X.env.cells.lookup x=some c→c≠b
 bs:∀b o,X.base.get? b=some o→X.s₀.heap.get? b=some o∧X.H₀ b=none
 bsz:X.base.objs.size≤X.s₀.heap.objs.size
 noex:∀b o,X.base.get? b=some o→b∉X.ex
 exfs:∀b∈X.ex,b∉X.fs
 funs:X.s₀.heap.FunFrames X.base X.outer
 frf:∀b∈X.fs,X.H₀ b=none
structure Inv (X:Cx) (pins:List (Addr×Obj)) (σ:List (Option V)) (H:Hp) (s:Shared):Prop where
 ok:X.Ok
 os:s.os=X.s₀.os
 bare:AllBare s.gens
 base:Un X.fs X.ex X.H₀ H X.s₀.heap s.heap
 loc:∃m,s.heap.Ns X.env.locals m∧∀(i:Nat) (x:Str) (v:V),X.N[i]?=some x→σ[i]?=some (some v)→Vis X.env.scope x→∃u,RelV v u∧Look X.env s.heap m x u
 cell:∀x c,X.env.cells.lookup x=some c→∃v,s.heap.IsCell c v
 free:H X.env.locals=none
 freeC:∀x c,X.env.cells.lookup x=some c→H c=none
 pin:∀p∈X.pn++pins,s.heap.get? p.1=some p.2∧H p.1=none∧p.1≠X.env.locals∧p.1∉X.fs∧∀v,p.2.data≠.cell v
 hok:HOk X.prog X.w H s.heap
 len:σ.length=X.N.length
section
variable {X:Cx} {pins:List (Addr×Obj)} {σ:List (Option V)} {H H':Hp} {s:Shared} {h':Heap}
theorem Cx.Ok.nofr (ok:X.Ok) {b:Addr} {o:Obj} (e:X.base.get? b=some o):b∉X.fs:=fun hb=>by
 have:=(ok.funs.mem hb).1
 rw [e] at this;cases this
theorem Inv.bs (I:Inv X pins σ H s):∀b o,X.base.get? b=some o→s.heap.get? b=some o∧H b=none:=fun b o e =>
 ⟨I.base.keep b o (I.ok.bs b o e).1 (I.ok.bs b o e).2 (I.ok.nofr e) (I.ok.noex b o e),I.base.free b o (I.ok.bs b o e).1 (I.ok.bs b o e).2 (I.ok.noex b o e)⟩
theorem Inv.bk (I:Inv X pins σ H s):∀b o,X.base.get? b=some o→s.heap.get? b=some o:=fun b o e=>(I.bs b o e).1
theorem Inv.mod (I:Inv X pins σ H s):Mod X.K X.mg X.base:=I.ok.mod
theorem Inv.kIn (I:Inv X pins σ H s):X.K.In s.heap:=I.ok.mod.kin.keeps I.bk
theorem Inv.nolimit (I:Inv X pins σ H s):s.heap.NoLimit:=I.ok.mod.nolimit.keeps I.bk
theorem Inv.fr (I:Inv X pins σ H s):∃m,Fr X.base X.env.locals s.heap m :=
 let ⟨m,hn,_⟩:=I.loc
 ⟨m,hn,I.bk,Nat.le_trans I.ok.bsz I.ok.above⟩
theorem Inv.lt (I:Inv X pins σ H s):X.env.locals<s.heap.objs.size:=let ⟨_,hn,_⟩:=I.loc;hn.lt
theorem Inv.sz (I:Inv X pins σ H s):X.s₀.heap.objs.size≤s.heap.objs.size:=Nat.le_trans I.ok.above (Nat.le_of_lt I.lt)
theorem Inv.nofs (I:Inv X pins σ H s) {a:Addr} (h:s.heap.objs.size≤a):a∉X.fs:=fun hb=>by
 obtain ⟨_,o,ho,_⟩:=I.ok.funs.mem hb
 exact absurd (Nat.lt_of_lt_of_le (Heap.lt_size ho) (Nat.le_trans I.sz h)) (Nat.lt_irrefl _)
theorem Inv.cne (I:Inv X pins σ H s):∀x c,X.env.cells.lookup x=some c→c≠X.env.locals:=fun x c e z=>by
 obtain ⟨v,o,ho,hd⟩:=I.cell x c e
 obtain ⟨m,⟨o',es,ep,ho',hd',_⟩,_⟩:=I.loc
 rw [z,ho'] at ho;cases ho;rw [hd'] at hd;cases hd
theorem Inv.funs (I:Inv X pins σ H s):s.heap.FunFrames X.base X.outer:=by
 have all:∀(l:List Env),(∀b∈frs l,b∈X.fs)→X.s₀.heap.FunFrames X.base l→s.heap.FunFrames X.base l:=by
  intro l
  induction l with
  | nil=>intro _ _;trivial
  | cons env r ih =>
   intro hs hl
   obtain ⟨hk,⟨L,o,hf,hn,ho,hd⟩,hr⟩:=hl
   have hL:L∈X.fs:=hs L (by unfold frs;rw [List.filterMap_cons,hf];exact List.mem_cons_self)
   obtain ⟨sl,e⟩:=I.base.slot L o ho (I.ok.frf L hL) hL fun z=>I.ok.exfs L z hL
   exact ⟨hk,⟨L,_,hf,hn,e,hd⟩,ih (fun b hb=>hs b (by unfold frs;rw [List.filterMap_cons,hf];exact List.mem_cons_of_mem _ hb)) hr⟩
 exact all X.outer (fun _ hb=>hb) I.ok.funs
theorem Inv.stack (I:Inv X pins σ H s):s.heap.FunFrames X.base X.stack:=by
 rcases I.ok.stk with e | ⟨e,hf⟩
 ·rw [e];exact I.funs
 ·rw [e]
  obtain ⟨m,hn,_⟩:=I.loc
  refine .cons (by rw [I.ok.kind];decide) hf hn ?_ I.funs
  exact Heap.get?_none_of_le (Nat.le_trans I.ok.bsz I.ok.above)
theorem Inv.stkSub (I:Inv X pins σ H s):∀b∈frs X.stack,b∈X.env.locals::X.fs:=fun b hb=>by
 rcases I.ok.stk with e | ⟨e,hf⟩
 ·rw [e] at hb;exact List.mem_cons_of_mem _ hb
 ·rw [e] at hb
  unfold frs at hb
  rw [List.filterMap_cons,hf] at hb
  exact hb
theorem Inv.stkFree (I:Inv X pins σ H s):∀b∈frs X.stack,H b=none:=fun b hb=>by
 rcases List.mem_cons.mp (I.stkSub b hb) with e | hb
 ·rw [e];exact I.free
 ·obtain ⟨_,o,ho,_⟩:=I.ok.funs.mem hb
  exact I.base.free b o ho (I.ok.frf b hb) fun z=>I.ok.exfs b z hb
theorem Inv.step {g':Array GenState} {t':Nat} {d':Drawn} {ch:List Addr} (I:Inv X pins σ H s)
  (hch:∀b∈ch,(b∈X.ex∨X.s₀.heap.objs.size≤b)∧b≠X.env.locals∧(∀x c,X.env.cells.lookup x=some c→c≠b)∧∀p∈X.pn++pins,p.1≠b)
  (keep:∀b o,b≠X.env.locals→b∉X.fs→b∉ch→s.heap.get? b=some o→H b=none→h'.get? b=some o)
  (slot:∀b o,b≠X.env.locals→b∈X.fs→b∉ch→s.heap.get? b=some o→H b=none→∃sl,h'.get? b=some { o with slots:=sl }) (free:∀b o,b∉ch→s.heap.get? b=some o→H b=none→H' b=none)
  (there:∀b o,b∉ch→s.heap.get? b=some o→∃o',h'.get? b=some o')
  (tups:∀b xs,H b=some (.tup xs)→H' b=some (.tup xs)) (frzs:∀b o u,H b=some (.frz o u)→H' b=some (.frz o u)) (tbls:∀b ps,H b=some (.tbl ps)→∃more,H' b=some (.tbl (ps++more)))
  (ns:∀m,s.heap.Ns X.env.locals m→h'.Ns X.env.locals m) (hok:HOk X.prog X.w H' h') (hg:AllBare g') :
  Inv X pins σ H' { s with heap:=h',gens:=g',drawn:=d',toks:=t' }:=by
 have neL:∀b o,X.s₀.heap.get? b=some o→b≠X.env.locals:=fun b o e=>Nat.ne_of_lt (Nat.lt_of_lt_of_le (Heap.lt_size e) I.ok.above)
 have neC:∀b o,X.s₀.heap.get? b=some o→b∉X.ex→b∉ch:=fun b o e hx hb=>by
  rcases (hch b hb).1 with z | z
  ·exact hx z
  ·exact absurd (Nat.lt_of_lt_of_le (Heap.lt_size e) z) (Nat.lt_irrefl _)
 have cellK:∀x c,X.env.cells.lookup x=some c→∀v,s.heap.IsCell c v→h'.IsCell c v:=fun x c e v ⟨o,ho,hd⟩=>by
  have nch:c∉ch:=fun z=>(hch c z).2.2.1 x c e rfl
  by_cases hc:c∈X.fs
  ·obtain ⟨sl,q⟩:=slot c o (I.cne x c e) hc nch ho (I.freeC x c e)
   exact ⟨_,q,hd⟩
  ·exact ⟨o,keep c o (I.cne x c e) hc nch ho (I.freeC x c e),hd⟩
 refine ⟨I.ok,I.os,hg,⟨fun b o e n hb hx=>?_,fun b o e n hb hx=>?_,fun b o e n hx=>?_,fun b o e hx=>?_,fun b xs e=>tups b xs (I.base.tups b xs e),fun b o xs e=>frzs b o xs (I.base.frzs b o xs e),fun b ps e=>?_⟩,?_,fun x c e=>?_,?_,fun x c e=>?_,fun p hp=>?_,hok,I.len⟩
 ·exact keep b o (neL b o e) hb (neC b o e hx) (I.base.keep b o e n hb hx) (I.base.free b o e n hx)
 ·obtain ⟨sl,e1⟩:=I.base.slot b o e n hb hx
  obtain ⟨sl',e2⟩:=slot b _ (neL b o e) hb (neC b o e hx) e1 (I.base.free b o e n hx)
  exact ⟨sl',e2⟩
 ·obtain ⟨o',e1⟩:=I.base.there b o e hx
  exact free b o' (neC b o e hx) e1 (I.base.free b o e n hx)
 ·obtain ⟨o',e1⟩:=I.base.there b o e hx
  exact there b o' (neC b o e hx) e1
 ·obtain ⟨m1,e1⟩:=I.base.tbls b ps e
  obtain ⟨m2,e2⟩:=tbls b _ e1
  exact ⟨m1++m2,by rw [e2,Array.append_assoc]⟩
 ·obtain ⟨m,hn,hl⟩:=I.loc
  refine ⟨m,ns m hn,fun i x v e1 e2 e3=>?_⟩
  obtain ⟨u,r,l⟩:=hl i x v e1 e2 e3
  refine ⟨u,r,?_⟩
  rcases l with l | ⟨k,c,e,z⟩
  ·exact .inl l
  ·exact .inr ⟨k,c,e,cellK x c e _ z⟩
 ·obtain ⟨v,z⟩:=I.cell x c e
  exact ⟨v,cellK x c e v z⟩
 ·obtain ⟨m,⟨o,_,_,ho,_⟩,_⟩:=I.loc
  exact free _ o (fun z=>(hch _ z).2.1 rfl) ho I.free
 ·obtain ⟨v,o,ho,hd⟩:=I.cell x c e
  exact free c o (fun z=>(hch c z).2.2.1 x c e rfl) ho (I.freeC x c e)
 ·obtain ⟨e,n,ne,nf,d⟩:=I.pin p hp
  have nch:p.1∉ch:=fun z=>(hch p.1 z).2.2.2 p hp rfl
  exact ⟨keep p.1 p.2 ne nf nch e n,free p.1 p.2 nch e n,ne,nf,d⟩
theorem Inv.un {t':Nat} (I:Inv X pins σ H s) (u:Un X.fs [] H H' s.heap h') (hok:HOk X.prog X.w H' h'):Inv X pins σ H' { s with heap:=h',toks:=t' }:=by
 obtain ⟨m,⟨o,es,ep,ho,r⟩,_⟩:=id I.loc
 obtain ⟨sl,hL⟩:=u.any ho I.free (by simp)
 exact I.step (g':=s.gens) (d':=s.drawn) (ch:=[]) (fun _ z=>nomatch z) (fun b o _ hb _ e n=>u.keep b o e n hb (by simp)) (fun b o _ hb _ e n=>u.slot b o e n hb (by simp)) (fun b o _ e n=>u.free b o e n (by simp)) (fun b o _ e=>u.there b o e (by simp)) u.tups u.frzs u.tbls (fun m' hm=>by
  obtain ⟨o',es',ep',ho',r'⟩:=hm
  rw [ho] at ho';cases ho'
  exact ⟨_,es',ep',hL,r'⟩) hok I.bare
theorem Inv.call {g':Array GenState} {t':Nat} {d':Drawn} {ch:List Addr} (I:Inv X pins σ H s) (u:Un (frs X.stack) ch H H' s.heap h') (hok:HOk X.prog X.w H' h') (hg:AllBare g')
  (hch:∀b∈ch,(b∈X.ex∨X.s₀.heap.objs.size≤b)∧b≠X.env.locals∧(∀x c,X.env.cells.lookup x=some c→c≠b)∧∀p∈X.pn++pins,p.1≠b) :
  Inv X pins σ H' { s with heap:=h',gens:=g',drawn:=d',toks:=t' }:=by
 obtain ⟨m,⟨o,es,ep,ho,r⟩,_⟩:=id I.loc
 obtain ⟨sl,hL⟩:=u.any ho I.free fun z=>(hch _ z).2.1 rfl
 exact I.step (ch:=ch) hch (fun b o hL hb hc e n=>u.keep b o e n (fun z=>(List.mem_cons.mp (I.stkSub b z)).elim hL hb) hc) (fun b o _ _ hc e n=>u.any e n hc) (fun b o hc e n=>u.free b o e n hc) (fun b o hc e=>u.there b o e hc) u.tups u.frzs u.tbls (fun m' hm=>by
  obtain ⟨o',es',ep',ho',r'⟩:=hm
  rw [ho] at ho';cases ho'
  exact ⟨_,es',ep',hL,r'⟩) hok hg
theorem Inv.turned {t':Nat} {it:Addr} (I:Inv X pins σ H s) (k:∀b o,b≠it→s.heap.get? b=some o→h'.get? b=some o) (hn:H it=none) (hL:it≠X.env.locals)
  (h1:it∈X.ex∨X.s₀.heap.objs.size≤it) (h2:∀x c,X.env.cells.lookup x=some c→c≠it) (h3:∀p∈X.pn++pins,p.1≠it):Inv X pins σ H { s with heap:=h',toks:=t' }:=by
 have nit:∀b u,H b=some u→b≠it:=fun b u e z=>by rw [z,hn] at e;cases e
 refine I.step (g':=s.gens) (d':=s.drawn) (ch:=[it]) (fun b hb=>?_) (fun b o _ _ hc e _=>k b o (fun z=>hc (by simp [z])) e) (fun b o _ _ hc e _=>⟨o.slots,k b o (fun z=>hc (by simp [z])) e⟩) (fun _ _ _ _ n=>n)
  (fun b o hc e=>⟨o,k b o (fun z=>hc (by simp [z])) e⟩) (fun _ _ e=>e) (fun _ _ _ e=>e) (fun b ps e=>⟨#[],by rw [e];simp⟩) (fun m hm=>?_) (fun b u e=>?_) I.bare
 ·have e:b=it:=by simpa using hb
  subst e
  exact ⟨h1,hL,h2,h3⟩
 ·obtain ⟨o,es,ep,ho,r⟩:=hm
  exact ⟨o,es,ep,k _ o (Ne.symm hL) ho,r⟩
 ·refine (I.hok b u e).stay (fun c v hc q=>k c v ?_ q) (fun _ q=>q) fun _ _ q=>q
  rcases hc with z | z
  ·rw [z];exact nit b u e
  ·exact nit c _ z
theorem Inv.tok (I:Inv X pins σ H s) (t:Nat):Inv X pins σ H { s with toks:=t }:=I.un (h':=s.heap) (t':=t) Un.refl I.hok
theorem Inv.kept {t':Nat} (I:Inv X pins σ H s) (k:∀b u,s.heap.get? b=some u→h'.get? b=some u):Inv X pins σ H { s with heap:=h',toks:=t' }:=I.un (Un.kept k) (I.hok.kept k)
theorem Inv.laid {a:Addr} {o:HO} {t':Nat} (I:Inv X pins σ H s) (k:∀b u,s.heap.get? b=some u→h'.get? b=some u) (hp:s.heap.objs.size≤a) (new:ObjOk X.prog X.w (upd H a o) h' a o) :
  Inv X pins σ (upd H a o) { s with heap:=h',toks:=t' }:=I.un (Un.laid k hp (I.hok.fresh hp)) (I.hok.laid k hp new)
theorem Inv.write {x e:Addr} {o:HO} {t':Nat} (I:Inv X pins σ H s) (mu:Mut (H x)) (he:e=x∨H e=some (.own x)) (k:∀b u,b≠e→s.heap.get? b=some u→h'.get? b=some u) (heo:∃u,h'.get? e=some u)
  (new:ObjOk X.prog X.w (upd H x o) h' x o):Inv X pins σ (upd H x o) { s with heap:=h',toks:=t' }:=I.un (Un.write mu he k heo) (I.hok.write mu he k heo new)
theorem Inv.pins_of {pins':List (Addr×Obj)} (I:Inv X pins σ H s) (h:∀p∈pins',s.heap.get? p.1=some p.2∧H p.1=none∧p.1≠X.env.locals∧p.1∉X.fs∧∀v,p.2.data≠.cell v):Inv X pins' σ H s :=
 ⟨I.ok,I.os,I.bare,I.base,I.loc,I.cell,I.free,I.freeC,fun p hp=>(List.mem_append.mp hp).elim (fun z=>I.pin p (List.mem_append_left _ z)) (h p),I.hok,I.len⟩
theorem hZ {N:List Str} (hN:N.Nodup) {i j:Nat} {x:Str} (a:N[i]?=some x) (b:N[j]?=some x):i=j:=by
 obtain ⟨h1,e1⟩:=List.getElem?_eq_some_iff.mp a
 obtain ⟨h2,e2⟩:=List.getElem?_eq_some_iff.mp b
 exact (List.getElem_inj hN).mp (e1.trans e2.symm)
theorem jl {M:Model} {A:Around} {E:Value→Shared→Prop} {i:Nat} {x:Str} {v:V} {u:Value} {Q:Unit→Shared→Prop} (I:Inv X pins σ H s) (hN:X.N.Nodup) (hi:X.N[i]?=some x) (hx:Loc X.env.scope x) (r:RelV v u)
  (h:∀s',Inv X pins (σ.set i (some v)) H s'→(∃a,Heap.SameBut a s.heap s'.heap∧(a=X.env.locals∨X.env.cells.lookup x=some a))→Q () s') (hf:X.fn x=true∨X.env.scope.names.lookup x=some .local:=by first | exact .inl rfl | exact .inr rfl | assumption):wpAny M A (storeName X.env x u) Q E s:=by
 obtain ⟨m,hn,hl⟩:=id I.loc
 have hcls:(X.env.scope.kind == .class||(X.env.scope.kind == .module&&X.env.locals != X.env.globals))=false:=by rw [I.ok.kind];rfl
 have hiσ:i<σ.length:=by rw [I.len];exact (List.getElem?_eq_some_iff.mp hi).1
 have cne:=I.cne
 have tracked:∀{a:Addr} {h':Heap},(∃o,s.heap.get? a=some o∧H a=none)→Heap.SameBut a s.heap h'→HOk X.prog X.w H h':=fun {a h'} ha hs b ob e=>by
  obtain ⟨_,_,hfree⟩:=ha
  refine (I.hok b ob e).stay (fun c w' hc q=>(hs.2 c ?_).trans q) (fun _ q=>q) fun _ _ q=>q
  rintro rfl
  rcases hc with rfl | hc
  ·rw [hfree] at e;cases e
  ·rw [hfree] at hc;cases hc
 rcases hx with hk | hk
 ·refine wpAny_storeName_local hk hn (fun h' hn' hs=>?_) hcls
  obtain ⟨oL,_,_,hoL,_⟩:=id hn
  refine h _ ⟨I.ok,I.os,I.bare,⟨fun b o e n hb hx=>?_,fun b o e n hb hx=>?_,I.base.free,fun b o e hx=>?_,I.base.tups,I.base.frzs,I.base.tbls⟩,⟨_,hn',fun j y v' e1 e2 e3=>?_⟩,fun y c e=>?_,I.free,I.freeC,fun p hp=>?_,tracked ⟨oL,hoL,I.free⟩ hs,by simpa using I.len⟩ ⟨_,hs,.inl rfl⟩
  ·exact (hs.2 b (Nat.ne_of_lt (Nat.lt_of_lt_of_le (Heap.lt_size e) I.ok.above))).trans (I.base.keep b o e n hb hx)
  ·obtain ⟨sl,e1⟩:=I.base.slot b o e n hb hx
   exact ⟨sl,(hs.2 b (Nat.ne_of_lt (Nat.lt_of_lt_of_le (Heap.lt_size e) I.ok.above))).trans e1⟩
  ·obtain ⟨o',e1⟩:=I.base.there b o e hx
   exact ⟨o',(hs.2 b (Nat.ne_of_lt (Nat.lt_of_lt_of_le (Heap.lt_size e) I.ok.above))).trans e1⟩
  ·by_cases hj:j=i
   ·subst hj
    rw [hi] at e1;cases e1
    rw [List.getElem?_set_self hiσ] at e2
    cases e2
    exact ⟨u,r,.inl ⟨hk,by simp⟩⟩
   ·rw [List.getElem?_set_ne (Ne.symm hj)] at e2
    obtain ⟨u',r',q⟩:=hl j y v' e1 e2 e3
    refine ⟨u',r',?_⟩
    rcases q with ⟨k,e⟩ | ⟨k,c,e,z⟩
    ·refine .inl ⟨k,?_⟩
     have:y≠x:=fun e=>hj (hZ hN e1 (e ▸ hi))
     simp [this,e]
    ·exact .inr ⟨k,c,e,z.sameBut hs (cne y c e)⟩
  ·obtain ⟨w',z⟩:=I.cell y c e
   exact ⟨w',z.sameBut hs (cne y c e)⟩
  ·obtain ⟨e,n,ne,nf,d⟩:=I.pin p hp
   exact ⟨(hs.2 p.1 ne).trans e,n,ne,nf,d⟩
 ·have hfn:X.fn x=true:=by
   rcases hf with z | z
   ·exact z
   ·rw [z] at hk;cases hk
  obtain ⟨c,hc⟩:=I.ok.has x (.inl hk)
  obtain ⟨w',z⟩:=I.cell x c hc
  refine wpAny_storeName_cell I.ok.kind hk hc z (fun h' hc' hs=>?_)
  obtain ⟨oc,hoc,hocd⟩:=id z
  refine h { s with heap:=h' } ⟨I.ok,I.os,I.bare,⟨fun b o e n hb hx=>?_,fun b o e n hb hx=>?_,I.base.free,fun b o e hx=>?_,I.base.tups,I.base.frzs,I.base.tbls⟩,⟨m,hn.sameBut hs (Ne.symm (cne x c hc)),fun j y v' e1 e2 e3=>?_⟩,fun y c' e=>?_,I.free,I.freeC,fun p hp=>?_,tracked ⟨oc,hoc,I.freeC x c hc⟩ hs,by simpa using I.len⟩ ⟨c,hs,.inr hc⟩
  ·exact (hs.2 b (Nat.ne_of_lt (Nat.lt_of_lt_of_le (Heap.lt_size e) (I.ok.cab x c hfn hc)))).trans (I.base.keep b o e n hb hx)
  ·obtain ⟨sl,e1⟩:=I.base.slot b o e n hb hx
   exact ⟨sl,(hs.2 b (Nat.ne_of_lt (Nat.lt_of_lt_of_le (Heap.lt_size e) (I.ok.cab x c hfn hc)))).trans e1⟩
  ·obtain ⟨o',e1⟩:=I.base.there b o e hx
   exact ⟨o',(hs.2 b (Nat.ne_of_lt (Nat.lt_of_lt_of_le (Heap.lt_size e) (I.ok.cab x c hfn hc)))).trans e1⟩
  ·by_cases hj:j=i
   ·subst hj
    rw [hi] at e1;cases e1
    rw [List.getElem?_set_self hiσ] at e2
    cases e2
    exact ⟨u,r,.inr ⟨.inl hk,c,hc,hc'⟩⟩
   ·rw [List.getElem?_set_ne (Ne.symm hj)] at e2
    obtain ⟨u',r',q⟩:=hl j y v' e1 e2 e3
    refine ⟨u',r',?_⟩
    rcases q with q | ⟨k,c',e,z'⟩
    ·exact .inl q
    ·refine .inr ⟨k,c',e,z'.sameBut hs ?_⟩
     rintro rfl
     exact hj (hZ hN e1 (I.ok.inj _ _ _ e hc ▸ hi))
  ·by_cases hcc:c'=c
   ·subst hcc;exact ⟨_,hc'⟩
   ·obtain ⟨w2,z2⟩:=I.cell y c' e
    exact ⟨w2,z2.sameBut hs hcc⟩
  ·obtain ⟨e,n,ne,nf,d⟩:=I.pin p hp
   refine ⟨(hs.2 p.1 ?_).trans e,n,ne,nf,d⟩
   intro q
   rw [q,hoc] at e
   have q':oc=p.2:=Option.some.inj e
   exact d w' (by rw [←q'];exact hocd)
theorem iB {M:Model} {A:Around} {E:Value→Shared→Prop} {i:Nat} {x:Str} {v:V} {u:Value} {Q:Unit→Shared→Prop} (I:Inv X pins σ H s) (hN:X.N.Nodup) (hi:X.N[i]?=some x) (hx:Loc X.env.scope x) (r:RelV v u)
  (h:∀s',Inv X pins (σ.set i (some v)) H s'→Q () s') (hf:X.fn x=true∨X.env.scope.names.lookup x=some .local:=by first | exact .inl rfl | exact .inr rfl | assumption):wpAny M A (storeName X.env x u) Q E s :=
 jl I hN hi hx r (fun s' I' _=>h s' I') hf
theorem Inv.call' {s':Shared} {ch:List Addr} (I:Inv X pins σ H s) (ho:s'.os=s.os) (u:Un (frs X.stack) ch H H' s.heap s'.heap) (hok:HOk X.prog X.w H' s'.heap) (hg:AllBare s'.gens)
  (hch:∀b∈ch,(b∈X.ex∨X.s₀.heap.objs.size≤b)∧b≠X.env.locals∧(∀x c,X.env.cells.lookup x=some c→c≠b)∧∀p∈X.pn++pins,p.1≠b):Inv X pins σ H' s':=by
 obtain ⟨h',g',d',t',o'⟩:=s'
 have e:o'=s.os:=ho
 subst e
 exact I.call (g':=g') (t':=t') (d':=d') u hok hg hch
end
abbrev XK:=Value→Option Addr→Hp→Prop
abbrev St:=List (Option V)
abbrev VK:=V→Hp→Prop
abbrev TE:=St→Hp→VK→Prop
abbrev TT:=St→Hp→(Bool→Hp→Prop)→Prop
abbrev TA:=St→Hp→(List V→Hp→Prop)→Prop
structure Ends where
 nx:St→Hp→Prop
 rt:VK
 bk:St→Hp→Prop:=fun _ _=>False
 ct:St→Hp→Prop:=fun _ _=>False
abbrev TS:=Ends→St→Hp→Prop
def EP (X:Cx) (pins:List (Addr×Obj)) (σ:St) (Q:VK) (u:Value) (s':Shared):Prop:=∃v H',Inv X pins σ H' s'∧RelV v u∧Q v H'
def TP (X:Cx) (pins:List (Addr×Obj)) (σ:St) (Q:Bool→Hp→Prop) (b:Bool) (s':Shared):Prop:=∃H',Inv X pins σ H' s'∧Q b H'
def AP (X:Cx) (pins:List (Addr×Obj)) (σ:St) (Q:List V→Hp→Prop) (us:List Value) (s':Shared):Prop:=∃vs H',Inv X pins σ H' s'∧Vals vs us∧Q vs H'
def SP (X:Cx) (pins:List (Addr×Obj)) (D:Ends) (f:Flow) (s':Shared):Prop :=
 match f with
 | .next=>∃σ' H',Inv X pins σ' H' s'∧D.nx σ' H'
 | .brk=>∃σ' H',Inv X pins σ' H' s'∧D.bk σ' H'
 | .cont=>∃σ' H',Inv X pins σ' H' s'∧D.ct σ' H'
 | .ret u=>∃v σ' H',Inv X pins σ' H' s'∧RelV v u∧D.rt v H'
def PE (X:Cx) (e:Expr) (t:TE):Prop :=
 ∀(pins:List (Addr×Obj)) (s:Shared) (σ:St) (H:Hp) (Q:VK),Inv X pins σ H s→t σ H Q→wpAny (model X.prog X.w) X.A (eval e X.env) (EP X pins σ Q) X.xe s
def PT (X:Cx) (e:Expr) (t:TT):Prop :=
 ∀(pins:List (Addr×Obj)) (s:Shared) (σ:St) (H:Hp) (Q:Bool→Hp→Prop),Inv X pins σ H s→t σ H Q→wpAny (model X.prog X.w) X.A (isTrue e X.env (eval e X.env)) (TP X pins σ Q) X.xe s
def PW (X:Cx) (e:Expr) (t:TT):Prop :=
 ∀(whole:Sem Value) (pins:List (Addr×Obj)) (s:Shared) (σ:St) (H:Hp) (Q:Bool→Hp→Prop),Inv X pins σ H s→t σ H Q→wpAny (model X.prog X.w) X.A (isTrue e X.env whole) (TP X pins σ Q) X.xe s
theorem PW.pt {X:Cx} {e:Expr} {t:TT} (h:PW X e t):PT X e t:=h _
def PA (X:Cx) (es:List Expr) (t:TA):Prop :=
 ∀(pos:Pos) (pins:List (Addr×Obj)) (s:Shared) (σ:St) (H:Hp) (Q:List V→Hp→Prop),Inv X pins σ H s→t σ H Q→wpAny (model X.prog X.w) X.A (spliced (backTo pos (starEach es X.env))) (AP X pins σ Q) X.xe s
def PS (X:Cx) (st:Stmt) (t:TS):Prop :=
 ∀(pins:List (Addr×Obj)) (s:Shared) (σ:St) (H:Hp) (D:Ends),Inv X pins σ H s→t D σ H→wpAny (model X.prog X.w) X.A (exec st X.env) (SP X pins D) X.xe s
def PSs (X:Cx) (st:List Stmt) (t:TS):Prop :=
 ∀(pins:List (Addr×Obj)) (s:Shared) (σ:St) (H:Hp) (D:Ends),Inv X pins σ H s→t D σ H→wpAny (model X.prog X.w) X.A (execs st X.env) (SP X pins D) X.xe s
theorem thn {α:Type} {t:Sem α} {Q Q':α→Shared→Prop} {M:Model} {A:Around} {E:Value→Shared→Prop} {s:Shared} (h:wpAny M A t Q E s) (hQ:∀a s,Q a s→Q' a s):wpAny M A t Q' E s:=wpAny_mono h hQ fun _ _ x=>x
end L2
namespace L2
open PySem PySem.Spec PyProof.Rows
section
variable {X:Cx}
theorem bin {a b:Expr} {ta tb:TE} (ha:PE X a ta) (hb:PE X b tb) {pins:List (Addr×Obj)} {s:Shared} {σ:St} {H:Hp} {R:V→V→Hp→Prop} (I:Inv X pins σ H s) (h:ta σ H fun x H1=>tb σ H1 fun y H2=>R x y H2)
  {α:Type} {Q:α→Shared→Prop} {f:Value→Value→Sem α}
  (hf:∀v u s2 x y H2,Inv X pins σ H2 s2→RelV x v→RelV y u→R x y H2→wpAny (model X.prog X.w) X.A (f v u) Q X.xe s2) :
  wpAny (model X.prog X.w) X.A (eval a X.env) (fun v s₁=>wpAny (model X.prog X.w) X.A (eval b X.env) (fun u s₂=>wpAny (model X.prog X.w) X.A (f v u) Q X.xe s₂) X.xe s₁) X.xe s:=by
 refine thn (ha pins s σ H _ I h) fun v s1 ⟨x,H1,I1,r1,q1⟩=>?_
 refine thn (hb pins s1 σ H1 _ I1 q1) fun u s2 ⟨y,H2,I2,r2,q2⟩=>?_
 exact hf v u s2 x y H2 I2 r1 r2 q2
def tVar (i:Nat):TE:=fun σ H Q=>∃v,σ[i]?=some (some v)∧Q v H
def tC (v:V):TE:=fun _ H Q=>Q v H
theorem bz {i:Nat} {x:Str} {pos:Pos} (hN:X.N[i]?=some x) (hv:Vis X.env.scope x) (hd:(x == ("__debug__" : Str))=false:=by decide) (hcd:(x == ("__classdict__" : Str))=false:=by decide):PE X (.Name x pos) (tVar i):=by
 intro pins s σ H Q I h
 obtain ⟨v,e,h⟩:=h
 obtain ⟨m,hn,hl⟩:=I.loc
 obtain ⟨u,r,l⟩:=hl i x v hN e hv
 have fin:EP X pins σ Q u s:=⟨v,H,I,r,h⟩
 rcases l with ⟨hk,hm⟩ | ⟨hk,c,hc,hcell⟩
 ·exact wpAny_Name (wpAny_loadName_local I.ok.kind hk hn hm fin) hd
 ·rcases hk with hk | hk
  ·exact wpAny_Name (wpAny_loadName_cell I.ok.kind hk hc hcell fin) hd
  ·exact wpAny_Name (wpAny_loadName_free I.ok.kind hk hc hcell fin hcd) hd
theorem dG {i j pos}:PE X (.Constant (.int i) j pos) (tC (.int i)):=fun _ _ _ H _ I h=>wpAny_Constant_int ⟨.int i,H,I.tok _,⟨_,rfl⟩,h⟩
theorem wS {b j pos}:PE X (.Constant (.bool b) j pos) (tC (.bl b)):=fun _ _ _ H _ I h=>Constant_bool ⟨.bl b,H,I,rfl,h⟩
theorem tP {j pos}:PE X (.Constant .none j pos) (tC .non):=fun _ _ _ H _ I h=>Constant_none ⟨.non,H,I,rfl,h⟩
theorem tS {x j pos}:PE X (.Constant (.str x) j pos) (tC (.str x)):=fun _ _ _ H _ I h=>Calls.Constant_str ⟨.str x,H,I.tok _,⟨_,rfl⟩,h⟩
def Gl (X:Cx) (x:Str):Prop:=X.env.kindOf x=some .globalImplicit
theorem c7 {E:Value→Shared→Prop} {pins:List (Addr×Obj)} {s:Shared} {σ:St} {H:Hp} {x:Str} {u:Value} {pos:Pos} {Q:Value→Shared→Prop} (I:Inv X pins σ H s) (hg:Gl X x) (hm:X.mg x=some u) (h:Q u s)
  (hd:(x == ("__debug__" : Str))=false:=by decide):wpAny (model X.prog X.w) X.A (eval (.Name x pos) X.env) Q E s :=
 Calls.Name_function_global I.ok.kind hg (Calls.loadGlobal_global (by rw [I.ok.glob];exact I.mod.glob.keeps I.bk) hm h) hd
theorem cO {E:Value→Shared→Prop} {pins:List (Addr×Obj)} {s:Shared} {σ:St} {H:Hp} {x:Str} {u:Value} {pos:Pos} {Q:Value→Shared→Prop} (I:Inv X pins σ H s) (hg:Gl X x) (hm:X.mg x=none) (hv:bootBuiltins x=some u) (h:Q u s)
  (hn:x ≠ "__name__" := by decide) (hd:(x == ("__debug__" : Str))=false:=by decide):wpAny (model X.prog X.w) X.A (eval (.Name x pos) X.env) Q E s:=by
 obtain ⟨mb,h1,h2⟩:=I.mod.blt
 exact Calls.Name_function_global I.ok.kind hg (Calls.loadGlobal_builtin (by rw [I.ok.glob];exact I.mod.glob.keeps I.bk) hm (by rw [I.ok.blt];exact h1.keeps I.bk) ((h2 x hn).trans hv) h) hd
theorem ge {x:Str} {v:V} {u:Value} {pos:Pos} (hg:Gl X x) (hm:X.mg x=some u) (r:RelV v u) (hd:(x == ("__debug__" : Str))=false:=by decide):PE X (.Name x pos) (tC v) :=
 fun _ _ _ H _ I h=>c7 I hg hm ⟨v,H,I,r,h⟩ hd
theorem mw {x:Str} {v:V} {u:Value} {pos:Pos} (hg:Gl X x) (hm:X.mg x=none) (hv:bootBuiltins x=some u) (r:RelV v u) (hn:x ≠ "__name__" := by decide) (hd:(x == ("__debug__" : Str))=false:=by decide):PE X (.Name x pos) (tC v) :=
 fun _ _ _ H _ I h=>cO I hg hm hv ⟨v,H,I,r,h⟩ hn hd
variable {a b:Expr} {ta tb:TE} {pos:Pos}
def PC (X:Cx) (op:CmpOp) (a b:Expr) (t:TE):Prop :=
 ∀(pins:List (Addr×Obj)) (s:Shared) (σ:St) (H:Hp) (Q:VK),Inv X pins σ H s→t σ H Q →
  wpAny (model X.prog X.w) X.A (eval a X.env) (fun v s₁=>wpAny (model X.prog X.w) X.A (eval b X.env) (fun u s₂=>wpAny (model X.prog X.w) X.A (compareOp op v u) (EP X pins σ Q) X.xe s₂) X.xe s₁) X.xe s
theorem nobehind (b:Expr) {op:CmpOp} (h:op≠.In) (h2:op≠.NotIn):behindInMarks op b=false:=by
 have e1:(op == CmpOp.In)=false:=by cases op<;>first | rfl | exact absurd rfl h
 have e2:(op == CmpOp.NotIn)=false:=by cases op<;>first | rfl | exact absurd rfl h2
 cases b<;>simp [behindInMarks,e1,e2]
def tB (t:TE):TT:=fun σ H Q=>t σ H fun x H1=>∃c,x=.bl c∧Q c H1
theorem zw {op:CmpOp} {t:TE} (h:PC X op a b t) (h1:behindInMarks op b=false:=by first | exact nobehind _ (by decide) (by decide) | rfl):PT X (.Compare a [op] [b] pos) (tB t):=by
 intro pins s σ H Q I hw
 refine wpAny_isTrue_Compare1 (thn (h pins s σ H _ I hw) fun v s1 h1=>thn h1 fun u s2 h2=>thn h2 fun c s3 ⟨x,H1,I1,r1,q1⟩=>?_) h1
 obtain ⟨d,rfl,q⟩:=q1
 cases r1
 exact wpAny_truthy_bool ⟨H1,I1,q⟩
theorem uc {e:Expr} {t:TE} (h:PE X e t) (he:∀whole,isTrue e X.env whole=(do let v ←whole;standAt e.pos;holding [v] (truthy v)):=by intro _;rfl):PT X e (tB t):=by
 intro pins s σ H Q I hw
 refine isTrue_plain (thn (h pins s σ H _ I hw) fun v s1 ⟨x,H1,I1,r1,q1⟩=>?_) (he _)
 obtain ⟨d,rfl,q⟩:=q1
 cases r1
 exact wpAny_truthy_bool ⟨H1,I1,q⟩
variable {tA tB':TT} {rest:List Expr}
def tAnd (t u:TT):TT:=fun σ H Q=>t σ H fun c H1=>if c=true then u σ H1 Q else Q false H1
def tOr (t u:TT):TT:=fun σ H Q=>t σ H fun c H1=>if c=true then Q true H1 else u σ H1 Q
def tNot (t:TT):TT:=fun σ H Q=>t σ H fun c H1=>Q (!c) H1
theorem rn (ha:PT X a tA):PW X (.BoolOp .And [a] pos) tA:=by
 intro wh pins s σ H Q I h
 refine isTrue_and (thn (ha pins s σ H Q I h) fun c s1 e=>?_)
 cases c with
 | true=>exact isTrue_and_nil e
 | false=>exact e
theorem ug (ha:PT X a tA):PW X (.BoolOp .Or [a] pos) tA:=by
 intro wh pins s σ H Q I h
 refine isTrue_or (thn (ha pins s σ H Q I h) fun c s1 e=>?_)
 cases c with
 | false=>exact isTrue_or_nil e
 | true=>exact e
theorem uf (ha:PT X a tA) (hb:PW X (.BoolOp .And (b::rest) pos) tB'):PW X (.BoolOp .And (a::b::rest) pos) (tAnd tA tB'):=by
 intro wh pins s σ H Q I h
 refine isTrue_and (thn (ha pins s σ H _ I h) fun c s1 ⟨H1,I1,q1⟩=>?_)
 cases c with
 | true=>exact hb wh pins s1 σ H1 Q I1 q1
 | false=>exact ⟨H1,I1,q1⟩
theorem wY (ha:PT X a tA) (hb:PW X (.BoolOp .Or (b::rest) pos) tB'):PW X (.BoolOp .Or (a::b::rest) pos) (tOr tA tB'):=by
 intro wh pins s σ H Q I h
 refine isTrue_or (thn (ha pins s σ H _ I h) fun c s1 ⟨H1,I1,q1⟩=>?_)
 cases c with
 | true=>exact ⟨H1,I1,q1⟩
 | false=>exact hb wh pins s1 σ H1 Q I1 q1
theorem ub (ha:PT X a tA):PT X (.UnaryOp .Not a pos) (tNot tA):=by
 intro pins s σ H Q I h
 exact isTrue_not (ha pins s σ H (fun c H1=>Q (!c) H1) I h)
def tAndV (ta tb:TE):TE:=fun σ H Q=>ta σ H fun x H1=>∃c,x=.bl c∧if c=true then tb σ H1 Q else Q (.bl false) H1
def tOrV (ta tb:TE):TE:=fun σ H Q=>ta σ H fun x H1=>∃c,x=.bl c∧if c=true then Q (.bl true) H1 else tb σ H1 Q
def tNotV (ta:TE):TE:=fun σ H Q=>ta σ H fun x H1=>∃c,x=.bl c∧Q (.bl (!c)) H1
theorem tR {op} {t:TE} (h:PE X a t):PE X (.BoolOp op [a] pos) t:=fun pins s σ H Q I hw=>BoolOp_one (h pins s σ H Q I hw)
theorem tN (ha:PE X a ta) (hb:PE X (.BoolOp .And (b::rest) pos) tb):PE X (.BoolOp .And (a::b::rest) pos) (tAndV ta tb):=by
 intro pins s σ H Q I h
 refine BoolOp_and (thn (ha pins s σ H _ I h) fun v s1 ⟨x,H1,I1,r1,q1⟩=>?_)
 obtain ⟨c,rfl,q1⟩:=q1
 cases r1
 refine wpAny_truthy_bool ?_
 cases c with
 | true=>exact hb pins s1 σ H1 Q I1 q1
 | false=>exact ⟨.bl false,H1,I1,rfl,q1⟩
theorem wU (ha:PE X a ta) (hb:PE X (.BoolOp .Or (b::rest) pos) tb):PE X (.BoolOp .Or (a::b::rest) pos) (tOrV ta tb):=by
 intro pins s σ H Q I h
 refine BoolOp_or (thn (ha pins s σ H _ I h) fun v s1 ⟨x,H1,I1,r1,q1⟩=>?_)
 obtain ⟨c,rfl,q1⟩:=q1
 cases r1
 refine wpAny_truthy_bool ?_
 cases c with
 | false=>exact hb pins s1 σ H1 Q I1 q1
 | true=>exact ⟨.bl true,H1,I1,rfl,q1⟩
theorem tQ (ha:PE X a ta):PE X (.UnaryOp .Not a pos) (tNotV ta):=by
 intro pins s σ H Q I h
 refine UnaryOp_ (thn (ha pins s σ H _ I h) fun v s1 ⟨x,H1,I1,r1,q1⟩=>?_)
 obtain ⟨c,rfl,q1⟩:=q1
 cases r1
 exact not_of (wpAny_truthy_bool ⟨.bl (!c),H1,I1,rfl,q1⟩)
def tIf (t:TT) (ta tb:TE):TE:=fun σ H Q=>t σ H fun c H1=>if c=true then ta σ H1 Q else tb σ H1 Q
theorem pP {c:Expr} (hc:PT X c tA) (ha:PE X a ta) (hb:PE X b tb):PE X (.IfExp c a b pos) (tIf tA ta tb):=by
 intro pins s σ H Q I h
 refine wpAny_IfExp (thn (hc pins s σ H _ I h) fun d s1 ⟨H1,I1,q1⟩=>?_)
 cases d with
 | true=>exact ha pins s1 σ H1 Q I1 q1
 | false=>exact hb pins s1 σ H1 Q I1 q1
end
end L2
namespace L2
open PySem PySem.Spec PyProof.Rows
def SqL (K:PySem.W.Frag) (H:Hp) (a:Addr) (xs:List V):Prop :=
 Rd H a (.lst xs) ∨
  ∃(o:Obj) (its:Array Value) (n:Nat),K.lookup a=some o∧o.cls=.type "list" ∧ o.dict=none∧o.data=.seq its n∧its.size≤sizeLine∧Vals xs its.toList
def SqT (K:PySem.W.Frag) (H:Hp) (a:Addr) (xs:List V):Prop :=
 Rd H a (.tup xs) ∨
  ∃(o:Obj) (its:Array Value) (n:Nat),K.lookup a=some o∧o.cls=.type "tuple" ∧ o.data=.seq its n∧its.size≤sizeLine∧Vals xs its.toList∧o.dict=none
def absV:Value→Option V
 | .none=>some .non
 | .bool b=>some (.bl b)
 | .int i _=>some (.int i)
 | .str x _=>some (.str x)
 | .bytes b _=>some (.byt b)
 | .float b _=>some (.flt b)
 | .ref a=>some (.ref a)
 | .type n=>some (.ty n)
 | _=>none
theorem RelV.abs {x:V} {u:Value} (r:RelV x u):absV u=some x:=by
 cases x with
 | non=>cases r;rfl
 | bl _=>cases r;rfl
 | int _=>obtain ⟨t,rfl⟩:=r;rfl
 | str _=>obtain ⟨t,rfl⟩:=r;rfl
 | byt _=>obtain ⟨t,rfl⟩:=r;rfl
 | flt _=>obtain ⟨t,rfl⟩:=r;rfl
 | ref _=>cases r;rfl
 | ty _=>cases r;rfl
theorem RelV.inj {x y:V} {u:Value} (r:RelV x u) (q:RelV y u):x=y:=Option.some.inj (r.abs.symm.trans q.abs)
theorem Vals.inj:∀{xs ys:List V} {us:List Value},Vals xs us→Vals ys us→xs=ys
 | _,_,_,.nil,.nil=>rfl
 | _,_,_,.cons r t,.cons r' t'=>by rw [r.inj r',Vals.inj t t']
section
variable {X:Cx} {pins:List (Addr×Obj)} {σ:St} {H:Hp} {s:Shared} {a:Addr} {xs ys:List V}
theorem SqL.of {K:PySem.W.Frag} (h:H a=some (.lst xs)):SqL K H a xs:=.inl (.inl h)
theorem SqT.of {K:PySem.W.Frag} (h:H a=some (.tup xs)):SqT K H a xs:=.inl (.inl h)
theorem Inv.list (I:Inv X pins σ H s) (h:SqL X.K H a xs):∃its:List Value,Vals xs its∧PlainL s.heap a its.toArray∧xs.length≤sizeLine:=by
 rcases h with h | ⟨o,its,n,hk,hc,hd,hs,hz,r⟩
 ·obtain ⟨z,its,n,r,e⟩:=h.ok I.hok
  exact ⟨its,r,⟨_,n,e,rfl,rfl,rfl⟩,z⟩
 ·refine ⟨its.toList,r,⟨o,n,I.kIn a o hk,hc,hd,by simpa using hs⟩,?_⟩
  have e:=r.length
  simp only [Array.length_toList] at e
  omega
theorem Inv.tupleD (I:Inv X pins σ H s) (h:SqT X.K H a xs):∃its:List Value,Vals xs its∧TupD s.heap a its.toArray∧xs.length≤sizeLine:=by
 rcases h with h | ⟨o,its,n,hk,hc,hs,hz,r,dn⟩
 ·obtain ⟨z,its,r,p⟩:=h.ok I.hok
  exact ⟨its,r,p,z⟩
 ·refine ⟨its.toList,r,⟨o,I.kIn a o hk,hc,⟨n,by simpa using hs⟩,dn⟩,?_⟩
  have e:=r.length
  simp only [Array.length_toList] at e
  omega
theorem Inv.tuple (I:Inv X pins σ H s) (h:SqT X.K H a xs):∃its:List Value,Vals xs its∧IsTup s.heap a its.toArray∧xs.length≤sizeLine:=by
 obtain ⟨its,r,p,z⟩:=I.tupleD h
 exact ⟨its,r,p.tup,z⟩
theorem Inv.list_inj (I:Inv X pins σ H s) (h:SqL X.K H a xs) (h':SqL X.K H a ys):xs=ys:=by
 obtain ⟨its,r,⟨o,n,e,_,_,d⟩,_⟩:=I.list h
 obtain ⟨its',r',⟨o',n',e',_,_,d'⟩,_⟩:=I.list h'
 rw [e] at e';cases e'
 rw [d] at d'
 injection d' with d1 _
 have:its=its':=by simpa using congrArg Array.toList d1
 subst this
 exact r.inj r'
theorem Inv.tuple_inj (I:Inv X pins σ H s) (h:SqT X.K H a xs) (h':SqT X.K H a ys):xs=ys:=by
 obtain ⟨its,r,⟨o,e,_,n,d⟩,_⟩:=I.tuple h
 obtain ⟨its',r',⟨o',e',_,n',d'⟩,_⟩:=I.tuple h'
 rw [e] at e';cases e'
 rw [d] at d'
 injection d' with d1 _
 have:its=its':=by simpa using congrArg Array.toList d1
 subst this
 exact r.inj r'
end
abbrev Cx.wish (X:Cx) (E:Value→Shared→Prop):Cx:={ X with xe:=E }
abbrev Cx.nox (X:Cx):Cx:=X.wish fun _ _=>False
theorem Cx.Ok.wish {X:Cx} (ok:X.Ok) (E:Value→Shared→Prop):(X.wish E).Ok :=
 ⟨ok.mod,ok.kind,ok.glob,ok.blt,ok.above,ok.inj,ok.has,ok.cab,ok.hd,ok.frames,ok.stk,ok.exf,ok.bs,ok.bsz,ok.noex,ok.exfs,ok.funs,ok.frf⟩
theorem Cx.Ok.unwish {X:Cx} {E:Value→Shared→Prop} (ok:(X.wish E).Ok):X.Ok :=
 ⟨ok.mod,ok.kind,ok.glob,ok.blt,ok.above,ok.inj,ok.has,ok.cab,ok.hd,ok.frames,ok.stk,ok.exf,ok.bs,ok.bsz,ok.noex,ok.exfs,ok.funs,ok.frf⟩
section
variable {X:Cx} {pins:List (Addr×Obj)} {σ:St} {H:Hp} {s:Shared} {E:Value→Shared→Prop}
theorem Inv.wish (I:Inv X pins σ H s) (E:Value→Shared→Prop):Inv (X.wish E) pins σ H s:=⟨I.ok.wish E,I.os,I.bare,I.base,I.loc,I.cell,I.free,I.freeC,I.pin,I.hok,I.len⟩
theorem Inv.unwish (I:Inv (X.wish E) pins σ H s):Inv X pins σ H s:=⟨I.ok.unwish,I.os,I.bare,I.base,I.loc,I.cell,I.free,I.freeC,I.pin,I.hok,I.len⟩
theorem SP.unwish {D:Ends} {f:Flow} {s':Shared} (h:SP (X.wish E) pins D f s'):SP X pins D f s':=by
 cases f with
 | next=>obtain ⟨σ',H',I,q⟩:=h;exact ⟨σ',H',I.unwish,q⟩
 | brk=>obtain ⟨σ',H',I,q⟩:=h;exact ⟨σ',H',I.unwish,q⟩
 | cont=>obtain ⟨σ',H',I,q⟩:=h;exact ⟨σ',H',I.unwish,q⟩
 | ret u=>obtain ⟨v,σ',H',I,r,q⟩:=h;exact ⟨v,σ',H',I.unwish,r,q⟩
theorem PSs.nox {st:List Stmt} {t:TS} (h:PSs X.nox st t):PSs X st t:=fun pins s σ H D I hw =>
 wpAny_mono (h pins s σ H D (I.wish _) hw) (fun _ _ q=>q.unwish) fun _ _ z=>False.elim z
end
section
variable {X:Cx} {st:Stmt} {rest:List Stmt} {t u:TS} {e:Expr} {te:TE} {pos:Pos}
def tNext:TS:=fun D σ H=>D.nx σ H
def tSeq (t u:TS):TS:=fun D σ H=>t { D with nx:=u D } σ H
theorem mB:PSs X [] tNext:=fun _ _ σ H _ I h=>wpAny_execs_nil ⟨σ,H,I,h⟩
theorem ij (h1:PS X st t) (h2:PSs X rest u):PSs X (st::rest) (tSeq t u):=by
 intro pins s σ H D I h
 refine wpAny_execs_cons (thn (h1 pins s σ H { D with nx:=u D } I h) fun f s1 q=>?_)
 cases f with
 | next =>
  obtain ⟨σ',H',I',q⟩:=q
  exact h2 pins s1 σ' H' D I' q
 | ret v=>exact q
 | brk=>exact q
 | cont=>exact q
theorem rk (h1:PS X st t):PSs X [st] t:=by
 intro pins s σ H D I h
 refine wpAny_execs_cons (thn (h1 pins s σ H D I h) fun f s1 q=>?_)
 cases f with
 | next=>exact wpAny_execs_nil q
 | ret v=>exact q
 | brk=>exact q
 | cont=>exact q
theorem Inv.quiet {pins:List (Addr×Obj)} {σ:St} {H:Hp} {s:Shared} (I:Inv X pins σ H s):interactive X.env=false:=by simp [interactive,I.ok.kind]
def tDrop (te:TE):TS:=fun D σ H=>te σ H fun _ H1=>D.nx σ H1
theorem mz (he:PE X e te) (hs:swapsWith e none pos.line X.env=pure false:=by rfl):PS X (.Expr e pos) (tDrop te):=by
 intro pins s σ H D I h
 exact wpAny_Expr_any (thn (he pins s σ H _ I h) fun v s1 ⟨x,H1,I1,r1,q1⟩=>⟨σ,H1,I1,q1⟩) I.quiet hs
def tRet (te:TE):TS:=fun D σ H=>te σ H D.rt
theorem ua (he:PE X e te):PS X (.Return (some e) pos) (tRet te):=by
 intro pins s σ H D I h
 exact wpAny_Return_some (thn (he pins s σ H _ I h) fun v s1 ⟨x,H1,I1,r1,q1⟩=>⟨x,σ,H1,I1,r1,q1⟩)
def tIfS (c:TT) (t u:TS):TS:=fun D σ H=>c σ H fun b H1=>if b=true then t D σ H1 else u D σ H1
theorem r8 {c:Expr} {a b:List Stmt} {tc:TT} (hc:PT X c tc) (ha:PSs X a t) (hb:PSs X b u):PS X (.If c a b pos) (tIfS tc t u):=by
 intro pins s σ H D I h
 refine wpAny_If (thn (hc pins s σ H _ I h) fun d s1 ⟨H1,I1,q1⟩=>?_)
 cases d with
 | true=>exact ha pins s1 σ H1 D I1 q1
 | false=>exact hb pins s1 σ H1 D I1 q1
end
abbrev TG:=V→St→Hp→(St→Hp→Prop)→Prop
abbrev TGs:=List V→St→Hp→(St→Hp→Prop)→Prop
def PG (X:Cx) (target:Expr) (t:TG):Prop :=
 ∀(pins:List (Addr×Obj)) (s:Shared) (σ:St) (H:Hp) (v:V) (u:Value) (Q:St→Hp→Prop),Inv X pins σ H s→RelV v u→t v σ H Q →
  wpAny (model X.prog X.w) X.A (assign target X.env u) (fun _ s'=>∃σ' H',Inv X pins σ' H' s'∧Q σ' H') X.xe s
def PGs (X:Cx) (ts:List Expr) (t:TGs):Prop :=
 ∀(pins:List (Addr×Obj)) (s:Shared) (σ:St) (H:Hp) (vs:List V) (us:List Value) (Q:St→Hp→Prop),Inv X pins σ H s→Vals vs us→t vs σ H Q →
  wpAny (model X.prog X.w) X.A (assignInOrder ((assignEach ts X.env).map (·.2)) us) (fun _ s'=>∃σ' H',Inv X pins σ' H' s'∧Q σ' H') X.xe s
abbrev TSet:=V→V→V→Hp→(Hp→Prop)→Prop
def PSet (X:Cx) (t:TSet):Prop :=
 ∀(pins:List (Addr×Obj)) (s:Shared) (σ:St) (H:Hp) (o i v:V) (ov iv u:Value) (Q:Hp→Prop),Inv X pins σ H s→RelV o ov→RelV i iv→RelV v u→t o i v H Q →
  wpAny (model X.prog X.w) X.A (setItem ov iv u) (fun _ s'=>∃H',Inv X pins σ H' s'∧Q H') X.xe s
section
variable {X:Cx} {pos:Pos}
def gName (i:Nat):TG:=fun v σ H Q=>Q (σ.set i (some v)) H
theorem mx {i:Nat} {x:Str} (hN:X.N.Nodup) (hi:X.N[i]?=some x) (hx:Loc X.env.scope x) (hf:X.fn x=true∨X.env.scope.names.lookup x=some .local:=by first | exact .inl rfl | exact .inr rfl | assumption):PG X (.Name x pos) (gName i):=by
 intro pins s σ H v u Q I r h
 exact wpAny_assign_Name (iB I hN hi hx r (fun s' I'=>⟨_,H,I',h⟩) hf)
def gNil:TGs:=fun vs σ H Q=>vs=[]∧Q σ H
def gCons (t:TG) (u:TGs):TGs:=fun vs σ H Q=>∃v r,vs=v::r∧t v σ H fun σ' H'=>u r σ' H' Q
theorem qZ:PGs X [] gNil:=by
 intro pins s σ H vs us Q I r h
 obtain ⟨e,h⟩:=h
 subst e
 cases r
 exact assignInOrder_nil ⟨σ,H,I,h⟩
theorem pU {e:Expr} {es:List Expr} {t:TG} {u:TGs} (h1:PG X e t) (h2:PGs X es u)
  (hs:(assignEach (e::es) X.env).map (·.2)=assign e X.env::(assignEach es X.env).map (·.2):=by rfl):PGs X (e::es) (gCons t u):=by
 intro pins s σ H vs us Q I r h
 obtain ⟨v,vr,e1,h⟩:=h
 subst e1
 cases r with
 | cons r rr =>
  rw [hs]
  refine assignInOrder_cons (thn (h1 pins s σ H _ _ _ I r h) fun _ s1 ⟨σ1,H1,I1,q1⟩=>?_)
  exact h2 pins s1 σ1 H1 _ _ Q I1 rr q1
def gTup (K:PySem.W.Frag) (n:Nat) (t:TGs):TG:=fun v σ H Q=>∃a xs,v=.ref a∧SqT K H a xs∧xs.length=n∧t xs σ H Q
theorem tU {es:List Expr} {k:Nat} {t:TGs} {n:Nat} (hc:X.calm=true) (h:PGs X es t)
  (hn:(assignEach es X.env).length=n:=by rfl) (hst:(assignEach es X.env).findIdx? (·.1)=none:=by rfl):PG X (.Tuple es k pos) (gTup X.K n t):=by
 intro pins s σ H v u Q I r hw
 obtain ⟨a,xs,e1,hq,hl,hw⟩:=hw
 subst e1
 cases r
 obtain ⟨its,rv,ht,hz⟩:=I.tuple hq
 refine assign_Tuple_tuple (I.ok.hd hc) ht (by simp [hn,←hl,rv.length]) hst fun h' hx=>?_
 have I1:Inv X pins σ H { s with heap:=h' }:=I.kept (t':=s.toks) fun b o e=>hx b o (Nat.ne_of_lt (Heap.lt_size e)) e
 exact h pins _ σ H xs _ Q I1 (by simpa using rv) hw
def gSub (to ti:TE) (t:TSet):TG:=fun v σ H Q=>to σ H fun o H1=>ti σ H1 fun i H2=>t o i v H2 fun H3=>Q σ H3
theorem lC {o i:Expr} {to ti:TE} {t:TSet} (ho:PE X o to) (hi:PE X i ti) (hs:PSet X t)
  (ha:∀v,assign (.Subscript o i pos) X.env v=(do
   let ov ←holding [v] (eval o X.env)
   let iv ←holding [v,ov] (eval i X.env)
   standAt pos
   holding [v,ov,iv] (setItem ov iv v)
   release [v,ov,iv] []):=by intro _;rfl):PG X (.Subscript o i pos) (gSub to ti t):=by
 intro pins s σ H v u Q I r h
 rw [ha]
 refine wpAny_bind (wpAny_holding (thn (ho pins s σ H _ I h) fun ov s1 ⟨x,H1,I1,r1,q1⟩=>?_))
 refine wpAny_bind (wpAny_holding (thn (hi pins s1 σ H1 _ I1 q1) fun iv s2 ⟨y,H2,I2,r2,q2⟩=>?_))
 refine wpAny_bind (wpAny_standAt (wpAny_bind (wpAny_holding (thn (hs pins s2 σ H2 x y v ov iv u _ I2 r1 r2 r q2) fun _ s3 ⟨H3,I3,q3⟩=>?_))))
 exact wpAny_release ⟨σ,H3,I3,q3⟩
def tAsg (te:TE) (g:TG):TS:=fun D σ H=>te σ H fun x H1=>g x σ H1 D.nx
theorem lF {tg e:Expr} {te:TE} {g:TG} (he:PE X e te) (hg:PG X tg g) (hs:swapsWithSole [tg] e pos.line X.env=pure false:=by rfl) (hw:swappedStores [tg] e X.env=pure none:=by rfl)
  (h1:(assignEach [tg] X.env).map (·.2)=[assign tg X.env]:=by rfl):PS X (.Assign [tg] e pos) (tAsg te g):=by
 intro pins s σ H D I h
 refine wpAny_Assign_stores (thn (he pins s σ H _ I h) fun v s1 ⟨x,H1,I1,r1,q1⟩=>?_) hs hw
 rw [h1]
 exact thn (hg pins s1 σ H1 x v _ I1 r1 q1) fun _ s2 q=>q
theorem pW {i:Nat} {x:Str} {e:Expr} {te:TE} {pos':Pos} (hN:X.N.Nodup) (hi:X.N[i]?=some x) (hx:Loc X.env.scope x) (he:PE X e te) (hs:swapsWith e (some (.Name x pos')) pos.line X.env=pure false:=by rfl) (hf:X.fn x=true∨X.env.scope.names.lookup x=some .local:=by first | exact .inl rfl | exact .inr rfl | assumption) :
  PS X (.Assign [.Name x pos'] e pos) (tAsg te (gName i)):=by
 intro pins s σ H D I h
 refine wpAny_Assign_Name (thn (he pins s σ H _ I h) fun v s1 ⟨y,H1,I1,r1,q1⟩=>?_) hs
 exact iB I1 hN hi hx r1 (fun s2 I2=>⟨_,H1,I2,q1⟩) hf
end
structure It where
 go:Nat→Hp→Prop
 yld:Nat→Hp→V→Hp→Prop
 stop:Nat→Hp→Prop
def FpOk (X:Cx) (pins:List (Addr×Obj)) (H:Hp) (b:Addr):Prop :=
 H b=none∧b≠X.env.locals∧b∉X.fs∧(b∈X.ex∨X.s₀.heap.objs.size≤b)∧(∀x c,X.env.cells.lookup x=some c→c≠b)∧∀p∈X.pn++pins,p.1≠b
theorem Inv.fpOk {X:Cx} {pins:List (Addr×Obj)} {σ:St} {H H':Hp} {s:Shared} {b:Addr} (I:Inv X pins σ H s) (hb:s.heap.objs.size≤b) (hn:H' b=none):FpOk X pins H' b:=by
 refine ⟨hn,Nat.ne_of_gt (Nat.lt_of_lt_of_le I.lt hb),I.nofs hb,.inr (Nat.le_trans I.sz hb),fun x c e z=>?_,fun p hp z=>?_⟩
 ·obtain ⟨v,q⟩:=I.cell x c e
  exact absurd (Nat.lt_of_lt_of_le q.lt (by rw [z];exact hb)) (Nat.lt_irrefl _)
 ·exact absurd (Nat.lt_of_lt_of_le (Heap.lt_size (I.pin p hp).1) (by rw [z];exact hb)) (Nat.lt_irrefl _)
structure Turn (P:Program) (w:World) (K:PySem.W.Frag) (tg:Expr) (J:It) (fp:List Addr) (it:Addr) (tn:Nat→Heap→Prop):Prop where
 mem:it∈fp
 obj:∀i h,tn i h→∀b∈fp,∃o,h.get? b=some o∧∀v,o.data≠.cell v
 keep:∀i h h',tn i h→(∀b∈fp,∀o,h.get? b=some o→h'.get? b=some o)→tn i h'
 item:∀(X:Cx),X.prog=P→X.w=w→X.K=K→X.calm=true→∀(i:Nat) (pins:List (Addr×Obj)) (s:Shared) (σ:St) (H:Hp) (E:Value→Shared→Prop),Inv X pins σ H s→(∀b∈fp,FpOk X pins H b)→tn i s.heap→J.go i H →
  wpAny (model P w) X.A (pyNext (.ref it)) (fun r s1=>∃u,r=some u ∧
   wpAny (model P w) X.A (letOwnedTupleGo tg (.ref it) u) (fun _ s2=>∃x H',Inv X pins σ H' s2∧RelV x u∧J.yld i H x H'∧tn (i+1) s2.heap∧∀b∈fp,H' b=none) E s1) E s
 done:∀(X:Cx),X.prog=P→X.w=w→X.K=K→X.calm=true→∀(i:Nat) (pins:List (Addr×Obj)) (s:Shared) (σ:St) (H:Hp) (E:Value→Shared→Prop),Inv X pins σ H s→(∀b∈fp,FpOk X pins H b)→tn i s.heap→J.stop i H →
  wpAny (model P w) X.A (pyNext (.ref it)) (fun r s1=>r=none∧Inv X pins σ H s1) E s
 self:∀(A:Around) (i:Nat) (s:Shared) (Q:Value→Shared→Prop) (E:Value→Shared→Prop),tn i s.heap→Q (.ref it) s→wpAny (model P w) A (pyIter (.ref it)) Q E s
abbrev TI:=St→Hp→(It→Hp→Prop)→Prop
def PIE (X:Cx) (pins:List (Addr×Obj)) (σ:St) (tg:Expr) (R:It→Hp→Prop) (itv:Value) (s2:Shared):Prop :=
 ∃(it:Addr) (fp:List Addr) (tn:Nat→Heap→Prop) (J:It) (H':Hp),itv=.ref it∧Inv X pins σ H' s2∧Turn X.prog X.w X.K tg J fp it tn∧tn 0 s2.heap∧(∀b∈fp,FpOk X pins H' b)∧R J H'
def PI (X:Cx) (tg iter:Expr) (wi:TI):Prop :=
 ∀(pins:List (Addr×Obj)) (s:Shared) (σ:St) (H:Hp) (R:It→Hp→Prop),Inv X pins σ H s→wi σ H R →
  wpAny (model X.prog X.w) X.A (eval iter X.env) (fun v s1=>wpAny (model X.prog X.w) X.A (pyIter v) (PIE X pins σ tg R) X.xe s1) X.xe s
theorem kn {M:Model} {A:Around} {E:Value→Shared→Prop} {s:Shared} {tg:Expr} {it:Addr} {u:Value} {o:Obj} {n:String} {vs:Array Value} {Q:Unit→Shared→Prop} (ho:s.heap.get? it=some o) (hc:o.cls=.type n) (hd:o.data=.fields vs)
    (hn:["enumerate", "zip", "dict_itemiterator", "dict_reverseitemiterator", "odict_iterator", "itertools.zip_longest", "itertools.pairwise"].contains n=false) (hQ:Q () s):wpAny M A (letOwnedTupleGo tg (.ref it) u) Q E s:=by
  unfold letOwnedTupleGo
  cases tg<;>first
    | exact wpAny_pure hQ
    | (cases u<;>first
        | exact wpAny_pure hQ
        | (refine wpAny_bind (wpAny_load ho ?_)
           rw [hc,hd]
           show wpAny M A (if (["enumerate", "zip", "dict_itemiterator", "dict_reverseitemiterator", "odict_iterator", "itertools.zip_longest", "itertools.pairwise"].contains n&&vs[0]? == some (rawInt _))=true then _ else _) Q E s
           rw [if_neg (by intro h;rw [hn,Bool.false_and] at h;cases h)]
           exact wpAny_pure hQ))
def Itl (K:PySem.W.Frag) (a:Addr):It :=
 ⟨fun i H=>∃xs x,SqL K H a xs∧xs[i]?=some x,fun i H x H'=>H'=H∧∀xs,SqL K H a xs→xs[i]?=some x,fun i H=>∃xs,SqL K H a xs∧xs.length≤i⟩
def Itt (K:PySem.W.Frag) (a:Addr):It :=
 ⟨fun i H=>∃xs x,SqT K H a xs∧xs[i]?=some x,fun i H x H'=>H'=H∧∀xs,SqT K H a xs→xs[i]?=some x,fun i H=>∃xs,SqT K H a xs∧xs.length≤i⟩
def Itr (lo:Int) (n:Nat):It:=⟨fun i _=>i<n,fun i H x H'=>H'=H∧x=.int (lo+i),fun i _=>n≤i⟩
theorem nL {P:Program} {w:World} {K:PySem.W.Frag} {tg:Expr} (a it:Addr):Turn P w K tg (Itl K a) [it] it (fun i h=>h.IsListIter it a i) where
 mem:=by simp
 obj:=fun i h st b hb=>by
  have e:b=it:=by simpa using hb
  subst e
  obtain ⟨o,e,c,d⟩:=st
  exact ⟨o,e,fun v z=>by rw [d] at z;cases z⟩
 keep:=fun i h h' st k=>st.at fun o e=>k it (by simp) o e
 item:=by
  intro X hP hw hK hc i pins s σ H E I hf st hg
  subst hP hw hK
  obtain ⟨xs,x,hq,hx⟩:=hg
  obtain ⟨its,rv,p,hz⟩:=I.list hq
  obtain ⟨u,hu,ru⟩:=rv.get hx
  obtain ⟨f0,f1,f2,f3,f4,f5⟩:=hf it (by simp)
  refine wpAny_pyNext_list_item st p.isList (x:=u) (by simpa using hu) fun h' st' sb=>?_
  have I1:Inv X pins σ H { s with heap:=h' }:=I.turned (t':=s.toks) (fun b o hb e=>(sb.2 b hb).trans e) f0 f1 f3 f4 f5
  obtain ⟨o,e,c,d⟩:=id st'
  exact ⟨u,rfl,kn (s:={ s with heap:=h' }) e c d (by decide) ⟨x,H,I1,ru,⟨rfl,fun ys hy=>by rw [I.list_inj hy hq];exact hx⟩,st',fun b hb=>(hf b hb).1⟩⟩
 done:=by
  intro X hP hw hK hc i pins s σ H E I hf st hg
  subst hP hw hK
  obtain ⟨xs,hq,hx⟩:=hg
  obtain ⟨its,rv,p,hz⟩:=I.list hq
  obtain ⟨f0,f1,f2,f3,f4,f5⟩:=hf it (by simp)
  have hl:=rv.length
  exact wpAny_pyNext_list_end (I.ok.hd hc) st p.isList (by simp;omega) fun h' eb=>⟨rfl,I.turned (t':=s.toks) (fun b o hb e=>eb b o hb e) f0 f1 f3 f4 f5⟩
 self:=fun _ _ _ _ _ st h=>wpAny_pyIter_listiter st h
theorem lP {P:Program} {w:World} {K:PySem.W.Frag} {tg:Expr} (a it:Addr):Turn P w K tg (Itt K a) [it] it (fun i h=>h.IsTupleIter it a i) where
 mem:=by simp
 obj:=fun i h st b hb=>by
  have e:b=it:=by simpa using hb
  subst e
  obtain ⟨o,e,c,d⟩:=st
  exact ⟨o,e,fun v z=>by rw [d] at z;cases z⟩
 keep:=fun i h h' st k=>st.at fun o e=>k it (by simp) o e
 item:=by
  intro X hP hw hK hc i pins s σ H E I hf st hg
  subst hP hw hK
  obtain ⟨xs,x,hq,hx⟩:=hg
  obtain ⟨its,rv,p,hz⟩:=I.tuple hq
  obtain ⟨u,hu,ru⟩:=rv.get hx
  obtain ⟨f0,f1,f2,f3,f4,f5⟩:=hf it (by simp)
  refine wpAny_pyNext_tuple_item st (show s.heap.IsTuple a its.toArray from p) (x:=u) (by simpa using hu) fun h' st' sb=>?_
  have I1:Inv X pins σ H { s with heap:=h' }:=I.turned (t':=s.toks) (fun b o hb e=>(sb.2 b hb).trans e) f0 f1 f3 f4 f5
  obtain ⟨o,e,c,d⟩:=id st'
  exact ⟨u,rfl,kn (s:={ s with heap:=h' }) e c d (by decide) ⟨x,H,I1,ru,⟨rfl,fun ys hy=>by rw [I.tuple_inj hy hq];exact hx⟩,st',fun b hb=>(hf b hb).1⟩⟩
 done:=by
  intro X hP hw hK hc i pins s σ H E I hf st hg
  subst hP hw hK
  obtain ⟨xs,hq,hx⟩:=hg
  obtain ⟨its,rv,p,hz⟩:=I.tuple hq
  obtain ⟨f0,f1,f2,f3,f4,f5⟩:=hf it (by simp)
  have hl:=rv.length
  exact wpAny_pyNext_tuple_end (I.ok.hd hc) st (show s.heap.IsTuple a its.toArray from p) (by simp;omega) fun h' eb=>⟨rfl,I.turned (t':=s.toks) (fun b o hb e=>eb b o hb e) f0 f1 f3 f4 f5⟩
 self:=fun _ _ _ _ _ st h=>wpAny_pyIter_tupleiter st h
theorem lO {P:Program} {w:World} {K:PySem.W.Frag} {tg:Expr} (it:Addr) (lo:Int) (n:Nat):Turn P w K tg (Itr lo n) [it] it (fun i h=>IsRangeIter h it (lo+(i:Nat)*1) ((n:Int)-(i:Nat)) 1) where
 mem:=by simp
 obj:=fun i h st b hb=>by
  have e:b=it:=by simpa using hb
  subst e
  exact ⟨_,st,fun v z=>by
   have z':Data.fields _=Data.cell v:=z
   cases z'⟩
 keep:=fun i h h' st k=>k it (by simp) _ st
 item:=by
  intro X hP hw hK hc i pins s σ H E I hf st hg
  subst hP hw hK
  obtain ⟨f0,f1,f2,f3,f4,f5⟩:=hf it (by simp)
  have W:=Walks.range (prog:=X.prog) (w:=X.w) (I.ok.hd hc) it lo 1 n
  refine W.item i s _ _ hg st fun v h' tk hv st' kk=>?_
  obtain ⟨t,rfl⟩:=hv
  have I1:Inv X pins σ H { s with heap:=h',toks:=tk }:=I.turned (fun b o hb e=>kk b o (by simpa using hb) e) f0 f1 f3 f4 f5
  refine ⟨_,rfl,kn (s:={ s with heap:=h',toks:=tk }) (n := "range_iterator") st' rfl rfl (by decide) ⟨.int (lo+i),H,I1,⟨t,?_⟩,⟨rfl,rfl⟩,st',fun b hb=>(hf b hb).1⟩⟩
  rw [Int.mul_one]
 done:=by
  intro X hP hw hK hc i pins s σ H E I hf st hg
  subst hP hw hK
  obtain ⟨f0,f1,f2,f3,f4,f5⟩:=hf it (by simp)
  exact wpAny_pyNext_range_end (I.ok.hd hc) st (by have:n≤i:=hg;omega) fun h' eb=>⟨rfl,I.turned (t':=s.toks) (fun b o hb e=>eb b o hb e) f0 f1 f3 f4 f5⟩
 self:=fun _ _ _ _ _ st h=>wpAny_pyIter_rangeiter st h
end L2
namespace L2
open PySem PySem.Spec PyProof.Rows
section
variable {X:Cx} {tg:Expr}
theorem p7 {pins:List (Addr×Obj)} {σ:St} {H:Hp} {s:Shared} {R:It→Hp→Prop} {E:Value→Shared→Prop} {lo hi:Int} {t u v:Tok} {tk:Nat} (I:Inv X pins σ H s) (h1:-(2 ^ 62)≤lo) (h2:lo<2 ^ 62) (h3:-(2 ^ 62)≤hi) (h4:hi<2 ^ 62)
  (q:R (Itr lo (hi-lo).toNat) H):wpAny (model X.prog X.w) X.A (pyIter (.ref s.heap.objs.size)) (PIE X pins σ tg R) E { s with heap:=s.heap.push { cls:=.type "range", data:=.fields #[.int lo t,.int hi u,.int 1 v] },toks:=tk }:=by
 refine wpAny_pyIter_range (IsRange.new ..) (small_one h1 h2 h3 h4) ?_
 have I1:Inv X pins σ H { s with heap:=s.heap.push { cls:=.type "range", data:=.fields #[.int lo t,.int hi u,.int 1 v] },toks:=tk }:=I.kept fun b o e=>Heap.get?_push_of_some _ e
 refine ⟨(s.heap.push { cls:=.type "range", data:=.fields #[.int lo t,.int hi u,.int 1 v] }).objs.size,[(s.heap.push { cls:=.type "range", data:=.fields #[.int lo t,.int hi u,.int 1 v] }).objs.size],_,_,H,rfl,
  I1.kept (t':=tk) fun b o e=>Heap.get?_push_of_some _ e,lO _ lo (hi-lo).toNat,?_,fun b hb=>?_,q⟩
 ·have e1:lo+((0:Nat):Int)*1=lo:=by simp
  have e2:(((hi-lo).toNat:Nat):Int)-((0:Nat):Int)=Builtin.Range.rangeSize lo hi 1:=by rw [rangeSize_one];split<;>omega
  show IsRangeIter _ _ (lo+((0:Nat):Int)*1) ((((hi-lo).toNat:Nat):Int)-((0:Nat):Int)) 1
  rw [e1,e2]
  exact Heap.get?_push_size _ rfl
 ·have e:b=(s.heap.push { cls:=.type "range", data:=.fields #[.int lo t,.int hi u,.int 1 v] }).objs.size:=by simpa using hb
  subst e
  exact I1.fpOk (Nat.le_refl _) (I1.hok.fresh (Nat.le_refl _))
def iRng1 (ta:TA):TI:=fun σ H R=>ta σ H fun vs H1=>∃j:Int,vs=[.int j]∧-(2 ^ 62)≤j∧j<2 ^ 62∧R (Itr 0 j.toNat) H1
theorem nq {a:Expr} {ta:TA} {p pos:Pos} (hg:Gl X "range") (hm:X.mg "range" = none) (ha:PA X [a] ta) (hs:starEach [a] X.env=[(false,eval a X.env)]:=by rfl):PI X tg (.Call (.Name "range" p) [a] [] pos) (iRng1 ta):=by
 intro pins s σ H R I h
 refine Call_ (cO I hg hm boot_range (PyProof.Rows.callWith_type1 (thn (ha pos pins s σ H _ I h) fun us s1 ⟨vs,H1,I1,r1,q1⟩=>?_) hs rfl))
 obtain ⟨j,e,q1,q2,q⟩:=q1
 subst e
 cases r1 with
 | cons r rr =>
  cases rr
  obtain ⟨t,rfl⟩:=r
  exact call_range_1 (p7 I1 (by omega) (by omega) q1 q2 (by simpa using q))
def tFor (wi:TI) (g:TG) (tb:TS):TS:=fun D σ H=>wi σ H fun J H1=>∃W:Nat→Nat→St→Hp→Prop,(∃m,W 0 m σ H1)∧∀i m σ H,W i m σ H →
 (J.stop i H∧D.nx σ H)∨(J.go i H∧∃N:St→Hp→Prop,(∀σ' H',N σ' H'→∃m',m'<m∧W (i+1) m' σ' H')∧∀x H',J.yld i H x H'→g x σ H' fun σ2 H2=>tb { D with nx:=N,ct:=N,bk:=D.nx } σ2 H2)
def pinsAt (fp:List Addr) (h:Heap):List (Addr×Obj):=fp.filterMap fun b=>(h.get? b).map fun o=>(b,o)
theorem de {fp:List Addr} {h:Heap} {b:Addr} {o:Obj} (hb:b∈fp) (e:h.get? b=some o):(b,o)∈pinsAt fp h:=List.mem_filterMap.mpr ⟨b,hb,by rw [e];rfl⟩
theorem ng {fp:List Addr} {h:Heap} {p:Addr×Obj} (hp:p∈pinsAt fp h):p.1∈fp∧h.get? p.1=some p.2:=by
 obtain ⟨b,hb,e⟩:=List.mem_filterMap.mp hp
 cases q:h.get? b with
 | none=>rw [q] at e;cases e
 | some o =>
  rw [q] at e
  have e':(b,o)=p:=Option.some.inj e
  subst e'
  exact ⟨hb,q⟩
theorem Inv.pinned {pins:List (Addr×Obj)} {σ:St} {H:Hp} {s:Shared} {fp:List Addr} (I:Inv X pins σ H s) (hf:∀b∈fp,FpOk X pins H b) (ho:∀b∈fp,∃o,s.heap.get? b=some o∧∀v,o.data≠.cell v):Inv X (pins++pinsAt fp s.heap) σ H s :=
 I.pins_of fun p hp=>(List.mem_append.mp hp).elim (fun z=>I.pin p (List.mem_append_right _ z)) fun z=>by
  obtain ⟨hb,e⟩:=ng z
  obtain ⟨f0,f1,f2,_⟩:=hf p.1 hb
  obtain ⟨o,e',d⟩:=ho p.1 hb
  rw [e] at e';cases e'
  exact ⟨e,f0,f1,f2,d⟩
theorem Inv.unpinned {pins pl:List (Addr×Obj)} {σ:St} {H:Hp} {s:Shared} (I:Inv X (pins++pl) σ H s):Inv X pins σ H s:=I.pins_of fun p hp=>I.pin p (List.mem_append_right _ (List.mem_append_left _ hp))
theorem tZ {iter:Expr} {body:List Stmt} {wi:TI} {g:TG} {tb:TS} {pos:Pos} (hp:PassesOwn (model X.prog X.w) X.A X.env X.xe) (hc:X.calm=true) (hi:PI X tg iter wi) (hg:PG X tg g) (hb:PSs X body tb)
  (hs:∀x,foldedSetIterable iter X.env x=pure x:=by intro _;rfl):PS X (.For tg iter body [] pos) (tFor wi g tb):=by
 intro pins s σ H D I h
 refine wpAny_For (thn (hi pins s σ H _ I h) fun v s1 h1=>thn h1 fun itv s2 h2=>?_) hs
 obtain ⟨it,fp,tn,J,H2,e,I2,T,st2,f2,W,⟨m0,w0⟩,turn⟩:=h2
 subst e
 have stat:∀{H':Hp},(∀b∈fp,H' b=none)→∀b∈fp,FpOk X pins H' b:=fun hn b hb=>⟨hn b hb,(f2 b hb).2⟩
 refine codeAny_forLoop_any (fun n s'=>∃i σ' H',Inv X pins σ' H' s'∧tn i s'.heap∧(∀b∈fp,H' b=none)∧W i n σ' H') ?_ m0 ⟨0,σ,H2,I2,st2,fun b hb=>(f2 b hb).1,w0⟩
 rintro n s3 ⟨i,σ3,H3,I3,st3,fr3,w3⟩
 rcases turn i n σ3 H3 w3 with ⟨stop,qn⟩ | ⟨go,N,hN,step⟩
 ·refine wpAny_passesOwn hp (thn (T.done X rfl rfl rfl hc i pins s3 σ3 H3 X.xe I3 (stat fr3) st3 stop) fun r s4 ⟨hr,I4⟩=>?_)
  subst hr
  exact wpAny_execs_nil ⟨σ3,H3,I4,qn⟩
 ·refine wpAny_passesOwn hp (thn (T.item X rfl rfl rfl hc i pins s3 σ3 H3 X.xe I3 (stat fr3) st3 go) fun r s4 ⟨u,hr,h4⟩=>?_)
  subst hr
  refine wpAny_passesOwn hp (thn h4 fun _ s5 ⟨x,H5,I5,r5,y5,st5,fr5⟩=>?_)
  have I5':=I5.pinned (stat fr5) (T.obj _ _ st5)
  refine wpAny_passesOwn hp (thn (hg _ s5 σ3 H5 x u _ I5' r5 (step x H5 y5)) fun _ s6 ⟨σ6,H6,I6,q6⟩=>?_)
  refine wpAny_passesOwn hp (thn (hb _ s6 σ6 H6 _ I6 q6) fun f s7 q7=>?_)
  have again:∀{σ7:St} {H7:Hp},Inv X (pins++pinsAt fp s5.heap) σ7 H7 s7→N σ7 H7→∃m,m<n∧∃i σ' H',Inv X pins σ' H' s7∧tn i s7.heap∧(∀b∈fp,H' b=none)∧W i m σ' H':=fun {σ7 H7} I7 n7=>by
   obtain ⟨m',hm,w7⟩:=hN σ7 H7 n7
   refine ⟨m',hm,i+1,σ7,H7,I7.unpinned,T.keep _ _ _ st5 fun b hb o e=>(I7.pin (b,o) (List.mem_append_right _ (List.mem_append_right _ (de hb e)))).1,fun b hb=>?_,w7⟩
   obtain ⟨o,e,d⟩:=T.obj _ _ st5 b hb
   exact (I7.pin (b,o) (List.mem_append_right _ (List.mem_append_right _ (de hb e)))).2.1
  cases f with
  | next=>obtain ⟨σ7,H7,I7,n7⟩:=q7;exact again I7 n7
  | cont=>obtain ⟨σ7,H7,I7,n7⟩:=q7;exact again I7 n7
  | brk=>obtain ⟨σ7,H7,I7,q7⟩:=q7;exact ⟨σ7,H7,I7.unpinned,q7⟩
  | ret v=>obtain ⟨x7,σ7,H7,I7,r7,q7⟩:=q7;exact ⟨x7,σ7,H7,I7.unpinned,r7,q7⟩
end
end L2
namespace L2
open PySem PySem.Spec PyProof.Rows
abbrev R2:=V→V→Hp→VK→Prop
def OpR (X:Cx) (f:Value→Value→Sem Value) (r:R2):Prop :=
 ∀(pins:List (Addr×Obj)) (s:Shared) (σ:St) (H:Hp) (x y:V) (v u:Value) (Q:VK),Inv X pins σ H s→RelV x v→RelV y u→r x y H Q →
  wpAny (model X.prog X.w) X.A (f v u) (EP X pins σ Q) X.xe s
def UnR (X:Cx) (f:Value→Sem Value) (r:V→Hp→VK→Prop):Prop :=
 ∀(pins:List (Addr×Obj)) (s:Shared) (σ:St) (H:Hp) (x:V) (v:Value) (Q:VK),Inv X pins σ H s→RelV x v→r x H Q →
  wpAny (model X.prog X.w) X.A (f v) (EP X pins σ Q) X.xe s
def CallR (X:Cx) (f:Value) (r:List V→Hp→VK→Prop):Prop :=
 ∀(pins:List (Addr×Obj)) (s:Shared) (σ:St) (H:Hp) (xs:List V) (us:List Value) (Q:VK),Inv X pins σ H s→Vals xs us→r xs H Q →
  wpAny (model X.prog X.w) X.A (call f us) (EP X pins σ Q) X.xe s
def tOp (r:R2) (ta tb:TE):TE:=fun σ H Q=>ta σ H fun x H1=>tb σ H1 fun y H2=>r x y H2 Q
def tUn (r:V→Hp→VK→Prop) (ta:TE):TE:=fun σ H Q=>ta σ H fun x H1=>r x H1 Q
def rI (C:Int→Int→Prop) (g:Int→Int→V):R2:=fun x y H Q=>∃i j,x=.int i∧y=.int j∧C i j∧Q (g i j) H
def rI0 (g:Int→Int→V):R2:=fun x y H Q=>∃i j,x=.int i∧y=.int j∧Q (g i j) H
def rU (g:Int→V):V→Hp→VK→Prop:=fun x H Q=>∃i,x=.int i∧Q (g i) H
section
variable {X:Cx} {a b c:Expr} {ta tb tc:TE} {pos:Pos}
theorem binT (ha:PE X a ta) (hb:PE X b tb) {pins:List (Addr×Obj)} {s:Shared} {σ:St} {H:Hp} {R:V→V→Hp→Prop} (I:Inv X pins σ H s)
  (h:ta σ H fun x H1=>tb σ H1 fun y H2=>R x y H2) {Q:Value→Shared→Prop} {f:Value→Value→Sem Value}
  (hf:∀v u s2 x y H2,Inv X pins σ H2 s2→RelV x v→RelV y u→R x y H2→wpAny (model X.prog X.w) X.A (f v u) Q X.xe s2) :
  wpAny (model X.prog X.w) X.A (eval a X.env) (fun v s₁=>wpAny (model X.prog X.w) X.A (eval b X.env) (fun u s₂=>wpAny (model X.prog X.w) X.A (f v u) Q X.xe s₂) X.xe s₁) X.xe s:=by
 refine thn (ha pins s σ H _ I h) fun v s1 ⟨x,H1,I1,r1,q1⟩=>?_
 refine thn (hb pins s1 σ H1 _ I1 q1) fun u s2 ⟨y,H2,I2,r2,q2⟩=>?_
 exact hf v u s2 x y H2 I2 r1 r2 q2
theorem wT {op:Operator} {r:R2} (ho:OpR X (binaryOp op) r) (ha:PE X a ta) (hb:PE X b tb):PE X (.BinOp a op b pos) (tOp r ta tb):=by
 intro pins s σ H Q I h
 exact wpAny_BinOp (binT ha hb I h fun v u s2 x y H2 I2 rx ry q=>ho pins s2 σ H2 x y v u Q I2 rx ry q)
theorem wV {op:UnaryOp} {r:V→Hp→VK→Prop} (ho:UnR X (unaryOp op) r) (ha:PE X a ta):PE X (.UnaryOp op a pos) (tUn r ta):=by
 intro pins s σ H Q I h
 exact UnaryOp_ (thn (ha pins s σ H _ I h) fun v s1 ⟨x,H1,I1,r1,q1⟩=>ho pins s1 σ H1 x v Q I1 r1 q1)
theorem opI {f:Value→Value→Sem Value} {C:Int→Int→Prop} {g:Int→Int→Int}
  (rule:∀(i j:Int) (t u:Tok) (s:Shared) (Q:Value→Shared→Prop) (E:Value→Shared→Prop),C i j→Q (.int (g i j) s.toks) { s with toks:=s.toks+1 }→wpAny (model X.prog X.w) X.A (f (.int i t) (.int j u)) Q E s) :
  OpR X f (rI C fun i j=>.int (g i j)):=by
 intro pins s σ H x y v u Q I rx ry h
 obtain ⟨i,j,rfl,rfl,hc,q⟩:=h
 obtain ⟨t,rfl⟩:=rx
 obtain ⟨t',rfl⟩:=ry
 exact rule i j t t' s _ _ hc ⟨.int (g i j),H,I.tok _,⟨_,rfl⟩,q⟩
theorem opI0 {f:Value→Value→Sem Value} {g:Int→Int→Int}
  (rule:∀(i j:Int) (t u:Tok) (s:Shared) (Q:Value→Shared→Prop) (E:Value→Shared→Prop),Q (.int (g i j) s.toks) { s with toks:=s.toks+1 }→wpAny (model X.prog X.w) X.A (f (.int i t) (.int j u)) Q E s) :
  OpR X f (rI0 fun i j=>.int (g i j)):=by
 intro pins s σ H x y v u Q I rx ry h
 obtain ⟨i,j,rfl,rfl,q⟩:=h
 obtain ⟨t,rfl⟩:=rx
 obtain ⟨t',rfl⟩:=ry
 exact rule i j t t' s _ _ ⟨.int (g i j),H,I.tok _,⟨_,rfl⟩,q⟩
theorem opB0 {f:Value→Value→Sem Value} {g:Int→Int→Bool}
  (rule:∀(i j:Int) (t u:Tok) (s:Shared) (Q:Value→Shared→Prop) (E:Value→Shared→Prop),Q (.bool (g i j)) s→wpAny (model X.prog X.w) X.A (f (.int i t) (.int j u)) Q E s) :
  OpR X f (rI0 fun i j=>.bl (g i j)):=by
 intro pins s σ H x y v u Q I rx ry h
 obtain ⟨i,j,rfl,rfl,q⟩:=h
 obtain ⟨t,rfl⟩:=rx
 obtain ⟨t',rfl⟩:=ry
 exact rule i j t t' s _ _ ⟨.bl (g i j),H,I,rfl,q⟩
def CDiv (i j:Int):Prop:=0<j∧j<1073741824
def CMul (i j:Int):Prop:=(-(2 ^ 64)<i∧i<2 ^ 64)∨(-(2 ^ 64)<j∧j<2 ^ 64)
theorem CMul.ok {i j:Int} (h:CMul i j):IntMulOk i j:=by
 rcases h with ⟨h1,h2⟩ | ⟨h1,h2⟩
 ·exact .of_left (intBits_le_64 h1 h2)
 ·exact .of_right (intBits_le_64 h1 h2)
theorem tL:OpR X (binaryOp .Add) (rI0 fun i j=>.int (i+j)):=opI0 fun _ _ _ _ _ _ _ q=>add_int q
theorem cx:OpR X (binaryOp .Sub) (rI0 fun i j=>.int (i-j)):=opI0 fun _ _ _ _ _ _ _ q=>sub_int q
theorem eL:OpR X (binaryOp .Mult) (rI CMul fun i j=>.int (i*j)):=opI fun _ _ _ _ _ _ _ hc q=>mul_int q hc.ok
theorem mt:OpR X (binaryOp .FloorDiv) (rI CDiv fun i j=>.int (i / j)):=opI fun i j _ _ _ _ _ hc q=>by
 have h1:(0:Int)<j:=hc.1
 have h2:j<1073741824:=hc.2
 exact floordiv_int (by omega) (by rw [Int.fdiv_eq_ediv_of_nonneg i (by omega)];exact q) (.inl (PyProof.noPylong_small (by omega)))
theorem dF:OpR X (binaryOp .Mod) (rI (fun _ j=>0<j) fun i j=>.int (i % j)):=opI fun i j _ _ _ _ _ hc q=>by
 have h1:(0:Int)<j:=hc
 exact mod_int' (by omega) (by rw [Int.fmod_eq_emod_of_nonneg i (by omega)];exact q)
theorem unI {f:Value→Sem Value} {g:Int→Int}
  (rule:∀(i:Int) (t:Tok) (s:Shared) (Q:Value→Shared→Prop) (E:Value→Shared→Prop),Q (.int (g i) s.toks) { s with toks:=s.toks+1 }→wpAny (model X.prog X.w) X.A (f (.int i t)) Q E s) :
  UnR X f (rU fun i=>.int (g i)):=by
 intro pins s σ H x v Q I rx h
 obtain ⟨i,rfl,q⟩:=h
 obtain ⟨t,rfl⟩:=rx
 exact rule i t s _ _ ⟨.int (g i),H,I.tok _,⟨_,rfl⟩,q⟩
theorem lQ:UnR X (unaryOp .USub) (rU fun i=>.int (-i)):=unI fun _ _ _ _ _ q=>neg_int q
end
section
variable {X:Cx} {a b c:Expr} {ta tb tc:TE} {pos:Pos}
theorem sx {pins:List (Addr×Obj)} {σ:St} {H:Hp} {s:Shared} {Q:VK} {k k':Bool} (I:Inv X pins σ H s) (q:Q (.bl k) H) (e:k=k'):EP X pins σ Q (.bool k') s:=by
 subst e
 exact ⟨.bl k,H,I,rfl,q⟩
theorem fq:OpR X (compareOp .Lt) (rI0 fun i j=>.bl (decide (i<j))):=opB0 fun _ _ _ _ _ _ _ q=>lt_int q
theorem cK:OpR X (compareOp .LtE) (rI0 fun i j=>.bl (decide (i≤j))):=opB0 fun _ _ _ _ _ _ _ q=>le_int q
theorem pI:OpR X (compareOp .Gt) (rI0 fun i j=>.bl (decide (j<i))):=opB0 fun _ _ _ _ _ _ _ q=>gt_int q
theorem rY:OpR X (compareOp .GtE) (rI0 fun i j=>.bl (decide (j≤i))):=opB0 fun _ _ _ _ _ _ _ q=>ge_int q
theorem pK:OpR X (compareOp .Is) (fun x y H Q=>y=.non∧Q (.bl (decide (x=.non))) H):=by
 intro pins s σ H x y v u Q I rx ry h
 obtain ⟨rfl,q⟩:=h
 cases ry
 refine is_none_gen (sx I q ?_)
 cases x<;>first
  | (cases rx;rfl)
  | (obtain ⟨t,rfl⟩:=rx;rfl)
theorem OpR.or {f:Value→Value→Sem Value} {r r':R2} (h:OpR X f r) (h':OpR X f r'):OpR X f (fun x y H Q=>r x y H Q∨r' x y H Q):=by
 intro pins s σ H x y v u Q I rx ry q
 rcases q with q | q
 ·exact h pins s σ H x y v u Q I rx ry q
 ·exact h' pins s σ H x y v u Q I rx ry q
theorem nomark (b:Expr) {op:CmpOp} (h:op≠.In:=by decide) (h2:op≠.NotIn:=by decide):behindInMarks op b=false:=by
 have e1:(op == CmpOp.In)=false:=by cases op<;>first | rfl | exact absurd rfl h
 have e2:(op == CmpOp.NotIn)=false:=by cases op<;>first | rfl | exact absurd rfl h2
 cases b<;>simp [behindInMarks,e1,e2]
theorem qW {op:CmpOp} {r:R2} (ho:OpR X (compareOp op) r) (ha:PE X a ta) (hb:PE X b tb) (hm:behindInMarks op b=false):PE X (.Compare a [op] [b] pos) (tOp r ta tb):=by
 intro pins s σ H Q I h
 exact wpAny_Compare1 (binT ha hb I h fun v u s2 x y H2 I2 rx ry q=>ho pins s2 σ H2 x y v u Q I2 rx ry q) hm
def tTest (t:TE):TT:=fun σ H Q=>t σ H fun x H'=>∃k,x=.bl k∧Q k H'
theorem gi {op:CmpOp} {r:R2} (ho:OpR X (compareOp op) r) (ha:PE X a ta) (hb:PE X b tb) (hm:behindInMarks op b=false):PT X (.Compare a [op] [b] pos) (tTest (tOp r ta tb)):=by
 intro pins s σ H Q I h
 refine wpAny_isTrue_Compare1 (thn (ha pins s σ H _ I h) fun v s1 ⟨x,H1,I1,r1,q1⟩=>thn (hb pins s1 σ H1 _ I1 q1) fun u s2 ⟨y,H2,I2,r2,q2⟩ =>
  thn (ho pins s2 σ H2 x y v u _ I2 r1 r2 q2) fun c s3 ⟨z,H3,I3,r3,k,e,q3⟩=>?_) hm
 subst e
 cases r3
 exact wpAny_truthy_bool ⟨H3,I3,q3⟩
def tChain (r r':R2) (ta tb tc:TE):TE:=fun σ H Q=>ta σ H fun x H1=>tb σ H1 fun y H2=>r x y H2 fun z H3=>∃k,z=.bl k ∧
 (if k=true then tc σ H3 fun w' H4=>r' y w' H4 Q else Q (.bl false) H3)
theorem pO {op op':CmpOp} {r r':R2} (ho:OpR X (compareOp op) r) (ho':OpR X (compareOp op') r') (ha:PE X a ta) (hb:PE X b tb) (hc:PE X c tc)
  (hm:lastMarks [op,op'] [b,c]=false:=by with_unfolding_all rfl):PE X (.Compare a [op,op'] [b,c] pos) (tChain r r' ta tb tc):=by
 intro pins s σ H Q I h
 refine Compare_chain (thn (ha pins s σ H _ I h) fun v s1 ⟨x,H1,I1,r1,q1⟩=>chain_link (thn (hb pins s1 σ H1 _ I1 q1) fun u s2 ⟨y,H2,I2,r2,q2⟩ =>
  thn (ho pins s2 σ H2 x y v u _ I2 r1 r2 q2) fun d s3 ⟨z,H3,I3,r3,k,e,q3⟩=>?_)) hm
 subst e
 cases r3
 refine wpAny_truthy_bool ?_
 cases k with
 | false=>exact ite_ff ⟨.bl false,H3,I3,rfl,q3⟩
 | true=>exact ite_tt (chain_last (thn (hc pins s3 σ H3 _ I3 q3) fun w' s4 ⟨z',H4,I4,r4,q4⟩=>ho' pins s4 σ H4 y z' u w' Q I4 r2 r4 q4))
theorem pX {op op':CmpOp} {r r':R2} (ho:OpR X (compareOp op) r) (ho':OpR X (compareOp op') r') (ha:PE X a ta) (hb:PE X b tb) (hc:PE X c tc)
  (hm:lastMarks [op,op'] [b,c]=false:=by with_unfolding_all rfl):PT X (.Compare a [op,op'] [b,c] pos) (tTest (tChain r r' ta tb tc)):=by
 intro pins s σ H Q I h
 refine isTrue_chain (thn (ha pins s σ H _ I h) fun v s1 ⟨x,H1,I1,r1,q1⟩=>test_link (thn (hb pins s1 σ H1 _ I1 q1) fun u s2 ⟨y,H2,I2,r2,q2⟩ =>
  thn (ho pins s2 σ H2 x y v u _ I2 r1 r2 q2) fun d s3 ⟨z,H3,I3,r3,k,e,q3⟩=>?_)) hm
 subst e
 cases r3
 refine wpAny_truthy_bool ?_
 cases k with
 | false =>
  obtain ⟨k',e',q'⟩:=q3
  cases e'
  exact ite_ff ⟨H3,I3,q'⟩
 | true =>
  refine ite_tt (test_last (thn (hc pins s3 σ H3 _ I3 q3) fun w' s4 ⟨z',H4,I4,r4,q4⟩=>thn (ho' pins s4 σ H4 y z' u w' _ I4 r2 r4 q4) fun d' s5 ⟨z2,H5,I5,r5,k2,e2,q5⟩=>?_))
  subst e2
  cases r5
  exact wpAny_truthy_bool ⟨H5,I5,q5⟩
theorem line63:(sizeLine:Nat)<2 ^ 63:=by rw [sizeLine_eq];decide
theorem vals1 {x:V} {us:List Value} (r:Vals [x] us):∃u,us=[u]∧RelV x u:=by
 cases r with
 | cons r1 r2=>cases r2;exact ⟨_,rfl,r1⟩
theorem vals2 {x y:V} {us:List Value} (r:Vals [x,y] us):∃u w',us=[u,w']∧RelV x u∧RelV y w':=by
 cases r with
 | cons r1 r2 =>
  cases r2 with
  | cons r3 r4=>cases r4;exact ⟨_,_,rfl,r1,r3⟩
theorem mQ (hc:X.calm=true):CallR X (.builtin "max") (fun xs H Q=>∃i j,xs=[.int i,.int j]∧Q (.int (if j > i then j else i)) H):=by
 intro pins s σ H xs us Q I r h
 obtain ⟨i,j,rfl,q⟩:=h
 obtain ⟨u,w',rfl,⟨t,rfl⟩,⟨t',rfl⟩⟩:=vals2 r
 refine max_two_ints (I.ok.hd hc) fun h' tk k=>⟨_,H,I.kept k,?_,q⟩
 by_cases hj:j > i
 ·rw [if_pos hj,if_pos hj];exact ⟨_,rfl⟩
 ·rw [if_neg hj,if_neg hj];exact ⟨_,rfl⟩
end
end L2
namespace L2
open PySem PySem.Spec PyProof.Rows
structure ObjM (h:Heap) (x dx C:Addr) (mA:Str→Option Value):Prop where
 obj:h.get? x=some (PySem.W.instObj C dx)
 ns:h.Ns1 dx mA
 ne:dx≠x
theorem mX {h:Heap} {dx:Addr} {mA:Str→Option Value} (n:h.Ns1 dx mA):∃od,h.get? dx=some od∧∀name,PySem.W.lookIn name od=some (mA name):=by
 obtain ⟨o,es,ep,ho,hd,hk,_,hm⟩:=n
 refine ⟨o,ho,fun name=>?_⟩
 have e:=hm name
 unfold nsFind findBy at e
 rw [←Array.find?_toList] at e
 unfold PySem.W.lookIn
 rw [hd]
 dsimp only
 split
 ·rename_i y q
  rw [q] at e
  exact congrArg some e
 ·rename_i q
  rw [q] at e
  have a:es.toList.any (·.refKey)=false:=by
   rw [List.any_eq_false]
   intro y hy
   obtain ⟨z,t,hkey⟩:=hk y (Array.mem_toList_iff.mp hy)
   simp [DictEntry.refKey,hkey]
  have a':¬es.toList.any (·.refKey)=true:=by rw [a];exact Bool.false_ne_true
  rw [if_neg a']
  exact congrArg some e
theorem ObjM.look {h:Heap} {x dx C:Addr} {mA:Str→Option Value} (I:ObjM h x dx C mA):∃od,PySem.W.InstAt h x (PySem.W.instObj C dx) C (some od)∧∀name,PySem.W.lookIn name od=some (mA name) :=
 let ⟨od,ho,hl⟩:=mX I.ns
 ⟨od,⟨I.obj,rfl,rfl,ho⟩,hl⟩
section
variable {prog:Program} {w:World} {A:Around} {E:Value→Shared→Prop} {s:Shared} {K:PySem.W.Frag} {x dx C f:Addr} {mA:Str→Option Value} {name:Str} {v:Value}
theorem qy {expr:Bool} {Q:Value→Shared→Prop} (X:K.In s.heap) (I:ObjM s.heap x dx C mA) (hg:PySem.W.plainGet K C name=true) (hh:PySem.W.hasDictIn K C=true)
  (ha:PySem.W.findIn K (.ref C) name=some none) (hv:mA name=some v) (hv':PySem.W.handedIn v=true) (h:Q v { s with toks:=s.toks+1 }) :
  wpAny (model prog w) A (getAttr (.ref x) name expr) Q E s:=by
 obtain ⟨od,J,hl⟩:=I.look
 exact PySem.W.get_value X J (PySem.W.plainGet_of hg).1 (PySem.W.findObj_own hh ha rfl (by rw [hl,hv])) hv' h
theorem oP {pl:Sem Bool} {Q:Value×List Value→Shared→Prop} (X:K.In s.heap) (I:ObjM s.heap x dx C mA) (hg:PySem.W.plainGet K C name=true)
  (hf:PySem.W.findIn K (.ref C) name=some (some (.ref f))) (ht:PySem.W.isFn K (.ref f)=true) (hv:mA name=none) (h:Q (.ref f,[.ref x]) s) :
  wpAny (model prog w) A (getMethod (.ref x) name pl) Q E s:=by
 obtain ⟨od,J,hl⟩:=I.look
 exact PySem.W.method_fn X J (PySem.W.plainGet_of hg).1 (PySem.W.plainGet_of hg).2 hf (beq_iff_eq.mp ht) (by show (PySem.W.lookIn name od).map (·.isSome)=some false;rw [hl,hv];rfl) h
theorem rA {ns:List Str} {Q:Unit→Shared→Prop} (X:K.In s.heap) (I:ObjM s.heap x dx C mA)
  (hs:PySem.W.findIn K (.ref C) "__setattr__" = some (some (.builtin "object.__setattr__"))) (hp:PySem.W.plainOver K C=true) (ht:PySem.W.takerIn K C name=some none) (hh:PySem.W.hasDictIn K C=true)
  (hw:PySem.Within mA ns) (hsz:ns.length≤sizeLine)
  (h:∀h',ObjM h' x dx C (fun y=>if y=name then some v else mA y)→Heap.SameBut dx s.heap h'→Q () { s with heap:=h',toks:=s.toks+2 }) :
  wpAny (model prog w) A (setAttr (.ref x) name v) Q E s:=by
 obtain ⟨od,J,hl⟩:=I.look
 refine PySem.W.set_plain X J hs (PySem.W.osa_open (s:={ s with toks:=s.toks+1 }) (r:=none) X J hp ht fun b=>?_)
 obtain ⟨cd,hc,hd'⟩:=PySem.W.any_some hh
 have hx:s.heap.get? x=some ⟨.ref C,some dx,.plain,#[]⟩:=I.obj
 refine wpAny_bind (wpAny_pure (wpAny_bind (wpAny_bind (wpAny_loadPart hx (wpAny_bind (PySem.W.Looks.here (s:={ s with toks:=s.toks+1 }) (PySem.W.looks_clsIn X hc) ?_))))))
 rw [hd']
 refine wpAny_pure (a:=some dx) (wpAny_bind (wpAny_pure (wpAny_bind ?_)))
 refine wpAny_nsSet1 (s:={ s with toks:=s.toks+1 }) I.ns fun h' hn2 hs2=>?_
 obtain ⟨oD,esD,epD,hoD,hdD,hcD⟩:=hn2.count (PySem.Within.cons name v hw)
 refine wpAny_bind (wpAny_lookBehind hoD (by rw [hdD];exact pastItsLine_dict (Nat.le_trans hcD (by rw [List.length_cons];omega))) ?_)
 exact wpAny_pure (h _ ⟨(hs2.2 _ (Ne.symm I.ne)).trans I.obj,hn2,I.ne⟩ hs2)
theorem pj {R:Result→Shared→Prop} {vs:List Value} {kw:List (Str×Value)} (X:K.In s.heap) (hm:PySem.W.makesIn K C=true)
  (hi:PySem.W.findIn K (.ref C) "__init__" = some (some (.ref f))) (hf:PySem.W.typeIn K (.ref f)=some (.type "function"))
  (h:codeAny (model prog w) (A.under (.builtin "type.__call__" ⟨.ref C::vs,kw⟩)) (.call (.ref f) ⟨.ref (s.heap.objs.size+1)::vs,kw⟩) (PySem.W.InitBack (s.heap.objs.size+1) R)
   { s with heap:=(s.heap.push PySem.W.emptyDict).push (PySem.W.instObj C s.heap.objs.size) }) :
  codeAny (model prog w) A (.call (.ref C) ⟨vs,kw⟩) R s:=by
 obtain ⟨hh,g,d,t,os⟩:=s
 exact PySem.W.make_core (PySem.W.makes_of X hm) (PySem.W.looks_findIn X hi) (fun self=>PySem.W.bind_fn X self hf) (.inl rfl) h
end
def putF (f:Str) (v:V):List (Str×V)→List (Str×V)
 | []=>[(f,v)]
 | (g,x)::r=>if g=f then (g,v)::r else (g,x)::putF f v r
theorem cG (f g:Str) (v:V):∀fs:List (Str×V),(putF f v fs).lookup g=if g=f then some v else fs.lookup g
 | []=>by
  show List.lookup g [(f,v)]=_
  by_cases h:g=f
  ·have hb:(g == f)=true:=beq_iff_eq.mpr h
   simp only [List.lookup,hb,if_pos h]
  ·have hb:(g == f)=false:=beq_eq_false_iff_ne.mpr h
   simp only [List.lookup,hb,if_neg h]
 | (k,x)::r=>by
  have ih:=cG f g v r
  rw [show putF f v ((k,x)::r)=(if k=f then (k,v)::r else (k,x)::putF f v r) from rfl]
  by_cases hk:k=f
  ·rw [if_pos hk]
   by_cases h:g=k
   ·have hb:(g == k)=true:=beq_iff_eq.mpr h
    simp only [List.lookup,hb,if_pos (h.trans hk)]
   ·have hb:(g == k)=false:=beq_eq_false_iff_ne.mpr h
    simp only [List.lookup,hb,if_neg (fun e:g=f=>h (e.trans hk.symm))]
  ·rw [if_neg hk]
   by_cases h:g=k
   ·have hb:(g == k)=true:=beq_iff_eq.mpr h
    simp only [List.lookup,hb,if_neg (fun e:g=f=>hk (h.symm.trans e))]
   ·have hb:(g == k)=false:=beq_eq_false_iff_ne.mpr h
    simp only [List.lookup,hb]
    exact ih
theorem fL (f:Str) (v:V):∀fs:List (Str×V),f∈(putF f v fs).map (·.1)∧∀g,g∈fs.map (·.1)→g∈(putF f v fs).map (·.1)
 | []=>⟨by simp [putF],fun g h=>by simp at h⟩
 | (k,x)::r=>by
  obtain ⟨i1,i2⟩:=fL f v r
  rw [show putF f v ((k,x)::r)=(if k=f then (k,v)::r else (k,x)::putF f v r) from rfl]
  by_cases hk:k=f
  ·rw [if_pos hk]
   subst hk
   exact ⟨by simp,fun g h=>by simpa using h⟩
  ·rw [if_neg hk]
   refine ⟨?_,fun g h=>?_⟩
   ·rw [List.map_cons]
    exact List.mem_cons_of_mem _ i1
   ·rw [List.map_cons] at h ⊢
    rcases List.mem_cons.mp h with e | e
    ·exact List.mem_cons.mpr (.inl e)
    ·exact List.mem_cons_of_mem _ (i2 g e)
theorem fW (f:Str) (v:V):∀fs:List (Str×V),(putF f v fs).length≤fs.length+1
 | []=>by simp [putF]
 | (k,x)::r=>by
  have ih:=fW f v r
  rw [show putF f v ((k,x)::r)=(if k=f then (k,v)::r else (k,x)::putF f v r) from rfl]
  by_cases hk:k=f
  ·rw [if_pos hk,List.length_cons,List.length_cons];omega
  ·rw [if_neg hk,List.length_cons,List.length_cons];omega
theorem RelO.some_of {v:V} {o:Option Value} (r:RelO (some v) o):∃u,o=some u∧RelV v u:=by
 cases o with
 | none=>exact (show False from r).elim
 | some u=>exact ⟨u,rfl,r⟩
theorem RelO.none_of {o:Option Value} (r:RelO none o):o=none:=by
 cases o with
 | none=>rfl
 | some u=>exact (show False from r).elim
theorem mT {v:V} {u:Value} (r:RelV v u):PySem.W.handedIn u=true:=by
 cases v with
 | non=>cases (show u=Value.none from r);rfl
 | bl b=>cases (show u=Value.bool b from r);rfl
 | int i=>obtain ⟨t,e⟩:=(show ∃t,u=Value.int i t from r);cases e;rfl
 | str x=>obtain ⟨t,e⟩:=(show ∃t,u=Value.str x t from r);cases e;rfl
 | byt b=>obtain ⟨t,e⟩:=(show ∃t,u=Value.bytes b t from r);cases e;rfl
 | flt b=>obtain ⟨t,e⟩:=(show ∃t,u=Value.float b t from r);cases e;rfl
 | ref a=>cases (show u=Value.ref a from r);rfl
 | ty n=>cases (show u=Value.type n from r);rfl
section
variable {P:Program} {w:World} {H H':Hp} {h h':Heap} {a C dx:Addr} {fs fs':List (Str×V)}
theorem jx (hok:HOk P w H h) (e:H a=some (.ins C dx fs)):∃mA,ObjM h a dx C mA∧(∀f,RelO (fs.lookup f) (mA f))∧PySem.Within mA (fs.map (·.1))∧fs.length≤1000∧H dx=some (.own a):=by
 obtain ⟨d,z,ne,ob,mA,n,r,q⟩:=(show ObjOk P w H h a (.ins C dx fs) from hok a _ e)
 exact ⟨mA,⟨ob,n,ne⟩,r,q,z,d⟩
end
structure Cls (K:PySem.W.Frag) (C:Addr):Prop where
 pg:PySem.W.plainGet K C Str.empty=true
 hd:PySem.W.hasDictIn K C=true
 po:PySem.W.plainOver K C=true
 sa:PySem.W.findIn K (.ref C) "__setattr__" = some (some (.builtin "object.__setattr__"))
theorem Cls.get {K:PySem.W.Frag} {C:Addr} (c:Cls K C) (f:Str):PySem.W.plainGet K C f=true:=c.pg
def NoAttr (K:PySem.W.Frag) (C:Addr) (f:Str):Prop:=PySem.W.findIn K (.ref C) f=some none
theorem NoAttr.taker {K:PySem.W.Frag} {C:Addr} {f:Str} (n:NoAttr K C f):PySem.W.takerIn K C f=some none:=by
 unfold PySem.W.takerIn
 rw [show PySem.W.findIn K (.ref C) f=some none from n]
 rfl
structure Meth (K:PySem.W.Frag) (C:Addr) (m:Str) (f:Addr):Prop where
 at_:PySem.W.findIn K (.ref C) m=some (some (.ref f))
 fn:PySem.W.isFn K (.ref f)=true
 kp:PySem.W.keepIn K (.ref f)=true
section
variable {X:Cx} {pins:List (Addr×Obj)} {σ:St} {H:Hp} {s:Shared} {a C dx:Addr} {fs:List (Str×V)} {f:Str} {v:V} {A:Around} {E:Value→Shared→Prop}
theorem k8 {b:Bool} {Q:Value→Shared→Prop} (I:Inv X pins σ H s) (e:H a=some (.ins C dx fs)) (c:Cls X.K C) (n:NoAttr X.K C f) (l:fs.lookup f=some v)
  (h:∀u s',Inv X pins σ H s'→RelV v u→Q u s'):wpAny (model X.prog X.w) A (getAttr (.ref a) f b) Q E s:=by
 obtain ⟨mA,O,r,_,_,_⟩:=jx I.hok e
 obtain ⟨u,hu,ru⟩:=RelO.some_of (v:=v) (o:=mA f) (by rw [←l];exact r f)
 exact qy I.kIn O (c.get f) c.hd n hu (mT ru) (h u _ (I.tok _) ru)
theorem k9 {m:Str} {g:Addr} {pl:Sem Bool} {Q:Value×List Value→Shared→Prop} (I:Inv X pins σ H s) (e:H a=some (.ins C dx fs)) (c:Cls X.K C) (k:Meth X.K C m g) (l:fs.lookup m=none)
  (h:Q (.ref g,[.ref a]) s):wpAny (model X.prog X.w) A (getMethod (.ref a) m pl) Q E s:=by
 obtain ⟨mA,O,r,_,_,_⟩:=jx I.hok e
 have hn:mA m=none:=RelO.none_of (by rw [←l];exact r m)
 exact oP I.kIn O (c.get m) k.at_ k.fn hn h
theorem lK {y:V} {u:Value} {Q:Unit→Shared→Prop} (I:Inv X pins σ H s) (e:H a=some (.ins C dx fs)) (c:Cls X.K C) (n:NoAttr X.K C f) (hl:fs.length<1000) (ry:RelV y u)
  (h:∀s',Inv X pins σ (upd H a (.ins C dx (putF f y fs))) s'→Q () s'):wpAny (model X.prog X.w) A (setAttr (.ref a) f u) Q E s:=by
 obtain ⟨mA,O,r,wi,_,ho⟩:=jx I.hok e
 have hz:(fs.map (·.1)).length≤sizeLine:=by rw [List.length_map,sizeLine_eq];omega
 refine rA I.kIn O c.sa c.po n.taker c.hd wi hz fun h' O' sb=>h _ ?_
 have hd:∃o,h'.get? dx=some o:=let ⟨o,_,_,e',_⟩:=O'.ns;⟨o,e'⟩
 refine I.write (x:=a) (e:=dx) (by rw [e];exact True.intro) (.inr ho) (fun b q hb z=>(sb.2 b hb).trans z) hd ?_
 refine ⟨by rw [aq O.ne];exact ho,?_,O.ne,O'.obj,_,O'.ns,fun g=>?_,fun g hg=>?_⟩
 ·have:=fW f y fs;omega
 ·show RelO ((putF f y fs).lookup g) (if g=f then some u else mA g)
  rw [cG]
  by_cases q:g=f
  ·rw [if_pos q,if_pos q];exact ry
  ·rw [if_neg q,if_neg q];exact r g
 ·by_cases q:g=f
  ·rw [q];exact (fL f y fs).1
  ·refine (fL f y fs).2 g (wi g fun z=>hg ?_)
   show (if g=f then some u else mA g)=none
   rw [if_neg q];exact z
theorem Inv.made (I:Inv X pins σ H s):Inv X pins σ (upd (upd H s.heap.objs.size (.own (s.heap.objs.size+1))) (s.heap.objs.size+1) (.ins C s.heap.objs.size []))
  { s with heap:=(s.heap.push PySem.W.emptyDict).push (PySem.W.instObj C s.heap.objs.size) }:=by
 have e1:(s.heap.push PySem.W.emptyDict).get? s.heap.objs.size=some PySem.W.emptyDict:=Heap.get?_push_size s.heap rfl
 have e2:((s.heap.push PySem.W.emptyDict).push (PySem.W.instObj C s.heap.objs.size)).get? (s.heap.objs.size+1)=some (PySem.W.instObj C s.heap.objs.size):=by
  have:=Heap.get?_push_size (s.heap.push PySem.W.emptyDict) (o:=PySem.W.instObj C s.heap.objs.size) rfl
  rwa [Heap.size_push] at this
 have e3:(s.heap.push PySem.W.emptyDict).Ns s.heap.objs.size (fun _=>none):=⟨PySem.W.emptyDict,#[],_,e1,rfl,(fun e he=>absurd he (by simp)),fun _=>rfl⟩
 have I1:=I.laid (a:=s.heap.objs.size) (o:=.own (s.heap.objs.size+1)) (h':=s.heap.push PySem.W.emptyDict) (t':=s.toks) (fun b u q=>Heap.get?_push_of_some _ q) (Nat.le_refl _) ⟨_,e1⟩
 refine I1.laid (a:=s.heap.objs.size+1) (o:=.ins C s.heap.objs.size []) (t':=s.toks) (fun b u q=>Heap.get?_push_of_some _ q) (Nat.le_of_eq (Heap.size_push _ _)) ?_
 have ne:s.heap.objs.size≠s.heap.objs.size+1:=Nat.ne_of_lt (Nat.lt_succ_self _)
 refine ⟨by rw [aq ne,ax],Nat.zero_le _,ne,e2,fun _=>none,(Heap.Ns1.of_empty e3).at fun o q=>Heap.get?_push_of_some _ q,fun _=>True.intro,fun y hy=>absurd rfl hy⟩
theorem qr {prog:Program} {w:World} {env:Env} {e:Expr} {f:Str} {pos:Pos} {s:Shared} {Q:Value→Shared→Prop} (hb:attributeBase e f env (eval e env)=eval e env)
  (h:wpAny (model prog w) A (eval e env) (fun o s₁=>wpAny (model prog w) A (getAttr o f true) Q E s₁) E s):wpAny (model prog w) A (eval (.Attribute e f pos) env) Q E s :=
 Attribute_any_ h (by rw [arm_eval_Attribute,hb])
end
def tFld (K:PySem.W.Frag) (ta:TE) (f:Str):TE:=fun σ H Q=>ta σ H fun x H1=>∃a C dx fs v,x=.ref a∧H1 a=some (.ins C dx fs)∧Cls K C∧NoAttr K C f∧fs.lookup f=some v∧Q v H1
def sFld (K:PySem.W.Frag) (ta tv:TE) (f:Str):TS:=fun D σ H=>tv σ H fun y H1=>ta σ H1 fun x H2=>∃a C dx fs,x=.ref a∧H2 a=some (.ins C dx fs)∧Cls K C∧NoAttr K C f∧fs.length<1000 ∧
 D.nx σ (upd H2 a (.ins C dx (putF f y fs)))
section
variable {X:Cx} {o e value:Expr} {f:Str} {pos pos' tpos:Pos} {ta tv:TE}
theorem tO (he:PE X e ta) (hb:attributeBase e f X.env (eval e X.env)=eval e X.env):PE X (.Attribute e f pos) (tFld X.K ta f):=by
 intro pins s σ H Q I h
 refine qr hb (thn (he pins s σ H _ I h) fun u s1 ⟨x,H1,I1,rx,a,C,dx,fs,v,ex,ea,c,n,l,q⟩=>?_)
 subst ex
 obtain rfl:u=Value.ref a:=rx
 exact k8 I1 ea c n l fun u' s2 I2 ru=>⟨v,H1,I2,ru,q⟩
theorem tY (ha:PE X o ta) (hv:PE X value tv) (hs:swapsWith value (some (.Attribute o f pos')) pos.line X.env=pure false):PS X (.Assign [.Attribute o f pos'] value pos) (sFld X.K ta tv f):=by
 intro pins s σ H D I h
 refine plainObj_wpAny_Assign_Attribute (thn (hv pins s σ H _ I h) fun u s1 ⟨y,H1,I1,ry,q⟩=>thn (ha pins s1 σ H1 _ I1 q) fun ov s2 ⟨x,H2,I2,rx,a,C,dx,fs,ex,ea,c,n,l,q2⟩=>?_) hs
 subst ex
 obtain rfl:ov=Value.ref a:=rx
 exact lK I2 ea c n l ry fun s3 I3=>⟨σ,_,I3,q2⟩
end
end L2
namespace L2
open PySem PySem.Spec PyProof.Rows
structure Room (k:Nat) (A:Around):Prop where
 hd:A.handled=none
 dp:A.depth+3*k+5<recursionLimit
 un:A.units+16*k+200<cLine
theorem Room.mono {j k:Nat} {A:Around} (r:Room k A) (h:j≤k):Room j A:=⟨r.hd,by have:=r.dp;omega,by have:=r.un;omega⟩
theorem Room.deeper {k:Nat} {A:Around} (r:Room (k+1) A) (env:Env):Room k (A.deeper env) :=
 ⟨r.hd,by have:=r.dp;show A.depth+1+3*k+5<_;omega,by have:=r.un;show A.units+3+16*k+200<_;omega⟩
theorem Room.in1 {k:Nat} {A:Around} (r:Room (k+1) A):Room k A.in1 :=
 ⟨r.hd,by have:=r.dp;show A.depth+3*k+5<_;omega,by have:=r.un;show A.units+1+16*k+200<_;omega⟩
theorem lq {A:Around} {C:Addr} {us:List Value} {kw:List (Str×Value)}:(A.under (.builtin "type.__call__" ⟨.ref C::us,kw⟩)).depth=A.depth+1:=by
 first | rfl | simp [Around.under,Code.weight,Code.isCreation,Code.isGuard,Code.isCaller,Code.frames,Code.isFrame,guardIds]
theorem lr {A:Around} {C:Addr} {us:List Value} {kw:List (Str×Value)}:(A.under (.builtin "type.__call__" ⟨.ref C::us,kw⟩)).units=A.units+1:=by
 first | rfl | simp [Around.under,Code.cUnits,Code.frames,Code.isFrame]
theorem Room.make {k:Nat} {A:Around} (r:Room (k+1) A) (C:Addr) (us:List Value) (kw:List (Str×Value)):Room k (A.under (.builtin "type.__call__" ⟨.ref C::us,kw⟩)) :=
 ⟨r.hd,by have:=r.dp;rw [lq];omega,by have:=r.un;rw [lr];omega⟩
theorem Room.depth {k:Nat} {A:Around} (r:Room k A):A.depth<recursionLimit:=by have:=r.dp;omega
theorem Room.units {k:Nat} {A:Around} (r:Room k A):A.units+64<cLine:=by have:=r.un;omega
def tNil:TA:=fun _ H Q=>Q [] H
def tCons (ta:TE) (tr:TA):TA:=fun σ H Q=>ta σ H fun x H1=>tr σ H1 fun xs H2=>Q (x::xs) H2
section
variable {X:Cx} {e:Expr} {es:List Expr} {te:TE} {t:TA} {pos:Pos}
theorem bM:PA X [] tNil:=fun _ _ _ _ H Q I h=>Calls.spliced_nil ⟨[],H,I,.nil,h⟩
theorem aR (ha:PE X e te) (hr:PA X es t) (hs:starEach (e::es) X.env=(false,eval e X.env)::starEach es X.env:=by rfl):PA X (e::es) (tCons te t):=by
 intro pos pins s σ H Q I h
 rw [hs]
 show wpAny _ _ (spliced ((false,eval e X.env)::backTo pos (starEach es X.env))) _ _ s
 refine Calls.spliced_cons (thn (ha pins s σ H _ I h) fun u s1 ⟨x,H1,I1,r1,q1⟩=>?_)
 exact thn (hr pos pins s1 σ H1 _ I1 q1) fun us s2 ⟨xs,H2,I2,r2,q2⟩=>⟨x::xs,H2,I2,.cons r1 r2,q2⟩
def tTup (t:TA):TE:=fun σ H Q=>t σ H fun xs H1=>xs.length≤sizeLine∧∀p,H1 p=none→Q (.ref p) (upd H1 p (.tup xs))
def tLst (t:TA):TE:=fun σ H Q=>t σ H fun xs H1=>xs.length≤sizeLine∧∀p,H1 p=none→Q (.ref p) (upd H1 p (.lst xs))
theorem tT {x1} (h:PA X es t):PE X (.Tuple es x1 pos) (tTup t):=by
 intro pins s σ H Q I hq
 refine wpAny_Tuple_spliced (thn (h pos pins s σ H _ I hq) fun us s1 ⟨xs,H1,I1,r,z,q⟩=>⟨by rw [←r.length];exact z,?_⟩)
 have hf:H1 s1.heap.objs.size=none:=I1.hok.fresh (Nat.le_refl _)
 refine ⟨.ref s1.heap.objs.size,upd H1 s1.heap.objs.size (.tup xs),I1.laid (t':=s1.toks) (fun b u e=>Heap.get?_push_of_some _ e) (Nat.le_refl _) ?_,rfl,q _ hf⟩
 exact ⟨z,us,r,⟨_,Heap.get?_push_size _ rfl,rfl,⟨_,rfl⟩,rfl⟩⟩
theorem pQ (h:PA X es t):PE X (.List es pos) (tLst t):=by
 intro pins s σ H Q I hq
 refine wpAny_List_spliced (thn (h pos pins s σ H _ I hq) fun us s1 ⟨xs,H1,I1,r,z,q⟩=>⟨by rw [←r.length];exact z,?_⟩)
 have hf:H1 s1.heap.objs.size=none:=I1.hok.fresh (Nat.le_refl _)
 refine ⟨.ref s1.heap.objs.size,upd H1 s1.heap.objs.size (.lst xs),I1.laid (t':=s1.toks) (fun b u e=>Heap.get?_push_of_some _ e) (Nat.le_refl _) ?_,rfl,q _ hf⟩
 exact ⟨z,us,0,r,Heap.get?_push_size _ rfl⟩
end
abbrev Sp:=List V→Hp→VK→XK→Prop
abbrev CXT:=List Env→Hp→Shared→XK→Value→Shared→Prop
structure Env0 (P:Program) (w:World) (K:PySem.W.Frag) (mg:Str→Option Value) (base:Heap) (A:Around) (outer:List Env) (s:Shared) (H:Hp):Prop where
 frames:A.frames=some outer
 mod:Mod K mg base
 bs:∀b o,base.get? b=some o→s.heap.get? b=some o∧H b=none
 bsz:base.objs.size≤s.heap.objs.size
 funs:s.heap.FunFrames base outer
 frf:∀b∈frs outer,H b=none
 hok:HOk P w H s.heap
 bare:AllBare s.gens
def CE (outer:List Env) (P:Program) (w:World) (H:Hp) (s:Shared) (Q:VK) (u:Value) (s':Shared):Prop :=
 ∃v H',s'.os=s.os∧AllBare s'.gens∧Un (frs outer) [] H H' s.heap s'.heap∧HOk P w H' s'.heap∧RelV v u∧Q v H'
def CR (CX:CXT) (outer:List Env) (P:Program) (w:World) (H:Hp) (s:Shared) (Q:VK) (E:XK) (r:Result) (s':Shared):Prop :=
 match r with
 | .ok (.ret u)=>CE outer P w H s Q u s'
 | .ok _=>False
 | .error e=>CX outer H s E e s'
structure FnOk (P:Program) (w:World) (K:PySem.W.Frag) (mg:Str→Option Value) (base:Heap) (CX:CXT) (k:Nat) (f:Addr) (fd:FuncData) (ps:List Str) (sp:Sp):Prop where
 len:∀vs H Q E,sp vs H Q E→vs.length=ps.length
 run:∀(A:Around) (outer:List Env) (s:Shared) (H:Hp) (args:Args) (us:List Value) (vs:List V) (Q:VK) (E:XK),Room k A→Env0 P w K mg base A outer s H→BindsTo s fd args (ps.zip us)→Vals vs us→sp vs H Q E →
  codeAny (model P w) A (.call (.ref f) args) (CR CX outer P w H s Q E) s
theorem FnOk.imp {P:Program} {w:World} {K:PySem.W.Frag} {mg:Str→Option Value} {base:Heap} {CX:CXT} {k:Nat} {f:Addr} {fd:FuncData} {ps:List Str} {sp sp':Sp} (F:FnOk P w K mg base CX k f fd ps sp)
  (h:∀vs H Q E,sp' vs H Q E→sp vs H Q E):FnOk P w K mg base CX k f fd ps sp' :=
 ⟨fun vs H Q E q=>F.len vs H Q E (h _ _ _ _ q),fun A outer s H args us vs Q E hr he hb hv hs=>F.run A outer s H args us vs Q E hr he hb hv (h _ _ _ _ hs)⟩
theorem Env0.make {P:Program} {w:World} {K:PySem.W.Frag} {mg:Str→Option Value} {base:Heap} {A:Around} {outer:List Env} {s:Shared} {H:Hp} (e:Env0 P w K mg base A outer s H) (C:Addr) (us:List Value) (kw:List (Str×Value)) :
  Env0 P w K mg base (A.under (.builtin "type.__call__" ⟨.ref C::us,kw⟩)) outer s H:=⟨by first | exact e.frames | (simpa [Around.under,Code.envs,Code.isFrame,pushEnvs] using e.frames),e.mod,e.bs,e.bsz,e.funs,e.frf,e.hok,e.bare⟩
theorem Env0.in1 {P:Program} {w:World} {K:PySem.W.Frag} {mg:Str→Option Value} {base:Heap} {A:Around} {outer:List Env} {s:Shared} {H:Hp} (e:Env0 P w K mg base A outer s H) :
  Env0 P w K mg base A.in1 outer s H:=⟨e.frames,e.mod,e.bs,e.bsz,e.funs,e.frf,e.hok,e.bare⟩
section
variable {X:Cx} {pins:List (Addr×Obj)} {σ:St} {H:Hp} {s s':Shared}
theorem Inv.env0 (I:Inv X pins σ H s):Env0 X.prog X.w X.K X.mg X.base X.A X.stack s H :=
 ⟨I.ok.frames,I.ok.mod,I.bs,Nat.le_trans I.ok.bsz I.sz,I.stack,I.stkFree,I.hok,I.bare⟩
theorem Inv.after {Q:VK} {u:Value} (I:Inv X pins σ H s) (h:CE X.stack X.prog X.w H s Q u s'):EP X pins σ Q u s':=by
 obtain ⟨v,H',os,bare,un,hok,r,q⟩:=h
 obtain ⟨hh,g,d,t,os'⟩:=s'
 obtain rfl:os'=s.os:=os
 exact ⟨v,H',I.call (h':=hh) (g':=g) (d':=d) (t':=t) (ch:=[]) un hok bare (fun b z=>absurd z (by simp)),r,q⟩
end
def Binds (K:PySem.W.Frag) (fd:FuncData) (ps:List Str) (ds:List Value):Prop :=
 ∀(s:Shared) (us:List Value),K.In s.heap→(us++ds).length=ps.length→BindsTo s fd ⟨us,[]⟩ (ps.zip (us++ds))
theorem Binds.all {K:PySem.W.Frag} {fd:FuncData} {ps:List Str} (h:∀us:List Value,us.length=ps.length→bindArgs fd ⟨us,[]⟩=pure (ps.zip us)):Binds K fd ps []:=fun s us _ hl=>by
 rw [List.append_nil] at hl ⊢
 exact .of_eq (h us hl)
section
variable {X:Cx} {CX:CXT} {k:Nat} {f C:Addr} {fd:FuncData} {ps:List Str} {sp:Sp} {dvs:List V} {ds:List Value} {E:XK} {x m:Str} {p pos apos:Pos} {e o:Expr} {es:List Expr} {ta:TE} {t:TA}
structure Mk (K:PySem.W.Frag) (C f:Addr):Prop where
 makes:PySem.W.makesIn K C=true
 init:PySem.W.findIn K (.ref C) "__init__" = some (some (.ref f))
 fn:PySem.W.isFn K (.ref f)=true
 kp:PySem.W.keepIn K (.ref C)=true
end
structure FnScope (N P:List Str) (sc:Scope):Prop where
 kind:sc.kind=.function
 co:sc.isCoroutine=false
 gen:sc.isGenerator=false
 nd:N.Nodup
 pre:N.take P.length=P
 par:∀x∈P,sc.names.lookup x=some .local∨sc.names.lookup x=some .cell
 nofree:∀y∈sc.names,y.2≠.free
theorem iV {kindOf:Str→Option NameKind} {x:Str}:∀{binds:List (Str×Value)} {m:Str→Option Value},(∀v,(x,v)∉binds)→bindL kindOf binds m x=m x
 | [],_,_=>rfl
 | (n,v)::r,m,h=>by
  unfold bindL
  rw [iV fun w hw=>h w (List.mem_cons_of_mem _ hw)]
  split
  ·have:x≠n:=by rintro rfl;exact h v List.mem_cons_self
   simp [this]
  ·rfl
theorem iS {kindOf:Str→Option NameKind} {x:Str}:∀{binds:List (Str×Value)} {m:Str→Option Value},(∀v,(x,v)∉binds)→bindC kindOf binds m x=m x
 | [],_,_=>rfl
 | (n,v)::r,m,h=>by
  unfold bindC
  rw [iS fun w hw=>h w (List.mem_cons_of_mem _ hw)]
  split
  ·rfl
  ·have:x≠n:=by rintro rfl;exact h v List.mem_cons_self
   simp [this]
theorem iU {kindOf:Str→Option NameKind} {x:Str} {v:Value}:∀{P:List Str} {vs:List Value} {i:Nat} {m:Str→Option Value},P.Nodup→P[i]?=some x→vs[i]?=some v→kindOf x=some .local →
  bindL kindOf (P.zip vs) m x=some v
 | [],_,_,_,_,h,_,_=>by simp at h
 | _::_,[],_,_,_,_,h,_=>by simp at h
 | p::P,w::vs,0,m,nd,h1,h2,hk=>by
  simp at h1 h2;subst h1;subst h2
  show bindL kindOf ((p,w)::P.zip vs) m p=_
  unfold bindL
  rw [iV fun v hv=>(List.nodup_cons.mp nd).1 (List.of_mem_zip hv).1,if_pos hk]
  simp
 | p::P,w::vs,i+1,m,nd,h1,h2,hk=>by
  show bindL kindOf ((p,w)::P.zip vs) m x=_
  unfold bindL
  exact iU (i:=i) (List.nodup_cons.mp nd).2 (by simpa using h1) (by simpa using h2) hk
theorem iR {kindOf:Str→Option NameKind} {x:Str} {v:Value}:∀{P:List Str} {vs:List Value} {i:Nat} {m:Str→Option Value},P.Nodup→P[i]?=some x→vs[i]?=some v→kindOf x≠some .local →
  bindC kindOf (P.zip vs) m x=some v
 | [],_,_,_,_,h,_,_=>by simp at h
 | _::_,[],_,_,_,_,h,_=>by simp at h
 | p::P,w::vs,0,m,nd,h1,h2,hk=>by
  simp at h1 h2;subst h1;subst h2
  show bindC kindOf ((p,w)::P.zip vs) m p=_
  unfold bindC
  rw [iS fun v hv=>(List.nodup_cons.mp nd).1 (List.of_mem_zip hv).1,if_neg hk]
  simp
 | p::P,w::vs,i+1,m,nd,h1,h2,hk=>by
  show bindC kindOf ((p,w)::P.zip vs) m x=_
  unfold bindC
  exact iR (i:=i) (List.nodup_cons.mp nd).2 (by simpa using h1) (by simpa using h2) hk
def start (N:List Str) (vs:List V):St:=vs.map some++List.replicate (N.length-vs.length) none
def cxOf (CX:CXT) (P:Program) (w:World) (K:PySem.W.Frag) (mg:Str→Option Value) (base:Heap) (N:List Str) (qual:Str) (scope:Scope) (f:Addr) (cd:Value) (A:Around) (outer:List Env) (s:Shared) (H:Hp) (E:XK):Cx where
 prog:=P
 w:=w
 K:=K
 mg:=mg
 base:=base
 A:=A.deeper (envOfC qual scope s.heap.objs.size f cd)
 N:=N
 s₀:=s
 H₀:=H
 env:=envOfC qual scope s.heap.objs.size f cd
 outer:=outer
 stack:=envOfC qual scope s.heap.objs.size f cd::outer
 ex:=[]
 calm:=true
 fn:=fun _=>true
 pn:=[]
 xe:=fun e s'=>wpAny (model P w) (A.deeper (envOfC qual scope s.heap.objs.size f cd)) (leaving (envOfC qual scope s.heap.objs.size f cd) e) (fun _ s''=>CX outer H s E e s'') (fun e' s''=>CX outer H s E e' s'') s'
theorem j8 {sc:Scope} {n:Nat} {x:Str} (h:sc.names.lookup x=some .cell):∃c,(cellsFrom n sc.names []).lookup x=some c:=by
 have q:=PySem.W.cellsFrom_some sc.names n [] (.inl h)
 exact Option.isSome_iff_exists.mp q
theorem i8 {CX:CXT} {P:Program} {w:World} {K:PySem.W.Frag} {mg:Str→Option Value} {base:Heap} {N ps:List Str} {qual:Str} {scope:Scope} {f:Addr} {cd:Value} {A:Around} {outer:List Env} {s s1:Shared} {H:Hp} {E:XK} {us:List Value} {vs:List V}
  (S:FnScope N ps scope) (hd:A.handled=none) (e0:Env0 P w K mg base A outer s H) (hl:vs.length=ps.length) (r:Vals vs us)
  (x:InCallC s s.heap.objs.size (bindL (envOfC qual scope s.heap.objs.size f cd).kindOf (ps.zip us) fun _=>none) (cellsFrom (s.heap.objs.size+1) scope.names []) (bindC (envOfC qual scope s.heap.objs.size f cd).kindOf (ps.zip us) fun _=>none) s1) :
  Inv (cxOf CX P w K mg base N qual scope f cd A outer s H E) [] (start N vs) H s1:=by
 have hpl:ps.length≤N.length:=by have:=congrArg List.length S.pre;rw [List.length_take] at this;omega
 obtain ⟨h1,tk,rfl,hk⟩:=x.done
 have noA:∀b:Addr,b∉(cxOf CX P w K mg base N qual scope f cd A outer s H E).ex:=fun b z=>absurd (show b∈([]:List Addr) from z) (by simp)
 refine ⟨⟨e0.mod,S.kind,rfl,rfl,Nat.le_refl _,fun y z c h1 h2=>?_,fun y hy=>?_,fun y c _ h=>?_,fun _=>hd,Around.frames_deeper e0.frames,.inr ⟨rfl,rfl⟩,fun b z=>absurd z (noA b),e0.bs,e0.bsz,fun b _ _=>noA b,fun b z=>absurd z (noA b),e0.funs,e0.frf⟩,
  rfl,e0.bare,Un.kept hk,⟨_,x.toInCall.ns,fun i y v h1 h2 h3=>?_⟩,fun y c h=>⟨_,x.cell y c h⟩,e0.hok.fresh (Nat.le_refl _),fun y c h=>?_,fun p hp=>absurd (show p∈([]:List (Addr×Obj)) from hp) (by simp),e0.hok.kept hk,?_⟩
 ·exact name_of_addr x.apart (PySem.mem_of_lookup h1) (PySem.mem_of_lookup h2)
 ·have hy:scope.names.lookup y=some .cell∨scope.names.lookup y=some .free:=hy
  rcases hy with hy | hy
  ·exact j8 hy
  ·exact absurd rfl (S.nofree _ (PySem.mem_of_lookup hy))
 ·exact Nat.le_of_lt (x.above y c (PySem.mem_of_lookup h))
 ·have hi:i<vs.length:=by
   unfold start at h2
   by_cases hi:i<vs.length
   ·exact hi
   ·rw [List.getElem?_append_right (by simpa using hi)] at h2
    rw [List.getElem?_replicate] at h2
    split at h2<;>cases h2
  have ha:vs[i]?=some v:=by
   unfold start at h2
   rw [List.getElem?_append_left (by simpa using hi),List.getElem?_map] at h2
   cases e:vs[i]? with
   | none=>rw [e] at h2;cases h2
   | some a=>rw [e] at h2;cases h2;rfl
  obtain ⟨u,hu,rv⟩:=r.get ha
  have hp:ps[i]?=some y:=by
   rw [←S.pre,List.getElem?_take_of_lt (by omega)];exact h1
  have ndP:ps.Nodup:=by rw [←S.pre];exact S.nd.sublist (List.take_sublist _ _)
  refine ⟨u,rv,?_⟩
  rcases S.par y (List.mem_of_getElem? hp) with k | k
  ·exact .inl ⟨k,iU ndP hp hu k⟩
  ·obtain ⟨c,e⟩:=j8 (n:=s.heap.objs.size+1) k
   refine .inr ⟨.inl k,c,e,?_⟩
   have q:=x.cell y c e
   rw [iR ndP hp hu (by show scope.names.lookup y≠_;rw [k];decide)] at q
   exact q
 ·exact e0.hok.fresh (Nat.le_of_lt (x.above y c (PySem.mem_of_lookup h)))
 ·unfold start
  show _=N.length
  rw [List.length_append,List.length_map,List.length_replicate]
  omega
theorem rQ {CX:CXT} {P:Program} {w:World} {K:PySem.W.Frag} {mg:Str→Option Value} {base:Heap} {k:Nat} {f:Addr} {name qual:Str} {params:Arguments} {body:List Stmt} {scope:Scope} {dV kV doc pm cdv ct oc:Value} {an od:Option Addr}
  {osl:Array (Option Value)} {N ps:List Str} {sp:Sp} (lk:K.lookup f=some ⟨oc,od,.func (PySem.W.fnOf name qual params body scope dV kV doc pm an cdv ct),osl⟩) (hcd:PySem.W.codeIn K cdv qual=true) (S:FnScope N ps scope)
  (len:∀vs H Q E,sp vs H Q E→vs.length=ps.length)
  (hbody:∀(A:Around) (outer:List Env) (s:Shared) (H:Hp) (vs:List V) (Q:VK) (E:XK),Room k (A.deeper (envOfC qual scope s.heap.objs.size f cdv))→sp vs H Q E →
   ∃t,PSs (cxOf CX P w K mg base N qual scope f cdv A outer s H E) body t∧t { nx:=fun _ H'=>Q .non H',rt:=Q } (start N vs) H) :
  FnOk P w K mg base CX (k+1) f (PySem.W.fnOf name qual params body scope dV kV doc pm an cdv ct) ps sp:=by
 refine ⟨len,fun A outer s H args us vs Q E hr e0 hb r hsp=>?_⟩
 have hl:=len _ _ _ _ hsp
 have KX:K.In s.heap:=e0.mod.kin.keeps fun b o e=>(e0.bs b o e).1
 have lim:s.heap.NoLimit:=e0.mod.nolimit.keeps fun b o e=>(e0.bs b o e).1
 have hkind:∀y∈ps.zip us,scope.names.lookup y.1=some .local∨(scope.names.lookup y.1=some .cell∧((cellsFrom (s.heap.objs.size+1) scope.names []).lookup y.1).isSome=true):=fun ⟨n,v⟩ hy=>by
  rcases S.par n (List.of_mem_zip hy).1 with q | q
  ·exact .inl q
  ·exact .inr ⟨q,PySem.W.cellsFrom_some _ _ _ (.inl q)⟩
 refine codeAny_call_function hr.depth (KX _ _ lk) rfl S.co S.gen rfl (PySem.W.codeRec_of KX hcd) (hb _ _ _ _ ?_)
 refine wpAny_newFunctionEnv_cells S.kind hkind fun env he s1 x=>?_
 subst he
 refine ⟨lim.keeps x.toInCall.keep,codeAny_func ?_⟩
 obtain ⟨t,ht,hq⟩:=hbody A outer s H vs Q E (hr.deeper _) hsp
 have I:Inv (cxOf CX P w K mg base N qual scope f cdv A outer s H E) [] (start N vs) H s1:=i8 S hr.hd e0 hl r x
 refine wpAny_mono (ht [] s1 (start N vs) H _ I hq) (fun fl s' hs=>?_) fun e s' hs=>hs
 have fin:∀{σ':St} {H':Hp} {v:V} {u:Value},Inv (cxOf CX P w K mg base N qual scope f cdv A outer s H E) [] σ' H' s'→RelV v u→Q v H'→CE outer P w H s Q u s' :=
  fun {σ' H' v u} J rv q=>⟨v,H',J.os,J.bare,J.base,J.hok,rv,q⟩
 cases fl with
 | ret u =>
  obtain ⟨v,σ',H',J,rv,q⟩:=hs
  exact fin J rv q
 | next =>
  obtain ⟨σ',H',J,q⟩:=hs
  exact fin (v:=V.non) (u:=Value.none) J rfl q
 | brk =>
  obtain ⟨_,_,_,q⟩:=hs
  exact False.elim q
 | cont =>
  obtain ⟨_,_,_,q⟩:=hs
  exact False.elim q
end L2
namespace L2
open PySem PySem.Spec PyProof.Rows
section
variable {X:Cx} {x:Str} {p pos:Pos} {e:Expr} {es:List Expr} {t:TA} {id T:String} {r:List V→Hp→VK→Prop}
def tCB (r:List V→Hp→VK→Prop) (t:TA):TE:=fun σ H Q=>t σ H fun vs H1=>r vs H1 Q
theorem cz (hc:CallR X (.builtin id) r) (hg:Gl X x) (hm:X.mg x=none) (hv:bootBuiltins x=some (.builtin id)) (ha:PA X (e::es) t) (hn:x ≠ "__name__" := by decide) (hdb:(x == ("__debug__" : Str))=false:=by decide)
  (he:starEach (e::es) X.env=(false,eval e X.env)::starEach es X.env:=by rfl) (hpl:(backTo pos (starEach es X.env)).any (·.1)=false:=by rfl):PE X (.Call (.Name x p) (e::es) [] pos) (tCB r t):=by
 intro pins s σ H Q I h
 refine wpAny_Call_Name_kw (cO I hg hm hv ?_ hn hdb)
 exact PyProof.Rows.callWith_builtin1 (thn (ha pos pins s σ H _ I h) fun us s1 ⟨vs,H1,I1,r1,q1⟩=>hc pins s1 σ H1 vs us Q I1 r1 q1) he hpl
theorem jd (hc:CallR X (.type T) r) (hg:Gl X x) (hm:X.mg x=none) (hv:bootBuiltins x=some (.type T)) (ha:PA X (e::es) t) (hn:x ≠ "__name__" := by decide) (hdb:(x == ("__debug__" : Str))=false:=by decide)
  (he:starEach (e::es) X.env=(false,eval e X.env)::starEach es X.env:=by rfl) (hpl:(backTo pos (starEach es X.env)).any (·.1)=false:=by rfl):PE X (.Call (.Name x p) (e::es) [] pos) (tCB r t):=by
 intro pins s σ H Q I h
 refine wpAny_Call_Name_kw (cO I hg hm hv ?_ hn hdb)
 exact PyProof.Rows.callWith_type1 (thn (ha pos pins s σ H _ I h) fun us s1 ⟨vs,H1,I1,r1,q1⟩=>hc pins s1 σ H1 vs us Q I1 r1 q1) he hpl
end
end L2
namespace HT
open PySem PyProof.Rows
section
variable {prog:Program} {w:World} {A:Around} {E:Value→Shared→Prop} {s:Shared}
theorem cat_tup {t b:Addr} {vs ws:List Value} {Q:Value→Shared→Prop} (ht:IsTup s.heap t vs.toArray) (hb:IsTup s.heap b ws.toArray) (hv:vs≠[])
  (h1:ws=[]→Q (.ref t) s) (h2:ws≠[]→Q (.ref s.heap.objs.size) { s with heap:=s.heap.push { cls:=.type "tuple", data:=.seq (vs++ws).toArray } })
  (hsz:vs.length+ws.length≤sizeLine):wpAny (model prog w) A (binaryOp .Add (.ref t) (.ref b)) Q E s:=by
 obtain ⟨⟨cls,dd,data,sl⟩,ho,hc,n,hd⟩:=id ht
 obtain ⟨⟨cls2,dd2,data2,sl2⟩,ho2,hc2,n2,hd2⟩:=id hb
 simp only at hc hd hc2 hd2
 subst hc hd hc2 hd2
 have e:vs.toArray++ws.toArray=(vs++ws).toArray:=by simp
 by_cases hw:ws=[]
 ·exact concat_meets ⟨_,ho,rfl⟩ ⟨_,ho2,rfl⟩ noFill_tuple_add seq_tuple_add PySem.F.slot_tuple_add PySem.F.entry_tuple_add (PySem.F.args_tuple_add_2 _ _)
   (tuple_addW1 t b vs.toArray ws.toArray n n2 dd dd2 sl sl2 (by simpa using hv) (by simp [hw])) ⟨ho,ho2,h1 hw⟩
 ·refine concat_meets ⟨_,ho,rfl⟩ ⟨_,ho2,rfl⟩ noFill_tuple_add seq_tuple_add PySem.F.slot_tuple_add PySem.F.entry_tuple_add (PySem.F.args_tuple_add_2 _ _)
   (tuple_addW2 t b vs.toArray ws.toArray n n2 dd dd2 sl sl2 (by simpa using hv) (by simpa using hw) (by rw [List.size_toArray,List.size_toArray];exact hsz)) ⟨ho,ho2,?_⟩
  rw [e]
  exact h2 hw
def sIx (n d:Nat):Option Int→Nat
 | none=>d
 | some v=>if v<0 then (v+(n:Int)).toNat else min v.toNat n
theorem qa (n d:Nat):sIx n d none=d:=rfl
theorem gl (n d k:Nat):sIx n d (some (k:Int))=min k n:=by
 show (if (k:Int)<0 then ((k:Int)+(n:Int)).toNat else min (k:Int).toNat n)=min k n
 rw [if_neg (by omega),Int.toNat_natCast]
theorem uj (n d:Nat) (hd:d≤n) (o:Option Int):sIx n d o≤n:=by
 cases o with
 | none=>exact hd
 | some v =>
  show (if v<0 then (v+(n:Int)).toNat else min v.toNat n)≤n
  by_cases hv:v<0
  ·rw [if_pos hv];omega
  ·rw [if_neg hv];exact Nat.min_le_right _ _
theorem l7 (v:Int) (n d:Nat):(if v<0 then max (v+(n:Int)) 0 else min v (n:Int))=((sIx n d (some v):Nat):Int):=by
 show (if v<0 then max (v+(n:Int)) 0 else min v (n:Int))=(((if v<0 then (v+(n:Int)).toNat else min v.toNat n):Nat):Int)
 by_cases hv:v<0
 ·simp only [if_pos hv];omega
 ·simp only [if_neg hv];omega
theorem kT (lo hi:Option Int) (n:Nat):Builtin.Slice.sliceAdjust lo hi 1 (n:Int)=(((sIx n 0 lo:Nat):Int),((sIx n n hi:Nat):Int)):=by
 have h1:¬((1:Int)<0):=by omega
 unfold Builtin.Slice.sliceAdjust
 simp only [h1,if_false]
 refine Prod.ext ?_ ?_
 ·cases lo with
  | none=>rfl
  | some v=>exact l7 v n 0
 ·cases hi with
  | none=>rfl
  | some v=>exact l7 v n n
theorem lD (i j:Nat):Builtin.Slice.slicePlaces (i:Int) (j:Int) 1=j-i:=by
 unfold Builtin.Slice.slicePlaces
 have h1:(1:Int) > 0:=by omega
 simp only [h1,if_true,Int.ediv_one]
 split<;>omega
theorem iw {v:Value} {o:Option Int} {Q:Option Int→Shared→Prop} (p:IsPart v o) (h:Q o s):wpAny (model prog w) A (Builtin.Slice.slicePartIndex v) Q E s:=by
 cases p with
 | none=>exact slicePart_none h
 | int i t=>exact slicePart_int h
theorem sliceApplied_gen {sl:Addr} {vl vu:Value} {lo hi:Option Int} {n:Nat} {Q:Int×Int×Nat→Shared→Prop} (hs:s.heap.IsSliceOf sl vl vu .none) (pl:IsPart vl lo) (pu:IsPart vu hi)
  (h:Q (((sIx n 0 lo:Nat):Int),1,sIx n n hi-sIx n 0 lo) s):wpAny (model prog w) A (Builtin.Slice.sliceApplied (.ref sl) (pure (n:Int))) Q E s:=by
 obtain ⟨os,hos,hcs,hds⟩:=id hs
 unfold Builtin.Slice.sliceApplied Builtin.Slice.sliceFields
 refine wpAny_bind (wpAny_bind (wpAny_field hos hds (x:=vl) rfl (wpAny_bind (wpAny_field hos hds (x:=vu) rfl (wpAny_bind (wpAny_field hos hds (x:=.none) rfl (wpAny_pure ?_)))))))
 refine wpAny_bind (slicePart_none ?_)
 show wpAny _ _ (if ((1:Int) == 0)=true then _ else _) _ _ s
 rw [if_neg (by decide)]
 refine wpAny_bind (iw pl (wpAny_bind (iw pu (wpAny_bind (wpAny_pure ?_)))))
 show wpAny _ _ (match Builtin.Slice.sliceAdjust lo hi 1 (n:Int) with | (lo,hi)=>pure (lo,(1:Int),Builtin.Slice.slicePlaces lo hi 1)) _ _ s
 rw [kT lo hi n]
 show wpAny _ _ (pure (((sIx n 0 lo:Nat):Int),(1:Int),Builtin.Slice.slicePlaces ((sIx n 0 lo:Nat):Int) ((sIx n n hi:Nat):Int) 1)) _ _ s
 rw [lD]
 exact wpAny_pure h
theorem pV (xs:Array Value) (i k:Nat):((List.range k).filterMap fun (m:Nat)=>xs[((i:Int)+(m:Int)*1).toNat]?).toArray=((xs.toList.drop i).take k).toArray:=by
 have e:(fun (m:Nat)=>xs[((i:Int)+(m:Int)*1).toNat]?)=fun m=>xs[i+m]?:=by
  funext m
  have:((i:Int)+(m:Int)*1).toNat=i+m:=by omega
  rw [this]
 rw [e]
 have:=pick_run xs i k
 rw [List.filterMap_map] at this
 have e2:((fun x=>xs[x]?)∘fun x=>i+x)=fun m=>xs[i+m]?:=rfl
 rw [e2] at this
 rw [this]
theorem getItem_tuple_cut {t sl:Addr} {items:Array Value} {vl vu:Value} {lo hi:Option Int} {Q:Value→Shared→Prop} (ht:IsTup s.heap t items) (hs:s.heap.IsSliceOf sl vl vu .none) (pl:IsPart vl lo) (pu:IsPart vu hi)
  (hw:¬(sIx items.size 0 lo=0∧sIx items.size items.size hi=items.size))
  (h:Q (.ref s.heap.objs.size) { s with heap:=s.heap.push { cls:=.type "tuple", data:=.seq ((items.toList.drop (sIx items.size 0 lo)).take (sIx items.size items.size hi-sIx items.size 0 lo)).toArray } })
  (hsz:items.size≤sizeLine):wpAny (model prog w) A (getItem (.ref t) (.ref sl)) Q E s:=by
 have htake:sizeOk (.seq ((items.toList.drop (sIx items.size 0 lo)).take (sIx items.size items.size hi-sIx items.size 0 lo)).toArray):=by
  show ((items.toList.drop (sIx items.size 0 lo)).take (sIx items.size items.size hi-sIx items.size 0 lo)).toArray.size≤sizeLine
  rw [List.size_toArray,List.length_take,List.length_drop,Array.length_toList]
  omega
 have hj:sIx items.size items.size hi≤items.size:=uj _ _ (Nat.le_refl _) hi
 obtain ⟨os,hos,hcs,hds⟩:=id hs
 have hTs:s.TypeIs (.ref sl) "slice" := ⟨os,hos,hcs⟩
 unfold getItem
 try with_reducible refine wpAny_holding ?_
 first | refine wpAny_bind (wpAny_pure ?_) | skip
 refine wpAny_bind (wpAny_sequenceKey ht.typeIs (by decide) ?_)
 refine wpAny_bind (wpAny_callSpecial?_slot (name:=Str.ofString "__getitem__") ht.typeIs PyProof.Rows.slot_tuple_getitem
  (wpAny_call_entry PyProof.Rows.slot_tuple_getitem ht.typeIs entry_tuple_getitem ?_ (args_tuple_getitem _ _)))
 show wpAny _ _ (Builtin.Tuple.tupleItemsOf (.ref t) >>= _) _ _ s
 refine wpAny_bind (tupleItemsOf_ ht ?_)
 refine wpAny_bind (wpAny_typeOf hTs ?_)
 rw [if_pos (by decide)]
 refine wpAny_bind (sliceApplied_gen hs pl pu ?_)
 have hno:¬((((sIx items.size 0 lo:Nat):Int) == 0&&(1:Int) == 1&&(sIx items.size items.size hi-sIx items.size 0 lo) == items.size)=true):=by
  intro q
  rw [Bool.and_eq_true,Bool.and_eq_true] at q
  have q1:((sIx items.size 0 lo:Nat):Int)=0:=eq_of_beq q.1.1
  have q2:sIx items.size items.size hi-sIx items.size 0 lo=items.size:=eq_of_beq q.2
  exact hw ⟨by omega,by omega⟩
 show wpAny _ _ (if (((sIx items.size 0 lo:Nat):Int) == 0&&(1:Int) == 1&&(sIx items.size items.size hi-sIx items.size 0 lo) == items.size)=true then _ else _) _ _ s
 rw [if_neg hno,pV]
 first
  | exact wpAny_bind (m:=Builtin.Tuple.tupleExact _) (wpAny_newObj_type (wpAny_pure ⟨_,rfl,wpAny_pure h⟩) htake)
  | exact wpAny_bind (m:=Builtin.Tuple.tupleExact _) (wpAny_newObj_type (wpAny_bind (wpAny_pure (wpAny_pure ⟨_,rfl,wpAny_pure h⟩))) htake)
  | exact wpAny_bind (wpAny_bind (m:=Builtin.Tuple.tupleExact _) (wpAny_newObj_type (wpAny_pure (wpAny_pure ⟨_,rfl,wpAny_pure h⟩)) htake))
  | exact wpAny_bind (wpAny_bind (m:=Builtin.Tuple.tupleExact _) (wpAny_newObj_type (wpAny_pure ⟨_,rfl,wpAny_pure h⟩) htake))
end
end HT
namespace L2
open PySem PySem.Spec PyProof.Rows
abbrev TO:=St→Hp→(Option Int→Hp→Prop)→Prop
def PO (X:Cx) (e:Option Expr) (t:TO):Prop :=
 ∀(pins:List (Addr×Obj)) (s:Shared) (σ:St) (H:Hp) (Q:Option Int→Hp→Prop),Inv X pins σ H s→t σ H Q →
  wpAny (model X.prog X.w) X.A (evalPart e X.env) (fun u s'=>∃o H',Inv X pins σ H' s'∧IsPart u o∧Q o H') X.xe s
def tNoPart:TO:=fun _ H Q=>Q none H
def tPart (t:TE):TO:=fun σ H Q=>t σ H fun x H1=>∃i,x=.int i∧Q (some i) H1
theorem lg {ns:List Int}:∀{us:List Value},Vals (ns.map V.int) us→IntsAre us ns:=by
 induction ns with
 | nil=>intro us r;rw [List.map_nil] at r;cases r;exact .nil
 | cons n ns ih =>
  intro us r
  rw [List.map_cons] at r
  cases r with
  | cons r1 r2 =>
   obtain ⟨t,e⟩:=r1
   subst e
   exact .cons n t (ih r2)
section
variable {X:Cx} {e:Expr} {te:TE} {lo hi:Option Expr} {tl th:TO} {pos p2:Pos}
theorem re:PO X none tNoPart:=by
 intro pins s σ H Q I h
 rw [evalPart_none]
 exact wpAny_pure ⟨none,H,I,.none,h⟩
theorem rg (h:PE X e te):PO X (some e) (tPart te):=by
 intro pins s σ H Q I hw
 rw [evalPart_some]
 refine thn (h pins s σ H _ I hw) fun u s1 ⟨x,H1,I1,r1,q1⟩=>?_
 obtain ⟨i,rfl,q⟩:=q1
 obtain ⟨t,rfl⟩:=r1
 exact ⟨some i,H1,I1,.int i t,q⟩
def SlR (X:Cx) (r:V→Option Int→Option Int→Hp→VK→Prop):Prop :=
 ∀(pins:List (Addr×Obj)) (s:Shared) (σ:St) (H:Hp) (x:V) (v vl vu:Value) (lo hi:Option Int) (sl:Addr) (Q:VK),Inv X pins σ H s→RelV x v→s.heap.IsSliceOf sl vl vu .none→IsPart vl lo→IsPart vu hi→r x lo hi H Q →
  ∃T id,typeLookup (.type T) "__getitem__" = pure (some (.builtin id))∧s.TypeIs v T∧wpAny (model X.prog X.w) X.A (getItem v (.ref sl)) (EP X pins σ Q) X.xe s
theorem SlR.or {r r':V→Option Int→Option Int→Hp→VK→Prop} (h:SlR X r) (h':SlR X r'):SlR X (fun x lo hi H Q=>r x lo hi H Q∨r' x lo hi H Q):=by
 intro pins s σ H x v vl vu lo hi sl Q I rx hs pl pu q
 rcases q with q | q
 ·exact h pins s σ H x v vl vu lo hi sl Q I rx hs pl pu q
 ·exact h' pins s σ H x v vl vu lo hi sl Q I rx hs pl pu q
def tSl (r:V→Option Int→Option Int→Hp→VK→Prop) (te:TE) (tl th:TO):TE:=fun σ H Q=>te σ H fun x H1=>tl σ H1 fun l H2=>th σ H2 fun u H3=>r x l u H3 Q
theorem pR {r:V→Option Int→Option Int→Hp→VK→Prop} (hr:SlR X r) (he:PE X e te) (hl:PO X lo tl) (hu:PO X hi th):PE X (.Subscript e (.Slice lo hi none p2) pos) (tSl r te tl th):=by
 intro pins s σ H Q I h
 refine Subscript_ (thn (he pins s σ H _ I h) fun v s1 ⟨x,H1,I1,r1,q1⟩=>?_)
 refine wpAny_Slice (thn (hl pins s1 σ H1 _ I1 q1) fun vl s2 ⟨l,H2,I2,pl,q2⟩=>thn (hu pins s2 σ H2 _ I2 q2) fun vu s3 ⟨u,H3,I3,pu,q3⟩=>?_)
 rw [evalPart_none]
 refine wpAny_pure ?_
 have I4:Inv X pins σ H3 { s3 with heap:=s3.heap.push { cls:=.type "slice", data:=.fields #[vl,vu,.none] } }:=I3.kept (t':=s3.toks) fun b ob q=>Heap.get?_push_of_some _ q
 obtain ⟨T,id,hT,ht,hg⟩:=hr pins { s3 with heap:=s3.heap.push { cls:=.type "slice", data:=.fields #[vl,vu,.none] } } σ H3 x v vl vu l u s3.heap.objs.size Q I4 r1 (Heap.IsSliceOf.new ..) pl pu q3
 show wpAny (model X.prog X.w) X.A (subscriptTail e (.Slice lo hi none p2) v (.ref s3.heap.objs.size)) (EP X pins σ Q) X.xe { s3 with heap:=s3.heap.push { cls:=.type "slice", data:=.fields #[vl,vu,.none] } }
 exact tail_any (ops:=[.ref s3.heap.objs.size,v]) ht hT hg (by with_unfolding_all rfl)
def cutV (xs:List V) (lo hi:Option Int):List V:=(xs.drop (HT.sIx xs.length 0 lo)).take (HT.sIx xs.length xs.length hi-HT.sIx xs.length 0 lo)
theorem dl (xs:List V) (lo hi:Option Int):(cutV xs lo hi).length≤xs.length:=by
 unfold cutV
 rw [List.length_take,List.length_drop]
 omega
def rSlT (K:PySem.W.Frag):V→Option Int→Option Int→Hp→VK→Prop:=fun x lo hi H Q=>∃a xs,x=.ref a∧SqT K H a xs ∧
 ¬(HT.sIx xs.length 0 lo=0∧HT.sIx xs.length xs.length hi=xs.length)∧∀p,H p=none→Q (.ref p) (upd H p (.tup (cutV xs lo hi)))
theorem u4:SlR X (rSlT X.K):=by
 intro pins s σ H x v vl vu lo hi sl Q I rx hs pl pu h
 obtain ⟨a,xs,rfl,hx,hw,q⟩:=h
 cases rx
 obtain ⟨its,r,ht,hz⟩:=I.tuple hx
 have hlen:its.toArray.size=xs.length:=by rw [List.size_toArray];exact r.length.symm
 refine ⟨"tuple", _,PyProof.Rows.slot_tuple_getitem.lookup,ht.typeIs,?_⟩
 refine HT.getItem_tuple_cut ht hs pl pu (by rw [hlen];exact hw) ?_ (by rw [hlen];exact hz)
 rw [hlen]
 refine ⟨.ref s.heap.objs.size,_,I.laid (t':=s.toks) (o:=.tup (cutV xs lo hi)) (fun b ob q=>Heap.get?_push_of_some _ q) (Nat.le_refl _) ?_,rfl,q _ (I.hok.fresh (Nat.le_refl _))⟩
 exact ⟨Nat.le_trans (dl xs lo hi) hz,_,(r.drop (HT.sIx xs.length 0 lo)).take (HT.sIx xs.length xs.length hi-HT.sIx xs.length 0 lo),TupD.new _ _⟩
def rCatT (K:PySem.W.Frag):R2:=fun x y H Q=>∃a b xs ys,x=.ref a∧y=.ref b∧SqT K H a xs∧SqT K H b ys∧xs≠[]∧xs.length+ys.length≤sizeLine ∧
 (ys=[]→Q (.ref a) H)∧(ys≠[]→∀p,H p=none→Q (.ref p) (upd H p (.tup (xs++ys))))
theorem Vals.nil_iff {xs:List V} {us:List Value} (r:Vals xs us):us=[]↔xs=[]:=by
 cases r with
 | nil=>simp
 | cons _ _=>simp
theorem qU:OpR X (binaryOp .Add) (rCatT X.K):=by
 intro pins s σ H x y v u Q I rx ry h
 obtain ⟨a,b,xs,ys,rfl,rfl,ha,hb,hx,hz,q1,q2⟩:=h
 cases rx
 cases ry
 obtain ⟨its,r1,p1,_⟩:=I.tuple ha
 obtain ⟨its2,r2,p2,_⟩:=I.tuple hb
 refine HT.cat_tup p1 p2 (fun z=>hx (r1.nil_iff.mp z)) (fun z=>⟨.ref a,H,I,rfl,q1 (r2.nil_iff.mp z)⟩) (fun z=>?_) (by rw [←r1.length,←r2.length];exact hz)
 refine ⟨.ref s.heap.objs.size,_,I.laid (t':=s.toks) (o:=.tup (xs++ys)) (fun b ob q=>Heap.get?_push_of_some _ q) (Nat.le_refl _) ?_,rfl,q2 (fun w=>z (r2.nil_iff.mpr w)) _ (I.hok.fresh (Nat.le_refl _))⟩
 exact ⟨by rw [List.length_append];exact hz,_,r1.append r2,TupD.new _ _⟩
end
end L2
namespace L2
open PySem PySem.Spec PyProof.Rows
def ixN (n:Nat) (i:Int):Option Nat:=if 0≤i then (if i<n then some i.toNat else none) else if -(n:Int)≤i then some (i+n).toNat else none
def atI {α:Type} (xs:List α) (i:Int):Option α:=(ixN xs.length i).bind fun j=>xs[j]?
theorem mi {n:Nat} {i:Int} {j:Nat} (h:ixN n i=some j):seqIndex? i n=some j∧j<n∧-(n:Int)≤i∧i<n:=by
 unfold ixN at h
 by_cases h0:0≤i
 ·rw [if_pos h0] at h
  by_cases h1:i<n
  ·rw [if_pos h1] at h
   have e:i.toNat=j:=Option.some.inj h
   exact ⟨by rw [seqIndex_of h0 h1,e],by omega,by omega,h1⟩
  ·rw [if_neg h1] at h;cases h
 ·rw [if_neg h0] at h
  by_cases h1:-(n:Int)≤i
  ·rw [if_pos h1] at h
   have e:(i+n).toNat=j:=Option.some.inj h
   exact ⟨by rw [seqIndex_neg (by omega) h1,e],by omega,h1,by omega⟩
  ·rw [if_neg h1] at h;cases h
theorem jp {α:Type} {xs:List α} {i:Int} {v:α} (h:atI xs i=some v):∃j,seqIndex? i xs.length=some j∧xs[j]?=some v∧j<xs.length∧-(xs.length:Int)≤i∧i<xs.length:=by
 unfold atI at h
 cases e:ixN xs.length i with
 | none=>rw [e] at h;cases h
 | some j =>
  rw [e] at h
  obtain ⟨h1,h2,h3,h4⟩:=mi e
  exact ⟨j,h1,h,h2,h3,h4⟩
def PlainIx (b:Expr):Prop:=∀o i,subscripted b false o i=operate [o,i] (getItem o i)
def IxR (X:Cx) (r:R2):Prop :=
 ∀(value slice:Expr) (pins:List (Addr×Obj)) (s:Shared) (σ:St) (H:Hp) (x y:V) (v u:Value) (Q:VK),Inv X pins σ H s→RelV x v→RelV y u→r x y H Q →
  subscripted slice false v u=operate [v,u] (getItem v u)→wpAny (model X.prog X.w) X.A (subscriptTail value slice v u) (EP X pins σ Q) X.xe s
def MtR (X:Cx) (id:String) (r:V→List V→Hp→VK→Prop):Prop :=
 ∀(pins:List (Addr×Obj)) (s:Shared) (σ:St) (H:Hp) (x:V) (xs:List V) (v:Value) (us:List Value) (Q:VK),Inv X pins σ H s→RelV x v→Vals xs us→r x xs H Q →
  wpAny (model X.prog X.w) X.A (call (.builtin id) (v::us)) (EP X pins σ Q) X.xe s
section
variable {X:Cx} {a b:Expr} {ta tb:TE} {pos:Pos}
theorem IxR.or {r r':R2} (h:IxR X r) (h':IxR X r'):IxR X (fun x y H Q=>r x y H Q∨r' x y H Q):=by
 intro value slice pins s σ H x y v u Q I rx ry q hs
 rcases q with q | q
 ·exact h value slice pins s σ H x y v u Q I rx ry q hs
 ·exact h' value slice pins s σ H x y v u Q I rx ry q hs
theorem kF {r:R2} (hr:IxR X r) (ha:PE X a ta) (hb:PE X b tb) (hs:PlainIx b):PE X (.Subscript a b pos) (tOp r ta tb):=by
 intro pins s σ H Q I h
 exact Subscript_ (binT ha hb I h fun v u s2 x y H2 I2 rx ry q=>hr a b pins s2 σ H2 x y v u Q I2 rx ry q (hs _ _))
def rIxL (K:PySem.W.Frag):R2:=fun x y H Q=>∃p xs i v,x=.ref p∧y=.int i∧SqL K H p xs∧atI xs i=some v∧Q v H
def rIxT (K:PySem.W.Frag):R2:=fun x y H Q=>∃p xs i v,x=.ref p∧y=.int i∧SqT K H p xs∧atI xs i=some v∧Q v H
def rIxS:R2:=fun x y H Q=>∃z i c,x=.str z∧y=.int i∧z.length≤sizeLine∧atI z.cps.toList i=some c∧Q (.str ⟨#[c]⟩) H
theorem qI:IxR X (rIxL X.K):=by
 intro value slice pins s σ H x y v u Q I rx ry h hs
 obtain ⟨p,xs,i,z,rfl,rfl,hq,he,q⟩:=h
 cases rx
 obtain ⟨t,rfl⟩:=ry
 obtain ⟨its,r,pl,hz⟩:=I.list hq
 obtain ⟨j,h1,h2,h3,h4,h5⟩:=jp he
 obtain ⟨w,ew,rw'⟩:=r.get h2
 have hl:=r.length
 have hn:=line63
 have fin:EP X pins σ Q w s:=⟨z,H,I,rw',q⟩
 by_cases h0:0≤i
 ·have hj:i.toNat=j:=by
   rw [seqIndex_of h0 h5] at h1
   exact Option.some.inj h1
  exact item_listR pl.isList h0 (by omega) (by rw [hj];simpa using ew) fin hs
 ·have hj:(i+(its.toArray.size:Int)).toNat=j:=by
   rw [seqIndex_neg (by omega) h4] at h1
   rw [List.size_toArray,←hl]
   exact Option.some.inj h1
  exact subscriptTail_builtinR (x:=w) pl.isList.typeIs slot_list_getitem.lookup
   (wpAny_getItem_list_neg (Q:=fun r s'=>r=w∧EP X pins σ Q r s') pl.isList (by omega) (by rw [List.size_toArray]<;>omega) (by omega) (by rw [hj];simpa using ew) ⟨rfl,fin⟩) hs
theorem sK:IxR X (rIxT X.K):=by
 intro value slice pins s σ H x y v u Q I rx ry h hs
 obtain ⟨p,xs,i,z,rfl,rfl,hq,he,q⟩:=h
 cases rx
 obtain ⟨t,rfl⟩:=ry
 obtain ⟨its,r,pl,hz⟩:=I.tuple hq
 obtain ⟨j,h1,h2,h3,h4,h5⟩:=jp he
 obtain ⟨w,ew,rw'⟩:=r.get h2
 have hl:=r.length
 have hn:=line63
 have fin:EP X pins σ Q w s:=⟨z,H,I,rw',q⟩
 exact subscriptTail_builtinR (x:=w) pl.typeIs slot_tuple_getitem.lookup
  (getItem_tuple (j:=j) (Q:=fun r s'=>r=w∧EP X pins σ Q r s') pl (by omega) (by omega) (by rw [List.size_toArray,←hl];exact h1) (by simpa using ew) ⟨rfl,fin⟩) hs
theorem sJ:IxR X rIxS:=by
 intro value slice pins s σ H x y v u Q I rx ry h hs
 obtain ⟨z,i,c,rfl,rfl,hz,he,q⟩:=h
 obtain ⟨t,rfl⟩:=rx
 obtain ⟨t',rfl⟩:=ry
 obtain ⟨j,h1,h2,h3,h4,h5⟩:=jp he
 have hl:z.cps.toList.length=z.length:=by simp [Str.length]
 rw [hl] at h1 h4 h5
 have hn:=line63
 exact tail_any (typeIs_str s z t) slot_str_getitem.lookup (getItem_str (c:=c) (by
  have e1:decide (i < -(2 ^ 63:Int))=false:=decide_eq_false (by omega)
  have e2:decide (i≥2 ^ 63)=false:=decide_eq_false (by omega)
  rw [e1,e2,Bool.or_false]) (by rw [h1];simpa using h2) ⟨.str ⟨#[c]⟩,H,I.tok _,⟨_,rfl⟩,q⟩) hs
def rIx (K:PySem.W.Frag):R2:=fun x y H Q=>rIxL K x y H Q∨rIxT K x y H Q∨rIxS x y H Q
theorem hJ:IxR X (rIx X.K):=qI.or (sK.or sJ)
theorem lu (its:List Value) (n j:Nat) (u:Value):Obj.mapSeq (·.setIfInBounds j u) { cls:=.type "list", data:=.seq its.toArray n }={ cls:=.type "list", data:=.seq (its.set j u).toArray n }:=by
 simp [Obj.mapSeq]
theorem Inv.lst {pins:List (Addr×Obj)} {σ:St} {H:Hp} {s:Shared} {p:Addr} {xs:List V} (I:Inv X pins σ H s) (h:H p=some (.lst xs)) :
  ∃(its:List Value) (n:Nat),Vals xs its∧s.heap.get? p=some { cls:=.type "list", data:=.seq its.toArray n }∧xs.length≤sizeLine:=by
 obtain ⟨z,its,n,r,e⟩:=I.hok p _ h
 exact ⟨its,n,r,e,z⟩
theorem Inv.lstUpd {pins:List (Addr×Obj)} {σ:St} {H:Hp} {s:Shared} {p:Addr} {xs ys:List V} {its its':List Value} {n n':Nat} {f:Obj→Obj} (I:Inv X pins σ H s) (h:H p=some (.lst xs))
  (ho:s.heap.get? p=some { cls:=.type "list", data:=.seq its.toArray n }) (hf:f { cls:=.type "list", data:=.seq its.toArray n }={ cls:=.type "list", data:=.seq its'.toArray n' }) (r:Vals ys its') (hz:ys.length≤sizeLine) (t:Nat) :
  Inv X pins σ (upd H p (.lst ys)) { s with heap:=s.heap.update p f,toks:=t }:=by
 have e:(s.heap.update p f).get? p=some { cls:=.type "list", data:=.seq its'.toArray n' }:=by
  rw [Heap.get?_update_self f ho (by rw [hf]<;>rfl),hf]
 refine I.write (x:=p) (e:=p) (by rw [h];trivial) (.inl rfl) (fun b u hb q=>(Heap.get?_update_other _ _ (Ne.symm hb)).trans q) ⟨_,e⟩ ?_
 exact ⟨hz,its',n',r,e⟩
def rSetL:V→V→V→Hp→(Hp→Prop)→Prop:=fun o i v H Q=>∃p xs k j,o=.ref p∧i=.int k∧H p=some (.lst xs)∧ixN xs.length k=some j∧Q (upd H p (.lst (xs.set j v)))
theorem iu:PSet X rSetL:=by
 intro pins s σ H o i v ov iv u Q I ro ri rv h
 obtain ⟨p,xs,k,j,rfl,rfl,hp,hj,q⟩:=h
 cases ro
 obtain ⟨t,rfl⟩:=ri
 obtain ⟨its,n,r,ho,hz⟩:=I.lst hp
 obtain ⟨h1,h2,h3,h4⟩:=mi hj
 have hl:=r.length
 have hn:=line63
 have I':Inv X pins σ (upd H p (.lst (xs.set j v))) { s with heap:=s.heap.update p (Obj.mapSeq (·.setIfInBounds j u)) } :=
  I.lstUpd hp ho (lu its n j u) (r.set rv j) (by rw [List.length_set];exact hz) s.toks
 by_cases h0:0≤k
 ·have hk:k.toNat=j:=by
   rw [seqIndex_of h0 h4] at h1
   exact Option.some.inj h1
  exact PySem.W.ki_setAt ho h0 (by omega) (by rw [List.size_toArray,←hl];exact h4) (by rw [hk];exact ⟨_,I',q⟩)
 ·have hk:(k+(its.toArray.size:Int)).toNat=j:=by
   rw [seqIndex_neg (by omega) h3] at h1
   rw [List.size_toArray,←hl]
   exact Option.some.inj h1
  exact PySem.W.ki_setBack ho (by omega) (by rw [List.size_toArray,←hl];exact h3) (by omega) (by rw [hk];exact ⟨_,I',q⟩)
theorem jS (lo hi:Option Int) (n:Nat):(sliceBounds lo hi none n).1=((HT.sIx n 0 lo:Nat):Int)∧(sliceBounds lo hi none n).2.1=((HT.sIx n n hi:Nat):Int)∧(sliceBounds lo hi none n).2.2=1:=by
 refine ⟨?_,?_,rfl⟩
 ·cases lo with
  | none=>simp [sliceBounds,HT.sIx]
  | some i =>
   simp only [sliceBounds,HT.sIx,Option.getD_none,show (1:Int) > 0 by decide,if_true]
   by_cases h:i<0
   ·simp only [h,if_true]<;>omega
   ·simp only [h,if_false]<;>omega
 ·cases hi with
  | none=>simp [sliceBounds,HT.sIx]
  | some i =>
   simp only [sliceBounds,HT.sIx,Option.getD_none,show (1:Int) > 0 by decide,if_true]
   by_cases h:i<0
   ·simp only [h,if_true]<;>omega
   ·simp only [h,if_false]<;>omega
theorem iJ (its:List Value) (lo hi:Option Int):slicePick its.toArray lo hi none=((its.drop (HT.sIx its.length 0 lo)).take (HT.sIx its.length its.length hi-HT.sIx its.length 0 lo)).toArray:=by
 obtain ⟨h1,h2,h3⟩:=jS lo hi its.toArray.size
 unfold slicePick
 rw [h1,h2,h3]
 simp only [sliceRange_one,pick_run,List.size_toArray]<;>rfl
def rSlL (K:PySem.W.Frag):V→Option Int→Option Int→Hp→VK→Prop:=fun x lo hi H Q=>∃a xs,x=.ref a∧SqL K H a xs∧∀p,H p=none→Q (.ref p) (upd H p (.lst (cutV xs lo hi)))
theorem yL:SlR X (rSlL X.K):=by
 intro pins s σ H x v vl vu lo hi sl Q I rx hs pl pu h
 obtain ⟨a,xs,rfl,hx,q⟩:=h
 cases rx
 obtain ⟨its,r,ht,hz⟩:=I.list hx
 have hlen:=r.length
 refine ⟨"list", _,slot_list_getitem.lookup,ht.isList.typeIs,?_⟩
 refine wpAny_getItem_list_slice ht.isList hs pl pu .none (by simp) ?_ (by rw [List.size_toArray]<;>omega)
 rw [iJ,←hlen]
 refine ⟨.ref s.heap.objs.size,_,I.laid (t':=s.toks) (o:=.lst (cutV xs lo hi)) (fun b ob q=>Heap.get?_push_of_some _ q) (Nat.le_refl _) ?_,rfl,q _ (I.hok.fresh (Nat.le_refl _))⟩
 exact ⟨Nat.le_trans (dl xs lo hi) hz,_,0,(r.drop (HT.sIx xs.length 0 lo)).take (HT.sIx xs.length xs.length hi-HT.sIx xs.length 0 lo),Heap.get?_push_size _ rfl⟩
def flatV:V→Bool
 | .non=>true
 | .bl _=>true
 | .int _=>true
 | .str _=>true
 | _=>false
def eqV:V→V→Bool
 | .non,.non=>true
 | .bl a,.bl b=>a == b
 | .bl a,.int b=>(if a then 1 else 0) == b
 | .int a,.bl b=>a == (if b then 1 else 0)
 | .int a,.int b=>a == b
 | .str a,.str b=>a == b
 | _,_=>false
theorem sv {A:Around} {s:Shared} {y x:V} {u v:Value} (ry:RelV y u) (rx:RelV x v) (fy:flatV y=true) (fx:flatV x=true):SeqAt.EqAt A s u v (eqV y x):=by
 cases y with
 | non =>
  cases ry
  cases x with
  | non=>cases rx;exact SeqAt.EqAt.same _
  | bl b=>cases rx;exact SeqAt.EqAt.none_bool b
  | int b=>obtain ⟨t,rfl⟩:=rx;exact SeqAt.EqAt.none_int b t
  | str b=>obtain ⟨t,rfl⟩:=rx;exact SeqAt.EqAt.none_str b t
  | _=>exact absurd (show false=true from fx) Bool.false_ne_true
 | bl a =>
  cases ry
  cases x with
  | non=>cases rx;exact SeqAt.EqAt.bool_none a
  | bl b=>cases rx;exact SeqAt.EqAt.bool_bool a b
  | int b=>obtain ⟨t,rfl⟩:=rx;exact SeqAt.EqAt.bool_int a b t
  | str b=>obtain ⟨t,rfl⟩:=rx;exact SeqAt.EqAt.bool_str a b t
  | _=>exact absurd (show false=true from fx) Bool.false_ne_true
 | int a =>
  obtain ⟨t',rfl⟩:=ry
  cases x with
  | non=>cases rx;exact SeqAt.EqAt.int_none a t'
  | bl b=>cases rx;exact SeqAt.EqAt.int_bool a t' b
  | int b=>obtain ⟨t,rfl⟩:=rx;exact SeqAt.EqAt.int_int a t' b t
  | str b=>obtain ⟨t,rfl⟩:=rx;exact SeqAt.EqAt.int_str a t' b t
  | _=>exact absurd (show false=true from fx) Bool.false_ne_true
 | str a =>
  obtain ⟨t',rfl⟩:=ry
  cases x with
  | non=>cases rx;exact SeqAt.EqAt.str_none a t'
  | bl b=>cases rx;exact SeqAt.EqAt.str_bool a t' b
  | int b=>obtain ⟨t,rfl⟩:=rx;exact SeqAt.EqAt.str_int a t' b t
  | str b=>obtain ⟨t,rfl⟩:=rx;exact SeqAt.EqAt.str_str a t' b t
  | _=>exact absurd (show false=true from fx) Bool.false_ne_true
 | _=>exact absurd (show false=true from fy) Bool.false_ne_true
def eqU (x:V) (u:Value):Bool:=match u with
 | .none=>eqV .non x
 | .bool b=>eqV (.bl b) x
 | .int i _=>eqV (.int i) x
 | .str z _=>eqV (.str z) x
 | _=>false
theorem oM {x y:V} {u:Value} (r:RelV y u) (f:flatV y=true):eqU x u=eqV y x:=by
 cases y with
 | non=>cases r;rfl
 | bl b=>cases r;rfl
 | int i=>obtain ⟨t,rfl⟩:=r;rfl
 | str z=>obtain ⟨t,rfl⟩:=r;rfl
 | _=>exact absurd (show false=true from f) Bool.false_ne_true
theorem jo {x:V}:∀{xs:List V} {us:List Value},Vals xs us→xs.all flatV=true→us.any (eqU x)=xs.any fun y=>eqV y x
 | _,_,.nil,_=>rfl
 | y::xs,u::us,.cons r t,f=>by
  rw [List.all_cons,Bool.and_eq_true] at f
  rw [List.any_cons,List.any_cons,oM r f.1,jo t f.2]
theorem hV {A:Around} {s:Shared} {x:V} {v:Value} (rx:RelV x v) (fx:flatV x=true):∀{xs:List V} {us:List Value},Vals xs us→xs.all flatV=true→∀u∈us,SeqAt.EqAt A s u v (eqU x u)
 | _,_,.nil,_=>fun u hu=>by cases hu
 | y::xs,u::us,.cons r t,f=>fun u' hu=>by
  rw [List.all_cons,Bool.and_eq_true] at f
  rcases List.mem_cons.mp hu with rfl | hu
  ·rw [oM r f.1];exact sv r rx f.1 fx
  ·exact hV rx fx t f.2 u' hu
def inV (x:V) (xs:List V):Bool:=xs.any fun y=>eqV y x
def rIn (K:PySem.W.Frag) (neg:Bool):R2:=fun x y H Q=>∃p xs,y=.ref p∧(SqL K H p xs∨SqT K H p xs)∧flatV x=true∧xs.all flatV=true∧Q (.bl (if neg then !inV x xs else inV x xs)) H
theorem nh:OpR X (compareOp .In) (rIn X.K false):=by
 intro pins s σ H x y v u Q I rx ry h
 obtain ⟨p,xs,rfl,hq,fx,fs,q⟩:=h
 cases ry
 rcases hq with hq | hq
 ·obtain ⟨its,r,pl,hz⟩:=I.list hq
  refine SeqAt.in_listAt (eqU x) pl.isList (fun w hw=>hV rx fx r fs w (by simpa using hw)) ⟨.bl _,H,I,rfl,?_⟩
  rw [show its.toArray.any (eqU x)=its.any (eqU x) by simp,jo r fs]
  exact q
 ·obtain ⟨its,r,pl,hz⟩:=I.tuple hq
  refine SeqAt.in_tupleAt (eqU x) pl (fun w hw=>hV rx fx r fs w (by simpa using hw)) ⟨.bl _,H,I,rfl,?_⟩
  rw [show its.toArray.any (eqU x)=its.any (eqU x) by simp,jo r fs]
  exact q
theorem ay:CallR X (.builtin "len") (fun xs H Q=>∃p ys,xs=[.ref p]∧(SqL X.K H p ys∨SqT X.K H p ys)∧Q (.int ys.length) H):=by
 intro pins s σ H xs us Q I r h
 obtain ⟨p,ys,rfl,hq,q⟩:=h
 obtain ⟨u,rfl,rx⟩:=vals1 r
 cases rx
 have hn:=line63
 rcases hq with hq | hq
 ·obtain ⟨its,r',pl,hz⟩:=I.list hq
  have hlen:=r'.length
  exact Calls.call_len_list pl.isList (by simp only [List.size_toArray]<;>omega) ⟨.int ys.length,H,I.tok _,⟨s.toks+1,by rw [List.size_toArray,hlen]⟩,q⟩
 ·obtain ⟨its,r',pl,hz⟩:=I.tuple hq
  have hlen:=r'.length
  exact len_tuple pl (by simp only [List.size_toArray]<;>omega) ⟨.int ys.length,H,I.tok _,⟨s.toks+1,by rw [List.size_toArray,hlen]⟩,q⟩
theorem jr:CallR X (.type "list") (fun xs H Q=>∃p ys,xs=[.ref p]∧(SqL X.K H p ys∨SqT X.K H p ys)∧∀l,H l=none→Q (.ref l) (upd H l (.lst ys))):=by
 intro pins s σ H xs us Q I r h
 obtain ⟨p,ys,rfl,hq,q⟩:=h
 obtain ⟨u,rfl,rx⟩:=vals1 r
 cases rx
 have fin:∀(its:List Value),Vals ys its→ys.length≤sizeLine→∀(h':Heap) (c':Nat),(∀b o',s.heap.get? b=some o'→h'.get? b=some o') →
   h'.get? s.heap.objs.size=some { cls:=.type "list", dict:=none,data:=.seq its.toArray c',slots:=#[] }→EP X pins σ Q (.ref s.heap.objs.size) { s with heap:=h' }:=fun its r' hz h' c' kp e =>
  ⟨.ref s.heap.objs.size,_,I.laid (t':=s.toks) kp (Nat.le_refl _) (show ObjOk X.prog X.w _ h' _ (.lst ys) from ⟨hz,its,c',r',e⟩),rfl,q _ (I.hok.fresh (Nat.le_refl _))⟩
 rcases hq with hq | hq
 ·obtain ⟨its,r',pl,hz⟩:=I.list hq
  have hlen:=r'.length
  obtain ⟨o,ho,hc,n,hd⟩:=pl.isList
  exact call_list_seq p (.inl rfl) ho hc hd (fun h' c' kp e=>fin its r' hz h' c' kp e) (by simp only [List.size_toArray]<;>omega)
 ·obtain ⟨its,r',pl,hz⟩:=I.tuple hq
  have hlen:=r'.length
  obtain ⟨o,ho,hc,n,hd⟩:=pl
  exact call_list_seq p (.inr rfl) ho hc hd (fun h' c' kp e=>fin its r' hz h' c' kp e) (by simp only [List.size_toArray]<;>omega)
theorem bf:CallR X (.type "tuple") (fun xs H Q=>∃p ys,xs=[.ref p]∧((SqL X.K H p ys∧∀l,H l=none→Q (.ref l) (upd H l (.tup ys)))∨(SqT X.K H p ys∧Q (.ref p) H))):=by
 intro pins s σ H xs us Q I r h
 obtain ⟨p,ys,rfl,h⟩:=h
 obtain ⟨u,rfl,rx⟩:=vals1 r
 cases rx
 rcases h with ⟨hq,q⟩ | ⟨hq,q⟩
 ·obtain ⟨its,r',pl,hz⟩:=I.list hq
  have hlen:=r'.length
  refine call_tuple_list pl.isList (fun h' kp=>?_) (by simp only [List.size_toArray]<;>omega)
  have I1:Inv X pins σ H { s with heap:=h' }:=I.kept (t':=s.toks) kp
  have I2:Inv X pins σ (upd H h'.objs.size (.tup ys)) { s with heap:=h'.push { cls:=.type "tuple", data:=.seq its.toArray } } :=
   I1.laid (t':=s.toks) (fun b o e=>Heap.get?_push_of_some _ e) (Nat.le_refl _) (show ObjOk X.prog X.w _ _ _ (.tup ys) from ⟨hz,its,r',TupD.new _ _⟩)
  exact ⟨.ref h'.objs.size,_,I2,rfl,q _ (I1.hok.fresh (Nat.le_refl _))⟩
 ·obtain ⟨its,r',pl,hz⟩:=I.tuple hq
  exact call_tuple_same pl ⟨.ref p,H,I,rfl,q⟩
def tyV (K:PySem.W.Frag) (T:String) (x:V) (H:Hp):Prop:=match x with
 | .str _=>T = "str"
 | .int _=>T = "int"
 | .ref p=>(T = "list" ∧ ∃xs,SqL K H p xs)∨(T = "tuple" ∧ ∃o,K.lookup p=some o∧o.cls=.type "tuple" ∧ o.dict=none) ∨
   (T = "dict" ∧ ((∃kvs,H p=some (.dK kvs))∨∃kvs,H p=some (.dT kvs)))∨(T = "set" ∧ ∃S n,H p=some (.set S n))
 | _=>False
theorem u8 {pins:List (Addr×Obj)} {σ:St} {H:Hp} {s:Shared} {T:String} {x:V} {v:Value} (I:Inv X pins σ H s) (r:RelV x v) (ty:tyV X.K T x H) :
  s.TypeIs v T∧∀a,v=.ref a→∃ob,s.heap.get? a=some ob∧ob.dict=none:=by
 cases x with
 | str z =>
  obtain ⟨t,rfl⟩:=r
  cases (show T = "str" from ty)
  exact ⟨typeIs_str s z t,fun _ e=>nomatch e⟩
 | int i =>
  obtain ⟨t,rfl⟩:=r
  cases (show T = "int" from ty)
  exact ⟨typeIs_int s i t,fun _ e=>nomatch e⟩
 | ref p =>
  cases r
  rcases ty with ⟨rfl,xs,hq⟩ | ⟨rfl,o,hk,hc,hd⟩ | ⟨rfl,hk⟩ | ⟨rfl,S,n,hk⟩
  ·obtain ⟨its,_,pl,_⟩:=I.list hq
   refine ⟨pl.isList.typeIs,fun a e=>?_⟩
   cases e
   obtain ⟨o,n,e,c,hd,_⟩:=pl
   exact ⟨o,e,hd⟩
  ·refine ⟨⟨o,I.kIn p o hk,hc⟩,fun a e=>?_⟩
   cases e
   exact ⟨o,I.kIn _ o hk,hd⟩
  ·have z:∃o,s.heap.get? p=some o∧o.ExactDict:=by
    rcases hk with ⟨kvs,hk⟩ | ⟨kvs,hk⟩
    ·obtain ⟨_,_,_,_,o,_,_,e,ex,_⟩:=I.hok p _ hk
     exact ⟨o,e,ex⟩
    ·obtain ⟨_,_,_,_,o,_,_,e,ex,_⟩:=I.hok p _ hk
     exact ⟨o,e,ex⟩
   obtain ⟨o,e,ex⟩:=z
   refine ⟨⟨o,e,ex.1⟩,fun a e2=>?_⟩
   cases e2
   exact ⟨o,e,ex.2.1⟩
  ·obtain ⟨o,_,_,_,e,ex,_⟩:=I.hok p _ hk
   refine ⟨⟨o,e,ex.1⟩,fun a e2=>?_⟩
   cases e2
   exact ⟨o,e,ex.2.1⟩
 | _=>exact False.elim ty
def tBM (K:PySem.W.Frag) (T:String) (r:V→List V→Hp→VK→Prop) (to:TE) (t:TA):TE:=fun σ H Q=>to σ H fun x H1=>tyV K T x H1∧t σ H1 fun xs H2=>r x xs H2 Q
variable {o e:Expr} {es:List Expr} {to:TE} {t:TA} {name:Str} {apos cpos:Pos} {T id:String} {r:V→List V→Hp→VK→Prop}
theorem fB (pa:PlainAttrs T) (slot:Slot T name id) (hty:typeOf (.builtin id)=pure (.type "method_descriptor")) (hm:MtR X id r) (ho:PE X o to) (ha:PA X (e::es) t)
  (hbase:attributeBase o name X.env (eval o X.env)=eval o X.env:=by rfl)
  (hfew:((backTo cpos (starEach (e::es) X.env)).all (fun x=>!x.1)&&(backToKw cpos (keywordEach [] X.env)).all (fun x=>x.1.isSome)
   && decide ((e::es).length+([]:List Keyword).length+(if ([]:List Keyword).isEmpty then 0 else 1)<30))=true:=by rfl)
  (hline:(apos.endLine == cpos.line)=true:=by rfl) (hs:starEach (e::es) X.env=(false,eval e X.env)::starEach es X.env:=by rfl) (hplain:(backTo cpos (starEach es X.env)).any (·.1)=false:=by rfl) :
  PE X (.Call (.Attribute o name apos) (e::es) [] cpos) (tBM X.K T r to t):=by
 intro pins s σ H Q I h
 refine wpAny_Call_method_late hbase hfew hline rfl (thn (ho pins s σ H _ I h) fun v s1 ⟨x,H1,I1,r1,ty,q1⟩=>?_)
 obtain ⟨h1,h2⟩:=u8 I1 r1 ty
 refine ⟨T,id,pa,slot,hty,h1,h2,?_⟩
 have hA:=ha cpos pins s1 σ H1 _ I1 q1
 rw [hs] at hA ⊢
 refine Calls.callWith_builtin (by show (false||(backTo cpos (starEach es X.env)).any (·.1))=false;rw [hplain]<;>rfl) (Calls.evalArgs_plain ?_)
 exact thn hA fun us s2 ⟨vs,H2,I2,r2,q2⟩=>hm pins s2 σ H2 x vs v us Q I2 r1 r2 q2
end
end L2
namespace L2
open PySem PySem.Spec PyProof.Rows
def MtM (X:Cx) (id:String) (r:V→List V→Hp→VK→Prop):Prop :=
 ∀(pins:List (Addr×Obj)) (s:Shared) (σ:St) (H:Hp) (x:V) (xs:List V) (v:Value) (us:List Value) (Q:VK),Inv X pins σ H s→RelV x v→Vals xs us→r x xs H Q →
  wpAny (model X.prog X.w) X.A (call (.builtin id) (v::us)) (EP X pins σ Q) X.xe s
theorem Vals.one:∀{x:V} {us:List Value},Vals [x] us→∃u,us=[u]∧RelV x u
 | _,_,.cons r .nil=>⟨_,rfl,r⟩
theorem Vals.zero:∀{us:List Value},Vals [] us→us=[]
 | _,.nil=>rfl
theorem Vals.reverse {xs:List V} {us:List Value} (h:Vals xs us):Vals xs.reverse us.reverse:=by
 induction h with
 | nil=>exact .nil
 | cons r t ih=>rw [List.reverse_cons,List.reverse_cons];exact Vals.append ih (.cons r .nil)
section
variable {X:Cx} {pins:List (Addr×Obj)} {σ:St} {H:Hp} {s:Shared} {l b:Addr} {xs ys zs:List V}
theorem Inv.lset {its its':List Value} {n:Nat} {f:Array Value→Array Value} {t':Nat} (I:Inv X pins σ H s) (hH:H l=some (.lst xs))
  (e:s.heap.get? l=some { cls:=.type "list", data:=.seq its.toArray n }) (hf:f its.toArray=its'.toArray) (hv:Vals ys its') (hz:ys.length≤sizeLine) :
  Inv X pins σ (upd H l (.lst ys)) { s with heap:=s.heap.update l (Obj.mapSeq f),toks:=t' }:=by
 have q:=PySem.IsL.update e f
 rw [hf] at q
 refine I.write (x:=l) (e:=l) (by rw [hH];exact trivial) (.inl rfl) (fun b' u hb hu=>(Heap.get?_update_other s.heap (Obj.mapSeq f) (Ne.symm hb)).trans hu) ⟨_,q⟩ ?_
 exact ⟨hz,its',_,hv,q⟩
theorem Inv.lnew {its:List Value} {t':Nat} (I:Inv X pins σ H s) (hv:Vals ys its) (hz:ys.length≤sizeLine) :
  Inv X pins σ (upd H s.heap.objs.size (.lst ys)) { s with heap:=s.heap.push { cls:=.type "list", data:=.seq its.toArray },toks:=t' } :=
 I.laid (fun _ _ q=>Heap.get?_push_of_some _ q) (Nat.le_refl _) ⟨hz,its,0,hv,Heap.get?_push_size _ rfl⟩
theorem Inv.fresh (I:Inv X pins σ H s):H s.heap.objs.size=none:=I.hok.fresh (Nat.le_refl _)
theorem Inv.lstM (I:Inv X pins σ H s) (hH:H l=some (.lst xs)):xs.length≤sizeLine∧∃(its:List Value) (n:Nat),Vals xs its∧xs.length=its.length∧s.heap.get? l=some { cls:=.type "list", data:=.seq its.toArray n }:=by
 obtain ⟨z,its,n,r,e⟩:=I.hok l _ hH
 exact ⟨z,its,n,r,r.length,e⟩
end
section
variable {X:Cx}
def rAppend:V→List V→Hp→VK→Prop:=fun x vs H Q=>∃l xs y,x=.ref l∧vs=[y]∧H l=some (.lst xs)∧xs.length<sizeLine∧Q .non (upd H l (.lst (xs++[y])))
theorem bg:MtM X "list.append" rAppend:=by
 intro pins s σ H x vs v us Q I rx rv h
 obtain ⟨l,xs,y,rfl,rfl,hH,hz,q⟩:=h
 cases rx
 obtain ⟨u,rfl,ru⟩:=rv.one
 obtain ⟨z,its,n,r,hl,e⟩:=I.lstM hH
 refine call_meets F.slot_list_append ⟨_,e,rfl⟩ F.entry_list_append (F.args_list_append_2 _ _) (PySem.list_append l its.toArray n u (by rw [List.size_toArray];omega)) ⟨e,?_⟩
 refine ⟨.non,_,I.lset (its':=its++[u]) hH e (by simp) (r.append (.cons ru .nil)) ?_,rfl,q⟩
 rw [List.length_append,List.length_singleton]
 omega
end
end L2
namespace Att
open PySem PySem.W PySem.Calls PyProof.Rows
theorem f8 {P:Params} {h:Heap}:∀(ns:List Int) (vs:List Value),WellAll P h vs (ns.map WData.int)→IntsAre vs ns:=by
 intro ns
 induction ns with
 | nil =>
  intro vs w
  rw [List.map_nil] at w
  cases w
  exact .nil
 | cons n ns ih =>
  intro vs w
  rw [List.map_cons] at w
  cases w with
  | cons a b =>
   cases a
   exact .cons _ _ (ih _ b)
theorem nD {l:OpenLaw} {n:Nat} (hn:l.most=some n) {P:Params} {h:Heap} {args:List WData} {vals:List Value}
  (hpre:l.row.toRowW.claim.pre args=true) (hwl:WellAll P h vals args) :
  ∃a vs ns,vals=[Value.ref a]∧args=[WData.list (ns.map WData.int)]∧h.get? a=some { cls:=.type "list", data:=.seq vs.toArray }∧IntsAre vs ns∧ns.length≤n:=by
 have hsh:WShape.hasAll [] args [.list .int]=true:=(pre_splitW hpre).1
 have hc:l.pre.holds [] { args:=args }=true:=(pre_splitW hpre).2
 obtain ⟨d,r,rfl,h1,h2⟩:=hasAllW_cons hsh
 obtain rfl:=hasAllW_nil h2
 obtain ⟨xs,rfl,h3⟩:=hasW_list h1
 obtain ⟨ns,rfl⟩:=items_int h3
 have hlen:ns.length≤n:=by
  unfold OpenLaw.pre at hc
  have h4:(WTm.not (.lt (.lit (.int (n:Int))) (.len (.arg 0)))).holds [] { args:=[.list (ns.map .int)] }=true:=by
   have h4:=(holds_andW hc).1
   rw [hn] at h4
   exact h4
  have h5:=condW_of h4 (w_not (w_lt w_lit (w_len_list (w_arg rfl))))
  rw [List.length_map] at h5
  refine Nat.le_of_not_lt fun q=>?_
  have q':(n:Int)<((ns.length:Nat):Int):=by omega
  first
   | (rw [decide_eq_true q'] at h5;exact absurd h5 (by decide))
   | (simp at h5;omega)
 cases hwl with
 | cons w1 w2 =>
  cases w2
  cases w1 with
  | list ho hall=>exact ⟨_,_,ns,rfl,rfl,ho,f8 ns _ hall,hlen⟩
theorem nu (l:OpenLaw) (args:List WData):l.row.toRowW.claim.post args (.bool true) args=true :=
 postW_of (r:=l.row.toRowW) (X:=(true == true))
  (show WShape.has [] (.bool true) .bool=true by first | rfl | decide | simp [WShape.has,WShape.arms,WShape.armsAll])
  (show (WTm.eq .res (.lit (.bool true))).value [] { args:=args,res:=some (.bool true),after:=args }=some (.bool (true == true)) from w_eq_bool (w_res rfl) w_lit) rfl
theorem attach_call {l:OpenLaw} {n:Nat} {q:Program} {loose:List Str} {XP:(Str→Option Value)→Heap→Prop} {YP:World→Heap→Prop} {d:DefRec}
  (hn:l.most=some n) (hdf:d.params.defaults=[])
  (call:∀(w:World) (s₀ s₁:Shared) (mg mb:Str→Option Value) (fa:Addr) (o:Obj) (pm cd doc:Value) (a:Addr) (vs:List Value) (ns:List Int),
   Ground q loose [] XP w s₀ mg mb s₁.heap→YP w s₁.heap →
   s₁.heap.get? fa=some o→o.data=.func (docDef d.name d.params d.body d.scope pm cd doc)→s₁.heap.CodeRec cd d.name→mg d.name=some (.ref fa) →
   s₁.heap.get? a=some { cls:=.type "list", data:=.seq vs.toArray }→IntsAre vs ns→ns.length≤n→s₁.gens=#[] →
   codeAny (model l.prog w) callerA (.call (.ref fa) ⟨[.ref a],[]⟩) (fun r s'=>r=.ok (.ret (.bool true))∧OldK s₁.heap s'.heap∧s'.os=s₁.os∧AllBare s'.gens) s₁) :
  WalkO q loose XP YP l.row.toRowW d [] (fun f vs=>PySem.call f vs):=by
 intro w s₀ s₁ mg mb G Y fa o pm cd doc dV kV ho hd hcd hD hmg hg args vals as hpre hlay hrd hwl hlo
 obtain rfl:dV=.none:=Dflts.none hD hdf
 obtain rfl:kV=.none:=Dflts.noKw hD
 obtain ⟨a,vs,ns,rfl,rfl,hobj,hints,hlen⟩:=nD hn hpre hwl
 refine enter_call (codeAny_mono (call w s₀ s₁ mg mb fa o pm cd doc a vs ns G Y ho (fd_plain hd) hcd hmg hobj hints hlen hg) fun r s' hq=>?_)
 obtain ⟨rfl,h2,h3,h4⟩:=hq
 exact ⟨.inl ⟨.bool true,.bool true,[],rfl,fun _=>rfl,.bool true,nu l _,fun _=>⟨List.Pairwise.nil,fun _ hm=>(nomatch hm)⟩⟩,h2,h3,h4⟩
end Att
namespace L2
open PySem PySem.Spec PyProof.Rows
theorem ef:∀{vs:List Value} {ns:List Int},IntsAre vs ns→Vals (ns.map V.int) vs
 | _,_,.nil=>.nil
 | _,_,.cons n t h=>.cons ⟨t,rfl⟩ (ef h)
def Only (H:Hp):Prop:=∀b,H b=none∨∃o xs,H b=some (.frz o (.lst xs))
theorem oZ {P:Program} {w:World} {K:PySem.W.Frag} {mg mb:Str→Option Value} {CX:CXT} {k:Nat} {fa a:Addr} {fd:FuncData} {x:Str} {sp:Sp} {s₁:Shared} {vs:List Value} {ns:List Int}
  (KX:K.In s₁.heap) (hns:s₁.heap.Ns mainGlobals mg) (hb:s₁.heap.Ns builtinsNs mb) (hbb:∀x:Str,x ≠ "__name__" → mb x=bootBuiltins x) (hlim:s₁.heap.NoLimit) (hg:s₁.gens=#[])
  (ha:s₁.heap.get? a=some { cls:=.type "list", data:=.seq vs.toArray }) (hi:IntsAre vs ns) (hl:ns.length≤sizeLine) (hr:Room k callerA)
  (F:∀base:Heap,K.In base→base.Ns mainGlobals mg→FnOk P w K mg base CX k fa fd [x] sp) (hbind:∀(s:Shared) (u:Value),BindsTo s fd ⟨[u],[]⟩ [(x,u)])
  (hsp:∀H:Hp,Only H→SqL K H a (ns.map V.int)→sp [.ref a] H (fun v _=>v=.bl true) fun _ _ _=>False)
  (hCX:∀H e s',CX [] H s₁ (fun _ _ _=>False) e s'→False) :
  codeAny (model P w) callerA (.call (.ref fa) ⟨[.ref a],[]⟩) (fun r s'=>r=.ok (.ret (.bool true))∧OldK s₁.heap s'.heap∧s'.os=s₁.os∧AllBare s'.gens) s₁:=by
 have rv:=ef hi
 have lenV:=hi.length
 have core:∀H:Hp,Only H→SqL K H a (ns.map V.int)→HOk P w H s₁.heap→(∀b,H b≠none→b=a)→(H a≠none→K.lookup a=none) →
   codeAny (model P w) callerA (.call (.ref fa) ⟨[.ref a],[]⟩) (fun r s'=>r=.ok (.ret (.bool true))∧OldK s₁.heap s'.heap∧s'.os=s₁.os∧AllBare s'.gens) s₁:=by
  intro H hO hS hok hA hK
  have base_of:∀{b:Addr} {o:Obj},s₁.heap.get? b=some o→H b=none→(hidT s₁.heap H).get? b=some o:=fun e n=>oQ e n
  have noA:∀{b:Addr} {o:Obj} {es:Array DictEntry} {ep:Nat},s₁.heap.get? b=some o→o.data=.dict es ep→H b=none:=fun {b o es ep} e d=>by
   cases q:H b with
   | none=>rfl
   | some u =>
    have e':b=a:=hA b (by rw [q];simp)
    subst e'
    rw [ha] at e;cases e
    have d':Data.seq vs.toArray _=Data.dict es ep:=d
    cases d'
  have nsK:∀{b:Addr} {m:Str→Option Value},s₁.heap.Ns b m→(hidT s₁.heap H).Ns b m:=fun {b m} ⟨o,es,ep,e,d,r⟩=>⟨o,es,ep,base_of e (noA e d),d,r⟩
  have hKb:K.In (hidT s₁.heap H):=fun b o e=>base_of (KX b o e) (by
   cases q:H b with
   | none=>rfl
   | some u =>
    have e':b=a:=hA b (by rw [q];simp)
    subst e'
    rw [hK (by rw [q];simp)] at e;cases e)
  have hM:Mod K mg (hidT s₁.heap H):=⟨hKb,nsK hns,⟨mb,nsK hb,hbb⟩,let ⟨mc,h1,h2⟩:=hlim;⟨mc,nsK h1,h2⟩⟩
  have e0:Env0 P w K mg (hidT s₁.heap H) callerA [] s₁ H:=⟨rfl,hM,fun b o e=>qR e,Nat.le_of_eq (mU _ _),trivial,fun b hb=>absurd (show b∈([]:List Addr) from hb) (by simp),hok,.of_eq hg⟩
  refine codeAny_mono ((F _ hKb (nsK hns)).run callerA [] s₁ H ⟨[.ref a],[]⟩ [.ref a] [.ref a] _ _ hr e0 (hbind s₁ (.ref a)) (.cons rfl .nil) (hsp H hO hS)) fun r s' h=>?_
  cases r with
  | error e=>exact (hCX H e s' h).elim
  | ok fl =>
   cases fl with
   | next=>exact False.elim h
   | brk=>exact False.elim h
   | cont=>exact False.elim h
   | ret u =>
    obtain ⟨v,H',os,bare,un,hok',r',q⟩:=h
    have q':v=.bl true:=q
    subst q'
    obtain rfl:u=Value.bool true:=r'
    refine ⟨rfl,OldK.of_keep fun b o e=>?_,os,bare⟩
    cases q:H b with
    | none=>exact un.keep b o e q (by intro z;exact absurd (show b∈([]:List Addr) from z) (by simp)) (by simp)
    | some u =>
     rcases hO b with z | ⟨ob,xs,z⟩
     ·rw [q] at z;cases z
     ·have z2:=un.frzs b ob _ z
      obtain ⟨e1,_⟩:=hok b _ z
      obtain ⟨e2,_⟩:=hok' b _ z2
      rw [e] at e1;cases e1
      exact e2
 cases hk:K.lookup a with
 | some o =>
  have e:=KX a o hk
  rw [ha] at e
  cases e
  refine core (fun _=>none) (fun _=>.inl rfl) (.inr ⟨_,vs.toArray,_,hk,rfl,rfl,rfl,by rw [List.size_toArray,lenV];exact hl,by simpa using rv⟩) (fun b u z=>by have z':(none:Option HO)=some u:=z;cases z') (fun b z=>absurd rfl z) fun z=>absurd rfl z
 | none =>
  refine core (fun b=>if b=a then some (.frz { cls:=.type "list", data:=.seq vs.toArray } (.lst (ns.map V.int))) else none) (fun b=>?_) (.inl (.inr ⟨{ cls:=.type "list", data:=.seq vs.toArray },if_pos rfl⟩)) (fun b u z=>?_) (fun b z=>?_) fun _=>hk
  ·by_cases hb:b=a
   ·exact .inr ⟨_,_,if_pos hb⟩
   ·exact .inl (if_neg hb)
  ·by_cases hb:b=a
   ·have z':=(if_pos hb).symm.trans z
    cases z'
    subst hb
    exact ⟨ha,by rw [List.length_map];exact hl,vs,_,rv,ha⟩
   ·have z':=(if_neg hb).symm.trans z
    cases z'
  ·by_cases hb:b=a
   ·exact hb
   ·exact absurd (if_neg hb) z
end L2
namespace L2
open PySem PySem.Spec PyProof.Rows
theorem rK {l:PySem.W.OpenLaw} {n k:Nat} {q:Program} {loose:List Str} {XP:(Str→Option Value)→Heap→Prop} {YP:World→Heap→Prop} {d:DefRec} {K:Params→PySem.W.Frag} {CX:World→CXT} {sp:World→Sp} {x:Str}
  (hn:l.most=some n) (hn2:n≤sizeLine) (hdf:d.params.defaults=[]) (hr:Room k callerA)
  (hY:∀(w:World) (h:Heap),YP w h→(K w.params).In h)
  (F:∀(w:World) (mg:Str→Option Value) (fa:Addr) (h:Heap),(K w.params).In h→h.Ns mainGlobals mg→mg d.name=some (.ref fa) →
   ∃fd:FuncData,(∀(s:Shared) (u:Value),BindsTo s fd ⟨[u],[]⟩ [(x,u)]) ∧
    ∀base:Heap,(K w.params).In base→base.Ns mainGlobals mg→FnOk l.prog w (K w.params) mg base (CX w) k fa fd [x] (sp w))
  (hsp:∀(w:World) (H:Hp) (a:Addr) (ns:List Int),ns.length≤n→Only H→SqL (K w.params) H a (ns.map V.int)→sp w [.ref a] H (fun v _=>v=.bl true) fun _ _ _=>False)
  (hCX:∀(w:World) (H:Hp) (s:Shared) (e:Value) (s':Shared),CX w [] H s (fun _ _ _=>False) e s'→False) :
  PySem.W.WalkO q loose XP YP l.row.toRowW d [] (fun f vs=>PySem.call f vs):=by
 refine Att.attach_call hn hdf fun w s₀ s₁ mg mb fa o pm cd doc a vs ns G Y ho hd hcd hmg hobj hints hlen hg=>?_
 have KX:=hY w _ Y
 obtain ⟨fd,hb,hF⟩:=F w mg fa _ KX G.T.g hmg
 exact oZ KX G.T.g G.T.b G.T.builtins G.T.nolimit hg hobj hints (Nat.le_trans hlen hn2) hr hF hb (fun H hO hS=>hsp w H a ns hlen hO hS) fun H e s'=>hCX w H s₁ e s'
end L2
namespace L2
open PySem PySem.Spec PyProof.Rows
def inClass (s:Stmt) (j:Nat):Stmt:=match s with
 | .ClassDef _ _ _ body _ _ _ _ _ _ _=>body.getD j (.Pass ⟨0,0,0,0⟩)
 | _=>.Pass ⟨0,0,0,0⟩
def defArgs (s:Stmt):Arguments:=match s with
 | .FunctionDef _ a _ _ _ _ _ _ _ _=>a
 | _=>{ posonlyargs:=[],args:=[],vararg:=none,kwonlyargs:=[],kw_defaults:=[],kwarg:=none,defaults:=[] }
def defBody (s:Stmt):List Stmt:=match s with
 | .FunctionDef _ _ b _ _ _ _ _ _ _=>b
 | _=>[]
def defScope (s:Stmt):Scope:=match s with
 | .FunctionDef _ _ _ _ _ _ sc _ _ _=>sc
 | _=>{ kind:=.function,names:=[],isGenerator:=false,isCoroutine:=false }
abbrev CX0:CXT:=fun _ _ _ _ _ _=>False
structure Fun (K:PySem.W.Frag) (x qual:Str) (st:Stmt) (f:Addr) (fd:FuncData):Prop where
 ex:∃(oc:Value) (od:Option Addr) (kV doc pm:Value) (an:Option Addr) (cdv ct:Value) (osl:Array (Option Value)),
  fd=PySem.W.fnOf x qual (defArgs st) (defBody st) (defScope st) .none kV doc pm an cdv ct∧K.lookup f=some ⟨oc,od,.func fd,osl⟩∧PySem.W.codeIn K cdv qual=true
 kp:PySem.W.keepIn K (.ref f)=true
section
variable {P:Program} {w:World} {K:PySem.W.Frag} {mg:Str→Option Value} {base:Heap}
theorem Fun.ok {x qual:Str} {st:Stmt} {f:Addr} {fd:FuncData} {N ps:List Str} {k:Nat} {sp:Sp} (F:Fun K x qual st f fd) (S:FnScope N ps (defScope st)) (len:∀vs H Q E,sp vs H Q E→vs.length=ps.length)
  (hbody:∀(cdv:Value) (A:Around) (outer:List Env) (s:Shared) (H:Hp) (vs:List V) (Q:VK) (E:XK),Room k (A.deeper (envOfC qual (defScope st) s.heap.objs.size f cdv))→sp vs H Q E →
   ∃t,PSs (cxOf CX0 P w K mg base N qual (defScope st) f cdv A outer s H E).nox (defBody st) t∧t { nx:=fun _ H'=>Q .non H',rt:=Q } (start N vs) H):FnOk P w K mg base CX0 (k+1) f fd ps sp:=by
 obtain ⟨oc,od,kV,doc,pm,an,cdv,ct,osl,rfl,lk,hcd⟩:=F.ex
 refine rQ lk hcd S len fun A outer s H vs Q E hr hsp=>?_
 obtain ⟨t,h,q⟩:=hbody cdv A outer s H vs Q E hr hsp
 exact ⟨t,h.nox,q⟩
theorem Fun.binds {x qual:Str} {st:Stmt} {f:Addr} {fd:FuncData} {ps:List Str} (F:Fun K x qual st f fd)
  (h:∀(kV doc pm:Value) (an:Option Addr) (cdv ct:Value) (us:List Value),us.length=ps.length→bindArgs (PySem.W.fnOf x qual (defArgs st) (defBody st) (defScope st) .none kV doc pm an cdv ct) ⟨us,[]⟩=pure (ps.zip us)):Binds K fd ps []:=by
 obtain ⟨oc,od,kV,doc,pm,an,cdv,ct,osl,rfl,lk,hcd⟩:=F.ex
 exact .all (h kV doc pm an cdv ct)
theorem jv {x qual:Str} {st:Stmt} {f:Addr} {oc:Value} {od an:Option Addr} {osl:Array (Option Value)} {kV doc pm cdv ct:Value} (l:K.lookup f=some ⟨oc,od,.func (PySem.W.fnOf x qual (defArgs st) (defBody st) (defScope st) .none kV doc pm an cdv ct),osl⟩)
  (c:PySem.W.codeIn K cdv qual=true) (k:PySem.W.keepIn K (.ref f)=true):Fun K x qual st f (PySem.W.fnOf x qual (defArgs st) (defBody st) (defScope st) .none kV doc pm an cdv ct):=⟨⟨oc,od,kV,doc,pm,an,cdv,ct,osl,rfl,l,c⟩,k⟩
end
section
variable {X:Cx}
theorem pv (i:Nat) {x:Str} {pos:Pos} (hN:X.N[i]?=some x:=by rfl) (hv:Vis X.env.scope x:=by first | exact Or.inl rfl | exact Or.inr (Or.inl rfl) | exact Or.inr (Or.inr rfl)) (hd:(x == ("__debug__" : Str))=false:=by decide)
  (hcd:(x == ("__classdict__" : Str))=false:=by decide):PE X (.Name x pos) (tVar i):=bz hN hv hd hcd
end
theorem iteF {A B:Prop} (h:B):if false=true then A else B:=by
 rw [if_neg Bool.false_ne_true]
 exact h
theorem iteT {A B:Prop} (h:A):if true=true then A else B:=by
 rw [if_pos rfl]
 exact h
def Same (H H':Hp):Prop:=∀b o,H b=some o→H' b=some o
theorem Same.refl (H:Hp):Same H H:=fun _ _ h=>h
theorem Same.trans {H H1 H2:Hp} (a:Same H H1) (b:Same H1 H2):Same H H2:=fun c o h=>b c o (a c o h)
theorem Same.free {H H':Hp} (e:Same H H') {l:Addr} (h:H' l=Option.none):H l=Option.none:=by
 cases q:H l with
 | none=>rfl
 | some o =>
  rw [e l o q] at h
  cases h
theorem Same.seq {K:PySem.W.Frag} {H H':Hp} {a:Addr} {xs:List V} (e:Same H H') (h:SqL K H a xs):SqL K H' a xs:=by
 rcases h with (h | ⟨o,h⟩) | h
 ·exact .inl (.inl (e _ _ h))
 ·exact .inl (.inr ⟨o,e _ _ h⟩)
 ·exact .inr h
end L2

end
section
namespace VP
open PySem
inductive D where
 | non
 | bl (b:Bool)
 | int (i:Int)
 | str (x:Str)
 | tup (xs:List D)
 | lst (xs:List D)
 | dct (ks:List (Sum Int Str)) (vs:List D)
 | ins (c:Str) (ns:List Str) (vs:List D)
 | exn (c:Str) (ns:List Str) (vs:List D)
 deriving Inhabited
inductive Sl where
 | no
 | sh (d:D)
 | ow (d:D)
 | io (d:D)
 deriving Inhabited
abbrev Rho:=List Sl
structure Xn where
 cls:Str
 ns:List Str
 vs:List D
inductive Res (α:Type) where
 | ok (a:α) (r:Rho)
 | exc (x:Xn) (r:Rho)
 | no
abbrev M (α:Type):=Rho→Res α
inductive Fl where
 | nx | bk | ct | rt (d:D)
def ret {α:Type} (a:α):M α:=fun r=>.ok a r
def bnd {α β:Type} (f:M α) (g:α→M β):M β:=fun r =>
 match f r with
 | .ok a r'=>g a r'
 | .exc x r'=>.exc x r'
 | .no=>.no
def stuck {α:Type}:M α:=fun _=>.no
def opt {α:Type}:Option α→M α
 | some a=>ret a
 | none=>stuck
def mVar (i:Nat):M D:=fun r=>match r[i]? with
 | some (.sh d)=>.ok d r
 | _=>.no
def mRd (i:Nat):M D:=fun r=>match r[i]? with
 | some (.sh d)=>.ok d r
 | some (.ow d)=>.ok d r
 | some (.io d)=>.ok d r
 | _=>.no
def free:Option Sl→Bool
 | some (.io _)=>false
 | some _=>true
 | none=>false
def mSet (i:Nat) (d:D):M Unit:=fun r=>if free r[i]? then .ok () (r.set i (.sh d)) else .no
def mOwn (i:Nat) (d:D):M Unit:=fun r=>if free r[i]? then .ok () (r.set i (.ow d)) else .no
def own:Option Sl→Option D
 | some (.ow d)=>some d
 | some (.io d)=>some d
 | _=>none
def putS (i:Nat) (d:D) (r:Rho):Rho:=match r[i]? with
 | some (.ow _)=>r.set i (.ow d)
 | some (.io _)=>r.set i (.io d)
 | _=>r
def mFz (i:Nat):M Unit:=fun r=>match r[i]? with
 | some (.ow d)=>.ok () (r.set i (.sh d))
 | some (.sh d)=>.ok () r
 | _=>.no
def mUpd (i:Nat) (g:D→Option D):M Unit:=fun r=>match own r[i]? with
 | some d=>match g d with
  | some d'=>.ok () (putS i d' r)
  | none=>.no
 | none=>.no
def mC (d:D):M D:=ret d
def m1 (g:D→Option D) (a:M D):M D:=bnd a fun x=>opt (g x)
def m2 (g:D→D→Option D) (a b:M D):M D:=bnd a fun x=>bnd b fun y=>opt (g x y)
def mL:List (M D)→M (List D)
 | []=>ret []
 | f::fs=>bnd f fun x=>bnd (mL fs) fun xs=>ret (x::xs)
def mF (g:List D→Option D) (as:List (M D)):M D:=bnd (mL as) fun xs=>opt (g xs)
def tB (a:M D):M Bool:=bnd a fun x=>match x with
 | .bl b=>ret b
 | _=>stuck
def tNot (a:M Bool):M Bool:=bnd a fun b=>ret (!b)
def tAnd (a b:M Bool):M Bool:=bnd a fun x=>if x then b else ret false
def tOr (a b:M Bool):M Bool:=bnd a fun x=>if x then ret true else b
def mOfT (a:M Bool):M D:=bnd a fun b=>ret (.bl b)
def mIf (c:M Bool) (a b:M D):M D:=bnd c fun x=>if x then a else b
def sSeq (f g:M Fl):M Fl:=bnd f fun k=>match k with
 | .nx=>g
 | .bk=>ret .bk
 | .ct=>ret .ct
 | .rt d=>ret (.rt d)
def sNx:M Fl:=ret .nx
def sBk:M Fl:=ret .bk
def sCt:M Fl:=ret .ct
def sDo (f:M Unit):M Fl:=bnd f fun _=>ret .nx
def sDrop (f:M D):M Fl:=bnd f fun _=>ret .nx
def sRet (f:M D):M Fl:=bnd f fun d=>ret (.rt d)
def sIf (c:M Bool) (a b:M Fl):M Fl:=bnd c fun x=>if x then a else b
def sSet (i:Nat) (f:M D):M Fl:=bnd f fun d=>sDo (mSet i d)
def sOwn (i:Nat) (f:M D):M Fl:=bnd f fun d=>sDo (mOwn i d)
def sFz (i:Nat) (f:M Fl):M Fl:=bnd (mFz i) fun _=>f
def gName (i:Nat):D→M Unit:=fun d=>mSet i d
def gAll:List Nat→List D→M Unit
 | [],[]=>ret ()
 | i::is,d::ds=>bnd (mSet i d) fun _=>gAll is ds
 | _,_=>stuck
def gTup (is:List Nat):D→M Unit:=fun d=>match d with
 | .tup ds=>gAll is ds
 | _=>stuck
def loop (g:D→M Unit) (body:M Fl):List D→M Fl
 | []=>ret .nx
 | d::ds=>bnd (g d) fun _=>bnd body fun k=>match k with
  | .nx=>loop g body ds
  | .ct=>loop g body ds
  | .bk=>ret .nx
  | .rt e=>ret (.rt e)
def sFor (it:M (List D)) (g:D→M Unit) (body:M Fl):M Fl:=bnd it fun ds=>loop g body ds
def appD (x:D):D→Option D
 | .lst xs=>if xs.length<16777216 then some (.lst (xs++[x])) else none
 | _=>none
def turns (k:Nat) (g:D→M Unit) (test:M Bool) (elt:M D):List D→M Unit
 | []=>ret ()
 | d::ds=>bnd (g d) fun _=>bnd test fun b=>if b
   then bnd elt fun x=>bnd (mUpd k (appD x)) fun _=>turns k g test elt ds
   else turns k g test elt ds
def inner (n:Nat) (f:Nat→M Unit):M D:=fun r=>match f (r.length+n) (r++List.replicate n .no++[.ow (.lst [])]) with
 | .ok _ r'=>match r'[r.length+n]? with
  | some (.ow d)=>.ok d (r'.take r.length)
  | _=>.no
 | .exc x r'=>.exc x (r'.take r.length)
 | .no=>.no
def mComp (n:Nat) (it:M (List D)) (g:D→M Unit) (test:M Bool) (elt:M D):M D :=
 bnd it fun ds=>inner n fun k=>turns k g test elt ds
inductive FR where
 | ok (d:D) (ios:List D)
 | exc (x:Xn) (ios:List D)
 | no
abbrev Fn:=List D→FR
def startR (n:Nat):List Bool→List D→Rho
 | b::bs,d::ds=>(if b then .io d else .sh d)::startR (n-1) bs ds
 | _,_=>List.replicate n .no
def iosOf:List Bool→Rho→Option (List D)
 | [],_=>some []
 | true::bs,.io d::r=>(iosOf bs r).map (d::·)
 | false::bs,_::r=>iosOf bs r
 | _,_=>none
def defn (n:Nat) (fl:List Bool) (body:M Fl):Fn:=fun ds =>
 if ds.length=fl.length then
  match body (startR n fl ds) with
  | .ok (.rt d) r=>match iosOf fl r with
   | some ios=>.ok d ios
   | none=>.no
  | .ok .nx r=>match iosOf fl r with
   | some ios=>.ok .non ios
   | none=>.no
  | .ok .bk _=>.no
  | .ok .ct _=>.no
  | .exc x r=>match iosOf fl r with
   | some ios=>.exc x ios
   | none=>.no
  | .no=>.no
 else .no
inductive Arg where
 | val (f:M D)
 | io (j:Nat)
inductive AV where
 | val (d:D)
 | io (j:Nat)
def mArgs:List Arg→M (List AV)
 | []=>ret []
 | .val f::as=>bnd f fun d=>bnd (mArgs as) fun vs=>ret (.val d::vs)
 | .io j::as=>fun r=>if (own r[j]?).isSome then bnd (mArgs as) (fun vs=>ret (.io j::vs)) r else .no
def avs:List AV→Rho→Option (List D)
 | [],_=>some []
 | .val d::as,r=>(avs as r).map (d::·)
 | .io j::as,r=>match own r[j]? with
  | some d=>(avs as r).map (d::·)
  | none=>none
def ioSl:List AV→List Nat
 | []=>[]
 | .val _::as=>ioSl as
 | .io j::as=>j::ioSl as
def putAll:List Nat→List D→Rho→Rho
 | j::js,d::ds,r=>putAll js ds (putS j d r)
 | _,_,r=>r
def Arg.isIo:Arg→Bool
 | .val _=>false
 | .io _=>true
def mApp (f:Fn) (vs:List AV):M D:=fun r =>
 match avs vs r with
 | some ds=>if (ioSl vs).Nodup then match f ds with
   | .ok d ios=>.ok d (putAll (ioSl vs) ios r)
   | .exc x ios=>.exc x (putAll (ioSl vs) ios r)
   | .no=>.no
  else .no
 | none=>.no
def mCall (f:Fn) (as:List Arg):M D:=bnd (mArgs as) fun vs=>mApp f vs
def mAndV (a b:M D):M D:=bnd a fun x=>match x with
 | .bl true=>b
 | .bl false=>ret (.bl false)
 | _=>stuck
def mOrV (a b:M D):M D:=bnd a fun x=>match x with
 | .bl true=>ret (.bl true)
 | .bl false=>b
 | _=>stuck
def tupD (ds:List D):Option D:=if ds.length≤16777216 then some (.tup ds) else none
def lstD (ds:List D):Option D:=if ds.length≤16777216 then some (.lst ds) else none
def mTup (fl:List (M D)):M D:=bnd (mL fl) fun xs=>opt (tupD xs)
def mLst (fl:List (M D)):M D:=bnd (mL fl) fun xs=>opt (lstD xs)
end VP

end
section
namespace VP
open PySem
def LIM:Nat:=16777216
def addI:D→D→Option D
 | .int i,.int j=>some (.int (i+j))
 | _,_=>none
def subI:D→D→Option D
 | .int i,.int j=>some (.int (i-j))
 | _,_=>none
def mulI:D→D→Option D
 | .int i,.int j=>if (-(2 ^ 64)<i∧i<2 ^ 64)∨(-(2 ^ 64)<j∧j<2 ^ 64) then some (.int (i*j)) else none
 | _,_=>none
def fdivI:D→D→Option D
 | .int i,.int j=>if 0<j∧j<1073741824 then some (.int (i / j)) else none
 | _,_=>none
def modI:D→D→Option D
 | .int i,.int j=>if 0<j then some (.int (i % j)) else none
 | _,_=>none
def negI:D→Option D
 | .int i=>some (.int (-i))
 | _=>none
def ltI:D→D→Option D
 | .int i,.int j=>some (.bl (decide (i<j)))
 | _,_=>none
def leI:D→D→Option D
 | .int i,.int j=>some (.bl (decide (i≤j)))
 | _,_=>none
def gtI:D→D→Option D
 | .int i,.int j=>some (.bl (decide (j<i)))
 | _,_=>none
def geI:D→D→Option D
 | .int i,.int j=>some (.bl (decide (j≤i)))
 | _,_=>none
def eqS:D→D→Option Bool
 | .non,.non=>some true
 | .non,.int _=>some false
 | .int _,.non=>some false
 | .non,.bl _=>some false
 | .bl _,.non=>some false
 | .non,.str _=>some false
 | .str _,.non=>some false
 | .int i,.int j=>some (decide (i=j))
 | .bl i,.bl j=>some (decide (i=j))
 | .str i,.str j=>some (decide (i=j))
 | .int _,.str _=>some false
 | .str _,.int _=>some false
 | .bl _,.str _=>some false
 | .str _,.bl _=>some false
 | _,_=>none
def isNon:D→Bool
 | .non=>true
 | _=>false
def isND (x y:D):Option D:=if isNon y then some (.bl (isNon x)) else none
def notND (x y:D):Option D:=if isNon y then some (.bl (!isNon x)) else none
def addT:D→D→Option D
 | .tup xs,.tup ys=>if xs.length+ys.length≤LIM then some (.tup (xs++ys)) else none
 | _,_=>none
def addL:D→D→Option D
 | .lst xs,.lst ys=>if xs.length+ys.length≤LIM then some (.lst (xs++ys)) else none
 | _,_=>none
def orE (g g':D→D→Option D) (x y:D):Option D:=match g x y with
 | some d=>some d
 | none=>g' x y
def ixP (n:Nat) (i:Int):Option Nat:=if 0≤i then (if i<n then some i.toNat else none) else if -(n:Int)≤i then some (i+n).toNat else none
def ixD (xs:List D) (i:Int):Option D:=(ixP xs.length i).bind fun j=>xs[j]?
def itemD:D→D→Option D
 | .tup xs,.int i=>ixD xs i
 | .lst xs,.int i=>ixD xs i
 | _,_=>none
mutual
def eqB:D→D→Bool
 | .non,.non=>true
 | .bl a,.bl b=>a == b
 | .bl a,.int j=>(if a then 1 else 0) == j
 | .int i,.bl b=>i == (if b then 1 else 0)
 | .int i,.int j=>i == j
 | .str x,.str y=>x == y
 | .lst xs,.lst ys=>eqBs xs ys
 | .tup xs,.tup ys=>eqBs xs ys
 | _,_=>false
def eqBs:List D→List D→Bool
 | [],[]=>true
 | x::xs,y::ys=>eqB x y&&eqBs xs ys
 | [],_::_=>false
 | _::_,[]=>false
end
def strFine (x:Str):Bool:=x.cps.all (·<0x110000)
mutual
def plain:Nat→D→Bool
 | _,.non=>true
 | _,.bl _=>true
 | _,.int _=>true
 | _,.str x=>strFine x
 | n+1,.tup xs=>plains n xs
 | n+1,.lst xs=>plains n xs
 | _,_=>false
def plains:Nat→List D→Bool
 | _,[]=>true
 | n,x::xs=>plain n x&&plains n xs
end
def eqG (x y:D):Option D:=if plain 60 x&&plain 60 y then some (.bl (eqB x y)) else none
def neG (x y:D):Option D:=if plain 60 x&&plain 60 y then some (.bl (!eqB x y)) else none
def seqD:D→Option (List D)
 | .tup ds=>some ds
 | .lst ds=>some ds
 | _=>none
def mSeq (f:M D):M (List D):=bnd f fun d=>opt (seqD d)
def rng1:List D→Option (List D)
 | [.int j]=>if -(2 ^ 62)≤j∧j<2 ^ 62 then some ((List.range j.toNat).map fun (i:Nat)=>.int i) else none
 | _=>none
def rng2:List D→Option (List D)
 | [.int i,.int j]=>if (-(2 ^ 62)≤i∧i<2 ^ 62)∧-(2 ^ 62)≤j∧j<2 ^ 62 then some ((List.range (j-i).toNat).map fun (k:Nat)=>.int (i+k)) else none
 | _=>none
def mRng1 (fl:List (M D)):M (List D):=bnd (mL fl) fun xs=>opt (rng1 xs)
def mRng2 (fl:List (M D)):M (List D):=bnd (mL fl) fun xs=>opt (rng2 xs)
def lenD:D→Option D
 | .tup ds=>some (.int ds.length)
 | .lst ds=>some (.int ds.length)
 | _=>none
def tupOf:D→Option D
 | .tup ds=>some (.tup ds)
 | .lst ds=>some (.tup ds)
 | _=>none
def lstOf:D→Option D
 | .tup ds=>some (.lst ds)
 | .lst ds=>some (.lst ds)
 | _=>none
def maxD:List D→Option D
 | [.int i,.int j]=>some (.int (if j > i then j else i))
 | _=>none
def minD:List D→Option D
 | [.int i,.int j]=>some (.int (if j<i then j else i))
 | _=>none
def kindD:D→Option String
 | .non=>some "NoneType"
 | .bl _=>some "bool"
 | .int _=>some "int"
 | .str _=>some "str"
 | .tup _=>some "tuple"
 | .lst _=>some "list"
 | .dct _ _=>some "dict"
 | .ins _ _ _=>none
 | .exn _ _ _=>none
def isaD (T:String) (x:D):Option D:=(kindD x).map fun k=>.bl (k == T||(k == "bool" && T == "int"))
def zipL:List D→Option (List D)
 | [a,b]=>match seqD a,seqD b with
  | some xs,some ys=>some (List.zipWith (fun x y=>D.tup [x,y]) xs ys)
  | _,_=>none
 | _=>none
def mZip (fl:List (M D)):M (List D):=bnd (mL fl) fun xs=>opt (zipL xs)
def intsD:List D→Option (List Int)
 | []=>some []
 | .int i::r=>(intsD r).map (i::·)
 | _=>none
def sumD (d:D):Option D:=match seqD d with
 | some ds=>(intsD ds).map fun ns=>.int ns.sum
 | none=>none
def isLst:Option D→Bool
 | some (.lst _)=>true
 | _=>false
def sApp (i:Nat) (fe:M D):M Fl:=fun r=>if isLst (own r[i]?) then bnd fe (fun x=>sDo (mUpd i (appD x))) r else .no
def setAt (k v:D):D→Option D
 | .lst xs=>match k with
  | .int i=>(ixP xs.length i).map fun j=>.lst (xs.set j v)
  | _=>none
 | _=>none
def sSetIx (i:Nat) (fk fv:M D):M Fl:=bnd fv fun v=>fun r=>if isLst (own r[i]?) then bnd fk (fun k=>sDo (mUpd i (setAt k v))) r else .no
def sIxP (n d:Nat):Option Int→Nat
 | none=>d
 | some v=>if v<0 then (v+n).toNat else min v.toNat n
def cutD (xs:List D) (lo hi:Option Int):List D:=(xs.drop (sIxP xs.length 0 lo)).take (sIxP xs.length xs.length hi-sIxP xs.length 0 lo)
def mPart:Option (M D)→M (Option Int)
 | none=>ret none
 | some f=>bnd f fun d=>match d with
  | .int i=>ret (some i)
  | _=>stuck
def mSl (g:D→Option Int→Option Int→Option D) (f:M D) (lo hi:Option (M D)):M D:=bnd f fun d=>bnd (mPart lo) fun l=>bnd (mPart hi) fun h=>opt (g d l h)
def ixAt (j:Nat) (i:D):M D:=fun r=>match own r[j]? with
 | some d=>opt (itemD d i) r
 | none=>.no
def mIxO (j:Nat) (fb:M D):M D:=fun r=>if (own r[j]?).isSome then bnd fb (ixAt j) r else .no
def addA:D→D→Option D
 | .int i,.int j=>some (.int (i+j))
 | .tup xs,.tup ys=>if xs.length+ys.length≤LIM then some (.tup (xs++ys)) else none
 | .lst xs,.lst ys=>if xs.length+ys.length≤LIM then some (.lst (xs++ys)) else none
 | _,_=>none
def cutA (d:D) (lo hi:Option Int):Option D:=match d with
 | .tup xs=>some (.tup (cutD xs lo hi))
 | .lst xs=>some (.lst (cutD xs lo hi))
 | _=>none
def m3c (g g2:D→D→Option D) (a b c:M D):M D:=bnd a fun x=>bnd b fun y=>bnd (opt (g x y)) fun d=>match d with
 | .bl true=>bnd c fun z=>opt (g2 y z)
 | .bl false=>ret (.bl false)
 | _=>stuck
def tabD (t:List (Str×D)):D→Option D
 | .str k=>t.lookup k
 | _=>none
def mRev (f:M D):M (List D):=bnd f fun d=>opt ((seqD d).map List.reverse)
def revT (d:D):Option D:=(seqD d).map fun xs=>.tup xs.reverse
def revL (d:D):Option D:=(seqD d).map fun xs=>.lst xs.reverse
def boolsD:List D→Option (List Bool)
 | []=>some []
 | .bl b::r=>(boolsD r).map (b::·)
 | _=>none
def allD (al:Bool):D→Option D
 | .lst ds=>(boolsD ds).map fun bs=>.bl (if al then bs.all id else bs.any id)
 | _=>none
def tabInD (neg:Bool) (t:List (Str×D)) (ab:List Str):D→Option D
 | .str k=>match t.lookup k with
  | some _=>some (.bl (!neg))
  | none=>if ab.contains k then some (.bl neg) else none
 | _=>none
def flatD:D→Bool
 | .non=>true
 | .bl _=>true
 | .int _=>true
 | .str _=>true
 | _=>false
def inD (neg:Bool) (x y:D):Option D:=match seqD y with
 | some ds=>if flatD x&&ds.all flatD then some (.bl (if neg then !(ds.any fun y=>eqB y x) else ds.any fun y=>eqB y x)) else none
 | none=>none
def fldD (cs:List Str) (f:Str):D→Option D
 | .ins c ns vs=>if cs.contains c then (ns.zip vs).lookup f else none
 | _=>none
def putND (f:Str) (v:D):List Str→List D→List Str×List D
 | n::ns,x::vs=>if n=f then (n::ns,v::vs) else (n::(putND f v ns vs).1,x::(putND f v ns vs).2)
 | _,_=>([f],[v])
def setFD (cs:List Str) (f:Str) (v:D):D→Option D
 | .ins c ns vs=>if cs.contains c&&decide (ns.length<1000) then some (.ins c (putND f v ns vs).1 (putND f v ns vs).2) else none
 | _=>none
def sSetF (i:Nat) (cs:List Str) (f:Str) (fv:M D):M Fl:=bnd fv fun v=>sDo (mUpd i (setFD cs f v))
def mNew (c:Str) (f:Fn) (vs:List AV):M D:=fun r=>match mApp f (.io r.length::vs) (r++[.ow (.ins c [] [])]) with
 | .ok .non r'=>match r'[r.length]? with
  | some (.ow d)=>.ok d (r'.take r.length)
  | _=>.no
 | .exc x r'=>.exc x (r'.take r.length)
 | _=>.no
def mMake (c:Str) (f:Fn) (as:List Arg):M D:=bnd (mArgs as) fun vs=>mNew c f vs
def insOf (c m:Str):D→Bool
 | .ins c' ns _=>c' == c&&!ns.contains m
 | _=>false
def mMeth (c m:Str) (f:Fn) (fo:M D) (as:List Arg):M D:=bnd fo fun o=>if insOf c m o then bnd (mArgs as) fun vs=>mApp f (.val o::vs) else stuck
def isaC (subs:List (Str×Bool)) (x:D):Option D:=match x with
 | .ins c _ _=>(subs.lookup c).map .bl
 | _=>none
def sNever:M Fl:=stuck
def enumL (ds:List D):List D:=List.zipWith (fun (i:Nat) d=>D.tup [.int i,d]) (List.range ds.length) ds
def enumD:List D→Option (List D)
 | [.lst ds]=>some (enumL ds)
 | _=>none
def mEnum (fl:List (M D)):M (List D):=bnd (mL fl) fun xs=>opt (enumD xs)
def rngD:List D→Option (List D)
 | [.int i,.int j,.int k]=>if k=-1∧(-(2 ^ 62)≤i∧i<2 ^ 62)∧-(2 ^ 62)≤j∧j<2 ^ 62 then some ((List.range (i-j).toNat).map fun (k:Nat)=>.int (i-k)) else none
 | _=>none
def mDown (fl:List (M D)):M (List D):=bnd (mL fl) fun xs=>opt (rngD xs)
end VP

end
section
namespace VP
def eqN (neg:Bool) (x y:D):Option D:=if neg then neG x y else eqG x y
def cmpAt (g:D→D→Option D) (j:Nat) (d:D):M D:=fun r=>match own r[j]? with
 | some x=>opt (g x d) r
 | none=>.no
def mCmpO (g:D→D→Option D) (j:Nat) (fb:M D):M D:=fun r=>if (own r[j]?).isSome then bnd fb (cmpAt g j) r else .no
def mCmpOO (g:D→D→Option D) (i j:Nat):M D:=fun r=>match own r[i]?,own r[j]? with
 | some x,some y=>opt (g x y) r
 | _,_=>.no
def sRaise (c:PySem.Str) (fs:List (M D)):M Fl:=bnd (mL fs) fun ds r=>if ds.length≤1000 then .exc ⟨c,[],[]⟩ r else .no
def sRaiseI (c:PySem.Str) (ns:List PySem.Str) (fs:List (M D)):M Fl:=bnd (mL fs) fun ds r=>if ds.length=ns.length then .exc ⟨c,ns,ds⟩ r else .no
def fldX (cs:List PySem.Str) (f:PySem.Str):D→Option D
 | .exn c ns vs=>if cs.contains c then (ns.zip vs).lookup f else none
 | _=>none
def lstL:D→Option (List D)
 | .lst ds=>some ds
 | _=>none
def mSeqL (f:M D):M (List D):=bnd f fun d=>opt (lstL d)
def exnR:Option Sl→Res Fl→Res Fl
 | some (.sh (.exn _ _ _)),x=>x
 | _,_=>.no
def sForH (j:Nat) (it:M (List D)) (g:D→M Unit) (body:M Fl):M Fl:=fun r=>exnR r[j]? (sFor it g body r)
def sCatch (subs:List (PySem.Str×Bool)) (j:Nat) (h:M Fl) (x:Xn):M Fl:=fun r=>match subs.lookup x.cls,r[j]? with
 | some true,some .no=>(match h (r.set j (.sh (.exn x.cls x.ns x.vs))) with
  | .ok f r2=>.ok f (r2.set j .no)
  | _=>.no)
 | _,_=>.no
def sTry (f:M Fl) (subs:List (PySem.Str×Bool)) (j:Nat) (h:M Fl):M Fl:=fun r=>match f r with
 | .ok k r1=>.ok k r1
 | .exc x r1=>sCatch subs j h x r1
 | .no=>.no
def isaX (subs:List (PySem.Str×Bool)):D→Option D
 | .exn c _ _=>(subs.lookup c).map .bl
 | _=>none
end VP

end
section
namespace VP
open PySem
def mPop (i:Nat):M D:=fun r=>match own r[i]? with
 | some (.lst xs)=>match xs.getLast? with
  | some d=>.ok d (putS i (.lst xs.dropLast) r)
  | none=>.no
 | _=>.no
def extD (x:D):D→Option D
 | .lst xs=>match x with
  | .lst ys=>if xs.length+ys.length≤LIM then some (.lst (xs++ys)) else none
  | _=>none
 | _=>none
def sExt (i:Nat) (fe:M D):M Fl:=fun r=>if isLst (own r[i]?) then bnd fe (fun x=>sDo (mUpd i (extD x))) r else .no
def inAt (neg:Bool) (j:Nat) (x:D):M D:=fun r=>match own r[j]? with
 | some y=>opt (inD neg x y) r
 | none=>.no
def mInO (neg:Bool) (fa:M D) (j:Nat):M D:=bnd fa (inAt neg j)
def appL (f:Fn) (d:D):M D:=fun r=>match f [d] with
 | .ok v [_]=>.ok v r
 | .exc x [_]=>.exc x r
 | _=>.no
def mCallL (f:Fn) (a:M D):M D:=bnd a (appL f)
def sSeqE (f g:M Fl):M Fl:=bnd f fun k=>match k with
 | .nx=>g
 | _=>stuck
def sRetO (i:Nat):M Fl:=fun r=>match r[i]? with
 | some (.ow d)=>.ok (.rt d) r
 | _=>.no
def viewS:Sl→Sl
 | .ow d=>.sh d
 | .io d=>.sh d
 | s=>s
mutual
def noL:D→Bool
 | .non=>true
 | .bl _=>true
 | .int _=>true
 | .str _=>true
 | .tup ds=>noLs ds
 | _=>false
def noLs:List D→Bool
 | []=>true
 | d::ds=>noL d&&noLs ds
end
def mView (f:M D):M D:=fun r=>match f (r.map viewS) with
 | .ok (.lst ds) _=>if noLs ds then .ok (.lst ds) r else .no
 | _=>.no
def mViewV (f:M D):M D:=fun r=>match f (r.map viewS) with
 | .ok d _=>if noL d then .ok d r else .no
 | _=>.no
end VP

end
section
namespace VP
open PySem
def tView (f:M Bool):M Bool:=fun r=>match f (r.map viewS) with
 | .ok b _=>.ok b r
 | _=>.no
def sStop (c:M Bool) (f:M Fl):M Fl:=sIf (tView c) (bnd f fun _=>stuck) sNx
def sSetFL (i:Nat) (cs:List Str) (f:Str) (fv:M D):M Fl:=bnd fv fun v=>match v with
 | .lst ds=>if ds.length≤16777216 then sDo (mUpd i (setFD cs f (.lst ds))) else stuck
 | _=>stuck
def okN (fn:Str):D→Bool
 | .ins _ [n1,n2] [v1,.lst ds]=>decide (n1≠fn)&&(decide (n2=fn)&&(noL v1&&noLs ds))
 | _=>false
def mViewN (fn:Str) (f:M D):M D:=fun r=>match f (r.map viewS) with
 | .ok d _=>if okN fn d then .ok d r else .no
 | _=>.no
def sAppV (i:Nat) (fn:Str) (fc:M Bool) (fe:M D):M Fl:=bnd (tView fc) fun b=>if b then bnd (mViewN fn fe) fun d=>sDo (mUpd i (appD d)) else sDo (mUpd i (appD .non))
def sRetM (j:Nat) (fi:M D):M Fl:=bnd (mViewV fi) fun i=>bnd (ixAt j i) fun d=>if isNon d then stuck else ret (.rt d)
def idxI (ds:List D) (y:D):Option D:=match intsD ds with
 | some ns=>match y with
  | .int k=>if k∈ns then some (.int (ns.idxOf k:Nat)) else none
  | _=>none
 | none=>none
def mIdxT (fo fe:M D):M D:=bnd fo fun x=>match x with
 | .tup ds=>bnd fe fun y=>opt (idxI ds y)
 | _=>stuck
def mIdxL (fo fe:M D):M D:=bnd fo fun x=>match x with
 | .lst ds=>bnd fe fun y=>opt (idxI ds y)
 | _=>stuck
def intM:D→M Int
 | .int i=>ret i
 | _=>stuck
def intsM:D→M (List Int)
 | .lst ds=>opt (intsD ds)
 | _=>stuck
def nestGet (j:Nat):M (D×D):=fun r=>match r[j]? with
 | some (.ow (.lst [d0,d1,_]))=>.ok (d0,d1) r
 | _=>.no
def nestAt (j:Nat) (s:Sl):M Unit:=fun r=>.ok () (r.set j s)
def nestIn (rr:Nat) (ft:Fn) (ka kb kc:Int) (ns:List Int):M (List Int):=if ns=[] then ret ns else bnd (mApp ft [.io rr,.val (.int ka)]) fun x=>bnd (intM x) fun x=>if x=kb then
 bnd (mApp ft [.io rr,.val (.int kc)]) fun v=>bnd (intM v) fun v=>bnd (mApp ft [.io rr,.val (.int ns.length)]) fun i=>bnd (intM i) fun i=>opt ((ixP ns.length i).map fun k=>ns.set k v) else ret ns
def sNest (j rr:Nat) (ft:Fn) (ka kb kc:Int) (fc:M D) (g:M Fl):M Fl:=bnd fc fun d=>bnd (intsM d) fun ns=>bnd (nestGet j) fun p=>bnd (nestAt j .no) fun _=>bnd (nestIn rr ft ka kb kc ns) fun ns' =>
 bnd (nestAt j (.ow (.lst [p.1,p.2,.lst (ns'.map .int)]))) fun _=>g
end VP

end
section
set_option linter.all false
set_option maxRecDepth 100000
namespace VS
open PySem PySem.Spec PyProof.Rows L2 VP
abbrev Frag:=PySem.W.Frag
abbrev St:=L2.St
abbrev MG:=Str→Option Value
def XOb (a C:Addr) (dx:Option Addr):Heap→Prop:=fun h=>∃vs sl,h.get? a=some ⟨.ref C,dx,.fields vs,sl⟩∧vs[2]?=some .none
mutual
inductive Den (K:Frag) (mg:MG) (F:Hp):V→D→Prop where
 | non:Den K mg F .non .non
 | bl (b:Bool):Den K mg F (.bl b) (.bl b)
 | int (i:Int):Den K mg F (.int i) (.int i)
 | str (x:Str):Den K mg F (.str x) (.str x)
 | tup {a:Addr} {vs:List V} {ds:List D} (h:SqT K F a vs) (r:DenL K mg F vs ds):Den K mg F (.ref a) (.tup ds)
 | lst {a:Addr} {vs:List V} {ds:List D} (h:SqL K F a vs) (r:DenL K mg F vs ds):Den K mg F (.ref a) (.lst ds)
 | dct {a:Addr} {kvs:List (Key×V)} {ds:List D} (h:F a=some (.dK kvs)) (r:DenL K mg F (kvs.map (·.2)) ds):Den K mg F (.ref a) (.dct (kvs.map (·.1)) ds)
 | ins {a C dx:Addr} {c:Str} {fs:List (Str×V)} {ds:List D} (h:F a=some (.ins C dx fs)) (hc:mg c=some (.ref C)) (r:DenL K mg F (fs.map (·.2)) ds):Den K mg F (.ref a) (.ins c (fs.map (·.1)) ds)
 | exn {a C:Addr} {dx:Option Addr} {c:Str} {fs:List (Str×V)} {ds:List D} (h:F a=some (.ext (XOb a C dx))) (hc:mg c=some (.ref C)) (hf:(dx=none∧fs=[])∨∃b,dx=some b∧F b=some (.xd fs)) (r:DenL K mg F (fs.map (·.2)) ds):Den K mg F (.ref a) (.exn c (fs.map (·.1)) ds)
inductive DenL (K:Frag) (mg:MG) (F:Hp):List V→List D→Prop where
 | nil:DenL K mg F [] []
 | cons {v:V} {d:D} {vs:List V} {ds:List D} (h:Den K mg F v d) (t:DenL K mg F vs ds):DenL K mg F (v::vs) (d::ds)
end
theorem SqT.same {K:Frag} {F F':Hp} {a:Addr} {xs:List V} (h:SqT K F a xs) (e:Same F F'):SqT K F' a xs:=by
 rcases h with (h | ⟨o,h⟩) | h
 ·exact .inl (.inl (e _ _ h))
 ·exact .inl (.inr ⟨o,e _ _ h⟩)
 ·exact .inr h
theorem SqL.same {K:Frag} {F F':Hp} {a:Addr} {xs:List V} (h:SqL K F a xs) (e:Same F F'):SqL K F' a xs:=e.seq h
section
variable {K:Frag} {mg:MG} {F F' H H':Hp}
mutual
theorem Den.same (e:Same F F'):∀{v:V} {d:D},Den K mg F v d→Den K mg F' v d
 | _,_,.non=>.non
 | _,_,.bl b=>.bl b
 | _,_,.int i=>.int i
 | _,_,.str x=>.str x
 | _,_,.tup h r=>.tup (SqT.same h e) (DenL.same e r)
 | _,_,.lst h r=>.lst (SqL.same h e) (DenL.same e r)
 | _,_,.dct h r=>.dct (e _ _ h) (DenL.same e r)
 | _,_,.ins h hc r=>.ins (e _ _ h) hc (DenL.same e r)
 | _,_,.exn h hc hf r=>.exn (e _ _ h) hc (hf.imp id fun ⟨b,q,z⟩=>⟨b,q,e _ _ z⟩) (DenL.same e r)
theorem DenL.same (e:Same F F'):∀{vs:List V} {ds:List D},DenL K mg F vs ds→DenL K mg F' vs ds
 | _,_,.nil=>.nil
 | _,_,.cons h t=>.cons (Den.same e h) (DenL.same e t)
end
theorem DenL.length:∀{vs:List V} {ds:List D},DenL K mg F vs ds→vs.length=ds.length
 | _,_,.nil=>rfl
 | _,_,.cons _ t=>by simp [DenL.length t]
theorem DenL.append:∀{vs ws:List V} {ds es:List D},DenL K mg F vs ds→DenL K mg F ws es→DenL K mg F (vs++ws) (ds++es)
 | _,_,_,_,.nil,s=>s
 | _,_,_,_,.cons h t,s=>.cons h (DenL.append t s)
theorem DenL.get:∀{vs:List V} {ds:List D} {i:Nat} {d:D},DenL K mg F vs ds→ds[i]?=some d→∃v,vs[i]?=some v∧Den K mg F v d
 | _,_,_,_,.nil,e=>by simp at e
 | _,_,0,_,.cons h _,e=>by simp at e;subst e;exact ⟨_,rfl,h⟩
 | _,_,i+1,_,.cons _ t,e=>by
  obtain ⟨v,h1,h2⟩:=DenL.get (i:=i) t (by simpa using e)
  exact ⟨v,by simpa using h1,h2⟩
theorem DenL.set:∀{vs:List V} {ds:List D} {v:V} {d:D} (i:Nat),DenL K mg F vs ds→Den K mg F v d→DenL K mg F (vs.set i v) (ds.set i d)
 | _,_,_,_,_,.nil,_=>.nil
 | _,_,_,_,0,.cons _ t,h=>.cons h t
 | _,_,_,_,i+1,.cons q t,h=>.cons q (DenL.set i t h)
theorem DenL.take:∀{vs:List V} {ds:List D} (n:Nat),DenL K mg F vs ds→DenL K mg F (vs.take n) (ds.take n)
 | _,_,0,_=>by simpa using DenL.nil
 | _,_,_+1,.nil=>.nil
 | _,_,n+1,.cons h t=>.cons h (DenL.take n t)
theorem DenL.drop:∀{vs:List V} {ds:List D} (n:Nat),DenL K mg F vs ds→DenL K mg F (vs.drop n) (ds.drop n)
 | _,_,0,h=>by simpa using h
 | _,_,_+1,.nil=>.nil
 | _,_,n+1,.cons _ t=>DenL.drop n t
theorem DenL.reverse {vs:List V} {ds:List D} (h:DenL K mg F vs ds):DenL K mg F vs.reverse ds.reverse:=by
 induction vs generalizing ds with
 | nil=>cases h;exact .nil
 | cons v vs ih =>
  cases h with
  | cons h t=>simp only [List.reverse_cons];exact (ih t).append (.cons h .nil)
theorem DenL.ints (ns:List Int):DenL K mg F (ns.map V.int) (ns.map D.int):=by
 induction ns with
 | nil=>exact .nil
 | cons n r ih=>exact .cons (.int n) ih
theorem DenL.map {α:Type} {f:α→V} {g:α→D} (h:∀a,Den K mg F (f a) (g a)) (l:List α):DenL K mg F (l.map f) (l.map g):=by
 induction l with
 | nil=>exact .nil
 | cons a l ih=>exact .cons (h a) ih
def Obj1 (K:Frag) (mg:MG) (F H:Hp) (l:Addr):D→Prop
 | .lst ds=>∃vs,H l=some (.lst vs)∧DenL K mg F vs ds
 | .dct ks ds=>∃kvs,H l=some (.dK kvs)∧kvs.map (·.1)=ks∧DenL K mg F (kvs.map (·.2)) ds
 | .ins c ns ds=>∃C dx fs,H l=some (.ins C dx fs)∧mg c=some (.ref C)∧fs.map (·.1)=ns∧DenL K mg F (fs.map (·.2)) ds
 | _=>False
theorem Obj1.same {l:Addr} {d:D} (h:Obj1 K mg F H l d) (e:Same F F') (eh:∀o,H l=some o→H' l=some o):Obj1 K mg F' H' l d:=by
 cases d with
 | lst ds=>obtain ⟨vs,h1,h2⟩:=h;exact ⟨vs,eh _ h1,h2.same e⟩
 | dct ks ds=>obtain ⟨kvs,h1,h2,h3⟩:=h;exact ⟨kvs,eh _ h1,h2,h3.same e⟩
 | ins c ns ds=>obtain ⟨C,dx,fs,h1,h2,h3,h4⟩:=h;exact ⟨C,dx,fs,eh _ h1,h2,h3,h4.same e⟩
 | _=>exact h.elim
theorem Obj1.has {l:Addr} {d:D} (h:Obj1 K mg F H l d):∃o,H l=some o:=by
 cases d with
 | lst ds=>obtain ⟨vs,h1,h2⟩:=h;exact ⟨_,h1⟩
 | dct ks ds=>obtain ⟨kvs,h1,h2,h3⟩:=h;exact ⟨_,h1⟩
 | ins c ns ds=>obtain ⟨C,dx,fs,h1,h2,h3,h4⟩:=h;exact ⟨_,h1⟩
 | _=>exact h.elim
theorem Obj1.den {l:Addr} {d:D} {o:HO} (h:Obj1 K mg F H l d) (ho:H l=some o) (e:Same F F') (hl:F' l=some o):Den K mg F' (.ref l) d:=by
 cases d with
 | lst ds =>
  obtain ⟨vs,h1,h2⟩:=h
  rw [ho] at h1;cases h1
  exact .lst (SqL.of hl) (h2.same e)
 | dct ks ds =>
  obtain ⟨kvs,h1,rfl,h3⟩:=h
  rw [ho] at h1;cases h1
  exact .dct hl (h3.same e)
 | ins c ns ds =>
  obtain ⟨C,dx,fs,h1,h2,rfl,h4⟩:=h
  rw [ho] at h1;cases h1
  exact .ins hl h2 (h4.same e)
 | _=>exact h.elim
end
structure Fx where
 H₀:Hp
 F₀:Hp
 io:List (Nat×Addr)
def SlR (K:Frag) (mg:MG) (G:Fx) (F H:Hp) (i:Nat) (v:Option V):Sl→Prop
 | .no=>True
 | .sh d=>∃u,v=some u∧Den K mg F u d
 | .ow d=>∃l,v=some (.ref l)∧F l=none∧G.H₀ l=none∧Obj1 K mg F H l d
 | .io d=>∃l,v=some (.ref l)∧(i,l)∈G.io∧F l=none∧Obj1 K mg F H l d
def Owned:Sl→Bool
 | .ow _=>true
 | .io _=>true
 | _=>false
structure Good (K:Frag) (mg:MG) (G:Fx) (F H:Hp) (σ:St) (ρ:Rho):Prop where
 sF:Same G.F₀ F
 sub:Same F H
 old:∀a o,G.H₀ a=some o→(∀i,(i,a)∉G.io)→H a=some o
 new:∀a o,F a=some o→G.F₀ a=some o∨G.H₀ a=none
 len:σ.length=ρ.length
 slot:∀(i:Nat) (s:Sl),ρ[i]?=some s→SlR K mg G F H i (σ[i]?.join) s
 apart:∀(i j:Nat) (l:Addr) (s t:Sl),ρ[i]?=some s→ρ[j]?=some t→Owned s=true→Owned t=true→σ[i]?=some (some (V.ref l))→σ[j]?=some (some (V.ref l))→i=j
 ioT:∀i a,(i,a)∈G.io→(∃o,H a=some o)∧F a=none∧∃o,G.H₀ a=some o
 ioU:∀i a b,(i,a)∈G.io→(i,b)∈G.io→a=b
section
variable {K:Frag} {mg:MG} {G:Fx} {F F' H H':Hp} {σ:St} {ρ:Rho}
theorem SlR.own {i:Nat} {v:Option V} {s:Sl} (h:SlR K mg G F H i v s) (o:Owned s=true):∃l d,v=some (.ref l)∧F l=none∧Obj1 K mg F H l d∧(s=.ow d∨s=.io d):=by
 cases s with
 | no=>cases o
 | sh d=>cases o
 | ow d=>obtain ⟨l,h1,h2,h3,h4⟩:=h;exact ⟨l,d,h1,h2,h4,.inl rfl⟩
 | io d=>obtain ⟨l,h1,h2,h3,h4⟩:=h;exact ⟨l,d,h1,h3,h4,.inr rfl⟩
theorem SlR.same {i:Nat} {v:Option V} {s:Sl} (h:SlR K mg G F H i v s) (e:Same F F') (hn:∀l,v=some (.ref l)→Owned s=true→F l=none→(∃o,H l=some o)→F' l=none)
  (eh:∀l o,v=some (.ref l)→Owned s=true→H l=some o→H' l=some o):SlR K mg G F' H' i v s:=by
 cases s with
 | no=>trivial
 | sh d=>obtain ⟨u,h1,h2⟩:=h;exact ⟨u,h1,h2.same e⟩
 | ow d=>obtain ⟨l,h1,h2,h3,h4⟩:=h;exact ⟨l,h1,hn l h1 rfl h2 h4.has,h3,h4.same e fun o=>eh l o h1 rfl⟩
 | io d=>obtain ⟨l,h1,h2,h3,h4⟩:=h;exact ⟨l,h1,h2,hn l h1 rfl h3 h4.has,h4.same e fun o=>eh l o h1 rfl⟩
theorem Good.ext (g:Good K mg G F H σ ρ) (eF:Same F F') (eH:Same H H') (sub:Same F' H') (new:∀a o,F' a=some o→F a=some o∨H a=none):Good K mg G F' H' σ ρ where
 sF:=g.sF.trans eF
 sub:=sub
 old:=fun a o e n=>eH _ _ (g.old a o e n)
 new:=fun a o e=>by
  rcases new a o e with h | h
  ·exact g.new a o h
  ·refine .inr ?_
   cases q:G.H₀ a with
   | none=>rfl
   | some u =>
    by_cases z:∃i,(i,a)∈G.io
    ·obtain ⟨i,z⟩:=z
     obtain ⟨⟨w,hw⟩,_⟩:=g.ioT i a z
     rw [h] at hw;cases hw
    ·have:=g.old a u q (fun i w=>z ⟨i,w⟩)
     rw [h] at this;cases this
 len:=g.len
 slot:=fun i s h=>(g.slot i s h).same eF (fun l _ _ hf ⟨o,ho⟩=>by
  cases q:F' l with
  | none=>rfl
  | some u =>
   rcases new l u q with z | z
   ·rw [hf] at z;cases z
   ·rw [ho] at z;cases z) fun l o _ _ e=>eH _ _ e
 apart:=g.apart
 ioT:=fun i a h=>by
  obtain ⟨⟨o,h1⟩,h2,h3⟩:=g.ioT i a h
  refine ⟨⟨o,eH _ _ h1⟩,?_,h3⟩
  cases q:F' a with
  | none=>rfl
  | some u =>
   rcases new a u q with z | z
   ·rw [h2] at z;cases z
   ·rw [h1] at z;cases z
 ioU:=g.ioU
theorem aH {A:Hp} {p:Addr} {o:HO} (h:A p=none):Same A (upd A p o):=fun b q e=>by rw [aq (aQ e h)];exact e
theorem Good.laid {p:Addr} {o:HO} (g:Good K mg G F H σ ρ) (hp:H p=none):Good K mg G (upd F p o) (upd H p o) σ ρ:=by
 have fp:F p=none:=g.sub.free hp
 refine g.ext (aH fp) (aH hp) (fun b q e=>?_) fun a u e=>?_
 ·by_cases hb:b=p
  ·subst hb;rw [ax] at e ⊢;exact e
  ·rw [aq hb] at e ⊢;exact g.sub _ _ e
 ·by_cases hb:a=p
  ·subst hb;exact .inr hp
  ·rw [aq hb] at e;exact .inl e
theorem Good.made {p:Addr} {o:HO} (g:Good K mg G F H σ ρ) (hp:H p=none):Good K mg G F (upd H p o) σ ρ :=
 g.ext (Same.refl _) (aH hp) (g.sub.trans (aH hp)) fun a u e=>.inl e
theorem Good.new0 {p:Addr} (g:Good K mg G F H σ ρ) (hp:H p=none):G.H₀ p=none:=by
 cases q:G.H₀ p with
 | none=>rfl
 | some u =>
  by_cases z:∃i,(i,p)∈G.io
  ·obtain ⟨i,z⟩:=z
   obtain ⟨⟨w,hw⟩,_⟩:=g.ioT i p z
   rw [hp] at hw;cases hw
  ·have:=g.old p u q (fun i w=>z ⟨i,w⟩)
   rw [hp] at this;cases this
structure Loose (K:Frag) (mg:MG) (G:Fx) (F H:Hp) (σ:St) (ρ:Rho) (l:Addr) (d:D):Prop where
 nF:F l=none
 n0:G.H₀ l=none
 ob:Obj1 K mg F H l d
 ns:∀(i:Nat) (s:Sl),ρ[i]?=some s→Owned s=true→σ[i]?≠some (some (V.ref l))
theorem Good.loose {p:Addr} {o:HO} {d:D} (g:Good K mg G F H σ ρ) (hp:H p=none) (ho:Obj1 K mg F (upd H p o) p d):Loose K mg G F (upd H p o) σ ρ p d where
 nF:=g.sub.free hp
 n0:=g.new0 hp
 ob:=ho
 ns:=fun i s h o e=>by
  obtain ⟨l,d,h1,h2,h3,h4⟩:=(g.slot i s h).own o
  rw [e] at h1
  cases h1
  obtain ⟨u,hu⟩:=h3.has
  rw [hp] at hu;cases hu
theorem Loose.fast {l:Addr} {d:D} (x:Loose K mg G F H σ ρ l d) (g:Good K mg G F H σ ρ):∃F',Same F F'∧Good K mg G F' H σ ρ∧Den K mg F' (.ref l) d:=by
 obtain ⟨o,ho⟩:=x.ob.has
 refine ⟨upd F l o,aH x.nF,?_,x.ob.den ho (aH x.nF) ax⟩
 exact {
  sF:=g.sF.trans (aH x.nF)
  sub:=fun b q e=>by
   by_cases hb:b=l
   ·subst hb;rw [ax] at e;cases e;exact ho
   ·rw [aq hb] at e;exact g.sub _ _ e
  old:=g.old
  new:=fun a u e=>by
   by_cases hb:a=l
   ·subst hb;exact .inr x.n0
   ·rw [aq hb] at e;exact g.new a u e
  len:=g.len
  slot:=fun i s h=>(g.slot i s h).same (aH x.nF) (fun m hv ow hf _=>by
   have:m≠l:=fun z=>by
    subst z
    refine x.ns i s h ow ?_
    cases q:σ[i]? with
    | none=>rw [q] at hv;cases hv
    | some w=>rw [q] at hv;exact congrArg some hv
   rw [aq this];exact hf) fun _ _ _ _ e=>e
  apart:=g.apart
  ioT:=fun i a h=>by
   obtain ⟨h1,h2,u,h3⟩:=g.ioT i a h
   refine ⟨h1,?_,u,h3⟩
   have:a≠l:=fun z=>by subst z;rw [x.n0] at h3;cases h3
   rw [aq this];exact h2
  ioU:=g.ioU }
theorem aI {σ:St} {i:Nat} {v:V} (h:σ[i]?.join=some v):σ[i]?=some (some v):=by
 cases q:σ[i]? with
 | none=>rw [q] at h;cases h
 | some w=>rw [q] at h;exact congrArg some h
theorem Good.store {i:Nat} {v:V} {s':Sl} (g:Good K mg G F H σ ρ) (hf:free ρ[i]?=true) (hs:SlR K mg G F H i (some v) s')
  (hap:Owned s'=true→∀(j:Nat) (s:Sl),ρ[j]?=some s→Owned s=true→j≠i→σ[j]?≠some (some v)):Good K mg G F H (σ.set i (some v)) (ρ.set i s') where
 sF:=g.sF
 sub:=g.sub
 old:=g.old
 new:=g.new
 len:=by simp [g.len]
 slot:=fun j s h=>by
  by_cases hj:j=i
  ·subst hj
   have hi:j<ρ.length:=by
    cases q:ρ[j]? with
    | none=>rw [q] at hf;cases hf
    | some w=>exact (List.getElem?_eq_some_iff.mp q).1
   rw [List.getElem?_set_self hi] at h;cases h
   rw [List.getElem?_set_self (by rw [g.len];exact hi)]
   exact hs
  ·rw [List.getElem?_set_ne (Ne.symm hj)] at h ⊢
   exact g.slot j s h
 apart:=fun j k l s t h1 h2 o1 o2 e1 e2=>by
  by_cases hj:j=i
  ·by_cases hk:k=i
   ·rw [hj,hk]
   ·subst hj
    rw [List.getElem?_set_ne (Ne.symm hk)] at h2 e2
    have hi:j<ρ.length:=by
     cases q:ρ[j]? with
     | none=>rw [q] at hf;cases hf
     | some w=>exact (List.getElem?_eq_some_iff.mp q).1
    rw [List.getElem?_set_self hi] at h1;cases h1
    rw [List.getElem?_set_self (by rw [g.len];exact hi)] at e1
    cases e1
    exact absurd e2 (hap o1 k t h2 o2 hk)
  ·rw [List.getElem?_set_ne (Ne.symm hj)] at h1 e1
   by_cases hk:k=i
   ·subst hk
    have hi:k<ρ.length:=by
     cases q:ρ[k]? with
     | none=>rw [q] at hf;cases hf
     | some w=>exact (List.getElem?_eq_some_iff.mp q).1
    rw [List.getElem?_set_self hi] at h2;cases h2
    rw [List.getElem?_set_self (by rw [g.len];exact hi)] at e2
    cases e2
    exact absurd e1 (hap o2 j s h1 o1 hj)
   ·rw [List.getElem?_set_ne (Ne.symm hk)] at h2 e2
    exact g.apart j k l s t h1 h2 o1 o2 e1 e2
 ioT:=g.ioT
 ioU:=g.ioU
theorem Good.write {i:Nat} {l:Addr} {s s':Sl} {o:HO} {d:D} (g:Good K mg G F H σ ρ) (hr:ρ[i]?=some s) (ho:Owned s=true) (hl:σ[i]?=some (some (V.ref l)))
  (hs:(∃e,s=.ow e∧s'=.ow d)∨(∃e,s=.io e∧s'=.io d)) (hd:Obj1 K mg F (upd H l o) l d):Good K mg G F (upd H l o) σ (ρ.set i s'):=by
 have nF:F l=none:=by
  obtain ⟨m,e,h1,h2,h3,_⟩:=(g.slot i s hr).own ho
  rw [hl] at h1;cases h1;exact h2
 have hi:i<ρ.length:=(List.getElem?_eq_some_iff.mp hr).1
 have ow':Owned s'=true:=by rcases hs with ⟨e,_,rfl⟩ | ⟨e,_,rfl⟩<;>rfl
 exact {
  sF:=g.sF
  sub:=fun b q e=>by
   have:b≠l:=aQ e nF
   rw [aq this];exact g.sub _ _ e
  old:=fun a q e n=>by
   have:a≠l:=fun z=>by
    subst z
    have k:=g.slot i s hr
    rcases hs with ⟨e',rfl,_⟩ | ⟨e',rfl,_⟩
    ·obtain ⟨m,h1,h2,h3,_⟩:=k
     rw [hl] at h1;cases h1;rw [e] at h3;cases h3
    ·obtain ⟨m,h1,h2,h3,_⟩:=k
     rw [hl] at h1;cases h1;exact n i h2
   rw [aq this];exact g.old a q e n
  new:=g.new
  len:=by simp [g.len]
  slot:=fun j t h=>by
   by_cases hj:j=i
   ·subst hj
    rw [List.getElem?_set_self hi] at h;cases h
    have k:=g.slot j s hr
    rcases hs with ⟨e',rfl,rfl⟩ | ⟨e',rfl,rfl⟩
    ·obtain ⟨m,h1,h2,h3,_⟩:=k
     rw [hl] at h1;cases h1
     rw [hl]
     exact ⟨l,rfl,h2,h3,hd⟩
    ·obtain ⟨m,h1,h2,h3,_⟩:=k
     rw [hl] at h1;cases h1
     rw [hl]
     exact ⟨l,rfl,h2,h3,hd⟩
   ·rw [List.getElem?_set_ne (Ne.symm hj)] at h
    refine (g.slot j t h).same (Same.refl _) (fun _ _ _ z _=>z) fun m q hv ow e=>?_
    have:m≠l:=fun z=>by
     subst z
     exact hj (g.apart j i m t s h hr ow ho (aI hv) hl)
    rw [aq this];exact e
  apart:=fun j k m t u h1 h2 o1 o2 e1 e2=>by
   have f:∀{j:Nat} {t:Sl},(ρ.set i s')[j]?=some t→Owned t=true→∃t',ρ[j]?=some t'∧Owned t'=true:=fun {j t} h o=>by
    by_cases hj:j=i
    ·subst hj;exact ⟨s,hr,ho⟩
    ·rw [List.getElem?_set_ne (Ne.symm hj)] at h;exact ⟨t,h,o⟩
   obtain ⟨t',a1,a2⟩:=f h1 o1
   obtain ⟨u',b1,b2⟩:=f h2 o2
   exact g.apart j k m t' u' a1 b1 a2 b2 e1 e2
  ioT:=fun j a h=>by
   obtain ⟨⟨q,h1⟩,h2,h3⟩:=g.ioT j a h
   refine ⟨?_,h2,h3⟩
   by_cases ha:a=l
   ·subst ha;exact ⟨o,ax⟩
   ·exact ⟨q,by rw [aq ha];exact h1⟩
  ioU:=g.ioU }
theorem Good.fz {i:Nat} {d:D} (g:Good K mg G F H σ ρ) (hr:ρ[i]?=some (.ow d)):∃F',Same F F'∧Good K mg G F' H σ (ρ.set i (.sh d)):=by
 obtain ⟨l,h1,h2,h3,h4⟩:=g.slot i _ hr
 have hl:=aI h1
 have hi:i<ρ.length:=(List.getElem?_eq_some_iff.mp hr).1
 obtain ⟨o,ho⟩:=h4.has
 refine ⟨upd F l o,aH h2,?_⟩
 exact {
  sF:=g.sF.trans (aH h2)
  sub:=fun b q e=>by
   by_cases hb:b=l
   ·subst hb;rw [ax] at e;cases e;exact ho
   ·rw [aq hb] at e;exact g.sub _ _ e
  old:=g.old
  new:=fun a u e=>by
   by_cases hb:a=l
   ·subst hb;exact .inr h3
   ·rw [aq hb] at e;exact g.new a u e
  len:=by simp [g.len]
  slot:=fun j s h=>by
   by_cases hj:j=i
   ·subst hj
    rw [List.getElem?_set_self hi] at h;cases h
    exact ⟨_,h1,h4.den ho (aH h2) ax⟩
   ·rw [List.getElem?_set_ne (Ne.symm hj)] at h
    refine (g.slot j s h).same (aH h2) (fun m hv ow hf _=>?_) fun _ _ _ _ e=>e
    have:m≠l:=fun z=>by
     subst z
     exact hj (g.apart j i m s _ h hr ow rfl (aI hv) hl)
    rw [aq this];exact hf
  apart:=fun j k m t u h1 h2 o1 o2 e1 e2=>by
   have f:∀{j:Nat} {t:Sl},(ρ.set i (.sh d))[j]?=some t→Owned t=true→ρ[j]?=some t:=fun {j t} h o=>by
    by_cases hj:j=i
    ·subst hj;rw [List.getElem?_set_self hi] at h;cases h;cases o
    ·rw [List.getElem?_set_ne (Ne.symm hj)] at h;exact h
   exact g.apart j k m t u (f h1 o1) (f h2 o2) o1 o2 e1 e2
  ioT:=fun j a h=>by
   obtain ⟨q1,q2,u,q3⟩:=g.ioT j a h
   refine ⟨q1,?_,u,q3⟩
   have:a≠l:=fun z=>by subst z;rw [h3] at q3;cases q3
   rw [aq this];exact q2
  ioU:=g.ioU }
end
end VS

end
section
set_option linter.all false
set_option maxRecDepth 100000
namespace VS
open PySem PySem.Spec PyProof.Rows L2 VP
def XR (K:Frag) (mg:MG) (F H:Hp) (c:Value) (dx:Option Addr) (x:Xn):Prop :=
 ∃C,c=.ref C∧mg x.cls=some (.ref C)∧∃fs:List (Str×V),((dx=none∧fs=[])∨∃a,dx=some a∧F a=some (.xd fs))∧fs.map (·.1)=x.ns∧DenL K mg F (fs.map (·.2)) x.vs
abbrev XE:=St→XK
structure Lc where
 K:Frag
 mg:MG
 EX:XE
def Out {α:Type}:Res α→(α→Rho→Prop)→(Xn→Rho→Prop)→Prop
 | .ok a r,P,_=>P a r
 | .exc x r,_,E=>E x r
 | .no,_,_=>False
theorem Out.bnd {α β:Type} {f:M α} {g:α→M β} {r:Rho} {P:β→Rho→Prop} {E:Xn→Rho→Prop} (h:Out (bnd f g r) P E):Out (f r) (fun a r'=>Out (g a r') P E) E:=by
 unfold VP.bnd at h
 cases q:f r with
 | ok a r'=>rw [q] at h;exact h
 | exc x r'=>rw [q] at h;exact h
 | no=>rw [q] at h;exact h
theorem Out.mono {α:Type} {r:Res α} {P P':α→Rho→Prop} {E E':Xn→Rho→Prop} (h:Out r P E) (hP:∀a r,P a r→P' a r) (hE:∀x r,E x r→E' x r):Out r P' E':=by
 cases r with
 | ok a r=>exact hP _ _ h
 | exc x r=>exact hE _ _ h
 | no=>exact h
theorem Out.opt {α:Type} {o:Option α} {r:Rho} {P:α→Rho→Prop} {E:Xn→Rho→Prop} (h:Out (opt o r) P E):∃a,o=some a∧P a r:=by
 cases o with
 | none=>exact h.elim
 | some a=>exact ⟨a,rfl,h⟩
theorem Out.ite {α:Type} {b:Bool} {f g:M α} {r:Rho} {P:α→Rho→Prop} {E:Xn→Rho→Prop} (h:Out ((if b then f else g) r) P E):(b=true∧Out (f r) P E)∨(b=false∧Out (g r) P E):=by
 cases b with
 | true=>exact .inl ⟨rfl,h⟩
 | false=>exact .inr ⟨rfl,h⟩
abbrev Rl (α β:Type):=Fx→Hp→Hp→St→Rho→β→α→Prop
section
variable (L:Lc)
abbrev Lc.Good (G:Fx) (F H:Hp) (σ:St) (ρ:Rho):Prop:=VS.Good L.K L.mg G F H σ ρ
def RV:Rl D V:=fun _ F _ _ _ v d=>Den L.K L.mg F v d
def RR:Rl D V:=fun _ F H _ _ v d=>Den L.K L.mg F v d∨∃l,v=.ref l∧Obj1 L.K L.mg F H l d
def RF:Rl D V:=fun G F H σ ρ v d=>∃l,v=.ref l∧Loose L.K L.mg G F H σ ρ l d
def RB:Rl Bool Bool:=fun _ _ _ _ _ b a=>b=a
def RL:Rl (List D) (List V):=fun _ F _ _ _ vs ds=>DenL L.K L.mg F vs ds
def PostX (G:Fx) (F:Hp) (σ:St):Xn→Rho→Prop:=fun x ρ'=>∀F' H' c dx,Same F F'→L.Good G F' H' σ ρ'→XR L.K L.mg F' H' c dx x→L.EX σ c dx H'
def Post {α β:Type} (R:Rl α β) (G:Fx) (F:Hp) (σ:St) (Q:β→Hp→Prop):α→Rho→Prop:=fun a ρ'=>∀F' H' b,Same F F'→L.Good G F' H' σ ρ'→R G F' H' σ ρ' b a→Q b H'
def lift {α β:Type} (R:Rl α β) (f:M α):St→Hp→(β→Hp→Prop)→Prop:=fun σ H Q =>
 ∃G F ρ,L.Good G F H σ ρ∧Out (f ρ) (Post L R G F σ Q) (PostX L G F σ)
end
section
variable {L:Lc} {α β γ:Type} {G:Fx} {F F1 H:Hp} {σ:St} {ρ:Rho}
theorem au {Ra:Rl α β} {f:M α} {g:α→M γ} {P:γ→Rho→Prop} {E:Xn→Rho→Prop} {W:β→Hp→Prop} (g0:L.Good G F H σ ρ) (o:Out (bnd f g ρ) P E) (hE:∀x r,E x r→PostX L G F σ x r)
  (k:∀F1 H1 ρ1 a b,Same F F1→L.Good G F1 H1 σ ρ1→Ra G F1 H1 σ ρ1 b a→Out (g a ρ1) P E→W b H1):lift L Ra f σ H W :=
 ⟨G,F,ρ,g0,o.bnd.mono (fun a ρ1 q F1 H1 b e g1 r=>k F1 H1 ρ1 a b e g1 r q) hE⟩
theorem PostX.same (e:Same F F1) {x:Xn} {r:Rho} (h:PostX L G F σ x r):PostX L G F1 σ x r:=fun F' H' c dx s g q=>h F' H' c dx (e.trans s) g q
theorem Post.same {R:Rl α β} {Q:β→Hp→Prop} (e:Same F F1) {a:α} {r:Rho} (h:Post L R G F σ Q a r):Post L R G F1 σ Q a r:=fun F' H' b s g q=>h F' H' b (e.trans s) g q
end
abbrev lc (X:Cx) (EX:XE):Lc:=⟨X.K,X.mg,EX⟩
def PV (X:Cx) (EX:XE) (e:Expr) (f:M D):Prop:=PE X e (lift (lc X EX) (RV (lc X EX)) f)
def PR (X:Cx) (EX:XE) (e:Expr) (f:M D):Prop:=PE X e (lift (lc X EX) (RR (lc X EX)) f)
def PF (X:Cx) (EX:XE) (e:Expr) (f:M D):Prop:=PE X e (lift (lc X EX) (RF (lc X EX)) f)
def PB (X:Cx) (EX:XE) (e:Expr) (f:M Bool):Prop:=PT X e (lift (lc X EX) RB f)
def PLs (X:Cx) (EX:XE) (es:List Expr) (f:M (List D)):Prop:=PA X es (lift (lc X EX) (RL (lc X EX)) f)
theorem _root_.L2.PE.le {X:Cx} {e:Expr} {t t':TE} (h:PE X e t) (k:∀σ H Q,t' σ H Q→t σ H Q):PE X e t':=fun pins s σ H Q I q=>h pins s σ H Q I (k _ _ _ q)
theorem _root_.L2.PT.le {X:Cx} {e:Expr} {t t':TT} (h:PT X e t) (k:∀σ H Q,t' σ H Q→t σ H Q):PT X e t':=fun pins s σ H Q I q=>h pins s σ H Q I (k _ _ _ q)
theorem _root_.L2.PA.le {X:Cx} {es:List Expr} {t t':TA} (h:PA X es t) (k:∀σ H Q,t' σ H Q→t σ H Q):PA X es t':=fun pos pins s σ H Q I q=>h pos pins s σ H Q I (k _ _ _ q)
theorem _root_.L2.PS.le {X:Cx} {e:Stmt} {t t':TS} (h:PS X e t) (k:∀D σ H,t' D σ H→t D σ H):PS X e t':=fun pins s σ H D I q=>h pins s σ H D I (k _ _ _ q)
theorem _root_.L2.PSs.le {X:Cx} {e:List Stmt} {t t':TS} (h:PSs X e t) (k:∀D σ H,t' D σ H→t D σ H):PSs X e t':=fun pins s σ H D I q=>h pins s σ H D I (k _ _ _ q)
section
variable {X:Cx} {EX:XE} {e a b c:Expr} {f fa fb fc:M D} {pos:Pos}
theorem PV.rd (h:PV X EX e f):PR X EX e f:=h.le fun σ H Q ⟨G,F,ρ,g,o⟩=>⟨G,F,ρ,g,o.mono (fun a r q F' H' b s g' d=>q F' H' b s g' (.inl d)) fun x r q=>q⟩
theorem PF.pv (h:PF X EX e f):PV X EX e f:=h.le fun σ H Q ⟨G,F,ρ,g,o⟩=>⟨G,F,ρ,g,o.mono (fun a r q F' H' b s g' ⟨l,e,d⟩=>by
 subst e
 obtain ⟨F2,s2,g2,d2⟩:=d.fast g'
 exact q F2 H' _ (s.trans s2) g2 d2) fun x r q=>q⟩
theorem aa (i:Nat) {x:Str} (hN:X.N[i]?=some x:=by rfl) (hv:Vis X.env.scope x:=by first | exact Or.inl rfl | exact Or.inr (Or.inl rfl) | exact Or.inr (Or.inr rfl)) (hd:(x == ("__debug__" : Str))=false:=by decide)
  (hcd:(x == ("__classdict__" : Str))=false:=by decide):PV X EX (.Name x pos) (mVar i) :=
 (bz hN hv hd hcd).le fun σ H Q ⟨G,F,ρ,g,o⟩=>by
  unfold mVar at o
  cases q:ρ[i]? with
  | none=>rw [q] at o;exact o.elim
  | some s =>
   rw [q] at o
   cases s with
   | sh d =>
    obtain ⟨u,h1,h2⟩:=g.slot i _ q
    exact ⟨u,aI h1,o F H u (Same.refl _) g h2⟩
   | _=>exact o.elim
theorem eP (i:Nat) {x:Str} (hN:X.N[i]?=some x:=by rfl) (hv:Vis X.env.scope x:=by first | exact Or.inl rfl | exact Or.inr (Or.inl rfl) | exact Or.inr (Or.inr rfl)) (hd:(x == ("__debug__" : Str))=false:=by decide)
  (hcd:(x == ("__classdict__" : Str))=false:=by decide):PR X EX (.Name x pos) (mRd i) :=
 (bz hN hv hd hcd).le fun σ H Q ⟨G,F,ρ,g,o⟩=>by
  unfold mRd at o
  cases q:ρ[i]? with
  | none=>rw [q] at o;exact o.elim
  | some s =>
   rw [q] at o
   have k:=g.slot i _ q
   cases s with
   | no=>exact o.elim
   | sh d =>
    obtain ⟨u,h1,h2⟩:=k
    exact ⟨u,aI h1,o F H u (Same.refl _) g (.inl h2)⟩
   | ow d =>
    obtain ⟨l,h1,h2,h3,h4⟩:=k
    exact ⟨_,aI h1,o F H _ (Same.refl _) g (.inr ⟨l,rfl,h4⟩)⟩
   | io d =>
    obtain ⟨l,h1,h2,h3,h4⟩:=k
    exact ⟨_,aI h1,o F H _ (Same.refl _) g (.inr ⟨l,rfl,h4⟩)⟩
theorem kL {t:TE} {v:V} {d:D} (h:PE X e t) (k:∀σ H Q,Q v H→t σ H Q) (hd:∀F,Den X.K X.mg F v d):PV X EX e (mC d) :=
 h.le fun σ H Q ⟨G,F,ρ,g,o⟩=>k σ H Q (o F H v (Same.refl _) g (hd F))
theorem ag {i:Int} {j}:PV X EX (.Constant (.int i) j pos) (mC (.int i)):=kL dG (fun _ _ _ q=>q) fun _=>.int i
theorem fD {i:Bool} {j}:PV X EX (.Constant (.bool i) j pos) (mC (.bl i)):=kL wS (fun _ _ _ q=>q) fun _=>.bl i
theorem cR {j}:PV X EX (.Constant .none j pos) (mC .non):=kL tP (fun _ _ _ q=>q) fun _=>.non
theorem ue {i:Str} {j}:PV X EX (.Constant (.str i) j pos) (mC (.str i)):=kL tS (fun _ _ _ q=>q) fun _=>.str i
abbrev Then (L:Lc) (G:Fx) (F:Hp) (σ:St) (ρ:Rho) (d:D) (Q:VK):Prop:=∀F' H' v,Same F F'→L.Good G F' H' σ ρ→Den L.K L.mg F' v d→Q v H'
def OpG (L:Lc) (r:R2) (g:D→D→Option D):Prop:=∀G F H σ ρ x y dx dy d Q,L.Good G F H σ ρ→Den L.K L.mg F x dx→Den L.K L.mg F y dy→g dx dy=some d→Then L G F σ ρ d Q→r x y H Q
def UnG (L:Lc) (r:V→Hp→VK→Prop) (g:D→Option D):Prop:=∀G F H σ ρ x dx d Q,L.Good G F H σ ρ→RR L G F H σ ρ x dx→g dx=some d→Then L G F σ ρ d Q→r x H Q
def FnG (L:Lc) (r:List V→Hp→VK→Prop) (g:List D→Option D):Prop:=∀G F H σ ρ xs dxs d Q,L.Good G F H σ ρ→DenL L.K L.mg F xs dxs→g dxs=some d→Then L G F σ ρ d Q→r xs H Q
theorem cK {r:R2} {g:D→D→Option D} (hg:OpG (lc X EX) r g) {ta tb:TE} (ha:∀σ H Q,lift (lc X EX) (RV (lc X EX)) fa σ H Q→ta σ H Q) (hb:∀σ H Q,lift (lc X EX) (RV (lc X EX)) fb σ H Q→tb σ H Q)
  (σ:St) (H:Hp) (Q:VK) (h:lift (lc X EX) (RV (lc X EX)) (m2 g fa fb) σ H Q):tOp r ta tb σ H Q:=by
 obtain ⟨G,F,ρ,g0,o⟩:=h
 refine ha _ _ _ (au g0 o (fun x r q=>q) fun F1 H1 ρ1 d1 x s1 g1 r1 o1=>?_)
 refine hb _ _ _ (au g1 o1 (fun x r q=>q.same s1) fun F2 H2 ρ2 d2 y s2 g2 r2 o2=>?_)
 obtain ⟨d,e,q⟩:=o2.opt
 exact hg G F2 H2 σ ρ2 x y d1 d2 d Q g2 (r1.same s2) r2 e (Post.same (s1.trans s2) q)
theorem aK {op:Operator} {r:R2} {g:D→D→Option D} (ho:OpR X (binaryOp op) r) (hg:OpG (lc X EX) r g) (ha:PV X EX a fa) (hb:PV X EX b fb):PV X EX (.BinOp a op b pos) (m2 g fa fb) :=
 (wT ho ha hb).le (cK hg (fun _ _ _ q=>q) fun _ _ _ q=>q)
theorem jM {op:CmpOp} {r:R2} {g:D→D→Option D} (ho:OpR X (compareOp op) r) (hg:OpG (lc X EX) r g) (ha:PV X EX a fa) (hb:PV X EX b fb) (hm:behindInMarks op b=false):PV X EX (.Compare a [op] [b] pos) (m2 g fa fb) :=
 (qW ho ha hb hm).le (cK hg (fun _ _ _ q=>q) fun _ _ _ q=>q)
theorem p6 {op:UnaryOp} {r:V→Hp→VK→Prop} {g:D→Option D} (ho:UnR X (unaryOp op) r) (hg:UnG (lc X EX) r g) (ha:PV X EX a fa):PV X EX (.UnaryOp op a pos) (m1 g fa) :=
 (wV ho ha).le fun σ H Q ⟨G,F,ρ,g0,o⟩=>au g0 o (fun x r q=>q) fun F1 H1 ρ1 d1 x s1 g1 r1 o1=>by
  obtain ⟨d,e,q⟩:=o1.opt
  exact hg G F1 H1 σ ρ1 x d1 d Q g1 (.inl r1) e (Post.same s1 q)
theorem a8 (h:PV X EX a fa) (he:∀whole,isTrue a X.env whole=(do let v ←whole;standAt a.pos;holding [v] (truthy v)):=by intro _;rfl):PB X EX a (VP.tB fa) :=
 (uc h he).le fun σ H Q ⟨G,F,ρ,g0,o⟩=>au g0 o (fun x r q=>q) fun F1 H1 ρ1 d1 x s1 g1 r1 o1=>by
  cases d1 with
  | bl k=>cases r1;exact ⟨k,rfl,o1 F1 H1 k s1 g1 rfl⟩
  | _=>exact o1.elim
theorem aw {op:CmpOp} {r:R2} {g:D→D→Option D} (ho:OpR X (compareOp op) r) (hg:OpG (lc X EX) r g) (ha:PV X EX a fa) (hb:PV X EX b fb) (hm:behindInMarks op b=false):PB X EX (.Compare a [op] [b] pos) (VP.tB (m2 g fa fb)) :=
 (gi ho ha hb hm).le fun σ H Q ⟨G,F,ρ,g0,o⟩=>by
  refine cK hg (fun _ _ _ q=>q) (fun _ _ _ q=>q) σ H _ (au g0 o (fun x r q=>q) fun F1 H1 ρ1 d1 x s1 g1 r1 o1=>?_)
  cases d1 with
  | bl k=>cases r1;exact ⟨k,rfl,o1 F1 H1 k s1 g1 rfl⟩
  | _=>exact o1.elim
variable {f1 f2:M Bool} {rest:List Expr}
def PBW (X:Cx) (EX:XE) (e:Expr) (f:M Bool):Prop:=PW X e (lift (lc X EX) RB f)
theorem _root_.L2.PW.le {X:Cx} {e:Expr} {t t':TT} (h:PW X e t) (k:∀σ H Q,t' σ H Q→t σ H Q):PW X e t':=fun w pins s σ H Q I q=>h w pins s σ H Q I (k _ _ _ q)
theorem PBW.pb (h:PBW X EX e f1):PB X EX e f1:=PW.pt h
theorem cb (h:PB X EX a f1):PB X EX (.UnaryOp .Not a pos) (VP.tNot f1) :=
 (ub h).le fun σ H Q ⟨G,F,ρ,g0,o⟩=>au g0 o (fun x r q=>q) fun F1 H1 ρ1 d1 x s1 g1 r1 o1=>by
  cases r1
  exact o1 F1 H1 _ s1 g1 rfl
theorem eN (h:PB X EX a f1):PBW X EX (.BoolOp .Or [a] pos) f1:=ug h
theorem fY (h1:PB X EX a f1) (h2:PBW X EX (.BoolOp .Or (b::rest) pos) f2):PBW X EX (.BoolOp .Or (a::b::rest) pos) (VP.tOr f1 f2) :=
 L2.PW.le (wY h1 h2) fun σ H Q ⟨G,F,ρ,g0,o⟩=>au g0 o (fun x r q=>q) fun F1 H1 ρ1 d1 x s1 g1 r1 o1=>by
  cases r1
  rcases o1.ite with ⟨e,o2⟩ | ⟨e,o2⟩
  ·subst e
   exact iteT (o2 F1 H1 true s1 g1 rfl)
  ·subst e
   exact iteF ⟨G,F1,ρ1,g1,o2.mono (fun _ _=>Post.same s1) fun _ _=>PostX.same s1⟩
theorem iq (hc:PB X EX c f1) (ha:PV X EX a fa) (hb:PV X EX b fb):PV X EX (.IfExp c a b pos) (mIf f1 fa fb) :=
 (pP hc ha hb).le fun σ H Q ⟨G,F,ρ,g0,o⟩=>au g0 o (fun x r q=>q) fun F1 H1 ρ1 d1 x s1 g1 r1 o1=>by
  cases r1
  rcases o1.ite with ⟨e,o2⟩ | ⟨e,o2⟩
  ·subst e
   exact iteT ⟨G,F1,ρ1,g1,o2.mono (fun _ _=>Post.same s1) fun _ _=>PostX.same s1⟩
  ·subst e
   exact iteF ⟨G,F1,ρ1,g1,o2.mono (fun _ _=>Post.same s1) fun _ _=>PostX.same s1⟩
theorem ud (ha:PV X EX a fa):PV X EX (.UnaryOp .Not a pos) (mOfT (VP.tNot (VP.tB fa))) :=
 (tQ ha).le fun σ H Q ⟨G,F,ρ,g0,o⟩=>by
  refine ⟨G,F,ρ,g0,o.bnd.bnd.bnd.mono (fun d1 ρ1 o1 F1 H1 x s1 g1 r1=>?_) fun _ _ q=>q⟩
  cases d1 with
  | bl k=>cases r1;exact ⟨k,rfl,o1 F1 H1 _ s1 g1 (.bl _)⟩
  | _=>exact o1.elim
theorem jO {op} (h:PV X EX a fa):PV X EX (.BoolOp op [a] pos) fa:=tR h
theorem lH (ha:PV X EX a fa) (hb:PV X EX (.BoolOp .And (b::rest) pos) fb):PV X EX (.BoolOp .And (a::b::rest) pos) (VP.mAndV fa fb) :=
 (tN ha hb).le fun σ H Q ⟨G,F,ρ,g0,o⟩=>au g0 o (fun x r q=>q) fun F1 H1 ρ1 d1 x s1 g1 r1 o1=>by
  cases d1 with
  | bl k =>
   cases r1
   refine ⟨k,rfl,?_⟩
   cases k with
   | true=>exact iteT ⟨G,F1,ρ1,g1,Out.mono o1 (fun _ _=>Post.same s1) fun _ _=>PostX.same s1⟩
   | false=>exact iteF (o1 F1 H1 _ s1 g1 (.bl _))
  | _=>exact o1.elim
theorem wX (ha:PV X EX a fa) (hb:PV X EX (.BoolOp .Or (b::rest) pos) fb):PV X EX (.BoolOp .Or (a::b::rest) pos) (VP.mOrV fa fb) :=
 (wU ha hb).le fun σ H Q ⟨G,F,ρ,g0,o⟩=>au g0 o (fun x r q=>q) fun F1 H1 ρ1 d1 x s1 g1 r1 o1=>by
  cases d1 with
  | bl k =>
   cases r1
   refine ⟨k,rfl,?_⟩
   cases k with
   | true=>exact iteT (o1 F1 H1 _ s1 g1 (.bl _))
   | false=>exact iteF ⟨G,F1,ρ1,g1,Out.mono o1 (fun _ _=>Post.same s1) fun _ _=>PostX.same s1⟩
  | _=>exact o1.elim
variable {es:List Expr} {fs:M (List D)}
theorem aB:PLs X EX [] (mL []):=bM.le fun σ H Q ⟨G,F,ρ,g0,o⟩=>o F H [] (Same.refl _) g0 .nil
theorem ai {fl:List (M D)} (ha:PV X EX a fa) (hr:PLs X EX es (mL fl)) (hs:starEach (a::es) X.env=(false,eval a X.env)::starEach es X.env:=by rfl):PLs X EX (a::es) (mL (fa::fl)) :=
 (aR ha hr hs).le fun σ H Q ⟨G,F,ρ,g0,o⟩=>au g0 o (fun x r q=>q) fun F1 H1 ρ1 d1 x s1 g1 r1 o1 =>
  au g1 o1 (fun x r q=>q.same s1) fun F2 H2 ρ2 d2 y s2 g2 r2 o2=>o2 F2 H2 _ (s1.trans s2) g2 (.cons (r1.same s2) r2)
theorem rE {ds:List D} {d:D} (h:tupD ds=some d):ds.length≤sizeLine∧d=.tup ds:=by
 unfold tupD at h
 split at h
 ·cases h;exact ⟨by rw [sizeLine_eq];assumption,rfl⟩
 ·cases h
theorem qL {ds:List D} {d:D} (h:lstD ds=some d):ds.length≤sizeLine∧d=.lst ds:=by
 unfold lstD at h
 split at h
 ·cases h;exact ⟨by rw [sizeLine_eq];assumption,rfl⟩
 ·cases h
theorem be {fl:List (M D)} {x1} (h:PLs X EX es (mL fl)):PV X EX (.Tuple es x1 pos) (mTup fl) :=
 (tT h).le fun σ H Q ⟨G,F,ρ,g0,o⟩=>au g0 o (fun x r q=>q) fun F1 H1 ρ1 d1 xs s1 g1 r1 o1=>by
  obtain ⟨d,e,q⟩:=o1.opt
  obtain ⟨hl,rfl⟩:=rE e
  refine ⟨by rw [DenL.length r1];exact hl,fun p hp=>?_⟩
  have sF:=aH (o:=.tup xs) (g1.sub.free hp)
  exact q _ _ _ (s1.trans sF) (g1.laid hp) (.tup (SqT.of ax) (DenL.same sF r1))
theorem cA {fl:List (M D)} (h:PLs X EX es (mL fl)):PF X EX (.List es pos) (mLst fl) :=
 (pQ h).le fun σ H Q ⟨G,F,ρ,g0,o⟩=>au g0 o (fun x r q=>q) fun F1 H1 ρ1 d1 xs s1 g1 r1 o1=>by
  obtain ⟨d,e,q⟩:=o1.opt
  obtain ⟨hl,rfl⟩:=qL e
  refine ⟨by rw [DenL.length r1];exact hl,fun p hp=>?_⟩
  exact q _ _ _ s1 (g1.made hp) ⟨p,rfl,g1.loose hp ⟨xs,ax,r1⟩⟩
variable {x:Str} {p:Pos} {id T:String} {r:List V→Hp→VK→Prop} {g:List D→Option D}
theorem pZ {fl:List (M D)} (hc:CallR X (.builtin id) r) (hg:FnG (lc X EX) r g) (hgl:Gl X x) (hm:X.mg x=none) (hv:bootBuiltins x=some (.builtin id)) (ha:PLs X EX (e::es) (mL fl)) (hn:x ≠ "__name__" := by decide) (hdb:(x == ("__debug__" : Str))=false:=by decide)
  (he:starEach (e::es) X.env=(false,eval e X.env)::starEach es X.env:=by rfl) (hpl:(backTo pos (starEach es X.env)).any (·.1)=false:=by rfl):PV X EX (.Call (.Name x p) (e::es) [] pos) (mF g fl) :=
 (cz hc hgl hm hv ha hn hdb he hpl).le fun σ H Q ⟨G,F,ρ,g0,o⟩=>au g0 o (fun x r q=>q) fun F1 H1 ρ1 d1 xs s1 g1 r1 o1=>by
  obtain ⟨d,e,q⟩:=o1.opt
  exact hg G F1 H1 σ ρ1 xs d1 d Q g1 r1 e (Post.same s1 q)
end
end VS

end
section
set_option linter.all false
set_option maxRecDepth 100000
namespace VS
open PySem PySem.Spec PyProof.Rows L2 VP
section
variable (L:Lc)
def PostXS (G:Fx) (F:Hp):Xn→Rho→Prop:=fun x ρ'=>∀F' H' σ' c dx,Same F F'→L.Good G F' H' σ' ρ'→XR L.K L.mg F' H' c dx x→L.EX σ' c dx H'
def PostS (G:Fx) (F:Hp) (E:Ends):Fl→Rho→Prop:=fun k ρ'=>match k with
 | .nx=>∀F' H' σ',Same F F'→L.Good G F' H' σ' ρ'→E.nx σ' H'
 | .bk=>∀F' H' σ',Same F F'→L.Good G F' H' σ' ρ'→E.bk σ' H'
 | .ct=>∀F' H' σ',Same F F'→L.Good G F' H' σ' ρ'→E.ct σ' H'
 | .rt d=>∀F' H' σ' v,Same F F'→L.Good G F' H' σ' ρ'→Den L.K L.mg F' v d→E.rt v H'
def liftS (f:M Fl):TS:=fun E σ H=>∃G F ρ,L.Good G F H σ ρ∧Out (f ρ) (PostS L G F E) (PostXS L G F)
def liftG (js:List Nat) (g:D→M Unit):TG:=fun v σ H Q=>∃G F ρ d,L.Good G F H σ ρ∧Den L.K L.mg F v d∧Out (g d ρ) (fun _ ρ'=>∀F' H' σ',Same F F'→L.Good G F' H' σ' ρ'→(∀j,j∉js→σ'[j]?=σ[j]?)→Q σ' H') (fun _ _=>False)
def ItR (G:Fx) (F:Hp) (J:It) (ds:List D):Prop:=∀σ i F' H' ρ,Same F F'→L.Good G F' H' σ ρ →
 (i<ds.length→J.go i H')∧(i=ds.length→J.stop i H')∧∀x H'',J.yld i H' x H''→∃F'',Same F' F''∧L.Good G F'' H'' σ ρ∧∀d,ds[i]?=some d→Den L.K L.mg F'' x d
def RI:Rl (List D) It:=fun G F _ _ _ J ds=>ItR L G F J ds
end
def PVS (X:Cx) (EX:XE) (st:Stmt) (f:M Fl):Prop:=PS X st (liftS (lc X EX) f)
def PVSs (X:Cx) (EX:XE) (st:List Stmt) (f:M Fl):Prop:=PSs X st (liftS (lc X EX) f)
def PVG (X:Cx) (EX:XE) (tg:Expr) (js:List Nat) (g:D→M Unit):Prop:=PG X tg (liftG (lc X EX) js g)
def PVI (X:Cx) (EX:XE) (tg iter:Expr) (f:M (List D)):Prop:=PI X tg iter (lift (lc X EX) (RI (lc X EX)) f)
theorem _root_.L2.PG.le {X:Cx} {tg:Expr} {t t':TG} (h:PG X tg t) (k:∀v σ H Q,t' v σ H Q→t v σ H Q):PG X tg t':=fun pins s σ H v u Q I r q=>h pins s σ H v u Q I r (k _ _ _ _ q)
theorem _root_.L2.PI.le {X:Cx} {tg it:Expr} {t t':TI} (h:PI X tg it t) (k:∀σ H Q,t' σ H Q→t σ H Q):PI X tg it t':=fun pins s σ H R I q=>h pins s σ H R I (k _ _ _ q)
section
variable {X:Cx} {EX:XE} {st:Stmt} {rest:List Stmt} {e a b c tg:Expr} {fe fa fb:M D} {f g:M Fl} {pos:Pos}
theorem PostXS.x {L:Lc} {G:Fx} {F:Hp} {σ:St} {x:Xn} {r:Rho} (h:PostXS L G F x r):PostX L G F σ x r:=fun F' H' c dx s g q=>h F' H' σ c dx s g q
theorem PostXS.same {L:Lc} {G:Fx} {F F1:Hp} (e:Same F F1) {x:Xn} {r:Rho} (h:PostXS L G F x r):PostXS L G F1 x r:=fun F' H' σ' c dx s g q=>h F' H' σ' c dx (e.trans s) g q
theorem PostS.same {L:Lc} {G:Fx} {F F1:Hp} {E:Ends} (e:Same F F1) {k:Fl} {r:Rho} (h:PostS L G F E k r):PostS L G F1 E k r:=by
 cases k with
 | nx=>exact fun F' H' σ' s g=>h F' H' σ' (e.trans s) g
 | bk=>exact fun F' H' σ' s g=>h F' H' σ' (e.trans s) g
 | ct=>exact fun F' H' σ' s g=>h F' H' σ' (e.trans s) g
 | rt d=>exact fun F' H' σ' v s g=>h F' H' σ' v (e.trans s) g
theorem ae:PVSs X EX [] sNx:=mB.le fun E σ H ⟨G,F,ρ,g0,o⟩=>o F H σ (Same.refl _) g0
theorem ac (h1:PVS X EX st f) (h2:PVSs X EX rest g):PVSs X EX (st::rest) (sSeq f g) :=
 (ij h1 h2).le fun E σ H ⟨G,F,ρ,g0,o⟩=>⟨G,F,ρ,g0,o.bnd.mono (fun k r q=>by
  cases k with
  | nx=>exact fun F' H' σ' s g'=>⟨G,F',r,g',Out.mono q (fun _ _=>PostS.same s) fun _ _=>PostXS.same s⟩
  | bk=>exact q
  | ct=>exact q
  | rt d=>exact q) fun _ _ q=>q⟩
theorem f6 {i:Nat} (h:PVS X EX st f):PVS X EX st (sFz i f):=h.le fun E σ H ⟨G,F,ρ,g0,o⟩=>by
 unfold sFz VP.bnd mFz at o
 cases q:ρ[i]? with
 | none=>simp only [q] at o;exact o.elim
 | some s =>
  simp only [q] at o
  cases s with
  | no=>exact o.elim
  | io d=>exact o.elim
  | sh d=>exact ⟨G,F,ρ,g0,o⟩
  | ow d =>
   obtain ⟨F',s,g1⟩:=Good.fz g0 q
   exact ⟨G,F',_,g1,Out.mono o (fun _ _=>PostS.same s) fun _ _=>PostXS.same s⟩
theorem rG (he:PV X EX e fe) (hs:swapsWith e none pos.line X.env=pure false:=by rfl):PVS X EX (.Expr e pos) (sDrop fe) :=
 (mz he hs).le fun E σ H ⟨G,F,ρ,g0,o⟩=>au g0 o (fun x r q=>q.x) fun F1 H1 ρ1 d1 x s1 g1 r1 o1=>o1 F1 H1 σ s1 g1
theorem ar (he:PV X EX e fe):PVS X EX (.Return (some e) pos) (sRet fe) :=
 (ua he).le fun E σ H ⟨G,F,ρ,g0,o⟩=>au g0 o (fun x r q=>q.x) fun F1 H1 ρ1 d1 x s1 g1 r1 o1=>o1 F1 H1 σ x s1 g1 r1
theorem aE {f1:M Bool} {sa sb:List Stmt} (hc:PB X EX c f1) (ha:PVSs X EX sa f) (hb:PVSs X EX sb g):PVS X EX (.If c sa sb pos) (VP.sIf f1 f g) :=
 (r8 hc ha hb).le fun E σ H ⟨G,F,ρ,g0,o⟩=>au g0 o (fun x r q=>q.x) fun F1 H1 ρ1 d1 x s1 g1 r1 o1=>by
  cases r1
  rcases o1.ite with ⟨e,o2⟩ | ⟨e,o2⟩
  ·subst e
   exact iteT ⟨G,F1,ρ1,g1,o2.mono (fun _ _=>PostS.same s1) fun _ _=>PostXS.same s1⟩
  ·subst e
   exact iteF ⟨G,F1,ρ1,g1,o2.mono (fun _ _=>PostS.same s1) fun _ _=>PostXS.same s1⟩
theorem dN {L:Lc} {G:Fx} {F H:Hp} {σ:St} {ρ:Rho} {i:Nat} {d:D} {v:V} {P:Unit→Rho→Prop} {E:Xn→Rho→Prop} (g0:L.Good G F H σ ρ) (r:Den L.K L.mg F v d) (o:Out (mSet i d ρ) P E) :
  ∃ρ',L.Good G F H (σ.set i (some v)) ρ'∧P () ρ':=by
 unfold mSet at o
 by_cases hf:free ρ[i]?=true
 ·rw [if_pos hf] at o
  exact ⟨_,Good.store (s':=.sh d) g0 hf ⟨v,rfl,r⟩ (fun z=>by cases z),o⟩
 ·rw [if_neg hf] at o;exact o.elim
theorem kD {L:Lc} {G:Fx} {F H:Hp} {σ:St} {ρ:Rho} {i:Nat} {d:D} {l:Addr} {P:Unit→Rho→Prop} {E:Xn→Rho→Prop} (g0:L.Good G F H σ ρ) (r:Loose L.K L.mg G F H σ ρ l d) (o:Out (mOwn i d ρ) P E) :
  ∃ρ',L.Good G F H (σ.set i (some (.ref l))) ρ'∧P () ρ':=by
 unfold mOwn at o
 by_cases hf:free ρ[i]?=true
 ·rw [if_pos hf] at o
  exact ⟨_,Good.store (s':=.ow d) g0 hf ⟨l,rfl,r.nF,r.n0,r.ob⟩ (fun _ j s hj ho _=>r.ns j s hj ho),o⟩
 ·rw [if_neg hf] at o;exact o.elim
theorem aA (i:Nat) {x:Str} {pos':Pos} (hN:X.N.Nodup) (hi:X.N[i]?=some x) (hx:Loc X.env.scope x) (he:PV X EX e fe) (hs:swapsWith e (some (.Name x pos')) pos.line X.env=pure false:=by rfl)
  (hf:X.fn x=true∨X.env.scope.names.lookup x=some .local:=by first | exact .inl rfl | exact .inr rfl | assumption):PVS X EX (.Assign [.Name x pos'] e pos) (sSet i fe) :=
 (pW hN hi hx he hs hf).le fun E σ H ⟨G,F,ρ,g0,o⟩=>au g0 o (fun x r q=>q.x) fun F1 H1 ρ1 d1 v s1 g1 r1 o1=>by
  obtain ⟨ρ2,g2,q⟩:=dN g1 r1 o1.bnd
  exact q F1 H1 _ s1 g2
theorem dP (i:Nat) {x:Str} {pos':Pos} (hN:X.N.Nodup) (hi:X.N[i]?=some x) (hx:Loc X.env.scope x) (he:PF X EX e fe) (hs:swapsWith e (some (.Name x pos')) pos.line X.env=pure false:=by rfl)
  (hf:X.fn x=true∨X.env.scope.names.lookup x=some .local:=by first | exact .inl rfl | exact .inr rfl | assumption):PVS X EX (.Assign [.Name x pos'] e pos) (sOwn i fe) :=
 (pW hN hi hx he hs hf).le fun E σ H ⟨G,F,ρ,g0,o⟩=>au g0 o (fun x r q=>q.x) fun F1 H1 ρ1 d1 v s1 g1 r1 o1=>by
  obtain ⟨l,rfl,r1⟩:=r1
  obtain ⟨ρ2,g2,q⟩:=kD g1 r1 o1.bnd
  exact q F1 H1 _ s1 g2
theorem aO (i:Nat) {x:Str} (hN:X.N.Nodup) (hi:X.N[i]?=some x) (hx:Loc X.env.scope x) (hf:X.fn x=true∨X.env.scope.names.lookup x=some .local:=by first | exact .inl rfl | exact .inr rfl | assumption):PVG X EX (.Name x pos) [i] (VP.gName i) :=
 (mx hN hi hx hf).le fun v σ H Q ⟨G,F,ρ,d,g0,r,o⟩=>by
  obtain ⟨ρ',g1,q⟩:=dN g0 r o
  exact q F H _ (Same.refl _) g1 fun j hj=>List.getElem?_set_ne (fun e=>hj (by simp [e]))
def liftGs (L:Lc) (is:List Nat):TGs:=fun vs σ H Q=>∃G F ρ ds,L.Good G F H σ ρ∧DenL L.K L.mg F vs ds∧Out (gAll is ds ρ) (fun _ ρ'=>∀F' H' σ',Same F F'→L.Good G F' H' σ' ρ'→(∀j,j∉is→σ'[j]?=σ[j]?)→Q σ' H') (fun _ _=>False)
def PVGs (X:Cx) (EX:XE) (ts:List Expr) (is:List Nat):Prop:=PGs X ts (liftGs (lc X EX) is)
theorem _root_.L2.PGs.le {X:Cx} {ts:List Expr} {t t':TGs} (h:PGs X ts t) (k:∀v σ H Q,t' v σ H Q→t v σ H Q):PGs X ts t':=fun pins s σ H v u Q I r q=>h pins s σ H v u Q I r (k _ _ _ _ q)
theorem df:PVGs X EX [] []:=L2.PGs.le qZ fun vs σ H Q ⟨G,F,ρ,ds,g0,r,o⟩=>by
 cases r with
 | nil=>exact ⟨rfl,o F H σ (Same.refl _) g0 fun _ _=>rfl⟩
 | cons h t=>exact o.elim
theorem aY (i:Nat) {is:List Nat} {x:Str} {es:List Expr} (hN:X.N.Nodup) (hi:X.N[i]?=some x) (hx:Loc X.env.scope x) (h2:PVGs X EX es is)
  (hf:X.fn x=true∨X.env.scope.names.lookup x=some .local:=by first | exact .inl rfl | exact .inr rfl | assumption) (hs:(assignEach (.Name x pos::es) X.env).map (·.2)=assign (.Name x pos) X.env::(assignEach es X.env).map (·.2):=by rfl):PVGs X EX (.Name x pos::es) (i::is) :=
 L2.PGs.le (pU (mx hN hi hx hf) h2 hs) fun vs σ H Q ⟨G,F,ρ,ds,g0,r,o⟩=>by
  cases r with
  | nil=>exact o.elim
  | cons h t =>
   refine ⟨_,_,rfl,?_⟩
   obtain ⟨ρ',g1,q⟩:=dN g0 h o.bnd
   exact ⟨G,F,ρ',_,g1,t,Out.mono q (fun _ r z F' H' σ' s g hj=>z F' H' σ' s g fun j hn=>by
    rw [hj j fun m=>hn (List.mem_cons_of_mem _ m),List.getElem?_set_ne (fun e=>hn (by simp [e]))]) fun _ _ z=>z⟩
theorem eQ {es:List Expr} {k:Nat} {is:List Nat} (hc:X.calm=true) (h:PVGs X EX es is)
  (hn:(assignEach es X.env).length=is.length:=by rfl) (hst:(assignEach es X.env).findIdx? (·.1)=none:=by rfl):PVG X EX (.Tuple es k pos) is (VP.gTup is) :=
 (tU (n:=is.length) hc h hn hst).le fun v σ H Q ⟨G,F,ρ,d,g0,r,o⟩=>by
  have len:∀{is:List Nat} {ds:List D} {ρ:Rho} {P:Unit→Rho→Prop} {E:Xn→Rho→Prop},Out (gAll is ds ρ) P E→(∀x r,¬E x r)→ds.length=is.length:=by
   intro is
   induction is with
   | nil=>intro ds ρ P E o _;cases ds with
    | nil=>rfl
    | cons=>exact o.elim
   | cons i is ih=>intro ds ρ P E o hE;cases ds with
    | nil=>exact o.elim
    | cons d ds =>
     have o':=o.bnd
     unfold mSet at o'
     split at o'
     ·simp [ih o' hE]
     ·exact o'.elim
  cases d with
  | tup ds =>
   cases r with
   | tup h1 h2 =>
    exact ⟨_,_,rfl,SqT.same h1 g0.sub,by rw [DenL.length h2];exact len o fun _ _ z=>z,G,F,ρ,ds,g0,h2,o⟩
  | _=>exact o.elim
theorem aM {i:Nat}:∀d r x r',VP.gName i d r≠.exc x r':=fun d r x r' h=>by
 unfold VP.gName mSet at h
 split at h<;>cases h
theorem oN:∀{is:List Nat} {ds:List D} {r:Rho} {x:Xn} {r':Rho},gAll is ds r≠.exc x r'
 | [],[],_,_,_,h=>by cases h
 | [],_::_,_,_,_,h=>by cases h
 | _::_,[],_,_,_,h=>by cases h
 | i::is,d::ds,r,x,r',h=>by
  simp only [gAll,VP.bnd,mSet] at h
  split at h
  ·rename_i a r2 q
   exact oN h
  ·rename_i x2 r2 q
   split at q<;>cases q
  ·cases h
theorem eC {is:List Nat}:∀d r x r',VP.gTup is d r≠.exc x r':=fun d r x r' h=>by
 unfold VP.gTup at h
 cases d with
 | tup ds=>exact oN h
 | _=>cases h
theorem bQ {iter:Expr} {body:List Stmt} {it:M (List D)} {gf:D→M Unit} {js:List Nat} (hp:PassesOwn (model X.prog X.w) X.A X.env X.xe) (hc:X.calm=true) (hi:PVI X EX tg iter it) (hg:PVG X EX tg js gf) (hb:PVSs X EX body f)
  (hgx:∀d r x r',gf d r≠.exc x r') (hs:∀x,foldedSetIterable iter X.env x=pure x:=by intro _;rfl):PVS X EX (.For tg iter body [] pos) (VP.sFor it gf f) :=
 (tZ hp hc hi hg hb hs).le fun E σ H ⟨G,F,ρ,g0,o⟩=>au g0 o (fun x r q=>q.x) fun F1 H1 ρ1 ds J s1 g1 r1 o1=>by
  refine ⟨fun i m σ H=>m=ds.length-i∧i≤ds.length∧∃F' ρ',Same F1 F'∧(lc X EX).Good G F' H σ ρ'∧Out (loop gf f (ds.drop i) ρ') (PostS (lc X EX) G F E) (PostXS (lc X EX) G F),⟨ds.length,by simp,Nat.zero_le _,F1,ρ1,Same.refl _,g1,by simpa using o1⟩,?_⟩
  rintro i m σ2 H2 ⟨rfl,hi,F2,ρ2,s2,g2,o2⟩
  obtain ⟨t1,t2,t3⟩:=r1 σ2 i F2 H2 ρ2 s2 g2
  by_cases hlt:i<ds.length
  ·refine .inr ⟨t1 hlt,fun σ' H'=>∃F' ρ',Same F1 F'∧(lc X EX).Good G F' H' σ' ρ'∧Out (loop gf f (ds.drop (i+1)) ρ') (PostS (lc X EX) G F E) (PostXS (lc X EX) G F),fun σ' H' q=>⟨ds.length-(i+1),by omega,rfl,hlt,q⟩,fun x H3 y=>?_⟩
   obtain ⟨F3,s3,g3,r3⟩:=t3 x H3 y
   have e:ds.drop i=ds[i]::ds.drop (i+1):=List.drop_eq_getElem_cons hlt
   rw [e] at o2
   have o3:Out (gf ds[i] ρ2) (fun _ ρ'=>Out (bnd f (fun k=>match k with | .nx=>loop gf f (ds.drop (i+1)) | .ct=>loop gf f (ds.drop (i+1)) | .bk=>ret .nx | .rt e=>ret (.rt e)) ρ') (PostS (lc X EX) G F E) (PostXS (lc X EX) G F)) (PostXS (lc X EX) G F):=Out.bnd o2
   refine ⟨G,F3,ρ2,ds[i],g3,r3 _ (by simp [hlt]),?_⟩
   cases q:gf ds[i] ρ2 with
   | no=>rw [q] at o3;exact o3.elim
   | exc x r=>exact absurd q (hgx _ _ _ _)
   | ok u ρ3 =>
    rw [q] at o3
    intro F4 H4 σ4 s4 g4 _
    refine ⟨G,F4,ρ3,g4,(Out.bnd o3).mono (fun k r z=>?_) fun _ _ z=>z.same ((s1.trans s2).trans (s3.trans s4))⟩
    cases k with
    | nx=>exact fun F' H' σ' s g'=>⟨F',r,s2.trans (s3.trans (s4.trans s)),g',z⟩
    | ct=>exact fun F' H' σ' s g'=>⟨F',r,s2.trans (s3.trans (s4.trans s)),g',z⟩
    | bk=>exact fun F' H' σ' s g'=>z F' H' σ' ((s1.trans s2).trans (s3.trans (s4.trans s))) g'
    | rt d=>exact fun F' H' σ' v s g'=>z F' H' σ' v ((s1.trans s2).trans (s3.trans (s4.trans s))) g'
  ·have e:i=ds.length:=by omega
   subst e
   refine .inl ⟨t2 rfl,?_⟩
   rw [List.drop_length] at o2
   exact o2 F2 H2 σ2 (s1.trans s2) g2
end
end VS

end
section
set_option linter.all false
set_option maxRecDepth 100000
namespace VS
open PySem PySem.Spec PyProof.Rows L2 VP
section
variable (K:Frag) (mg:MG)
def ArgsR (F H:Hp):List Bool→List V→List D→Prop
 | [],[],[]=>True
 | false::bs,v::vs,d::ds=>Den K mg F v d∧ArgsR F H bs vs ds
 | true::bs,v::vs,d::ds=>(∃l,v=.ref l∧F l=none∧Obj1 K mg F H l d)∧ArgsR F H bs vs ds
 | _,_,_=>False
def IosR (F H:Hp):List Addr→List D→Prop
 | [],[]=>True
 | l::ls,d::ds=>(F l=none∧Obj1 K mg F H l d)∧IosR F H ls ds
 | _,_=>False
end
def ioAs:Nat→List Bool→List V→List (Nat×Addr)
 | i,true::bs,.ref l::vs=>(i,l)::ioAs (i+1) bs vs
 | i,_::bs,_::vs=>ioAs (i+1) bs vs
 | _,_,_=>[]
def ioAd (fl:List Bool) (vs:List V):List Addr:=(ioAs 0 fl vs).map (·.2)
structure After (K:Frag) (mg:MG) (F H F' H':Hp) (ls:List Addr) (ios:List D):Prop where
 sF:Same F F'
 sub:Same F' H'
 old:∀a o,H a=some o→a∉ls→H' a=some o
 new:∀a o,F' a=some o→F a=some o∨H a=none
 ios:IosR K mg F' H' ls ios
def spV (K:Frag) (mg:MG) (fl:List Bool) (f:Fn):Sp:=fun vs H Q E=>vs.length=fl.length∧∃F ds,Same F H∧ArgsR K mg F H fl vs ds∧(ioAd fl vs).Nodup ∧
 match f ds with
 | .ok d ios=>∀F' H' v,After K mg F H F' H' (ioAd fl vs) ios→Den K mg F' v d→Q v H'
 | .exc x ios=>∀F' H' c dx,After K mg F H F' H' (ioAd fl vs) ios→XR K mg F' H' c dx x→E c dx H'
 | .no=>False
section
variable {K:Frag} {mg:MG} {F H:Hp}
theorem jy:∀{i0:Nat} {fl:List Bool} {vs:List V} {i:Nat} {a:Addr},(i,a)∈ioAs i0 fl vs→i0≤i∧vs[i-i0]?=some (.ref a)∧fl[i-i0]?=some true:=by
 intro i0 fl
 induction fl generalizing i0 with
 | nil=>intro vs i a h;cases vs<;>simp [ioAs] at h
 | cons b bs ih =>
  intro vs i a h
  cases vs with
  | nil=>cases b<;>simp [ioAs] at h
  | cons v vs =>
   have step:(i,a)∈ioAs (i0+1) bs vs→i0≤i∧(v::vs)[i-i0]?=some (.ref a)∧(b::bs)[i-i0]?=some true:=fun h=>by
    obtain ⟨h1,h2,h3⟩:=ih h
    have e:i-i0=(i-(i0+1))+1:=by omega
    rw [e]
    exact ⟨by omega,by simpa using h2,by simpa using h3⟩
   cases b with
   | false=>cases v<;>exact step (by simpa [ioAs] using h)
   | true =>
    cases v with
    | ref l =>
     rcases List.mem_cons.mp (show (i,a)∈(i0,l)::ioAs (i0+1) bs vs from h) with e | h
     ·cases e;simp
     ·exact step h
    | _=>exact step (by simpa [ioAs] using h)
theorem gX:∀{i0:Nat} {fl:List Bool} {vs:List V} {k:Nat} {a:Addr},fl[k]?=some true→vs[k]?=some (.ref a)→(i0+k,a)∈ioAs i0 fl vs:=by
 intro i0 fl
 induction fl generalizing i0 with
 | nil=>intro vs k a h;simp at h
 | cons b bs ih =>
  intro vs k a h1 h2
  cases vs with
  | nil=>simp at h2
  | cons v vs =>
   cases k with
   | zero =>
    simp at h1 h2
    subst h1 h2
    simp [ioAs]
   | succ k =>
    have q:=ih (i0:=i0+1) (vs:=vs) (k:=k) (a:=a) (by simpa using h1) (by simpa using h2)
    have e:i0+(k+1)=i0+1+k:=by omega
    rw [e]
    cases b with
    | false=>cases v<;>simpa [ioAs] using q
    | true=>cases v<;>simp [ioAs,q]
theorem ArgsR.get:∀{fl:List Bool} {vs:List V} {ds:List D},ArgsR K mg F H fl vs ds→∀(k:Nat) (b:Bool) (v:V) (d:D),fl[k]?=some b→vs[k]?=some v→ds[k]?=some d →
  (b=false→Den K mg F v d)∧(b=true→∃l,v=.ref l∧F l=none∧Obj1 K mg F H l d):=by
 intro fl
 induction fl with
 | nil=>intro vs ds h k b v d h1;simp at h1
 | cons b bs ih =>
  intro vs ds h k b' v d h1 h2 h3
  cases vs with
  | nil=>simp at h2
  | cons w vs=>cases ds with
   | nil=>simp at h3
   | cons e ds =>
    cases k with
    | zero =>
     simp at h1 h2 h3
     subst h1 h2 h3
     cases b with
     | false=>exact ⟨fun _=>h.1,fun z=>(by cases z)⟩
     | true=>exact ⟨fun z=>(by cases z),fun _=>h.1⟩
    | succ k =>
     have h':ArgsR K mg F H bs vs ds:=by cases b<;>exact h.2
     exact ih h' k b' v d (by simpa using h1) (by simpa using h2) (by simpa using h3)
theorem ArgsR.len:∀{fl:List Bool} {vs:List V} {ds:List D},ArgsR K mg F H fl vs ds→vs.length=fl.length∧ds.length=fl.length:=by
 intro fl
 induction fl with
 | nil=>intro vs ds h;cases vs<;>cases ds<;>first | exact ⟨rfl,rfl⟩ | exact (show False from h).elim
 | cons b bs ih =>
  intro vs ds h
  cases vs with
  | nil=>cases b<;>cases ds<;>exact (show False from h).elim
  | cons w vs=>cases ds with
   | nil=>cases b<;>exact (show False from h).elim
   | cons e ds =>
    have h':ArgsR K mg F H bs vs ds:=by cases b<;>exact h.2
    obtain ⟨h1,h2⟩:=ih h'
    exact ⟨by simp [h1],by simp [h2]⟩
theorem iy:∀{n:Nat} {fl:List Bool} {ds:List D},fl.length=ds.length→∀(i:Nat) (s:Sl),(startR n fl ds)[i]?=some s→(i<fl.length∧∃b d,fl[i]?=some b∧ds[i]?=some d∧s=(if b then .io d else .sh d))∨(fl.length≤i∧s=.no):=by
 intro n fl
 induction fl generalizing n with
 | nil =>
  intro ds hl i s h
  cases ds with
  | nil =>
   refine .inr ⟨Nat.zero_le _,?_⟩
   simp only [startR] at h
   rw [List.getElem?_replicate] at h
   split at h
   ·exact (Option.some.inj h).symm
   ·cases h
  | cons=>simp at hl
 | cons b bs ih =>
  intro ds hl i s h
  cases ds with
  | nil=>simp at hl
  | cons d ds =>
   simp only [startR] at h
   cases i with
   | zero =>
    simp at h
    exact .inl ⟨by simp,b,d,rfl,rfl,h.symm⟩
   | succ i =>
    rcases ih (by simpa using hl) i s (by simpa using h) with ⟨h1,b',d',h2,h3,h4⟩ | ⟨h1,h2⟩
    ·exact .inl ⟨by simp;omega,b',d',by simpa using h2,by simpa using h3,h4⟩
    ·exact .inr ⟨by simp;omega,h2⟩
theorem lL:∀{n:Nat} {fl:List Bool} {ds:List D},fl.length=ds.length→fl.length≤n→(startR n fl ds).length=n:=by
 intro n fl
 induction fl generalizing n with
 | nil=>intro ds hl hn;cases ds with
  | nil=>simp [startR]
  | cons=>simp at hl
 | cons b bs ih =>
  intro ds hl hn
  cases ds with
  | nil=>simp at hl
  | cons d ds =>
   simp only [startR,List.length_cons]
   rw [ih (by simpa using hl) (by simp at hn;omega)]
   simp at hn;omega
theorem jk {N:List Str} {vs:List V} {i:Nat} {v:V} (h:vs[i]?=some v):(start N vs)[i]?=some (some v):=by
 have hi:i<vs.length:=(List.getElem?_eq_some_iff.mp h).1
 unfold L2.start
 rw [List.getElem?_append_left (by simpa using hi),List.getElem?_map,h]
 rfl
theorem lb {N:List Str} {fl:List Bool} {vs:List V} {ds:List D} (hs:Same F H) (ha:ArgsR K mg F H fl vs ds) (hd:(ioAd fl vs).Nodup) (hn:fl.length≤N.length) :
  Good K mg ⟨H,F,ioAs 0 fl vs⟩ F H (start N vs) (startR N.length fl ds):=by
 obtain ⟨l1,l2⟩:=ha.len
 have at_:∀{i:Nat} {a:Addr},(i,a)∈ioAs 0 fl vs→∃d,F a=none∧Obj1 K mg F H a d:=fun {i a} h=>by
  obtain ⟨_,h2,h3⟩:=jy h
  rw [Nat.sub_zero] at h2 h3
  have hi:i<ds.length:=by rw [l2,←l1];exact (List.getElem?_eq_some_iff.mp h2).1
  obtain ⟨l,e,q1,q2⟩:=(ha.get i true _ ds[i] h3 h2 (by simp [hi])).2 rfl
  cases e
  exact ⟨_,q1,q2⟩
 have own_:∀{i:Nat} {s:Sl} {l:Addr},(startR N.length fl ds)[i]?=some s→Owned s=true→(start N vs)[i]?=some (some (V.ref l))→(i,l)∈ioAs 0 fl vs:=fun {i s l} h o e=>by
  rcases iy l2.symm i s h with ⟨h1,b,d,h2,h3,rfl⟩ | ⟨_,rfl⟩
  ·cases b with
   | false=>cases o
   | true =>
    have hv:i<vs.length:=by omega
    rw [jk (v:=vs[i]) (by simp [hv])] at e
    have e':vs[i]=V.ref l:=Option.some.inj (Option.some.inj e)
    have:=gX (i0:=0) (vs:=vs) (k:=i) (a:=l) h2 (by rw [←e'];simp [hv])
    rwa [Nat.zero_add] at this
  ·cases o
 exact {
  sF:=Same.refl _
  sub:=hs
  old:=fun a o e _=>e
  new:=fun a o e=>.inl e
  len:=by
   rw [lL l2.symm hn]
   unfold L2.start
   rw [List.length_append,List.length_map,List.length_replicate]
   omega
  slot:=fun i s h=>by
   rcases iy l2.symm i s h with ⟨h1,b,d,h2,h3,rfl⟩ | ⟨_,rfl⟩
   ·have hv:i<vs.length:=by omega
    have q:=ha.get i b vs[i] d h2 (by simp [hv]) h3
    rw [jk (v:=vs[i]) (by simp [hv])]
    cases b with
    | false=>exact ⟨_,rfl,q.1 rfl⟩
    | true =>
     obtain ⟨l,e,q1,q2⟩:=q.2 rfl
     refine ⟨l,by rw [e];rfl,?_,q1,q2⟩
     have:=gX (i0:=0) (vs:=vs) (k:=i) (a:=l) h2 (by rw [←e];simp [hv])
     rwa [Nat.zero_add] at this
   ·trivial
  apart:=fun i j l s t h1 h2 o1 o2 e1 e2=>by
   have m1:=own_ h1 o1 e1
   have m2:=own_ h2 o2 e2
   obtain ⟨a,ha,ea⟩:=List.mem_iff_getElem.mp m1
   obtain ⟨b,hb,eb⟩:=List.mem_iff_getElem.mp m2
   have hab:a=b:=by
    refine (List.getElem_inj hd (i:=a) (j:=b) (h₀:=by simpa [ioAd] using ha) (h₁:=by simpa [ioAd] using hb)).mp ?_
    simp [ioAd,ea,eb]
   subst hab
   rw [ea] at eb
   cases eb
   rfl
  ioT:=fun i a h=>by
   obtain ⟨d,q1,q2⟩:=at_ h
   exact ⟨q2.has,q1,q2.has⟩
  ioU:=fun i a b h1 h2=>by
   obtain ⟨_,q1,_⟩:=jy h1
   obtain ⟨_,q2,_⟩:=jy h2
   rw [q1] at q2
   cases q2
   rfl }
theorem oV {G:Fx} {F H:Hp} {σ:St} {ρ:Rho} {vs:List V} {fl:List Bool} {ios:List D} (g:Good K mg G F H σ ρ) (hG:G.io=ioAs 0 fl vs) (hv:vs.length=fl.length) (h:iosOf fl ρ=some ios)
  (hr:∀(k:Nat),fl[k]?=some true→∃a,vs[k]?=some (V.ref a)):IosR K mg F H (ioAd fl vs) ios:=by
 have gen:∀(fl':List Bool) (k:Nat) (vs':List V) (r:Rho) (ios:List D),fl'=fl.drop k→vs'=vs.drop k→r=ρ.drop k→iosOf fl' r=some ios→IosR K mg F H ((ioAs k fl' vs').map (·.2)) ios:=by
  intro fl'
  induction fl' with
  | nil =>
   intro k vs' r ios h1 h2 h3 h4
   have:vs'=[]:=by
    rw [h2]
    apply List.drop_eq_nil_of_le
    rw [hv]
    have:=congrArg List.length h1
    simp at this
    omega
   subst this
   simp [iosOf] at h4
   subst h4
   trivial
  | cons b bs ih =>
   intro k vs' r ios h1 h2 h3 h4
   have hk:k<fl.length:=by
    have:=congrArg List.length h1
    simp at this
    omega
   have hb:fl[k]?=some b:=by
    have:=congrArg List.head? h1
    simpa using this.symm
   have hbs:bs=fl.drop (k+1):=by
    have:=congrArg List.tail h1
    simpa using this
   have hvk:k<vs.length:=by omega
   have hvs:vs'=vs[k]::vs.drop (k+1):=by rw [h2];exact List.drop_eq_getElem_cons hvk
   subst hvs
   cases r with
   | nil=>cases b<;>simp [iosOf] at h4
   | cons s r =>
    have hrk:k<ρ.length:=by
     have:=congrArg List.length h3
     simp at this
     omega
    have hr1:ρ[k]?=some s:=by
     have:=congrArg List.head? h3
     simpa using this.symm
    have hr2:r=ρ.drop (k+1):=by
     have:=congrArg List.tail h3
     simpa using this
    cases b with
    | false =>
     have q:=ih (k+1) (vs.drop (k+1)) r ios hbs rfl hr2 (by simpa [iosOf] using h4)
     cases e:vs[k]<;>simpa [ioAs,e] using q
    | true =>
     obtain ⟨a,ha⟩:=hr k hb
     have e:vs[k]=.ref a:=by
      have:vs[k]?=some vs[k]:=by simp [hvk]
      rw [this] at ha
      exact Option.some.inj ha
     rw [e]
     cases s with
     | io d =>
      simp only [iosOf] at h4
      cases q:iosOf bs r with
      | none=>rw [q] at h4;cases h4
      | some ios' =>
       rw [q] at h4
       have h5:d::ios'=ios:=Option.some.inj h4
       subst h5
       obtain ⟨l,z1,z2,z3,z4⟩:=g.slot k _ hr1
       have m:(k,a)∈G.io:=by
        rw [hG]
        have:=gX (i0:=0) (vs:=vs) (k:=k) (a:=a) hb ha
        rwa [Nat.zero_add] at this
       have:l=a:=g.ioU k l a z2 m
       subst this
       exact ⟨⟨z3,z4⟩,ih (k+1) (vs.drop (k+1)) r ios' hbs rfl hr2 q⟩
     | _=>simp [iosOf] at h4
 exact gen fl 0 vs ρ ios (by simp) (by simp) (by simp) h
end
section
variable {P:Program} {w:World} {K:Frag} {mg:MG} {base:Heap}
theorem iA {N ps:List Str} {fl:List Bool} {body:M Fl} {vs:List V} {H:Hp} {Q:VK} {E:XK} (hp:N.take ps.length=ps) (hl:fl.length=ps.length) (h:spV K mg fl (defn N.length fl body) vs H Q E) :
  liftS ⟨K,mg,fun _=>E⟩ body { nx:=fun _ H'=>Q .non H',rt:=Q } (start N vs) H:=by
 obtain ⟨hv,F,ds,hs,ha,hd,h⟩:=h
 have hpn:fl.length≤N.length:=by
  have:=congrArg List.length hp
  rw [List.length_take] at this
  omega
 have g0:=lb (N:=N) hs ha hd hpn
 have hio:∀(k:Nat),fl[k]?=some true→∃a,vs[k]?=some (V.ref a):=fun k q=>by
  have hk:k<fl.length:=(List.getElem?_eq_some_iff.mp q).1
  obtain ⟨l1,l2⟩:=ha.len
  have hkv:k<vs.length:=by omega
  have hkd:k<ds.length:=by omega
  obtain ⟨l,e,_⟩:=(ha.get k true vs[k] ds[k] q (by simp [hkv]) (by simp [hkd])).2 rfl
  exact ⟨l,by rw [←e];simp [hkv]⟩
 refine ⟨_,F,_,g0,?_⟩
 unfold defn at h
 rw [if_pos ha.len.2] at h
 have aft:∀{F' H':Hp} {σ':St} {ρ':Rho} {ios:List D},Same F F'→Good K mg ⟨H,F,ioAs 0 fl vs⟩ F' H' σ' ρ'→iosOf fl ρ'=some ios→After K mg F H F' H' (ioAd fl vs) ios:=fun {F' H' σ' ρ' ios} s g q =>
  ⟨s,g.sub,fun a o e n=>g.old a o e fun i z=>n (List.mem_map.mpr ⟨_,z,rfl⟩),g.new,oV g rfl hv q hio⟩
 generalize body (startR N.length fl ds)=R at h
 cases R with
 | no=>exact h
 | exc z ρ' =>
  cases q:iosOf fl ρ' with
  | none=>simp only [q] at h
  | some ios =>
   simp only [q] at h
   exact fun F' H' σ' c dx s g r=>h F' H' c dx (aft s g q) r
 | ok fl' ρ' =>
  cases fl' with
  | bk=>exact h.elim
  | ct=>exact h.elim
  | nx =>
   cases q:iosOf fl ρ' with
   | none=>simp only [q] at h
   | some ios =>
    simp only [q] at h
    exact fun F' H' σ' s g=>h F' H' .non (aft s g q) .non
  | rt d =>
   cases q:iosOf fl ρ' with
   | none=>simp only [q] at h
   | some ios =>
    simp only [q] at h
    exact fun F' H' σ' v s g r=>h F' H' v (aft s g q) r
theorem aP {x qual:Str} {st:Stmt} {f:Addr} {fd:FuncData} {N ps:List Str} {k:Nat} {fl:List Bool} {body:M Fl} (Fu:Fun K x qual st f fd) (S:FnScope N ps (defScope st)) (hl:fl.length=ps.length)
  (hbody:∀(cdv:Value) (A:Around) (outer:List Env) (s:Shared) (H:Hp) (E:XK),Room k (A.deeper (envOfC qual (defScope st) s.heap.objs.size f cdv)) →
   PVSs (cxOf CX0 P w K mg base N qual (defScope st) f cdv A outer s H E).nox (fun _=>E) (defBody st) body) :
  FnOk P w K mg base CX0 (k+1) f fd ps (spV K mg fl (defn N.length fl body)):=by
 refine Fu.ok S (fun vs H Q E h=>by rw [h.1,hl]) fun cdv A outer s H vs Q E hr h=>?_
 exact ⟨_,hbody cdv A outer s H E hr,iA S.pre hl h⟩
end
end VS

end
section
set_option linter.all false
set_option maxRecDepth 100000
namespace VS
open PySem PySem.Spec PyProof.Rows L2 VP
def retag (d:D):Sl→Sl
 | .ow _=>.ow d
 | .io _=>.io d
 | s=>s
theorem ip (j:Nat) (d:D) (r:Rho) (i:Nat):(putS j d r)[i]?=if i=j then (r[i]?).map (retag d) else r[i]?:=by
 unfold putS
 cases q:r[j]? with
 | none =>
  dsimp only
  split
  ·rename_i e;subst e;rw [q];rfl
  ·rfl
 | some s =>
  have hj:j<r.length:=(List.getElem?_eq_some_iff.mp q).1
  cases s with
  | no =>
   dsimp only
   split
   ·rename_i e;subst e;rw [q];rfl
   ·rfl
  | sh e =>
   dsimp only
   split
   ·rename_i e;subst e;rw [q];rfl
   ·rfl
  | ow e =>
   dsimp only
   split
   ·rename_i e;subst e;rw [List.getElem?_set_self hj,q];rfl
   ·rename_i e;rw [List.getElem?_set_ne (Ne.symm e)]
  | io e =>
   dsimp only
   split
   ·rename_i e;subst e;rw [List.getElem?_set_self hj,q];rfl
   ·rename_i e;rw [List.getElem?_set_ne (Ne.symm e)]
theorem pY (j:Nat) (d:D) (r:Rho):(putS j d r).length=r.length:=by
 unfold putS
 split<;>simp
theorem ik:∀(js:List Nat) (ds:List D) (r:Rho),(putAll js ds r).length=r.length
 | [],_,_=>rfl
 | _::_,[],_=>rfl
 | j::js,d::ds,r=>by
  show (putAll js ds (putS j d r)).length=_
  rw [ik,pY]
theorem cB:∀{js:List Nat} {ds:List D} {r:Rho} {i:Nat},i∉js→(putAll js ds r)[i]?=r[i]?
 | [],_,_,_,_=>rfl
 | _::_,[],_,_,_=>rfl
 | j::js,d::ds,r,i,h=>by
  show (putAll js ds (putS j d r))[i]?=_
  rw [cB (fun z=>h (List.mem_cons_of_mem _ z)),ip,if_neg (fun e=>h (by rw [e];exact List.mem_cons_self))]
theorem jf:∀{js:List Nat} {ds:List D} {r:Rho} {k i:Nat} {d:D},js.Nodup→js[k]?=some i→ds[k]?=some d→(putAll js ds r)[i]?=(r[i]?).map (retag d)
 | [],_,_,_,_,_,_,h,_=>by simp at h
 | _::_,[],_,_,_,_,_,_,h=>by simp at h
 | j::js,e::ds,r,0,i,d,nd,h1,h2=>by
  simp at h1 h2
  subst h1 h2
  show (putAll js ds (putS j e r))[j]?=_
  rw [cB (List.nodup_cons.mp nd).1,ip,if_pos rfl]
 | j::js,e::ds,r,k+1,i,d,nd,h1,h2=>by
  have h1':js[k]?=some i:=by simpa using h1
  have ne:i≠j:=fun z=>(List.nodup_cons.mp nd).1 (by rw [←z];exact List.mem_of_getElem? h1')
  show (putAll js ds (putS j e r))[i]?=_
  rw [jf (List.nodup_cons.mp nd).2 h1' (by simpa using h2),ip,if_neg ne]
section
variable {K:Frag} {mg:MG}
theorem IosR.get:∀{F H:Hp} {ls:List Addr} {ds:List D},IosR K mg F H ls ds→ls.length=ds.length∧∀(k:Nat) (l:Addr) (d:D),ls[k]?=some l→ds[k]?=some d→F l=none∧Obj1 K mg F H l d
 | _,_,[],[],_=>⟨rfl,fun k l d h=>by simp at h⟩
 | _,_,[],_::_,h=>(show False from h).elim
 | _,_,_::_,[],h=>(show False from h).elim
 | F,H,l::ls,d::ds,h=>by
  obtain ⟨h1,h2⟩:=IosR.get (F:=F) (H:=H) (ls:=ls) (ds:=ds) h.2
  refine ⟨by simp [h1],fun k l' d' e1 e2=>?_⟩
  cases k with
  | zero=>simp at e1 e2;subst e1 e2;exact h.1
  | succ k=>exact h2 k l' d' (by simpa using e1) (by simpa using e2)
theorem Good.called {G:Fx} {F H F' H':Hp} {σ:St} {ρ:Rho} {js:List Nat} {ls:List Addr} {ios:List D} (g:Good K mg G F H σ ρ) (hj:js.Nodup) (hl:js.length=ls.length)
  (hs:∀(k j:Nat) (l:Addr),js[k]?=some j→ls[k]?=some l→(∃s,ρ[j]?=some s∧Owned s=true)∧σ[j]?=some (some (V.ref l))) (a:After K mg F H F' H' ls ios):Good K mg G F' H' σ (putAll js ios ρ):=by
 obtain ⟨hi,ig⟩:=a.ios.get
 have inls:∀{l:Addr},l∈ls→∃(k j:Nat) (s:Sl),js[k]?=some j∧ls[k]?=some l∧ρ[j]?=some s∧Owned s=true∧σ[j]?=some (some (V.ref l)):=fun {l} h=>by
  obtain ⟨k,hk,e⟩:=List.mem_iff_getElem.mp h
  have e':ls[k]?=some l:=by rw [←e];simp [hk]
  have hk':k<js.length:=by omega
  obtain ⟨⟨s,q1,q2⟩,q3⟩:=hs k js[k] l (by simp [hk']) e'
  exact ⟨k,js[k],s,by simp [hk'],e',q1,q2,q3⟩
 have nomix:∀a' o,F' a'=some o→F a'=some o∨H a'=none:=a.new
 have keepF:∀{l:Addr},F l=none→(∃o,H l=some o)→F' l=none:=fun {l} h ⟨o,ho⟩=>by
  cases q:F' l with
  | none=>rfl
  | some u =>
   rcases a.new l u q with z | z
   ·rw [h] at z;cases z
   ·rw [ho] at z;cases z
 exact {
  sF:=g.sF.trans a.sF
  sub:=a.sub
  old:=fun b o e n=>by
   refine a.old b o (g.old b o e n) fun hb=>?_
   obtain ⟨k,j,s,q1,q2,q3,q4,q5⟩:=inls hb
   have t:=g.slot j s q3
   cases s with
   | no=>cases q4
   | sh d=>cases q4
   | ow d =>
    obtain ⟨l,z1,z2,z3,z4⟩:=t
    rw [q5] at z1;cases z1
    rw [e] at z3;cases z3
   | io d =>
    obtain ⟨l,z1,z2,z3,z4⟩:=t
    rw [q5] at z1;cases z1
    exact n j z2
  new:=fun b o e=>by
   rcases a.new b o e with z | z
   ·exact g.new b o z
   ·exact .inr (g.new0 z)
  len:=by rw [ik];exact g.len
  slot:=fun i s h=>by
   by_cases hi':i∈js
   ·obtain ⟨k,hk,e⟩:=List.mem_iff_getElem.mp hi'
    have e':js[k]?=some i:=by rw [←e];simp [hk]
    have hkl:k<ls.length:=by omega
    have hki:k<ios.length:=by omega
    rw [jf hj e' (d:=ios[k]) (by simp [hki])] at h
    obtain ⟨⟨s0,q1,q2⟩,q3⟩:=hs k i ls[k] e' (by simp [hkl])
    rw [q1] at h
    have h':retag ios[k] s0=s:=Option.some.inj h
    subst h'
    obtain ⟨y1,y2⟩:=ig k ls[k] ios[k] (by simp [hkl]) (by simp [hki])
    have t:=g.slot i s0 q1
    cases s0 with
    | no=>cases q2
    | sh d=>cases q2
    | ow d =>
     obtain ⟨l,z1,z2,z3,z4⟩:=t
     rw [q3] at z1;cases z1
     rw [q3]
     exact ⟨ls[k],rfl,y1,z3,y2⟩
    | io d =>
     obtain ⟨l,z1,z2,z3,z4⟩:=t
     rw [q3] at z1;cases z1
     rw [q3]
     exact ⟨ls[k],rfl,z2,y1,y2⟩
   ·rw [cB hi'] at h
    refine (g.slot i s h).same a.sF (fun l _ _ f t=>keepF f t) fun l o hv ow e=>a.old l o e fun hb=>?_
    obtain ⟨k,j,s',q1,q2,q3,q4,q5⟩:=inls hb
    have:i=j:=g.apart i j l s s' h q3 ow q4 (aI hv) q5
    subst this
    exact hi' (List.mem_of_getElem? q1)
  apart:=fun i j l s t h1 h2 o1 o2 e1 e2=>by
   have f:∀{i:Nat} {s:Sl},(putAll js ios ρ)[i]?=some s→Owned s=true→∃s',ρ[i]?=some s'∧Owned s'=true:=fun {i s} h o=>by
    by_cases hi':i∈js
    ·obtain ⟨k,hk,e⟩:=List.mem_iff_getElem.mp hi'
     have e':js[k]?=some i:=by rw [←e];simp [hk]
     obtain ⟨q1,_⟩:=hs k i (ls[k]'(by omega)) e' (by simp [show k<ls.length by omega])
     exact q1
    ·rw [cB hi'] at h;exact ⟨s,h,o⟩
   obtain ⟨s',a1,a2⟩:=f h1 o1
   obtain ⟨t',b1,b2⟩:=f h2 o2
   exact g.apart i j l s' t' a1 b1 a2 b2 e1 e2
  ioT:=fun i b h=>by
   obtain ⟨⟨o,q1⟩,q2,q3⟩:=g.ioT i b h
   refine ⟨?_,keepF q2 ⟨o,q1⟩,q3⟩
   by_cases hb:b∈ls
   ·obtain ⟨k,j,s,z1,z2,_⟩:=inls hb
    have hk:k<ios.length:=by
     have:=(List.getElem?_eq_some_iff.mp z2).1
     omega
    exact (ig k b ios[k] z2 (by simp [hk])).2.has
   ·exact ⟨o,a.old b o q1 hb⟩
  ioU:=g.ioU }
end
def AvR (L:Lc) (F:Hp) (σ:St):V→AV→Prop
 | v,.val d=>Den L.K L.mg F v d
 | v,.io j=>σ[j]?=some (some v)
inductive AvsR (L:Lc) (F:Hp) (σ:St):List V→List AV→Prop where
 | nil:AvsR L F σ [] []
 | cons {v:V} {a:AV} {vs:List V} {as:List AV} (h:AvR L F σ v a) (t:AvsR L F σ vs as):AvsR L F σ (v::vs) (a::as)
def RA (L:Lc):Rl (List AV) (List V):=fun _ F _ σ _ vs as=>AvsR L F σ vs as
theorem AvR.same {L:Lc} {F F':Hp} {σ:St} {v:V} {a:AV} (e:Same F F') (h:AvR L F σ v a):AvR L F' σ v a:=by
 cases a with
 | val d=>exact Den.same e h
 | io j=>exact h
def PAs (X:Cx) (EX:XE) (es:List Expr) (as:List VP.Arg):Prop:=PA X es (lift (lc X EX) (RA (lc X EX)) (mArgs as))
section
variable {X:Cx} {EX:XE} {e a:Expr} {es:List Expr} {as:List VP.Arg} {fa:M D} {pos:Pos}
theorem ah:PAs X EX [] []:=bM.le fun σ H Q ⟨G,F,ρ,g0,o⟩=>o F H [] (Same.refl _) g0 .nil
theorem af (ha:PV X EX a fa) (hr:PAs X EX es as) (hs:starEach (a::es) X.env=(false,eval a X.env)::starEach es X.env:=by rfl):PAs X EX (a::es) (.val fa::as) :=
 (aR ha hr hs).le fun σ H Q ⟨G,F,ρ,g0,o⟩=>au g0 o (fun x r q=>q) fun F1 H1 ρ1 d1 x s1 g1 r1 o1 =>
  au g1 o1 (fun x r q=>q.same s1) fun F2 H2 ρ2 d2 y s2 g2 r2 o2=>o2 F2 H2 _ (s1.trans s2) g2 (.cons (AvR.same s2 (a:=.val d1) r1) r2)
theorem bn (j:Nat) {x:Str} (hr:PAs X EX es as) (hN:X.N[j]?=some x:=by rfl) (hv:Vis X.env.scope x:=by first | exact Or.inl rfl | exact Or.inr (Or.inl rfl) | exact Or.inr (Or.inr rfl)) (hd:(x == ("__debug__" : Str))=false:=by decide)
  (hcd:(x == ("__classdict__" : Str))=false:=by decide) (hs:starEach (.Name x pos::es) X.env=(false,eval (.Name x pos) X.env)::starEach es X.env:=by rfl):PAs X EX (.Name x pos::es) (.io j::as) :=
 (aR (bz hN hv hd hcd) hr hs).le fun σ H Q ⟨G,F,ρ,g0,o⟩=>by
  have o':Out ((if (own ρ[j]?).isSome then bnd (mArgs as) (fun vs=>ret (.io j::vs)) ρ else .no)) (Post (lc X EX) (RA (lc X EX)) G F σ Q) (PostX (lc X EX) G F σ):=o
  cases q:ρ[j]? with
  | none=>rw [q] at o';exact o'.elim
  | some s =>
   rw [q] at o'
   have hv:∃v,σ[j]?=some (some v):=by
    have t:=g0.slot j s q
    cases s with
    | no=>exact o'.elim
    | sh d=>exact o'.elim
    | ow d=>obtain ⟨l,z,_⟩:=t;exact ⟨_,aI z⟩
    | io d=>obtain ⟨l,z,_⟩:=t;exact ⟨_,aI z⟩
   obtain ⟨v,hv⟩:=hv
   have o2:Out (bnd (mArgs as) (fun vs=>ret (.io j::vs)) ρ) (Post (lc X EX) (RA (lc X EX)) G F σ Q) (PostX (lc X EX) G F σ):=by
    cases s with
    | no=>exact o'.elim
    | sh d=>exact o'.elim
    | ow d=>exact o'
    | io d=>exact o'
   refine ⟨v,hv,au g0 o2 (fun x r q=>q) fun F1 H1 ρ1 d1 x s1 g1 r1 o1=>o1 F1 H1 _ s1 g1 (.cons (show AvR (lc X EX) F1 σ v (.io j) from hv) r1)⟩
theorem nW {L:Lc} {G:Fx} {F H:Hp} {σ:St} {ρ:Rho} (g:L.Good G F H σ ρ):∀{vs:List V} {as:List AV} {ds:List D} {fl:List Bool},AvsR L F σ vs as→avs as ρ=some ds→as.map (fun a=>match a with | .val _=>false | .io _=>true)=fl →
  ArgsR L.K L.mg F H fl vs ds∧∀i0:Nat,(ioSl as).length=((ioAs i0 fl vs).map (·.2)).length∧∀(k j:Nat) (l:Addr),(ioSl as)[k]?=some j→((ioAs i0 fl vs).map (·.2))[k]?=some l→(∃s,ρ[j]?=some s∧Owned s=true)∧σ[j]?=some (some (V.ref l)):=by
 intro vs as
 induction as generalizing vs with
 | nil =>
  intro ds fl h1 h2 h3
  cases h1
  simp [avs] at h2
  subst h2 h3
  exact ⟨trivial,fun i0=>⟨by simp [ioSl,ioAs],fun k j l e=>by simp [ioSl] at e⟩⟩
 | cons a as ih =>
  intro ds fl h1 h2 h3
  cases h1 with
  | cons hv ht =>
   rename_i v vs
   subst h3
   cases a with
   | val d =>
    simp only [avs] at h2
    cases q:avs as ρ with
    | none=>rw [q] at h2;cases h2
    | some ds' =>
     rw [q] at h2
     have h2':d::ds'=ds:=Option.some.inj h2
     subst h2'
     obtain ⟨k1,k2⟩:=ih ht q rfl
     refine ⟨⟨hv,k1⟩,fun i0=>?_⟩
     have e:ioAs i0 (List.map (fun a=>match a with | .val _=>false | .io _=>true) (.val d::as)) (v::vs)=ioAs (i0+1) (List.map (fun a=>match a with | .val _=>false | .io _=>true) as) vs:=by
      cases v<;>rfl
     rw [e]
     exact k2 (i0+1)
   | io j =>
    simp only [avs] at h2
    cases q0:own ρ[j]? with
    | none=>rw [q0] at h2;cases h2
    | some d =>
     rw [q0] at h2
     simp only at h2
     cases q:avs as ρ with
     | none=>rw [q] at h2;cases h2
     | some ds' =>
      rw [q] at h2
      have h2':d::ds'=ds:=Option.some.inj h2
      subst h2'
      obtain ⟨k1,k2⟩:=ih ht q rfl
      have hv':σ[j]?=some (some v):=hv
      have hl:∃l s,v=.ref l∧ρ[j]?=some s∧Owned s=true∧F l=none∧Obj1 L.K L.mg F H l d:=by
       cases q1:ρ[j]? with
       | none=>rw [q1] at q0;cases q0
       | some s =>
        rw [q1] at q0
        have t:=g.slot j s q1
        cases s with
        | no=>cases q0
        | sh e=>cases q0
        | ow e =>
         have q0':e=d:=Option.some.inj q0
         subst q0'
         obtain ⟨l,z1,z2,z3,z4⟩:=t
         rw [hv'] at z1
         have z1':v=V.ref l:=Option.some.inj z1
         exact ⟨l,_,z1',rfl,rfl,z2,z4⟩
        | io e =>
         have q0':e=d:=Option.some.inj q0
         subst q0'
         obtain ⟨l,z1,z2,z3,z4⟩:=t
         rw [hv'] at z1
         have z1':v=V.ref l:=Option.some.inj z1
         exact ⟨l,_,z1',rfl,rfl,z3,z4⟩
      obtain ⟨l,s,rfl,q1,q2,q3,q4⟩:=hl
      refine ⟨⟨⟨l,rfl,q3,q4⟩,k1⟩,fun i0=>?_⟩
      obtain ⟨m1,m2⟩:=k2 (i0+1)
      refine ⟨by simpa [ioSl,ioAs] using m1,fun k j' l' e1 e2=>?_⟩
      cases k with
      | zero =>
       simp [ioSl,ioAs] at e1 e2
       subst e1 e2
       exact ⟨⟨s,q1,q2⟩,hv'⟩
      | succ k=>exact m2 k j' l' (by simpa [ioSl] using e1) (by simpa [ioAs] using e2)
variable {CX:CXT} {k:Nat} {fA:Addr} {fd:FuncData} {ps:List Str} {E:XK} {x:Str} {p:Pos} {fl:List Bool} {fs:Fn}
theorem iN {L:Lc} {G:Fx} {F H:Hp} {σ:St} {ρ:Rho} (g:L.Good G F H σ ρ) {js:List Nat} {ls:List Addr} (hj:js.Nodup) (hl:js.length=ls.length)
  (hs:∀(k j:Nat) (l:Addr),js[k]?=some j→ls[k]?=some l→(∃s,ρ[j]?=some s∧Owned s=true)∧σ[j]?=some (some (V.ref l))):ls.Nodup:=by
 rw [List.nodup_iff_pairwise_ne,List.pairwise_iff_getElem]
 intro i j hi hj' hij e
 have hi2:i<js.length:=by omega
 have hj2:j<js.length:=by omega
 obtain ⟨⟨s,a1,a2⟩,a3⟩:=hs i js[i] ls[i] (by simp [hi2]) (by simp [hi])
 obtain ⟨⟨t,b1,b2⟩,b3⟩:=hs j js[j] ls[j] (by simp [hj2]) (by simp [hj'])
 rw [e] at a3
 have:=g.apart js[i] js[j] ls[j] s t a1 b1 a2 b2 a3 b3
 have:i=j:=(List.getElem_inj hj).mp this
 omega
theorem kW {L:Lc} {G:Fx} {F H:Hp} {σ:St} {ρ:Rho} {vs:List V} {as:List AV} {Q:VK} {P:D→Rho→Prop} {Ex:Xn→Rho→Prop} (g:L.Good G F H σ ρ) (r:AvsR L F σ vs as)
  (hfl:as.map (fun a=>match a with | .val _=>false | .io _=>true)=fl) (o:Out (mApp fs as ρ) P Ex) (hE:∀x r,Ex x r→PostX L G F σ x r)
  (hP:∀F' H' ρ' d v,Same F F'→L.Good G F' H' σ ρ'→Den L.K L.mg F' v d→P d ρ'→Q v H'):spV L.K L.mg fl fs vs H Q (L.EX σ):=by
 unfold mApp at o
 cases q:avs as ρ with
 | none=>rw [q] at o;exact o.elim
 | some ds =>
  rw [q] at o
  dsimp only at o
  by_cases nd:(ioSl as).Nodup
  ·rw [if_pos nd] at o
   obtain ⟨k1,k2⟩:=nW g r q hfl
   obtain ⟨k3,k4⟩:=k2 0
   refine ⟨by rw [k1.len.1],F,ds,g.sub,k1,iN g nd k3 k4,?_⟩
   cases q2:fs ds with
   | no=>rw [q2] at o;exact o.elim
   | ok d ios =>
    rw [q2] at o
    exact fun F' H' v a rd=>hP F' H' _ d v a.sF (Good.called g nd k3 k4 a) rd o
   | exc xx ios =>
    rw [q2] at o
    exact fun F' H' c dx a rx=>hE _ _ o F' H' c dx a.sF (Good.called g nd k3 k4 a) rx
  ·rw [if_neg nd] at o;exact o.elim
def PassesAt (CX:CXT) (X:Cx) (EX:XE):Prop:=∀(pins:List (Addr×Obj)) (σ:St) (H:Hp) (s:Shared) (e:Value) (s':Shared),Inv X pins σ H s→CX X.stack H s (EX σ) e s'→X.xe e s'
theorem jR {pins:List (Addr×Obj)} {σ:St} {H:Hp} {s:Shared} {Q:VK} {us:List Value} {vs:List V} {sp:Sp} (F:FnOk X.prog X.w X.K X.mg X.base CX k fA fd ps sp) (hr:Room k X.A) (hb:Binds X.K fd ps []) (hx:PassesAt CX X EX)
  (I:Inv X pins σ H s) (r:Vals vs us) (h:sp vs H Q (EX σ)):wpAny (model X.prog X.w) X.A (call (.ref fA) us) (EP X pins σ Q) X.xe s:=by
 have hl:us.length=ps.length:=by rw [←r.length];exact F.len _ _ _ _ h
 have hb':=hb s us I.kIn (by simpa using hl)
 rw [List.append_nil] at hb'
 refine wpAny_call (codeAny_mono (F.run X.A X.stack s H ⟨us,[]⟩ us vs Q (EX σ) hr I.env0 hb' r h) fun r s' hq=>?_)
 cases r with
 | error e=>exact hx pins σ H s e s' I hq
 | ok fl =>
  cases fl with
  | ret u=>exact I.after hq
  | next=>exact False.elim hq
  | brk=>exact False.elim hq
  | cont=>exact False.elim hq
theorem bY:∀{as:List VP.Arg} {ρ ρ':Rho} {vs:List AV},mArgs as ρ=.ok vs ρ'→vs.map (fun a=>match a with | .val _=>false | .io _=>true)=as.map VP.Arg.isIo
 | [],ρ,ρ',vs,h=>by
  cases h;rfl
 | .val f::as,ρ,ρ',vs,h=>by
  simp only [mArgs,VP.bnd] at h
  cases q:f ρ with
  | ok d r =>
   simp only [q] at h
   cases q2:mArgs as r with
   | ok ws r2 =>
    simp only [q2,VP.ret] at h
    cases h
    simp [VP.Arg.isIo,bY q2]
   | exc x r2=>simp only [q2] at h;cases h
   | no=>simp only [q2] at h;cases h
  | exc x r2=>simp only [q] at h;cases h
  | no=>simp only [q] at h;cases h
 | .io j::as,ρ,ρ',vs,h=>by
  simp only [mArgs,VP.bnd] at h
  split at h
  ·cases q2:mArgs as ρ with
   | ok ws r2 =>
    simp only [q2,VP.ret] at h
    cases h
    simp [VP.Arg.isIo,bY q2]
   | exc x r2=>simp only [q2] at h;cases h
   | no=>simp only [q2] at h;cases h
  ·cases h
theorem dZ (F:FnOk X.prog X.w X.K X.mg X.base CX k fA fd ps (spV X.K X.mg fl fs)) (hr:Room k X.A) (hg:Gl X x) (hm:X.mg x=some (.ref fA)) (hk:PySem.W.keepIn X.K (.ref fA)=true) (hb:Binds X.K fd ps []) (hx:PassesAt CX X EX)
  (ha:PAs X EX (e::es) as) (hfl:as.map VP.Arg.isIo=fl:=by rfl) (hdb:(x == ("__debug__" : Str))=false:=by decide) (he:starEach (e::es) X.env=(false,eval e X.env)::starEach es X.env:=by rfl) (hpl:(backTo pos (starEach es X.env)).any (·.1)=false:=by rfl) :
  PV X EX (.Call (.Name x p) (e::es) [] pos) (mCall fs as):=by
 intro pins s σ H Q I h
 obtain ⟨G,F0,ρ,g0,o⟩:=h
 refine wpAny_Call_Name_kw (c7 I hg hm ?_ hdb)
 refine PySem.W.callWith_K (h₀:=X.base) I.ok.mod.kin hk (thn (ha pos pins s σ H (fun vs H1=>spV X.K X.mg fl fs vs H1 Q (EX σ)) I ⟨G,F0,ρ,g0,?_⟩) fun us s1 ⟨vs,H1,I1,r,q⟩=>⟨I1.kIn,?_⟩) he hpl
 ·unfold mCall VP.bnd at o
  cases q:mArgs as ρ with
  | no=>rw [q] at o;exact o.elim
  | exc xx ρ1=>rw [q] at o;exact o
  | ok av ρ1 =>
   rw [q] at o
   intro F1 H1 vs s1 g1 r1
   exact kW (L:=lc X EX) g1 r1 (by rw [bY q];exact hfl) o (fun x r q=>q.same s1) fun F' H' ρ' d v s' g' rd P=>P F' H' v (s1.trans s') g' rd
 ·exact jR F hr hb hx I1 r q
theorem pass0V:PassesAt CX0 X EX:=fun _ _ _ _ _ _ _ h=>h.elim
end
end VS

end
section
set_option linter.all false
set_option maxRecDepth 100000
namespace VS
open PySem PySem.Spec PyProof.Rows L2 VP
theorem nS:LIM=sizeLine:=sizeLine_eq.symm
section
variable {X:Cx} {EX:XE} {L:Lc}
theorem fJ {gv:Int→Int→V} {gd:Int→Int→D} {g:D→D→Option D} (hd:∀F i j,Den L.K L.mg F (gv i j) (gd i j))
  (hg:∀x y d,g x y=some d→∃i j,x=.int i∧y=.int j∧d=gd i j):OpG L (rI0 gv) g:=fun G F H σ ρ x y dx dy d Q g0 rx ry e k=>by
 obtain ⟨i,j,rfl,rfl,rfl⟩:=hg dx dy d e
 cases rx;cases ry
 exact ⟨i,j,rfl,rfl,k F H _ (Same.refl _) g0 (hd F i j)⟩
theorem v4:OpG L (rI0 fun i j=>.int (i+j)) addI:=fJ (gd:=fun i j=>.int (i+j)) (fun F i j=>.int _) fun x y d h=>by
 cases x<;>cases y<;>simp [addI] at h
 exact ⟨_,_,rfl,rfl,h.symm⟩
theorem du:OpG L (rI0 fun i j=>.int (i-j)) subI:=fJ (gd:=fun i j=>.int (i-j)) (fun F i j=>.int _) fun x y d h=>by
 cases x<;>cases y<;>simp [subI] at h
 exact ⟨_,_,rfl,rfl,h.symm⟩
theorem gT:OpG L (rI CMul fun i j=>.int (i*j)) mulI:=fun G F H σ ρ x y dx dy d Q g0 rx ry e k=>by
 cases dx<;>cases dy<;>try (simp only [mulI,reduceCtorEq] at e;done)
 rename_i i j
 simp only [mulI] at e
 split at e
 ·rename_i hc
  cases e
  cases rx;cases ry
  exact ⟨i,j,rfl,rfl,hc,k F H _ (Same.refl _) g0 (.int _)⟩
 ·cases e
theorem oO:OpG L (rI CDiv fun i j=>.int (i / j)) fdivI:=fun G F H σ ρ x y dx dy d Q g0 rx ry e k=>by
 cases dx<;>cases dy<;>try (simp only [fdivI,reduceCtorEq] at e;done)
 rename_i i j
 simp only [fdivI] at e
 split at e
 ·rename_i hc
  cases e
  cases rx;cases ry
  exact ⟨i,j,rfl,rfl,hc,k F H _ (Same.refl _) g0 (.int _)⟩
 ·cases e
theorem fV:OpG L (rI (fun _ j=>0<j) fun i j=>.int (i % j)) modI:=fun G F H σ ρ x y dx dy d Q g0 rx ry e k=>by
 cases dx<;>cases dy<;>try (simp only [modI,reduceCtorEq] at e;done)
 rename_i i j
 simp only [modI] at e
 split at e
 ·rename_i hc
  cases e
  cases rx;cases ry
  exact ⟨i,j,rfl,rfl,hc,k F H _ (Same.refl _) g0 (.int _)⟩
 ·cases e
theorem g_lt:OpG L (rI0 fun i j=>.bl (decide (i<j))) ltI:=fJ (gd:=fun i j=>.bl (decide (i<j))) (fun F i j=>.bl _) fun x y d h=>by
 cases x<;>cases y<;>simp [ltI] at h
 exact ⟨_,_,rfl,rfl,h.symm⟩
theorem g_le:OpG L (rI0 fun i j=>.bl (decide (i≤j))) leI:=fJ (gd:=fun i j=>.bl (decide (i≤j))) (fun F i j=>.bl _) fun x y d h=>by
 cases x<;>cases y<;>simp [leI] at h
 exact ⟨_,_,rfl,rfl,h.symm⟩
theorem g_gt:OpG L (rI0 fun i j=>.bl (decide (j<i))) gtI:=fJ (gd:=fun i j=>.bl (decide (j<i))) (fun F i j=>.bl _) fun x y d h=>by
 cases x<;>cases y<;>simp [gtI] at h
 exact ⟨_,_,rfl,rfl,h.symm⟩
theorem g_ge:OpG L (rI0 fun i j=>.bl (decide (j≤i))) geI:=fJ (gd:=fun i j=>.bl (decide (j≤i))) (fun F i j=>.bl _) fun x y d h=>by
 cases x<;>cases y<;>simp [geI] at h
 exact ⟨_,_,rfl,rfl,h.symm⟩
theorem i9 {K:Frag} {mg:MG} {F:Hp} {x:V} {dx:D} (rx:Den K mg F x dx):isNon dx=decide (x=.non):=by
 cases rx<;>simp [isNon]
theorem rR:OpG L (fun x y H Q=>y=.non∧Q (.bl (decide (x=.non))) H) isND:=fun G F H σ ρ x y dx dy d Q g0 rx ry e k=>by
 unfold isND at e
 split at e
 ·rename_i hn
  cases e
  rw [i9 ry] at hn
  refine ⟨of_decide_eq_true hn,?_⟩
  rw [←i9 rx]
  exact k F H _ (Same.refl _) g0 (.bl _)
 ·cases e
theorem jU:UnG L (rU fun i=>.int (-i)) negI:=fun G F H σ ρ x dx d Q g0 rx e k=>by
 cases dx<;>simp [negI] at e
 subst e
 rcases rx with rx | ⟨l,_,z⟩
 ·cases rx
  exact ⟨_,rfl,k F H _ (Same.refl _) g0 (.int _)⟩
 ·exact z.elim
def rCatA (K:Frag):R2:=fun x y H Q=>∃a b xs ys,x=.ref a∧y=.ref b∧SqT K H a xs∧SqT K H b ys∧xs.length+ys.length≤sizeLine ∧
 (ys=[]→Q (.ref a) H)∧(xs=[]→Q (.ref b) H)∧(∀p,H p=none→Q (.ref p) (upd H p (.tup (xs++ys))))
theorem qs {prog:Program} {w:World} {A:Around} {E:Value→Shared→Prop} {s:Shared} {t b:Addr} {ws:List Value} {Q:Value→Shared→Prop} (ht:IsTup s.heap t (#[]:Array Value)) (hb:IsTup s.heap b ws.toArray)
  (h1:Q (.ref b) s):wpAny (model prog w) A (binaryOp .Add (.ref t) (.ref b)) Q E s:=by
 obtain ⟨⟨cls,dd,data,sl⟩,ho,hc,n,hd⟩:=id ht
 obtain ⟨⟨cls2,dd2,data2,sl2⟩,ho2,hc2,n2,hd2⟩:=id hb
 simp only at hc hd hc2 hd2
 subst hc hd hc2 hd2
 exact concat_meets ⟨_,ho,rfl⟩ ⟨_,ho2,rfl⟩ noFill_tuple_add seq_tuple_add PySem.F.slot_tuple_add PySem.F.entry_tuple_add (PySem.F.args_tuple_add_2 _ _)
   (tuple_addW0 t b #[] ws.toArray n n2 dd dd2 sl sl2 rfl) ⟨ho,ho2,h1⟩
theorem qS:OpR X (binaryOp .Add) (rCatA X.K):=by
 intro pins s σ H x y v u Q I rx ry h
 obtain ⟨a,b,xs,ys,rfl,rfl,ha,hb,hz,q1,q2,q3⟩:=h
 by_cases hx:xs=[]
 ·cases rx
  cases ry
  obtain ⟨its,r1,p1,_⟩:=I.tuple ha
  obtain ⟨its2,r2,p2,_⟩:=I.tuple hb
  have:its=[]:=r1.nil_iff.mpr hx
  subst this
  exact qs p1 p2 ⟨.ref b,H,I,rfl,q2 hx⟩
 ·exact qU pins s σ H _ _ v u Q I rx ry ⟨a,b,xs,ys,rfl,rfl,ha,hb,hx,hz,q1,fun _=>q3⟩
theorem sD:OpG L (rCatA L.K) addT:=fun G F H σ ρ x y dx dy d Q g0 rx ry e k=>by
 cases dx<;>cases dy<;>try (simp only [addT,reduceCtorEq] at e;done)
 rename_i xs ys
 simp only [addT] at e
 split at e
 ·rename_i hl
  cases e
  cases rx with
  | tup h1 r1=>cases ry with
   | tup h2 r2 =>
    rename_i a vs b ws
    refine ⟨a,b,vs,ws,rfl,rfl,SqT.same h1 g0.sub,SqT.same h2 g0.sub,?_,fun z=>?_,fun z=>?_,fun p hp=>?_⟩
    ·rw [r1.length,r2.length,←nS];exact hl
    ·subst z
     cases r2
     rw [List.append_nil] at k
     exact k F H _ (Same.refl _) g0 (.tup h1 r1)
    ·subst z
     cases r1
     exact k F H _ (Same.refl _) g0 (.tup h2 r2)
    ·have sF:=aH (o:=.tup (vs++ws)) (g0.sub.free hp)
     exact k _ _ _ sF (g0.laid hp) (.tup (SqT.of ax) (DenL.append (DenL.same sF r1) (DenL.same sF r2)))
 ·cases e
theorem DenL.atI {K:Frag} {mg:MG} {F:Hp} {vs:List V} {ds:List D} {i:Int} {d:D} (h:DenL K mg F vs ds) (e:ixD ds i=some d):∃v,atI vs i=some v∧Den K mg F v d:=by
 unfold ixD at e
 unfold L2.atI
 rw [h.length]
 show ∃v,(ixP ds.length i).bind _=_∧_
 cases q:ixP ds.length i with
 | none=>rw [q] at e;cases e
 | some j =>
  rw [q] at e
  exact h.get e
theorem sG:OpG L (rIx L.K) itemD:=fun G F H σ ρ x y dx dy d Q g0 rx ry e k=>by
 cases dx<;>cases dy<;>try (simp only [itemD,reduceCtorEq] at e;done)
 ·cases ry
  cases rx with
  | tup h1 r1 =>
   obtain ⟨v,e1,e2⟩:=DenL.atI r1 e
   exact .inr (.inl ⟨_,_,_,v,rfl,rfl,SqT.same h1 g0.sub,e1,k F H v (Same.refl _) g0 e2⟩)
 ·cases ry
  cases rx with
  | lst h1 r1 =>
   obtain ⟨v,e1,e2⟩:=DenL.atI r1 e
   exact .inl ⟨_,_,_,v,rfl,rfl,SqL.same h1 g0.sub,e1,k F H v (Same.refl _) g0 e2⟩
variable {a b e c:Expr} {fa fb:M D} {pos:Pos}
theorem ao (ha:PV X EX a fa) (hb:PV X EX b fb) (hs:PlainIx b:=by intro _ _;rfl):PV X EX (.Subscript a b pos) (m2 itemD fa fb) :=
 (kF hJ ha hb hs).le (cK sG (fun _ _ _ q=>q) fun _ _ _ q=>q)
theorem ic {L:Lc} {G:Fx} {F H:Hp} {σ:St} {ρ:Rho} {j:Nat} (g:L.Good G F H σ ρ) (h:(own ρ[j]?).isSome=true):∃l d,σ[j]?=some (some (V.ref l))∧own ρ[j]?=some d∧Obj1 L.K L.mg F H l d:=by
 cases q:ρ[j]? with
 | none=>rw [q] at h;cases h
 | some t =>
  rw [q] at h
  have sl:=g.slot j t q
  cases t with
  | no=>cases h
  | sh d=>cases h
  | ow d=>obtain ⟨l,z1,z2,z3,z4⟩:=sl;exact ⟨l,d,aI z1,rfl,z4⟩
  | io d=>obtain ⟨l,z1,z2,z3,z4⟩:=sl;exact ⟨l,d,aI z1,rfl,z4⟩
theorem ba (j:Nat) {x:Str} {p:Pos} (hb:PV X EX b fb) (hs:PlainIx b:=by intro _ _;rfl) (hN:X.N[j]?=some x:=by rfl) (hv:Vis X.env.scope x:=by first | exact Or.inl rfl | exact Or.inr (Or.inl rfl) | exact Or.inr (Or.inr rfl)) (hd:(x == ("__debug__" : Str))=false:=by decide)
  (hcd:(x == ("__classdict__" : Str))=false:=by decide):PV X EX (.Subscript (.Name x p) b pos) (mIxO j fb):=by
 refine (kF hJ (bz hN hv hd hcd) hb hs).le fun σ H Q ⟨G,F,ρ,g0,o⟩=>?_
 unfold mIxO at o
 by_cases ho:(own ρ[j]?).isSome=true
 ·rw [if_pos ho] at o
  obtain ⟨l,d0,hv',_,_⟩:=ic g0 ho
  refine ⟨_,hv',au g0 o (fun x r q=>q) fun F1 H1 ρ1 d1 y s1 g1 r1 o1=>?_⟩
  unfold ixAt at o1
  by_cases ho1:(own ρ1[j]?).isSome=true
  ·obtain ⟨l',d,hl',hd',ob⟩:=ic g1 ho1
   rw [hv'] at hl'
   cases hl'
   rw [hd'] at o1
   obtain ⟨d2,e2,q2⟩:=Out.opt o1
   cases d with
   | lst ds =>
    obtain ⟨vs,h1,h2⟩:=ob
    cases d1 with
    | int i =>
     cases r1
     obtain ⟨w,e1,e3⟩:=DenL.atI h2 e2
     exact .inl ⟨_,_,_,w,rfl,rfl,SqL.of h1,e1,q2 F1 H1 w s1 g1 e3⟩
    | _=>exact absurd e2 (by simp [itemD])
   | dct ks ds=>cases d1<;>exact absurd e2 (by simp [itemD])
   | ins c ns ds=>cases d1<;>exact absurd e2 (by simp [itemD])
   | _=>exact ob.elim
  ·cases q:own ρ1[j]? with
   | none=>rw [q] at o1;exact o1.elim
   | some d=>rw [q] at ho1;exact absurd rfl ho1
 ·rw [if_neg ho] at o;exact o.elim
end
end VS

end
section
set_option linter.all false
set_option maxRecDepth 100000
namespace VS
open PySem PySem.Spec PyProof.Rows L2 VP
def clOf (cells:List (Str×Addr)):List (Str×NameKind)→List (Str×Addr)→List (Str×Addr)
 | [],acc=>acc
 | (x,k)::r,acc=>if k == .free then
   (match cells.lookup x with
   | some c=>clOf cells r ((x,c)::acc)
   | none=>clOf cells r acc)
  else clOf cells r acc
theorem eV {cells:List (Str×Addr)}:∀{names:List (Str×NameKind)} {acc:List (Str×Addr)} {p:Str×Addr},p∈clOf cells names acc→p∈acc∨cells.lookup p.1=some p.2
 | [],_,_,h=>.inl h
 | (x,k)::r,acc,p,h=>by
  unfold clOf at h
  split at h
  ·cases q:cells.lookup x with
   | none=>rw [q] at h;exact eV h
   | some c =>
    rw [q] at h
    rcases eV h with h | h
    ·rcases List.mem_cons.mp h with h | h
     ·subst h;exact .inr q
     ·exact .inl h
    ·exact .inr h
  ·exact eV h
theorem dS {cells:List (Str×Addr)}:∀{names:List (Str×NameKind)} {acc:List (Str×Addr)} {p:Str×Addr},p∈acc→p∈clOf cells names acc
 | [],_,_,h=>h
 | (x,k)::r,acc,p,h=>by
  unfold clOf
  split
  ·cases q:cells.lookup x with
   | none=>exact dS h
   | some c=>exact dS (List.mem_cons_of_mem _ h)
  ·exact dS h
theorem eU {cells:List (Str×Addr)} {x:Str} {c:Addr} (hc:cells.lookup x=some c):∀{names:List (Str×NameKind)} {acc:List (Str×Addr)},(x,NameKind.free)∈names→(x,c)∈clOf cells names acc
 | (y,k)::r,acc,h=>by
  unfold clOf
  rcases List.mem_cons.mp h with h | h
  ·cases h
   simp only [beq_self_eq_true,if_true,hc]
   exact dS List.mem_cons_self
  ·split
   ·cases q:cells.lookup y with
    | none=>exact eU hc h
    | some c'=>exact eU hc h
   ·exact eU hc h
theorem cm {α:Type} {x:Str} {a:α}:∀{l:List (Str×α)},(x,a)∈l→∃b,l.lookup x=some b
 | (y,b)::r,h=>by
  by_cases e:(x == y)=true
  ·exact ⟨b,by simp [List.lookup_cons,e]⟩
  ·have e':(x == y)=false:=by simpa using e
   rcases List.mem_cons.mp h with h | h
   ·cases h;simp at e'
   ·obtain ⟨c,hc⟩:=cm h
    exact ⟨c,by simp [List.lookup_cons,e',hc]⟩
theorem bB {cells:List (Str×Addr)} {names:List (Str×NameKind)} {x:Str} {c:Addr} (h:(clOf cells names []).lookup x=some c):cells.lookup x=some c:=by
 rcases eV (PySem.mem_of_lookup h) with h | h
 ·cases h
 ·exact h
theorem mR {cells:List (Str×Addr)} {names:List (Str×NameKind)} {x:Str} {c:Addr} (hc:cells.lookup x=some c) (h:(x,NameKind.free)∈names):(clOf cells names []).lookup x=some c:=by
 obtain ⟨b,hb⟩:=cm (eU (acc:=[]) hc h)
 have:=bB hb
 rw [hc] at this
 cases this
 exact hb
theorem f7 {scope:Scope} {env:Env} (h:∀p∈scope.names,p.2=.free→∃c,env.cells.lookup p.1=some c):closureFor scope env=pure (clOf env.cells scope.names []):=by
 have gen:∀(names:List (Str×NameKind)) (acc:List (Str×Addr)),(∀p∈names,p.2=.free→∃c,env.cells.lookup p.1=some c) →
   (forIn names acc fun (x:Str×NameKind) r=>(if x.2 == .free then (do let c ←cellOf env x.1;pure (ForInStep.yield ((x.1,c)::r))) else pure (ForInStep.yield r):Sem _))=pure (clOf env.cells names acc):=by
  intro names
  induction names with
  | nil=>intro acc _;rfl
  | cons p r ih =>
   intro acc hp
   obtain ⟨x,k⟩:=p
   rw [List.forIn_cons]
   unfold clOf
   by_cases hk:k=.free
   ·subst hk
    obtain ⟨c,hc⟩:=hp (x,.free) List.mem_cons_self rfl
    have e:cellOf env x=pure c:=by unfold cellOf;rw [show env.cells.lookup x=some c from hc]
    simp only [beq_self_eq_true,if_true,e,hc]
    exact ih _ fun q hq=>hp q (List.mem_cons_of_mem _ hq)
   ·have hb:(k == NameKind.free)=false:=by simpa using hk
    simp only [hb,Bool.false_eq_true,if_false]
    exact ih _ fun q hq=>hp q (List.mem_cons_of_mem _ hq)
 have:=gen scope.names [] h
 unfold closureFor
 simpa using this
theorem bN {scope:Scope} {env:Env} {x:Str}:(relabel scope env).names.lookup x=(scope.names.lookup x).map fun k=>if (k == .free&&env.scope.kind == .function&&env.kindOf x == some .cell) then .cell else k:=by
 unfold relabel
 generalize scope.names=l
 induction l with
 | nil=>rfl
 | cons p r ih =>
  obtain ⟨n,k⟩:=p
  simp only [List.map_cons]
  by_cases hx:(x == n)=true
  ·have e:x=n:=by simpa using hx
   subst e
   simp only [List.lookup_cons,beq_self_eq_true,Option.map_some]
   split<;>simp [List.lookup_cons]
  ·have e':(x == n)=false:=by simpa using hx
   have e2:List.lookup x ((n,k)::r)=List.lookup x r:=by simp [List.lookup_cons,e']
   rw [e2,←ih]
   split<;>simp [List.lookup_cons,e']
def compChk (outer inner:List (Str×NameKind)) (N N':List Str):Bool :=
 inner.all (fun p=>p.2 != .cell&&(p.2 != .free||outer.lookup p.1 == some .cell||outer.lookup p.1 == some .free)&&(p.2 != .local||inner.lookup p.1 == some .local)) &&
 decide (N.length≤N'.length)&&(List.range N.length).all (fun i=>match N'[i]? with
  | some x=>inner.lookup x != some .local&&(inner.lookup x == none||N[i]? == some x)
  | none=>true)&&(match N'[N'.length-1]? with
  | some x=>inner.lookup x == none
  | none=>false)&&decide (N.length+1≤N'.length)
def compCx (X:Cx) (scope:Scope) (C:Addr) (N':List Str) (s:Shared) (H:Hp) (ex:List Addr):Cx :=
 { X with env:=compEnvC scope (clOf X.env.cells scope.names []) C X.env,N:=N',s₀:=s,H₀:=H,outer:=X.stack,ex:=ex,fn:=fun _=>false,pn:=[],xe:=fun _ _=>False }
structure CompOk (X:Cx) (scope:Scope) (N':List Str):Prop where
 kind:scope.kind=.function
 chk:compChk X.env.scope.names scope.names X.N N'=true
section
variable {X:Cx} {scope:Scope} {N':List Str}
theorem CompOk.free (c:CompOk X scope N') {p:Str×NameKind} (hp:p∈scope.names) (hf:p.2=.free):X.env.kindOf p.1=some .cell∨X.env.kindOf p.1=some .free:=by
 have h:=c.chk
 unfold compChk at h
 simp only [Bool.and_eq_true,List.all_eq_true] at h
 have q:=(h.1.1.1.1 p hp).1.2
 rw [hf] at q
 simp at q
 exact q
theorem CompOk.nocell (c:CompOk X scope N') {p:Str×NameKind} (hp:p∈scope.names):p.2≠.cell:=by
 have h:=c.chk
 unfold compChk at h
 simp only [Bool.and_eq_true,List.all_eq_true] at h
 have q:=(h.1.1.1.1 p hp).1.1
 simpa using q
theorem CompOk.names (c:CompOk X scope N') {p:Str×NameKind} (hp:p∈scope.names) (hl:p.2=.local):scope.names.lookup p.1=some .local:=by
 have h:=c.chk
 unfold compChk at h
 simp only [Bool.and_eq_true,List.all_eq_true] at h
 have q:=(h.1.1.1.1 p hp).2
 rw [hl] at q
 simpa using q
theorem CompOk.len (c:CompOk X scope N'):X.N.length+1≤N'.length:=by
 have h:=c.chk
 unfold compChk at h
 simp only [Bool.and_eq_true] at h
 exact of_decide_eq_true h.2
theorem CompOk.acc (c:CompOk X scope N') {x:Str} (hx:N'[N'.length-1]?=some x):scope.names.lookup x=none:=by
 have h:=c.chk
 unfold compChk at h
 simp only [Bool.and_eq_true] at h
 have q:=h.1.2
 rw [hx] at q
 simpa using q
theorem CompOk.at (c:CompOk X scope N') {i:Nat} {x:Str} (hi:i<X.N.length) (hx:N'[i]?=some x):scope.names.lookup x≠some .local∧(scope.names.lookup x=none∨X.N[i]?=some x):=by
 have h:=c.chk
 unfold compChk at h
 simp only [Bool.and_eq_true,List.all_eq_true] at h
 have q:=h.1.1.2 i (List.mem_range.mpr hi)
 rw [hx] at q
 simp only [Bool.and_eq_true,Bool.or_eq_true] at q
 refine ⟨by simpa using q.1,?_⟩
 rcases q.2 with z | z
 ·exact .inl (by simpa using z)
 ·exact .inr (by simpa using z)
theorem CompOk.clos (c:CompOk X scope N') (ok:X.Ok):closureFor scope X.env=pure (clOf X.env.cells scope.names []) :=
 f7 fun p hp hf=>ok.has p.1 (c.free hp hf)
theorem CompOk.look (c:CompOk X scope N') (ok:X.Ok) {x:Str} (hx:scope.names.lookup x=some .free) :
  ((relabel scope X.env).names.lookup x=some .cell∨(relabel scope X.env).names.lookup x=some .free)∧(X.env.kindOf x=some .cell∨X.env.kindOf x=some .free)∧∃a,X.env.cells.lookup x=some a∧(clOf X.env.cells scope.names []).lookup x=some a:=by
 have hm:=PySem.mem_of_lookup hx
 have hk:=c.free hm rfl
 obtain ⟨a,ha⟩:=ok.has x hk
 refine ⟨?_,hk,a,ha,mR ha hm⟩
 rw [bN,hx]
 simp only [Option.map_some]
 split
 ·exact .inl rfl
 ·exact .inr rfl
theorem kY {pins:List (Addr×Obj)} {σ:St} {H:Hp} {s:Shared} {fp:List Addr} {h₁:Heap} {D C:Addr} {tk:Nat} (c:CompOk X scope N') (I:Inv X pins σ H s) (hf:∀b∈fp,FpOk X pins H b) (hfp:∀b∈fp,b<s.heap.objs.size)
  (hD:D=s.heap.objs.size) (hC:C=s.heap.objs.size+1) (old:∀b o,s.heap.get? b=some o→h₁.get? b=some o) (hns:h₁.Ns C fun _=>none) (hl:h₁.get? D=some { cls:=.type "list", data:=.seq #[] 0 }) :
  Inv (compCx X scope C N' s H fp) [] (σ++List.replicate (N'.length-1-σ.length) none++[some (V.ref D)]) (upd H D (.lst [])) { s with heap:=h₁,toks:=tk }:=by
 have hDn:H D=none:=I.hok.fresh (by rw [hD];exact Nat.le_refl _)
 have hCn:H C=none:=I.hok.fresh (by rw [hC];exact Nat.le_succ _)
 have hDC:C≠D:=by rw [hC,hD];exact Nat.ne_of_gt (Nat.lt_succ_self _)
 have hok1:HOk X.prog X.w (upd H D (.lst [])) h₁:=I.hok.laid old (by rw [hD];exact Nat.le_refl _) ⟨Nat.zero_le _,[],0,.nil,hl⟩
 have cellLt:∀x a,X.env.cells.lookup x=some a→a<s.heap.objs.size:=fun x a e=>by
  obtain ⟨v,q⟩:=I.cell x a e
  exact q.lt
 have lenN:σ.length=X.N.length:=I.len
 refine ⟨⟨I.ok.mod,?_,I.ok.glob,I.ok.blt,?_,?_,?_,?_,I.ok.hd,I.ok.frames,.inl rfl,?_,I.bs,Nat.le_trans I.ok.bsz I.sz,?_,?_,I.stack,I.stkFree⟩,rfl,I.bare,Un.laid old (by rw [hD];exact Nat.le_refl _) hDn,⟨_,hns,?_⟩,?_,?_,?_,?_,hok1,?_⟩
 ·show (relabel scope X.env).kind=_
  exact c.kind
 ·show s.heap.objs.size≤C
  rw [hC];exact Nat.le_succ _
 ·intro x y a h1 h2
  exact I.ok.inj x y a (bB h1) (bB h2)
 ·intro x hx
  have hx':(relabel scope X.env).names.lookup x=some .cell∨(relabel scope X.env).names.lookup x=some .free:=hx
  rw [bN] at hx'
  cases q:scope.names.lookup x with
  | none=>rw [q] at hx';rcases hx' with z | z<;>cases z
  | some k =>
   rw [q] at hx'
   have hk:k=.free:=by
    have nc:=c.nocell (PySem.mem_of_lookup q)
    simp only [Option.map_some] at hx'
    split at hx'
    ·rename_i hh
     simp at hh
     exact hh.1.1
    ·rcases hx' with z | z
     ·exact absurd (Option.some.inj z) nc
     ·exact Option.some.inj z
   subst hk
   obtain ⟨_,_,a,_,z⟩:=c.look I.ok q
   exact ⟨a,z⟩
 ·intro x a hx _
  exact absurd (show false=true from hx) Bool.false_ne_true
 ·intro b hb
  refine ⟨?_,fun x a e=>?_⟩
  ·show b≠C
   rw [hC];exact Nat.ne_of_lt (Nat.lt_succ_of_lt (hfp b hb))
  ·exact (hf b hb).2.2.2.2.1 x a (bB e)
 ·intro b o e hb
  rcases (hf b hb).2.2.2.1 with z | z
  ·exact I.ok.noex b o e z
  ·exact absurd (Nat.lt_of_lt_of_le (Heap.lt_size e) (Nat.le_trans I.ok.bsz z)) (Nat.lt_irrefl _)
 ·intro b hb hb2
  rcases List.mem_cons.mp (I.stkSub b hb2) with z | z
  ·exact (hf b hb).2.1 z
  ·exact (hf b hb).2.2.1 z
 ·intro i x v h1 h2 h3
  by_cases hi:i<σ.length
  ·rw [List.getElem?_append_left (by simp;omega),List.getElem?_append_left hi] at h2
   obtain ⟨n1,n2⟩:=c.at (by omega) h1
   have h3':(relabel scope X.env).names.lookup x=some .local∨(relabel scope X.env).names.lookup x=some .cell∨(relabel scope X.env).names.lookup x=some .free:=h3
   rw [bN] at h3'
   cases q:scope.names.lookup x with
   | none=>rw [q] at h3';rcases h3' with z | z | z<;>cases z
   | some k =>
    have hk:k=.free:=by
     rw [q] at h3' n1
     have nc:=c.nocell (PySem.mem_of_lookup q)
     simp only [Option.map_some] at h3'
     split at h3'
     ·rename_i hh
      simp at hh
      exact hh.1.1
     ·rcases h3' with z | z | z
      ·exact absurd z n1
      ·exact absurd (Option.some.inj z) nc
      ·exact Option.some.inj z
    subst hk
    have hN:X.N[i]?=some x:=by
     rcases n2 with z | z
     ·rw [q] at z;cases z
     ·exact z
    obtain ⟨k1,k2,a,k3,k4⟩:=c.look I.ok q
    obtain ⟨m,hm,hl'⟩:=I.loc
    have vis:Vis X.env.scope x:=k2.elim (fun z=>.inr (.inl z)) fun z=>.inr (.inr z)
    obtain ⟨u,ru,lk⟩:=hl' i x v hN h2 vis
    refine ⟨u,ru,.inr ⟨k1,a,k4,?_⟩⟩
    rcases lk with ⟨z,_⟩ | ⟨_,a',z1,z2⟩
    ·rcases k2 with k2 | k2<;>(rw [k2] at z;cases z)
    ·rw [k3] at z1;cases z1
     obtain ⟨ob,y1,y2⟩:=z2
     exact ⟨ob,old _ _ y1,y2⟩
  ·by_cases hi2:i<N'.length-1
   ·rw [List.getElem?_append_left (by simp;omega),List.getElem?_append_right (by omega),List.getElem?_replicate] at h2
    split at h2<;>cases h2
   ·have hi3:i<N'.length:=(List.getElem?_eq_some_iff.mp h1).1
    have e:i=N'.length-1:=by omega
    rw [e] at h1
    have z:=c.acc h1
    have h3':(relabel scope X.env).names.lookup x=some .local∨(relabel scope X.env).names.lookup x=some .cell∨(relabel scope X.env).names.lookup x=some .free:=h3
    rw [bN,z] at h3'
    rcases h3' with y | y | y<;>cases y
 ·intro x a e
  obtain ⟨v,ob,y1,y2⟩:=I.cell x a (bB e)
  exact ⟨v,ob,old _ _ y1,y2⟩
 ·show upd H D (.lst []) C=none
  rw [aq hDC];exact hCn
 ·intro x a e
  have e':=bB e
  have:a≠D:=by rw [hD];exact Nat.ne_of_lt (cellLt x a e')
  rw [aq this]
  exact I.freeC x a e'
 ·intro p hp
  exact absurd (show p∈([]:List (Addr×Obj)) from hp) (by simp)
 ·show (σ++_++_).length=N'.length
  have:=c.len
  simp
  omega
def PTs (X:Cx) (EX:XE) (ifs:List Expr) (f:M Bool):Prop :=
 ∀(pins:List (Addr×Obj)) (s:Shared) (σ:St) (H:Hp) (Q:Bool→Hp→Prop),Inv X pins σ H s→lift (lc X EX) RB f σ H Q →
  wpAny (model X.prog X.w) X.A (forIn ifs true fun c r=>if r=true then do let ok ←isTrue c X.env (eval c X.env);pure (ForInStep.yield ok) else pure (ForInStep.yield r)) (TP X pins σ Q) X.xe s
theorem a9 {EX:XE}:PTs X EX [] (ret true):=fun pins s σ H Q I ⟨G,F,ρ,g,o⟩=>wpAny_tests_nil ⟨H,I,o F H true (Same.refl _) g rfl⟩
theorem mD {EX:XE} {c:Expr} {f:M Bool} (h:PB X EX c f):PTs X EX [c] f:=fun pins s σ H Q I q=>wpAny_tests_one (h pins s σ H Q I q)
theorem Good.take {K:Frag} {mg:MG} {G:Fx} {F H:Hp} {σ:St} {ρ:Rho} (g:Good K mg G F H σ ρ) (n:Nat):Good K mg G F H (σ.take n) (ρ.take n) where
 sF:=g.sF
 sub:=g.sub
 old:=g.old
 new:=g.new
 len:=by simp [g.len]
 slot:=fun i s h=>by
  by_cases hi:i<n
  ·rw [List.getElem?_take_of_lt hi] at h ⊢
   exact g.slot i s h
  ·rw [List.getElem?_take_eq_none (by omega)] at h
   cases h
 apart:=fun i j l s t h1 h2 o1 o2 e1 e2=>by
  by_cases hi:i<n
  ·by_cases hj:j<n
   ·rw [List.getElem?_take_of_lt hi] at h1 e1
    rw [List.getElem?_take_of_lt hj] at h2 e2
    exact g.apart i j l s t h1 h2 o1 o2 e1 e2
   ·rw [List.getElem?_take_eq_none (by omega)] at h2;cases h2
  ·rw [List.getElem?_take_eq_none (by omega)] at h1;cases h1
 ioT:=g.ioT
 ioU:=g.ioU
theorem Good.more {K:Frag} {mg:MG} {G:Fx} {F H:Hp} {σ:St} {ρ:Rho} {D:Addr} (g:Good K mg G F H σ ρ) (n:Nat) (hD:H D=none):Good K mg G F (upd H D (.lst [])) (σ++List.replicate n none++[some (V.ref D)]) (ρ++List.replicate n .no++[.ow (.lst [])]):=by
 have g1:Good K mg G F (upd H D (.lst [])) σ ρ:=g.made hD
 have at_:∀{i:Nat} {s:Sl},(ρ++List.replicate n .no++[.ow (.lst [])])[i]?=some s→(i<ρ.length∧ρ[i]?=some s∧(σ++List.replicate n none++[some (V.ref D)])[i]?=σ[i]?)∨(s=.no)∨(i=ρ.length+n∧s=.ow (.lst [])∧(σ++List.replicate n none++[some (V.ref D)])[i]?=some (some (V.ref D))):=fun {i s} h=>by
  by_cases hi:i<ρ.length
  ·rw [List.getElem?_append_left (by simp;omega),List.getElem?_append_left hi] at h
   exact .inl ⟨hi,h,by rw [List.getElem?_append_left (by simp [g.len];omega),List.getElem?_append_left (by rw [g.len];exact hi)]⟩
  ·by_cases hi2:i<ρ.length+n
   ·rw [List.getElem?_append_left (by simp;omega),List.getElem?_append_right (by omega),List.getElem?_replicate] at h
    split at h
    ·exact .inr (.inl (Option.some.inj h).symm)
    ·cases h
   ·rw [List.getElem?_append_right (by simp;omega)] at h
    have e:i=ρ.length+n:=by
     have:=(List.getElem?_eq_some_iff.mp h).1
     simp at this
     omega
    subst e
    simp at h
    refine .inr (.inr ⟨rfl,h.symm,?_⟩)
    rw [List.getElem?_append_right (by simp [g.len])]
    simp [g.len]
 have noD:∀{i:Nat} {s:Sl},ρ[i]?=some s→Owned s=true→σ[i]?≠some (some (V.ref D)):=fun {i s} h o e=>by
  obtain ⟨l,d,h1,h2,h3,h4⟩:=(g.slot i s h).own o
  rw [e] at h1
  cases h1
  obtain ⟨u,hu⟩:=h3.has
  rw [hD] at hu;cases hu
 exact {
  sF:=g1.sF
  sub:=g1.sub
  old:=g1.old
  new:=g1.new
  len:=by simp [g.len]
  slot:=fun i s h=>by
   rcases at_ h with ⟨h1,h2,h3⟩ | rfl | ⟨h1,rfl,h3⟩
   ·rw [h3];exact g1.slot i s h2
   ·trivial
   ·rw [h3]
    exact ⟨D,rfl,g.sub.free hD,g.new0 hD,[],ax,.nil⟩
  apart:=fun i j l s t h1 h2 o1 o2 e1 e2=>by
   rcases at_ h1 with ⟨a1,a2,a3⟩ | rfl | ⟨a1,rfl,a3⟩
   ·rcases at_ h2 with ⟨b1,b2,b3⟩ | rfl | ⟨b1,rfl,b3⟩
    ·rw [a3] at e1;rw [b3] at e2
     exact g.apart i j l s t a2 b2 o1 o2 e1 e2
    ·cases o2
    ·rw [a3] at e1;rw [b3] at e2
     cases e2
     exact absurd e1 (noD a2 o1)
   ·cases o1
   ·rcases at_ h2 with ⟨b1,b2,b3⟩ | rfl | ⟨b1,rfl,b3⟩
    ·rw [a3] at e1;rw [b3] at e2
     cases e1
     exact absurd e2 (noD b2 o2)
    ·cases o2
    ·rw [a1,b1]
  ioT:=g1.ioT
  ioU:=g1.ioU }
theorem kS {L:Lc} {G:Fx} {F H:Hp} {σ:St} {ρ:Rho} {k:Nat} {x:D} {v:V} {P:Unit→Rho→Prop} {E:Xn→Rho→Prop} (g:L.Good G F H σ ρ) (r:Den L.K L.mg F v x) (o:Out (mUpd k (appD x) ρ) P E) :
  ∃l vs ρ',σ[k]?=some (some (V.ref l))∧H l=some (.lst vs)∧vs.length<sizeLine∧L.Good G F (upd H l (.lst (vs++[v]))) σ ρ'∧P () ρ':=by
 unfold mUpd at o
 cases q:own ρ[k]? with
 | none=>rw [q] at o;exact o.elim
 | some d =>
  rw [q] at o
  dsimp only at o
  cases q2:appD x d with
  | none=>rw [q2] at o;exact o.elim
  | some d' =>
   rw [q2] at o
   have o':P () (putS k d' ρ):=o
   cases d with
   | lst ds =>
    simp only [appD] at q2
    split at q2
    ·rename_i hl
     cases q2
     cases q3:ρ[k]? with
     | none=>rw [q3] at q;cases q
     | some s =>
      rw [q3] at q
      have sl:=g.slot k s q3
      have fin:∀l s',σ[k]?=some (some (V.ref l))→Owned s=true→Obj1 L.K L.mg F H l (.lst ds)→((∃e,s=.ow e∧s'=.ow (.lst (ds++[x])))∨(∃e,s=.io e∧s'=.io (.lst (ds++[x]))))→putS k (.lst (ds++[x])) ρ=ρ.set k s' →
        ∃l vs ρ',σ[k]?=some (some (V.ref l))∧H l=some (.lst vs)∧vs.length<sizeLine∧L.Good G F (upd H l (.lst (vs++[v]))) σ ρ'∧P () ρ':=fun l s' z1 z2 z3 z4 z5=>by
       obtain ⟨vs,y1,y2⟩:=z3
       refine ⟨l,vs,_,z1,y1,by rw [y2.length,sizeLine_eq];exact hl,Good.write g q3 z2 z1 z4 ⟨_,ax,y2.append (.cons r .nil)⟩,?_⟩
       rw [←z5];exact o'
      cases s with
      | no=>cases q
      | sh e=>cases q
      | ow e =>
       cases q
       obtain ⟨l,z1,z2,z3,z4⟩:=sl
       exact fin l _ (aI z1) rfl z4 (.inl ⟨_,rfl,rfl⟩) (by unfold putS;rw [q3])
      | io e =>
       cases q
       obtain ⟨l,z1,z2,z3,z4⟩:=sl
       exact fin l _ (aI z1) rfl z4 (.inr ⟨_,rfl,rfl⟩) (by unfold putS;rw [q3])
    ·cases q2
   | _=>cases q2
variable {X:Cx} {EX:XE} {elt tg iter:Expr} {ifs:List Expr} {pos:Pos} {it:M (List D)} {gf:D→M Unit} {ft:M Bool} {fe:M D} {js:List Nat} {scope:Scope} {N':List Str}
theorem fH (n:Nat) {use:Option (Value→Sem Unit)} {QQ:Value→Shared→Prop} {pins:List (Addr×Obj)} {s:Shared} {σ:St} {H F:Hp} {G:Fx} {ρ:Rho} {P:D→Rho→Prop} {Ex:Xn→Rho→Prop}
  (hc:X.calm=true) (c:CompOk X scope N') (hn:X.N.length+n+1=N'.length) (hi:PVI X EX tg iter it) (hgx:∀d r x r',gf d r≠.exc x r') (hjs:∀j∈js,X.N.length≤j∧j<X.N.length+n)
  (hg:∀C s H ex,PVG (compCx X scope C N' s H ex) EX tg js gf) (ht:∀C s H ex EX,PTs (compCx X scope C N' s H ex) EX ifs ft)
  {xw:Addr→Shared→Hp→List Addr→Value→Shared→Prop} (he:∀C s H ex,PV ((compCx X scope C N' s H ex).wish (xw C s H ex)) (fun _=>EX σ) elt fe)
  (hw:∀(l C:Addr) (s2:Shared) (H2:Hp) (fp:List Addr) (v:Value) (s':Shared),Inv X pins σ H2 s2→(∀b∈fp,FpOk X pins H2 b)→C=s2.heap.objs.size+1→xw C s2 H2 fp v s'→notedBy (model X.prog X.w) X.A (compCx X scope C N' s2 H2 fp).env (fun x s''=>compPost (model X.prog X.w) X.A X.xe use QQ (.ref l) C (.error x) s'') v s')
  (hs:∀x,foldedSetIterable iter X.env x=pure x) (I:Inv X pins σ H s) (g0:(lc X EX).Good G F H σ ρ) (o:Out (mComp n it gf ft fe ρ) P Ex) (hE:∀x r,Ex x r→PostX (lc X EX) G F σ x r)
  (hend:∀(F4 H4:Hp) (s5:Shared) (ρ5:Rho) (d:D) (l C:Addr) (mm:Str→Option Value),Same F F4→(lc X EX).Good G F4 H4 σ ρ5→Loose X.K X.mg G F4 H4 σ ρ5 l d→P d ρ5→Inv X pins σ H4 s5→s5.heap.Ns C mm→FpOk X pins H4 C →
   compPost (model X.prog X.w) X.A X.xe use QQ (.ref l) C (.ok .next) s5) :
  wpAny (model X.prog X.w) X.A (comprehension (.ListComp elt [⟨tg,iter,ifs,0⟩] scope pos) scope X.env (firstIterPos [⟨tg,iter,ifs,0⟩] pos) (newList []) (firstAsync [⟨tg,iter,ifs,0⟩]) (firstIter [⟨tg,iter,ifs,0⟩] X.env) use) QQ X.xe s:=by
 refine wpAny_comprehension_free (use:=use) rfl hs (c.clos I.ok) c.kind (fun y hy hl=>c.names hy hl) ?_
 refine thn (hi pins s σ H (fun J H1=>∃F1 ρ1 ds,Same F F1∧(lc X EX).Good G F1 H1 σ ρ1∧ItR (lc X EX) G F1 J ds∧Out (inner n (fun k=>turns k gf ft fe ds) ρ1) P Ex) I
  (au g0 o hE fun F1 H1 ρ1 ds J s1 g1 r1 o1=>⟨F1,ρ1,ds,s1,g1,r1,o1⟩)) fun xv s1 h1=>thn h1 fun itv s2 h2=>?_
 obtain ⟨ita,fp,tn,J,H2,e,I2,T,st2,f2,F1,ρ1,ds,e1,g1,r1,o1⟩:=h2
 subst e
 refine wpAny_newObj_type (wpAny_newFunctionEnv (fun y hy=>c.nocell hy) (by intro y hy;simp at hy) (fun h₁ hns₁ hsb₁=>?_) c.kind)
 dsimp only at hns₁ hsb₁ ⊢
 generalize hH2:s2.heap.push { cls:=.type "list", dict:=none,data:=.seq ([]:List Value).toArray }=HP at hns₁ hsb₁ ⊢
 have hC:HP.objs.size=s2.heap.objs.size+1:=by rw [←hH2,Heap.size_push]
 have hDC:s2.heap.objs.size≠HP.objs.size:=by rw [hC];exact Nat.ne_of_lt (Nat.lt_succ_self _)
 have old:∀b o,s2.heap.get? b=some o→h₁.get? b=some o:=fun b o e=>hsb₁.extBut b o (by have:=Heap.lt_size e;rw [hC];exact Nat.ne_of_lt (Nat.lt_succ_of_lt this)) (Heap.get?_push_of_some _ (hH2 ▸ Heap.get?_push_of_some _ e))
 have hl:h₁.get? s2.heap.objs.size=some { cls:=.type "list", data:=.seq #[] 0 }:=hsb₁.extBut _ _ hDC (Heap.get?_push_of_some _ (hH2 ▸ Heap.get?_push_size _ rfl))
 have hfp:∀b∈fp,b<s2.heap.objs.size:=fun b hb=>by
  obtain ⟨ob,e,_⟩:=T.obj 0 _ st2 b hb
  exact Heap.lt_size e
 have hns:h₁.Ns HP.objs.size fun _=>none:=by simpa using hns₁
 have hDn:H2 s2.heap.objs.size=none:=I2.hok.fresh (Nat.le_refl _)
 have lenσ:σ.length=X.N.length:=I.len
 have lenρ:ρ1.length=σ.length:=g1.len.symm
 have hn':N'.length-1-σ.length=n:=by omega
 have I3:=kY (tk:=s2.toks+([]:List (Str×Value)).length) c I2 f2 hfp rfl hC old hns hl
 rw [hn'] at I3
 have g2:=Good.more g1 n hDn
 rw [show inner n (fun k=>turns k gf ft fe ds) ρ1=_ from rfl] at o1
 unfold inner at o1
 rw [lenρ] at o1
 let XX:=compCx X scope HP.objs.size N' s2 H2 fp
 have loopAll:∀s3:Shared,s3={ s2 with heap:=h₁,toks:=s2.toks+([]:List (Str×Value)).length } →
   codeAny (model X.prog X.w) X.A (.compLoop (.ListComp elt [⟨tg,iter,ifs,0⟩] scope pos) 0 (.ref ita) (.ref s2.heap.objs.size) XX.env)
    (compPost (model X.prog X.w) X.A X.xe use QQ (.ref s2.heap.objs.size) HP.objs.size) s3:=by
  rintro s3 rfl
  have hEX:∀{α:Type} {t:Sem α} {Q':α→Shared→Prop} {E':Value→Shared→Prop} {s':Shared},wpAny (model X.prog X.w) X.A t Q' (fun _ _=>False) s'→wpAny (model X.prog X.w) X.A t Q' E' s':=fun h=>wpAny_mono h (fun _ _ q=>q) fun _ _ z=>z.elim
  refine codeAny_loop rfl (fun m s'=>∃i σ' H' F' ρ',m=ds.length-i∧i≤ds.length∧Inv XX [] σ' H' s'∧tn i s'.heap∧(∀b∈fp,H' b=none)∧Same F1 F'∧Good X.K X.mg G F' H' σ' ρ'∧(∀j,j<σ.length→σ'[j]?=σ[j]?)∧σ'[σ.length+n]?=some (some (V.ref s2.heap.objs.size)) ∧
   Out (turns (σ.length+n) gf ft fe (ds.drop i) ρ') (fun _ r=>∃d,r[σ.length+n]?=some (.ow d)∧P d (r.take σ.length)) (fun x r=>Ex x (r.take σ.length))) (fun m s4 hI=>?_) ds.length
   ⟨0,_,_,F1,_,by simp,Nat.zero_le _,I3,T.keep _ _ _ st2 (fun b _ ob e=>old b ob e),fun b hb=>?_,Same.refl _,g2,fun j hj=>?_,?_,?_⟩
  ·show wpAny _ X.A ((compTurn (.ListComp elt [⟨tg,iter,ifs,0⟩] scope pos) 0 (.ref ita) (.ref s2.heap.objs.size) XX.env).onRaise (fun x=>do noteFrame x XX.env;theTreesLotGoes x)) _ _ s4
   refine wpAny_noted ?_
   rw [compTurn_list]
   obtain ⟨i,σ4,H4,F4,ρ4,rfl,hi4,I4,st4,fr4,e4,g4,hσ4,hD4,o4⟩:=hI
   have stat:∀{H':Hp},(∀b∈fp,H' b=none)→∀b∈fp,FpOk XX [] H' b:=fun {H'} hz b hb =>
    ⟨hz b hb,(I3.ok.exf b hb).1,I3.ok.exfs b hb,.inl hb,fun x a e=>(I3.ok.exf b hb).2 x a e,fun p hp=>absurd (show p∈([]:List (Addr×Obj)) from hp) (by simp)⟩
   obtain ⟨t1,t2,t3⟩:=r1 σ4 i F4 H4 ρ4 e4 g4
   have hWX:∀{α:Type} {t:Sem α} {Q':α→Shared→Prop} {s':Shared},wpAny (model X.prog X.w) X.A t Q' (xw HP.objs.size s2 H2 fp) s'→wpAny (model X.prog X.w) X.A t Q' (notedBy (model X.prog X.w) X.A XX.env (fun x s''=>compPost (model X.prog X.w) X.A X.xe use QQ (.ref s2.heap.objs.size) HP.objs.size (.error x) s'')) s':=fun h=>wpAny_mono h (fun _ _ q=>q) fun v s'' z=>hw _ _ _ _ _ _ _ I2 f2 hC z
   have backG:∀{F' H':Hp} {σ7:St} {r:Rho},Good X.K X.mg G F' H' σ7 r→(∀j,j∉js→σ7[j]?=σ4[j]?)→Good X.K X.mg G F' H' σ (r.take σ.length):=fun {F' H' σ7 r} g hj=>by
    have eσ:σ7.take σ.length=σ:=by
     refine List.ext_getElem? fun j=>?_
     by_cases hj':j<σ.length
     ·rw [List.getElem?_take_of_lt hj',hj j fun m=>by have:=(hjs j m).1;omega];exact hσ4 j hj'
     ·rw [List.getElem?_take_eq_none (by omega),List.getElem?_eq_none (by omega)]
    have:=Good.take g σ.length
    rw [eσ] at this;exact this
   by_cases hlt:i<ds.length
   ·have ed:ds.drop i=ds[i]::ds.drop (i+1):=List.drop_eq_getElem_cons hlt
    rw [ed] at o4
    refine wpAny_bind (wpAny_standAt (wpAny_bind (thn (T.item XX rfl rfl rfl hc i [] s4 σ4 H4 _ I4 (stat fr4) st4 (t1 hlt)) fun r s5 ⟨u,hr,h5⟩=>?_)))
    subst hr
    refine wpAny_bind (thn h5 fun _ s6 ⟨x,H6,I6,r6,y6,st6,fr6⟩=>?_)
    obtain ⟨F6,e6,g6,q6⟩:=t3 x H6 y6
    have I6':=I6.pinned (stat fr6) (T.obj _ _ st6)
    have again:∀{s7:Shared} {σ7:St} {H7 F7:Hp} {ρ7:Rho},Inv XX ([]++pinsAt fp s6.heap) σ7 H7 s7→Same F6 F7→Good X.K X.mg G F7 H7 σ7 ρ7→(∀j,j∉js→σ7[j]?=σ4[j]?) →
      Out (turns (σ.length+n) gf ft fe (ds.drop (i+1)) ρ7) (fun _ r=>∃d,r[σ.length+n]?=some (.ow d)∧P d (r.take σ.length)) (fun x r=>Ex x (r.take σ.length)) →
      ∃m,m<ds.length-i∧∃i σ' H' F' ρ',m=ds.length-i∧i≤ds.length∧Inv XX [] σ' H' s7∧tn i s7.heap∧(∀b∈fp,H' b=none)∧Same F1 F'∧Good X.K X.mg G F' H' σ' ρ'∧(∀j,j<σ.length→σ'[j]?=σ[j]?)∧σ'[σ.length+n]?=some (some (V.ref s2.heap.objs.size)) ∧
       Out (turns (σ.length+n) gf ft fe (ds.drop i) ρ') (fun _ r=>∃d,r[σ.length+n]?=some (.ow d)∧P d (r.take σ.length)) (fun x r=>Ex x (r.take σ.length)):=fun {s7 σ7 H7 F7 ρ7} I7 e7 g7 hj7 o7=>by
     refine ⟨ds.length-(i+1),by omega,i+1,σ7,H7,F7,ρ7,rfl,hlt,I7.unpinned,T.keep _ _ _ st6 fun b hb ob e=>(I7.pin (b,ob) (List.mem_append_right _ (List.mem_append_right _ (de hb e)))).1,fun b hb=>?_,e4.trans (e6.trans e7),g7,fun j hj=>?_,?_,o7⟩
     ·obtain ⟨ob,e,d⟩:=T.obj _ _ st6 b hb
      exact (I7.pin (b,ob) (List.mem_append_right _ (List.mem_append_right _ (de hb e)))).2.1
     ·rw [hj7 j fun m=>by have:=(hjs j m).1;omega]
      exact hσ4 j hj
     ·rw [hj7 _ fun m=>by have:=(hjs _ m).2;omega]
      exact hD4
    refine wpAny_bind (hEX (thn (hg HP.objs.size s2 H2 fp _ s6 σ4 H6 x u (fun σ' H'=>∃F' ρ',Same F6 F'∧Good X.K X.mg G F' H' σ' ρ'∧(∀j,j∉js→σ'[j]?=σ4[j]?) ∧
     Out (bnd ft (fun b=>if b then bnd fe fun x=>bnd (mUpd (σ.length+n) (appD x)) fun _=>turns (σ.length+n) gf ft fe (ds.drop (i+1)) else turns (σ.length+n) gf ft fe (ds.drop (i+1))) ρ') (fun _ r=>∃d,r[σ.length+n]?=some (.ow d)∧P d (r.take σ.length)) (fun x r=>Ex x (r.take σ.length))) I6' r6
     ⟨G,F6,ρ4,ds[i],g6,q6 _ (by simp [hlt]),(show Out (gf ds[i] ρ4) _ _ by
      have o5:=Out.bnd o4
      cases q:gf ds[i] ρ4 with
      | no=>rw [q] at o5;exact o5.elim
      | exc x r=>exact absurd q (hgx _ _ _ _)
      | ok u r=>rw [q] at o5;exact fun F' H' σ' s g hj=>⟨F',r,s,g,hj,o5⟩)⟩) fun _ s7 ⟨σ7,H7,I7,F7,ρ7,e7,g7,hj7,o7⟩=>?_))
    refine wpAny_bind (hEX (thn (ht HP.objs.size s2 H2 fp (fun _=>EX σ) _ s7 σ7 H7 (fun b H'=>∃F' ρ',Same F7 F'∧Good X.K X.mg G F' H' σ7 ρ' ∧
     Out ((if b then bnd fe fun x=>bnd (mUpd (σ.length+n) (appD x)) fun _=>turns (σ.length+n) gf ft fe (ds.drop (i+1)) else turns (σ.length+n) gf ft fe (ds.drop (i+1))) ρ') (fun _ r=>∃d,r[σ.length+n]?=some (.ow d)∧P d (r.take σ.length)) (fun x r=>Ex x (r.take σ.length))) I7
     ⟨G,F7,ρ7,g7,(Out.bnd o7).mono (fun a r z F' H' b s g e=>by cases e;exact ⟨F',r,s,g,z⟩) fun x r z F' H' c dx s g xr=>hE x _ z F' H' c dx (e1.trans (e4.trans (e6.trans (e7.trans s)))) (backG g hj7) xr⟩) fun ok s8 ⟨H8,I8,F8,ρ8,e8,g8,o8⟩=>?_))
    cases ok with
    | false=>exact wpAny_pure ⟨rfl,again I8 (e7.trans e8) g8 hj7 o8⟩
    | true =>
     refine wpAny_bind (wpAny_bind (hWX (thn (he HP.objs.size s2 H2 fp _ s8 σ7 H8 (fun v H'=>∃F' ρ' d,Same F8 F'∧Good X.K X.mg G F' H' σ7 ρ'∧Den X.K X.mg F' v d ∧
      Out (bnd (mUpd (σ.length+n) (appD d)) (fun _=>turns (σ.length+n) gf ft fe (ds.drop (i+1))) ρ') (fun _ r=>∃d,r[σ.length+n]?=some (.ow d)∧P d (r.take σ.length)) (fun x r=>Ex x (r.take σ.length))) (I8.wish _)
      ⟨G,F8,ρ8,g8,(Out.bnd o8).mono (fun a r z F' H' b s g e=>⟨F',r,a,s,g,e,z⟩) fun x r z F' H' c dx s g xr=>hE x _ z F' H' c dx (e1.trans (e4.trans (e6.trans (e7.trans (e8.trans s))))) (backG g hj7) xr⟩) fun xv s9 ⟨y,H9,I9w,r9,F9,ρ9,d9,e9,g9,dn9,o9⟩=>?_)))
     have I9:=I9w.unwish
     obtain ⟨l,vs,ρ10,hσ,hHl,hlen,g10,o10⟩:=kS (L:=lc X EX) g9 dn9 (Out.bnd o9)
     rw [hj7 _ fun m=>by have:=(hjs _ m).2;omega,hD4] at hσ
     cases hσ
     refine wpAny_bind (hEX (thn (bg (X:=XX) _ s9 σ7 H9 (.ref s2.heap.objs.size) [y] (.ref s2.heap.objs.size) [xv] (fun _ H'=>H'=upd H9 s2.heap.objs.size (.lst (vs++[y]))) I9 rfl (.cons r9 .nil) ⟨_,vs,y,rfl,rfl,hHl,hlen,rfl⟩) fun _ s10 ⟨_,H10,I10,_,e10⟩=>?_))
     subst e10
     exact wpAny_pure (wpAny_pure ⟨rfl,again I10 ((e7.trans e8).trans e9) g10 hj7 o10⟩)
   ·have e:i=ds.length:=by omega
    subst e
    refine wpAny_bind (wpAny_standAt (wpAny_bind (thn (T.done XX rfl rfl rfl hc _ [] s4 σ4 H4 _ I4 (stat fr4) st4 (t2 rfl)) fun r s5 ⟨hr,I5⟩=>?_)))
    subst hr
    refine wpAny_pure ?_
    obtain ⟨mm,hmm,_⟩:=id I5.loc
    rw [List.drop_length] at o4
    obtain ⟨d,hd,post⟩:∃d,ρ4[σ.length+n]?=some (.ow d)∧P d (ρ4.take σ.length):=o4
    have IX:Inv X pins σ H4 s5:=I2.call' (s':=s5) I5.os I5.base I5.hok I5.bare fun b hb=>⟨(f2 b hb).2.2.2.1,(f2 b hb).2.1,(f2 b hb).2.2.2.2.1,(f2 b hb).2.2.2.2.2⟩
    have FC:FpOk X pins H4 HP.objs.size:=I2.fpOk (by rw [hC];exact Nat.le_succ _) I5.free
    have eσ:σ4.take σ.length=σ:=by
     refine List.ext_getElem? fun j=>?_
     by_cases hj:j<σ.length
     ·rw [List.getElem?_take_of_lt hj];exact hσ4 j hj
     ·rw [List.getElem?_take_eq_none (by omega),List.getElem?_eq_none (by omega)]
    obtain ⟨l,z1,z2,z3,z4⟩:=g4.slot _ _ hd
    rw [hD4] at z1
    cases z1
    refine hend F4 H4 s5 _ d _ _ mm (e1.trans e4) (by have:=Good.take g4 σ.length;rw [eσ] at this;exact this) ⟨z2,z3,z4,fun j t hj ho hne=>?_⟩ post IX hmm FC
    have hjl:j<σ.length:=by
     have:=(List.getElem?_eq_some_iff.mp hj).1
     simp at this
     omega
    rw [List.getElem?_take_of_lt hjl] at hj
    have:=g4.apart j (σ.length+n) s2.heap.objs.size t _ hj hd ho rfl (by rw [hσ4 j hjl];exact hne) hD4
    omega
  ·rw [aq (Nat.ne_of_lt (hfp b hb))]
   exact (f2 b hb).1
  ·rw [List.getElem?_append_left (by simp;omega),List.getElem?_append_left hj]
  ·rw [List.getElem?_append_right (by simp)]
   simp
  ·simp only [List.drop_zero]
   cases q:turns (σ.length+n) gf ft fe ds (ρ1++List.replicate n .no++[.ow (.lst [])]) with
   | no=>simp only [q] at o1;exact o1.elim
   | exc x r=>simp only [q] at o1;exact o1
   | ok u r =>
    simp only [q] at o1
    show ∃d,r[σ.length+n]?=some (.ow d)∧_
    cases q2:r[σ.length+n]? with
    | none=>simp only [q2] at o1;exact o1.elim
    | some t =>
     simp only [q2] at o1
     cases t with
     | ow d=>exact ⟨d,rfl,o1⟩
     | no=>exact o1.elim
     | sh d=>exact o1.elim
     | io d=>exact o1.elim
 exact codeAny_compStart_list (loopAll _ rfl) (T.self _ _ _ _ _ (T.keep _ _ _ st2 fun b _ ob e=>old b ob e) (loopAll _ rfl))
theorem bW (n:Nat) (hc:X.calm=true) (c:CompOk X scope N') (hn:X.N.length+n+1=N'.length) (hi:PVI X EX tg iter it) (hgx:∀d r x r',gf d r≠.exc x r') (hjs:∀j∈js,X.N.length≤j∧j<X.N.length+n)
  (hg:∀C s H ex,PVG (compCx X scope C N' s H ex) EX tg js gf) (ht:∀C s H ex EX,PTs (compCx X scope C N' s H ex) EX ifs ft) (he:∀C s H ex EX,PV (compCx X scope C N' s H ex) EX elt fe)
  (hs:∀x,foldedSetIterable iter X.env x=pure x:=by intro _;rfl):PF X EX (.ListComp elt [⟨tg,iter,ifs,0⟩] scope pos) (mComp n it gf ft fe):=by
 intro pins s σ H Q I h
 obtain ⟨G,F,ρ,g0,o⟩:=h
 rw [eval_ListComp]
 refine fH (use:=none) n hc c hn hi hgx hjs hg ht (xw:=fun _ _ _ _ _ _=>False) (fun C s H ex=>he C s H ex _) (fun _ _ _ _ _ _ _ _ _ _ z=>z.elim) hs I g0 o (fun x r q=>q) fun F4 H4 s5 ρ5 d l C mm e4 g4 lo post IX hmm FC=>?_
 refine ⟨mm,hmm,fun h' hs'=>⟨.ref l,H4,?_,rfl,post F4 H4 _ e4 g4 ⟨l,rfl,lo⟩⟩⟩
 exact IX.turned (t':=s5.toks) (fun b ob hb e=>hs'.extBut b ob hb e) FC.1 FC.2.1 FC.2.2.2.1 FC.2.2.2.2.1 FC.2.2.2.2.2
theorem gA (n i:Nat) {y:Str} {py spos:Pos} {f:D→M Fl} (hc:X.calm=true) (c:CompOk X scope N') (hn:X.N.length+n+1=N'.length) (hi:PVI X EX tg iter it) (hgx:∀d r x r',gf d r≠.exc x r') (hjs:∀j∈js,X.N.length≤j∧j<X.N.length+n)
  (hg:∀C s H ex,PVG (compCx X scope C N' s H ex) EX tg js gf) (ht:∀C s H ex EX,PTs (compCx X scope C N' s H ex) EX ifs ft) (he:∀C s H ex EX,PV (compCx X scope C N' s H ex) EX elt fe)
  (hN:X.N.Nodup) (hy:X.N[i]?=some y) (hx:Loc X.env.scope y) (hsw:swapsWith (.ListComp elt [⟨tg,iter,ifs,0⟩] scope pos) (some (.Name y py)) spos.line X.env=pure true)
  (hf:∀{G:Fx} {F4 H4 F:Hp} {σ:St} {ρ5:Rho} {l:Addr} {d:D} {E:Ends},(lc X EX).Good G F4 H4 σ ρ5→Loose X.K X.mg G F4 H4 σ ρ5 l d→Same F F4→Out (f d ρ5) (PostS (lc X EX) G F E) (PostXS (lc X EX) G F)→E.nx (σ.set i (some (.ref l))) H4)
  (hs:∀x,foldedSetIterable iter X.env x=pure x) (hfn:X.fn y=true∨X.env.scope.names.lookup y=some .local):PVS X EX (.Assign [.Name y py] (.ListComp elt [⟨tg,iter,ifs,0⟩] scope pos) spos) (bnd (mComp n it gf ft fe) f):=by
 intro pins s σ H E I h
 obtain ⟨G,F,ρ,g0,o⟩:=h
 rw [exec_Assign_Name_used _ _ _ _ hsw]
 refine wpAny_bind (wpAny_standAt (wpAny_bind ?_))
 show wpAny _ X.A (do let _ ←comprehension (.ListComp elt [⟨tg,iter,ifs,0⟩] scope pos) scope X.env _ (newList []) false (firstIter [⟨tg,iter,ifs,0⟩] X.env) (some (assign (.Name y py) X.env))) _ _ s
 refine wpAny_bind (wpAny_mono (fH (use:=some (assign (.Name y py) X.env)) (QQ:=fun _ s'=>SP X pins E .next s') n hc c hn hi hgx hjs hg ht (xw:=fun _ _ _ _ _ _=>False) (fun C s H ex=>he C s H ex _) (fun _ _ _ _ _ _ _ _ _ _ z=>z.elim) hs I g0 (Out.bnd o) (fun x r q=>q.x) fun F4 H4 s5 ρ5 d l C mm e4 g4 lo post IX hmm FC=>?_) (fun _ s' hq=>wpAny_pure (wpAny_pure hq)) fun _ _ e=>e)
 show wpAny _ X.A (assign (.Name y py) X.env (.ref l)) _ _ s5
 refine wpAny_assign_Name (jl IX hN hy hx (v:=.ref l) rfl (fun s6 I6 ⟨a,sb,ha⟩=>?_) hfn)
 have hCa:C≠a:=by
  rcases ha with rfl | ha
  ·exact FC.2.1
  ·exact fun z=>FC.2.2.2.2.1 _ _ ha z.symm
 refine ⟨mm,hmm.sameBut sb hCa,fun h' hs'=>⟨σ.set i (some (.ref l)),H4,?_,hf g4 lo e4 post⟩⟩
 exact I6.turned (t':=s6.toks) (fun b ob hb e=>hs'.extBut b ob hb e) FC.1 FC.2.1 FC.2.2.2.1 FC.2.2.2.2.1 FC.2.2.2.2.2
theorem gm (n i:Nat) {y:Str} {py spos:Pos} (hN:X.N.Nodup) (hy:X.N[i]?=some y) (hx:Loc X.env.scope y) (hc:X.calm=true) (c:CompOk X scope N') (hn:X.N.length+n+1=N'.length) (hi:PVI X EX tg iter it) (hgx:∀d r x r',gf d r≠.exc x r') (hjs:∀j∈js,X.N.length≤j∧j<X.N.length+n)
  (hg:∀C s H ex,PVG (compCx X scope C N' s H ex) EX tg js gf) (ht:∀C s H ex EX,PTs (compCx X scope C N' s H ex) EX ifs ft) (he:∀C s H ex EX,PV (compCx X scope C N' s H ex) EX elt fe)
  (hsw:swapsWith (.ListComp elt [⟨tg,iter,ifs,0⟩] scope pos) (some (.Name y py)) spos.line X.env=pure true:=by rfl) (hs:∀x,foldedSetIterable iter X.env x=pure x:=by intro _;rfl)
  (hfn:X.fn y=true∨X.env.scope.names.lookup y=some .local:=by first | exact .inl rfl | exact .inr rfl | assumption):PVS X EX (.Assign [.Name y py] (.ListComp elt [⟨tg,iter,ifs,0⟩] scope pos) spos) (sSet i (mComp n it gf ft fe)) :=
 gA n i (f:=fun d=>sDo (mSet i d)) hc c hn hi hgx hjs hg ht he hN hy hx hsw (fun {G F4 H4 F σ ρ5 l d E} g4 lo e4 o=>by
  obtain ⟨F5,e5,g5,dn⟩:=lo.fast g4
  obtain ⟨ρ2,g2,q⟩:=dN (L:=lc X EX) g5 dn (Out.bnd o)
  exact q F5 H4 _ (e4.trans e5) g2) hs hfn
theorem mH (n i:Nat) {y:Str} {py spos:Pos} (hN:X.N.Nodup) (hy:X.N[i]?=some y) (hx:Loc X.env.scope y) (hc:X.calm=true) (c:CompOk X scope N') (hn:X.N.length+n+1=N'.length) (hi:PVI X EX tg iter it) (hgx:∀d r x r',gf d r≠.exc x r') (hjs:∀j∈js,X.N.length≤j∧j<X.N.length+n)
  (hg:∀C s H ex,PVG (compCx X scope C N' s H ex) EX tg js gf) (ht:∀C s H ex EX,PTs (compCx X scope C N' s H ex) EX ifs ft) (he:∀C s H ex EX,PV (compCx X scope C N' s H ex) EX elt fe)
  (hsw:swapsWith (.ListComp elt [⟨tg,iter,ifs,0⟩] scope pos) (some (.Name y py)) spos.line X.env=pure true:=by rfl) (hs:∀x,foldedSetIterable iter X.env x=pure x:=by intro _;rfl)
  (hfn:X.fn y=true∨X.env.scope.names.lookup y=some .local:=by first | exact .inl rfl | exact .inr rfl | assumption):PVS X EX (.Assign [.Name y py] (.ListComp elt [⟨tg,iter,ifs,0⟩] scope pos) spos) (sOwn i (mComp n it gf ft fe)) :=
 gA n i (f:=fun d=>sDo (mOwn i d)) hc c hn hi hgx hjs hg ht he hN hy hx hsw (fun {G F4 H4 F σ ρ5 l d E} g4 lo e4 o=>by
  obtain ⟨ρ2,g2,q⟩:=kD (L:=lc X EX) g4 lo (Out.bnd o)
  exact q F4 H4 _ e4 g2) hs hfn
end
end VS

end
section
set_option linter.all false
set_option maxRecDepth 100000
namespace VS
open PySem PySem.Spec PyProof.Rows L2 VP
section
variable {X:Cx} {EX:XE} {L:Lc} {tg e a b:Expr} {fa fb fe:M D} {G:Fx} {F:Hp}
theorem qF {p:Addr} {vs:List V} {ds:List D} (h:SqT L.K F p vs) (r:DenL L.K L.mg F vs ds):ItR L G F (Itt L.K p) ds:=fun σ i F' H' ρ s g=>by
 have sq:SqT L.K H' p vs:=SqT.same (SqT.same h s) g.sub
 have hl:=r.length
 refine ⟨fun hi=>⟨vs,vs[i]'(by omega),sq,by simp [show i<vs.length by omega]⟩,fun hi=>⟨vs,sq,by omega⟩,fun x H'' ⟨e,y⟩=>?_⟩
 subst e
 refine ⟨F',Same.refl _,g,fun d hd=>?_⟩
 obtain ⟨v,h1,h2⟩:=(r.same s).get hd
 rw [y vs sq] at h1
 cases h1
 exact h2
theorem qC {p:Addr} {vs:List V} {ds:List D} (h:SqL L.K F p vs) (r:DenL L.K L.mg F vs ds):ItR L G F (Itl L.K p) ds:=fun σ i F' H' ρ s g=>by
 have sq:SqL L.K H' p vs:=SqL.same (SqL.same h s) g.sub
 have hl:=r.length
 refine ⟨fun hi=>⟨vs,vs[i]'(by omega),sq,by simp [show i<vs.length by omega]⟩,fun hi=>⟨vs,sq,by omega⟩,fun x H'' ⟨e,y⟩=>?_⟩
 subst e
 refine ⟨F',Same.refl _,g,fun d hd=>?_⟩
 obtain ⟨v,h1,h2⟩:=(r.same s).get hd
 rw [y vs sq] at h1
 cases h1
 exact h2
theorem qE (lo:Int) (n:Nat):ItR L G F (Itr lo n) ((List.range n).map fun (k:Nat)=>.int (lo+k)):=fun σ i F' H' ρ s g=>by
 refine ⟨fun hi=>(by simpa using hi:i<n),fun hi=>(Nat.le_of_eq (by simpa using hi.symm):n≤i),fun x H'' ⟨e,y⟩=>?_⟩
 subst e y
 refine ⟨F',Same.refl _,g,fun d hd=>?_⟩
 rw [List.getElem?_map] at hd
 cases q:(List.range n)[i]? with
 | none=>rw [q] at hd;cases hd
 | some k =>
  rw [q] at hd
  have:k=i:=by
   have:=List.getElem?_eq_some_iff.mp q
   obtain ⟨h1,h2⟩:=this
   simp at h2
   exact h2.symm
  subst this
  cases hd
  exact .int _
def iSeq (K:Frag) (tl:TE):TI:=fun σ H R=>tl σ H fun x H1=>∃p,x=.ref p∧(((∃xs,SqL K H1 p xs)∧R (Itl K p) H1)∨((∃xs,SqT K H1 p xs)∧R (Itt K p) H1))
theorem tW {l:Expr} {tl:TE} (hl:PE X l tl):PI X tg l (iSeq X.K tl):=by
 intro pins s σ H R I h
 refine thn (hl pins s σ H _ I h) fun v s1 ⟨x,H1,I1,r1,q1⟩=>?_
 obtain ⟨p,e,q1⟩:=q1
 subst e
 cases r1
 rcases q1 with ⟨⟨xs,hq⟩,q⟩ | ⟨⟨xs,hq⟩,q⟩
 ·obtain ⟨its,rv,pl,hz⟩:=I1.list hq
  refine wpAny_pyIter_list pl.isList ?_
  refine ⟨s1.heap.objs.size,[s1.heap.objs.size],_,_,H1,rfl,I1.kept (t':=s1.toks) fun b o e=>Heap.get?_push_of_some _ e,nL p _,⟨_,Heap.get?_push_size _ rfl,rfl,rfl⟩,fun b hb=>?_,q⟩
  have e:b=s1.heap.objs.size:=by simpa using hb
  subst e
  exact I1.fpOk (Nat.le_refl _) (I1.hok.fresh (Nat.le_refl _))
 ·obtain ⟨its,rv,pl,hz⟩:=I1.tuple hq
  refine wpAny_pyIter_tuple (show s1.heap.IsTuple p its.toArray from pl) ?_
  refine ⟨s1.heap.objs.size,[s1.heap.objs.size],_,_,H1,rfl,I1.kept (t':=s1.toks) fun b o e=>Heap.get?_push_of_some _ e,lP p _,⟨_,Heap.get?_push_size _ rfl,rfl,rfl⟩,fun b hb=>?_,q⟩
  have e:b=s1.heap.objs.size:=by simpa using hb
  subst e
  exact I1.fpOk (Nat.le_refl _) (I1.hok.fresh (Nat.le_refl _))
theorem bP (h:PV X EX e fe):PVI X EX tg e (mSeq fe) :=
 (tW h).le fun σ H Q ⟨G,F,ρ,g0,o⟩=>au g0 o (fun x r q=>q) fun F1 H1 ρ1 d1 x s1 g1 r1 o1=>by
  obtain ⟨ds,e,q⟩:=o1.opt
  cases r1 with
  | tup h1 r1 =>
   cases e
   exact ⟨_,rfl,.inr ⟨⟨_,SqT.same h1 g1.sub⟩,q F1 H1 _ s1 g1 (qF h1 r1)⟩⟩
  | lst h1 r1 =>
   cases e
   exact ⟨_,rfl,.inl ⟨⟨_,SqL.same h1 g1.sub⟩,q F1 H1 _ s1 g1 (qC h1 r1)⟩⟩
  | _=>cases e
theorem bE {fl:List (M D)} {p pos:Pos} (hg:Gl X "range") (hm:X.mg "range" = none) (ha:PLs X EX [a] (mL fl)) (hs:starEach [a] X.env=[(false,eval a X.env)]:=by rfl):PVI X EX tg (.Call (.Name "range" p) [a] [] pos) (mRng1 fl) :=
 (nq hg hm ha hs).le fun σ H Q ⟨G,F,ρ,g0,o⟩=>au g0 o (fun x r q=>q) fun F1 H1 ρ1 d1 xs s1 g1 r1 o1=>by
  obtain ⟨ds,e,q⟩:=o1.opt
  unfold rng1 at e
  split at e
  ·rename_i j
   cases r1 with
   | cons h r1 =>
    cases r1;cases h
    split at e
    ·rename_i hb
     cases e
     refine ⟨j,rfl,hb.1,hb.2,q F1 H1 _ s1 g1 ?_⟩
     have:=qE (L:=lc X EX) (G:=G) (F:=F1) 0 j.toNat
     simp only [Int.zero_add] at this
     exact this
    ·cases e
  ·cases e
end
section
variable {X:Cx} {EX:XE} {L:Lc} {e a b:Expr} {fa fb fe:M D} {pos p:Pos} {x:Str} {id T:String}
def F1G (L:Lc) (r:List V→Hp→VK→Prop) (g:D→Option D):Prop:=∀G F H σ ρ x dx d Q,L.Good G F H σ ρ→RR L G F H σ ρ x dx→g dx=some d→Then L G F σ ρ d Q→r [x] H Q
theorem jI (ha:PR X EX a fa) (hs:starEach [a] X.env=(false,eval a X.env)::starEach [] X.env:=by rfl):PA X [a] (fun σ H Q=>lift (lc X EX) (RR (lc X EX)) fa σ H fun v H'=>Q [v] H'):=(aR ha bM hs).le fun σ H Q h=>h
theorem aF {r:List V→Hp→VK→Prop} {g:D→Option D} (hc:CallR X (.builtin id) r) (hg:F1G (lc X EX) r g) (hgl:Gl X x) (hm:X.mg x=none) (hv:bootBuiltins x=some (.builtin id)) (ha:PR X EX a fa) (hn:x ≠ "__name__" := by decide) (hdb:(x == ("__debug__" : Str))=false:=by decide)
  (hs:starEach [a] X.env=(false,eval a X.env)::starEach [] X.env:=by rfl):PV X EX (.Call (.Name x p) [a] [] pos) (m1 g fa) :=
 (cz hc hgl hm hv (jI ha hs) hn hdb hs rfl).le fun σ H Q ⟨G,F,ρ,g0,o⟩=>au g0 o (fun x r q=>q) fun F1 H1 ρ1 d1 x s1 g1 r1 o1=>by
  obtain ⟨d,e,q⟩:=o1.opt
  exact hg G F1 H1 σ ρ1 x d1 d Q g1 r1 e (Post.same s1 q)
theorem cg {r:List V→Hp→VK→Prop} {g:D→Option D} (hc:CallR X (.type T) r) (hg:F1G (lc X EX) r g) (hgl:Gl X x) (hm:X.mg x=none) (hv:bootBuiltins x=some (.type T)) (ha:PR X EX a fa) (hn:x ≠ "__name__" := by decide) (hdb:(x == ("__debug__" : Str))=false:=by decide)
  (hs:starEach [a] X.env=(false,eval a X.env)::starEach [] X.env:=by rfl):PV X EX (.Call (.Name x p) [a] [] pos) (m1 g fa) :=
 (jd hc hgl hm hv (jI ha hs) hn hdb hs rfl).le fun σ H Q ⟨G,F,ρ,g0,o⟩=>au g0 o (fun x r q=>q) fun F1 H1 ρ1 d1 x s1 g1 r1 o1=>by
  obtain ⟨d,e,q⟩:=o1.opt
  exact hg G F1 H1 σ ρ1 x d1 d Q g1 r1 e (Post.same s1 q)
theorem RR.seq {G:Fx} {F H:Hp} {σ:St} {ρ:Rho} {v:V} {d:D} {ds:List D} (h:RR L G F H σ ρ v d) (g:L.Good G F H σ ρ) (e:seqD d=some ds) :
  ∃p vs,v=.ref p∧DenL L.K L.mg F vs ds∧((d=.lst ds∧SqL L.K H p vs)∨(d=.tup ds∧SqT L.K H p vs∧SqT L.K F p vs)):=by
 rcases h with h | ⟨l,rfl,h⟩
 ·cases h with
  | tup h1 r1=>cases e;exact ⟨_,_,rfl,r1,.inr ⟨rfl,SqT.same h1 g.sub,h1⟩⟩
  | lst h1 r1=>cases e;exact ⟨_,_,rfl,r1,.inl ⟨rfl,SqL.same h1 g.sub⟩⟩
  | _=>cases e
 ·cases d with
  | lst xs=>cases e;obtain ⟨vs,h1,h2⟩:=h;exact ⟨l,vs,rfl,h2,.inl ⟨rfl,SqL.of h1⟩⟩
  | dct ks xs=>cases e
  | ins c ns xs=>cases e
  | _=>exact h.elim
theorem bC:F1G L (fun xs H Q=>∃p ys,xs=[.ref p]∧(SqL L.K H p ys∨SqT L.K H p ys)∧Q (.int ys.length) H) lenD:=fun G F H σ ρ x dx d Q g0 rx e k=>by
 have hs:∃ds,seqD dx=some ds∧d=.int ds.length:=by cases dx<;>cases e<;>exact ⟨_,rfl,rfl⟩
 obtain ⟨ds,h1,rfl⟩:=hs
 obtain ⟨p,vs,rfl,r,q⟩:=RR.seq rx g0 h1
 refine ⟨p,vs,rfl,q.elim (fun z=>.inl z.2) (fun z=>.inr z.2.1),?_⟩
 rw [r.length]
 exact k F H _ (Same.refl _) g0 (.int _)
theorem dY:F1G L (fun xs H Q=>∃p ys,xs=[.ref p]∧((SqL L.K H p ys∧∀l,H l=none→Q (.ref l) (upd H l (.tup ys)))∨(SqT L.K H p ys∧Q (.ref p) H))) tupOf:=fun G F H σ ρ x dx d Q g0 rx e k=>by
 have hs:∃ds,seqD dx=some ds∧d=.tup ds:=by cases dx<;>cases e<;>exact ⟨_,rfl,rfl⟩
 obtain ⟨ds,h1,rfl⟩:=hs
 obtain ⟨p,vs,rfl,r,q⟩:=RR.seq rx g0 h1
 refine ⟨p,vs,rfl,?_⟩
 rcases q with ⟨rfl,q⟩ | ⟨rfl,q,q2⟩
 ·refine .inl ⟨q,fun l hl=>?_⟩
  have sF:=aH (o:=.tup vs) (g0.sub.free hl)
  exact k _ _ _ sF (g0.laid hl) (.tup (SqT.of ax) (r.same sF))
 ·exact .inr ⟨q,k F H _ (Same.refl _) g0 (.tup q2 r)⟩
theorem qY {x:Str} (hgl:Gl X x) (hm:X.mg x=none) (hv:bootBuiltins x=some (.type "list")) (ha:PR X EX a fa) (hn:x ≠ "__name__" := by decide) (hdb:(x == ("__debug__" : Str))=false:=by decide)
  (hs:starEach [a] X.env=(false,eval a X.env)::starEach [] X.env:=by rfl):PF X EX (.Call (.Name x p) [a] [] pos) (m1 lstOf fa) :=
 (jd jr hgl hm hv (jI ha hs) hn hdb hs rfl).le fun σ H Q ⟨G,F,ρ,g0,o⟩=>au g0 o (fun x r q=>q) fun F1 H1 ρ1 d1 x s1 g1 r1 o1=>by
  obtain ⟨d,e,q⟩:=o1.opt
  have hs:∃ds,seqD d1=some ds∧d=.lst ds:=by cases d1<;>cases e<;>exact ⟨_,rfl,rfl⟩
  obtain ⟨ds,h1,rfl⟩:=hs
  obtain ⟨p,vs,rfl,r,z⟩:=RR.seq r1 g1 h1
  refine ⟨p,vs,rfl,z.elim (fun z=>.inl z.2) (fun z=>.inr z.2.1),fun l hl=>?_⟩
  exact q _ _ _ s1 (g1.made hl) ⟨l,rfl,g1.loose hl ⟨vs,ax,r⟩⟩
theorem v5:FnG L (fun xs H Q=>∃i j,xs=[.int i,.int j]∧Q (.int (if j > i then j else i)) H) maxD:=fun G F H σ ρ xs dxs d Q g0 rx e k=>by
 unfold maxD at e
 split at e
 ·rename_i i j
  cases rx with
  | cons h1 rx=>cases rx with
   | cons h2 rx =>
    cases rx;cases h1;cases h2;cases e
    exact ⟨i,j,rfl,k F H _ (Same.refl _) g0 (.int _)⟩
 ·cases e
end
mutual
def toPy:D→PyData
 | .non=>.none
 | .bl b=>.bool b
 | .int i=>.int i
 | .str x=>.str x
 | .tup xs=>.tuple (toPys xs)
 | .lst xs=>.list (toPys xs)
 | .dct _ _=>.none
 | .ins _ _ _=>.none
 | .exn _ _ _=>.none
def toPys:List D→List PyData
 | []=>[]
 | x::xs=>toPy x::toPys xs
end
mutual
theorem ju:∀(n m:Nat) (x y:D),plain n x=true→plain m y=true→PyData.eqv (toPy x) (toPy y)=eqB x y
 | n,m,.tup xs,.tup ys,h1,h2=>by
  cases n with
  | zero=>cases h1
  | succ n=>cases m with
   | zero=>cases h2
   | succ m=>exact gD n m xs ys h1 h2
 | n,m,.lst xs,.lst ys,h1,h2=>by
  cases n with
  | zero=>cases h1
  | succ n=>cases m with
   | zero=>cases h2
   | succ m=>exact gD n m xs ys h1 h2
 | n,m,.non,y,h1,h2=>by cases y<;>first | rfl | (cases m<;>cases h2)
 | n,m,.bl _,y,h1,h2=>by cases y<;>first | rfl | (cases m<;>cases h2)
 | n,m,.int _,y,h1,h2=>by cases y<;>first | rfl | (cases m<;>cases h2)
 | n,m,.str _,y,h1,h2=>by cases y<;>first | rfl | (cases m<;>cases h2)
 | n,m,.dct _ _,y,h1,h2=>by cases n<;>cases h1
 | n,m,.ins _ _ _,y,h1,h2=>by cases n<;>cases h1
 | n,m,.exn _ _ _,y,h1,h2=>by cases n<;>cases h1
 | n,m,.tup xs,.non,h1,h2=>rfl
 | n,m,.tup xs,.bl _,h1,h2=>rfl
 | n,m,.tup xs,.int _,h1,h2=>rfl
 | n,m,.tup xs,.str _,h1,h2=>rfl
 | n,m,.tup xs,.lst _,h1,h2=>rfl
 | n,m,.tup xs,.dct _ _,h1,h2=>by cases m<;>cases h2
 | n,m,.tup xs,.ins _ _ _,h1,h2=>by cases m<;>cases h2
 | n,m,.tup xs,.exn _ _ _,h1,h2=>by cases m<;>cases h2
 | n,m,.lst xs,.non,h1,h2=>rfl
 | n,m,.lst xs,.bl _,h1,h2=>rfl
 | n,m,.lst xs,.int _,h1,h2=>rfl
 | n,m,.lst xs,.str _,h1,h2=>rfl
 | n,m,.lst xs,.tup _,h1,h2=>rfl
 | n,m,.lst xs,.dct _ _,h1,h2=>by cases m<;>cases h2
 | n,m,.lst xs,.ins _ _ _,h1,h2=>by cases m<;>cases h2
 | n,m,.lst xs,.exn _ _ _,h1,h2=>by cases m<;>cases h2
theorem gD:∀(n m:Nat) (xs ys:List D),plains n xs=true→plains m ys=true→PyData.eqvAll (toPys xs) (toPys ys)=eqBs xs ys
 | n,m,[],[],_,_=>rfl
 | n,m,[],_::_,_,_=>rfl
 | n,m,_::_,[],_,_=>rfl
 | n,m,x::xs,y::ys,h1,h2=>by
  simp only [plains,Bool.and_eq_true] at h1 h2
  show (PyData.eqv (toPy x) (toPy y)&&PyData.eqvAll (toPys xs) (toPys ys))=(eqB x y&&eqBs xs ys)
  rw [ju n m x y h1.1 h2.1,gD n m xs ys h1.2 h2.2]
end
mutual
theorem je:∀(n:Nat) (x:D),plain n x=true→(toPy x).canLay0=true∧(toPy x).depth≤n
 | n,.non,_=>⟨rfl,Nat.zero_le _⟩
 | n,.bl _,_=>⟨rfl,Nat.zero_le _⟩
 | n,.int _,_=>⟨rfl,Nat.zero_le _⟩
 | n,.str x,h=>⟨by cases n<;>exact h,Nat.zero_le _⟩
 | n,.tup xs,h=>by
  cases n with
  | zero=>cases h
  | succ n =>
   obtain ⟨h1,h2⟩:=eO n xs h
   exact ⟨h1,Nat.succ_le_succ h2⟩
 | n,.lst xs,h=>by
  cases n with
  | zero=>cases h
  | succ n =>
   obtain ⟨h1,h2⟩:=eO n xs h
   exact ⟨h1,Nat.succ_le_succ h2⟩
 | n,.dct _ _,h=>by cases n<;>cases h
 | n,.ins _ _ _,h=>by cases n<;>cases h
 | n,.exn _ _ _,h=>by cases n<;>cases h
theorem eO:∀(n:Nat) (xs:List D),plains n xs=true→PyData.canLayAll0 (toPys xs)=true∧PyData.depthAll (toPys xs)≤n
 | n,[],_=>⟨rfl,Nat.zero_le _⟩
 | n,x::xs,h=>by
  simp only [plains,Bool.and_eq_true] at h
  obtain ⟨h1,h2⟩:=je n x h.1
  obtain ⟨h3,h4⟩:=eO n xs h.2
  refine ⟨?_,?_⟩
  ·show ((toPy x).canLay0&&PyData.canLayAll0 (toPys xs))=true
   rw [h1,h3];rfl
  ·show max (toPy x).depth (PyData.depthAll (toPys xs))≤n
   omega
end
section
variable {X:Cx} {EX:XE} {L:Lc} {pins:List (Addr×Obj)} {σ:St} {H F:Hp} {s:Shared}
mutual
theorem Den.reads (I:Inv X pins σ H s) (sub:Same F H):∀{v:V} {d:D} {n:Nat} {u:Value},Den X.K X.mg F v d→plain n d=true→RelV v u→∃as,Reads s.heap u (toPy d) as
 | _,_,_,_,.non,_,r=>by cases r;exact ⟨_,.none⟩
 | _,_,_,_,.bl b,_,r=>by cases r;exact ⟨_,.bool b⟩
 | _,_,_,_,.int i,_,r=>by obtain ⟨t,rfl⟩:=r;exact ⟨_,.int i t⟩
 | _,_,_,_,.str x,_,r=>by obtain ⟨t,rfl⟩:=r;exact ⟨_,.str x t⟩
 | _,_,n,_,.tup h q,hp,r=>by
  cases r
  cases n with
  | zero=>cases hp
  | succ n =>
   obtain ⟨its,rv,⟨o,ho,hc,m,hd⟩,_⟩:=I.tuple (SqT.same h sub)
   obtain ⟨as,ha⟩:=DenL.reads I sub q hp rv
   exact ⟨_,.tuple ho hc hd (by simpa using ha)⟩
 | _,_,n,_,.lst h q,hp,r=>by
  cases r
  cases n with
  | zero=>cases hp
  | succ n =>
   obtain ⟨its,rv,pl,_⟩:=I.list (SqL.same h sub)
   obtain ⟨o,ho,hc,m,hd⟩:=pl.isList
   obtain ⟨as,ha⟩:=DenL.reads I sub q hp rv
   exact ⟨_,.list ho hc hd (by simpa using ha)⟩
 | _,_,n,_,.dct h q,hp,r=>by cases n<;>cases hp
 | _,_,n,_,.ins h hc q,hp,r=>by cases n<;>cases hp
 | _,_,n,_,.exn h hc hf q,hp,r=>by cases n<;>cases hp
theorem DenL.reads (I:Inv X pins σ H s) (sub:Same F H):∀{vs:List V} {ds:List D} {n:Nat} {us:List Value},DenL X.K X.mg F vs ds→plains n ds=true→Vals vs us→∃as,ReadsAll s.heap us (toPys ds) as
 | _,_,_,_,.nil,_,r=>by cases r;exact ⟨_,.nil⟩
 | _,_,n,_,.cons h t,hp,r=>by
  cases r with
  | cons r1 r2 =>
   simp only [plains,Bool.and_eq_true] at hp
   obtain ⟨as,ha⟩:=Den.reads I sub h hp.1 r1
   obtain ⟨bs,hb⟩:=DenL.reads I sub t hp.2 r2
   exact ⟨_,.cons ha hb⟩
end
def rEqD (K:Frag) (mg:MG) (neg:Bool):R2:=fun x y H Q=>∃F dx dy,Same F H∧Den K mg F x dx∧Den K mg F y dy∧plain 60 dx=true∧plain 60 dy=true∧Q (.bl (if neg then !eqB dx dy else eqB dx dy)) H
theorem d7 {d:D} (h:plain 60 d=true):SeqAt.shaped (toPy d)=true:=by
 obtain ⟨h1,h2⟩:=je 60 d h
 unfold SeqAt.shaped
 rw [h1,decide_eq_true (by omega)]
 rfl
theorem aG (hu:X.A.units+64<cLine):OpR X (compareOp .Eq) (rEqD X.K X.mg false):=by
 intro pins s σ H x y v u Q I rx ry h
 obtain ⟨F,dx,dy,sub,h1,h2,p1,p2,q⟩:=h
 obtain ⟨as,ra⟩:=Den.reads I sub h1 p1 rx
 obtain ⟨bs,rb⟩:=Den.reads I sub h2 p2 ry
 exact SeqAt.compareEq_shaped ra rb (d7 p1) (d7 p2) hu (by rw [ju 60 60 dx dy p1 p2];exact ⟨.bl _,H,I,rfl,q⟩)
theorem eM (hu:X.A.units+64<cLine):OpR X (compareOp .NotEq) (rEqD X.K X.mg true):=by
 intro pins s σ H x y v u Q I rx ry h
 obtain ⟨F,dx,dy,sub,h1,h2,p1,p2,q⟩:=h
 obtain ⟨as,ra⟩:=Den.reads I sub h1 p1 rx
 obtain ⟨bs,rb⟩:=Den.reads I sub h2 p2 ry
 exact SeqAt.compareNe_shaped ra rb (d7 p1) (d7 p2) hu (by rw [ju 60 60 dx dy p1 p2];exact ⟨.bl _,H,I,rfl,q⟩)
theorem aL:OpG L (rEqD L.K L.mg false) eqG:=fun G F H σ ρ x y dx dy d Q g0 rx ry e k=>by
 unfold eqG at e
 split at e
 ·rename_i hp
  cases e
  rw [Bool.and_eq_true] at hp
  exact ⟨F,dx,dy,g0.sub,rx,ry,hp.1,hp.2,k F H _ (Same.refl _) g0 (.bl _)⟩
 ·cases e
theorem i6:OpG L (rEqD L.K L.mg true) neG:=fun G F H σ ρ x y dx dy d Q g0 rx ry e k=>by
 unfold neG at e
 split at e
 ·rename_i hp
  cases e
  rw [Bool.and_eq_true] at hp
  exact ⟨F,dx,dy,g0.sub,rx,ry,hp.1,hp.2,k F H _ (Same.refl _) g0 (.bl _)⟩
 ·cases e
end
end VS

end
section
set_option linter.all false
set_option maxRecDepth 100000
namespace VS
open PySem PySem.Spec PyProof.Rows L2 VP
section
variable {prog:Program} {w:World} {A:Around} {E:Value→Shared→Prop} {s:Shared}
theorem fj {it t:Addr} {i:Nat} {items} {x:Value} {Q:Value→Shared→Prop} (hit:s.heap.IsTupleIter it t i)
  (ht:s.heap.IsTuple t items) (hx:items[i]?=some x)
  (hQ:∀h',h'.IsTupleIter it t (i+1)→Heap.SameBut it s.heap h'→Q x { s with heap:=h' }) :
  wpAny (model prog w) A (Builtin.SmallTypes.nextOf (.ref it)) Q E s:=by
 obtain ⟨o,ho,hc,hd⟩:=id hit
 obtain ⟨ol,hol,_,nl,hdl⟩:=ht
 unfold Builtin.SmallTypes.nextOf
 refine wpAny_bind (wpAny_callSpecial?_slot (name:=Str.ofString "__next__") hit.typeIs PySem.F.slot_tuple_iterator_next
  (wpAny_call_entry PySem.F.slot_tuple_iterator_next hit.typeIs PySem.F.entry_tuple_iterator_next ?_ (PySem.F.args_tuple_iterator_next_1 _)))
 show wpAny _ _ (field (.ref it) 0 >>= _) _ _ s
 refine wpAny_bind (wpAny_field ho hd (x:=.ref t) rfl ?_)
 show wpAny _ _ (if (Value.ref t == Value.none)=true then _ else _) _ _ s
 rw [if_neg (show ¬((Value.ref t == Value.none)=true) from Bool.false_ne_true)]
 show wpAny _ _ (field (.ref it) 1 >>= _) _ _ s
 refine wpAny_bind (wpAny_field ho hd (x:=.int i 0) rfl ?_)
 show wpAny _ _ (seqItems? (.ref t) >>= _) _ _ s
 refine wpAny_bind (wpAny_seqItems hol hdl ?_)
 simp only [Int.toNat_natCast,hx]
 refine wpAny_bind (wpAny_setField ho hd (by simp) (wpAny_pure ⟨x,rfl,wpAny_pure (hQ _ ?_ (Heap.SameBut.update ..))⟩))
 exact ⟨_,Heap.get?_update_self _ ho (Obj.isFreed_of_fields (Obj.data_mapFields hd _)),(Obj.cls_mapFields ..).trans hc,by
  rw [Obj.data_mapFields hd];simp [rawInt]⟩
theorem fN {it t:Addr} {i:Nat} {items} {Q:Value→Shared→Prop} (hh:A.handled=none)
  (hit:s.heap.IsTupleIter it t i) (ht:s.heap.IsTuple t items) (hx:items[i]?=none)
  (hE:∀h' e,Heap.ExtBut it s.heap h'→(∃o,h'.get? e=some o∧o.cls=.type "StopIteration")→E (.ref e) { s with heap:=h' }) :
  wpAny (model prog w) A (Builtin.SmallTypes.nextOf (.ref it)) Q E s:=by
 obtain ⟨o,ho,hc,hd⟩:=id hit
 obtain ⟨ol,hol,_,nl,hdl⟩:=ht
 unfold Builtin.SmallTypes.nextOf
 refine wpAny_bind (wpAny_callSpecial?_slot (name:=Str.ofString "__next__") hit.typeIs PySem.F.slot_tuple_iterator_next
  (wpAny_call_entry PySem.F.slot_tuple_iterator_next hit.typeIs PySem.F.entry_tuple_iterator_next ?_ (PySem.F.args_tuple_iterator_next_1 _)))
 show wpAny _ _ (field (.ref it) 0 >>= _) _ _ s
 refine wpAny_bind (wpAny_field ho hd (x:=.ref t) rfl ?_)
 show wpAny _ _ (if (Value.ref t == Value.none)=true then _ else _) _ _ s
 rw [if_neg (show ¬((Value.ref t == Value.none)=true) from Bool.false_ne_true)]
 show wpAny _ _ (field (.ref it) 1 >>= _) _ _ s
 refine wpAny_bind (wpAny_field ho hd (x:=.int i 0) rfl ?_)
 show wpAny _ _ (seqItems? (.ref t) >>= _) _ _ s
 refine wpAny_bind (wpAny_seqItems hol hdl ?_)
 simp only [Int.toNat_natCast,hx]
 refine wpAny_bind (wpAny_rule (wpAny_bind (wpAny_setField ho hd (by simp) ?_)))
 show wpAny _ _ (newExc (.type "StopIteration") [] >>= _) _ _ _
 refine wpAny_bind ?_
 simp only [newExc,newTuple]
 refine wpAny_bind (wpAny_newObj_type ?_ (by size_fits))
 refine wpAny_bind (m:=firstArgMember _ _) (wpAny_of_eq (a:=Value.none) (by first | rfl | (simp only [firstArgMember];rfl)) ?_)
 refine wpAny_newObj_type ?_ (by size_fits)
 simp only [raiseNew]
 refine wpAny_bind (wpAny_handled ?_)
 first | rw [show A.in1.handled=none from hh] | rw [hh]
 refine wpAny_bind (wpAny_pure (wpAny_throw ?_))
 exact hE _ _ (((Heap.SameBut.update ..).extBut.push _).push _) ⟨_,Heap.get?_push_size _ rfl,rfl⟩
end
def SeqIt (t:Bool) (it a:Addr) (i:Nat) (h:Heap):Prop:=if t then h.IsTupleIter it a i else h.IsListIter it a i
def IsSeq (t:Bool) (h:Heap) (a:Addr) (items:Array Value):Prop:=if t then h.IsTuple a items else h.IsList a items
theorem SeqIt.at {t:Bool} {it a:Addr} {i:Nat} {h h':Heap} (x:SeqIt t it a i h) (e:∀o,h.get? it=some o→h'.get? it=some o):SeqIt t it a i h':=by
 cases t
 ·exact Heap.IsListIter.at (h:=h) (h':=h') x e
 ·exact Heap.IsTupleIter.at (h:=h) (h':=h') x e
theorem SeqIt.obj {t:Bool} {it a:Addr} {i:Nat} {h:Heap} (x:SeqIt t it a i h):∃o,h.get? it=some o∧∀v,o.data≠.cell v:=by
 cases t
 ·obtain ⟨o,e,c,d⟩:=(show h.IsListIter it a i from x);exact ⟨o,e,fun v z=>by rw [d] at z;cases z⟩
 ·obtain ⟨o,e,c,d⟩:=(show h.IsTupleIter it a i from x);exact ⟨o,e,fun v z=>by rw [d] at z;cases z⟩
theorem dU {prog:Program} {w:World} {A:Around} (hh:A.handled=none) (t:Bool) (it l:Addr) (hne:l≠it) (items:Array Value) :
  Draws prog w A it [it,l] items.size (fun i v=>items[i]?=some v) (fun i h=>SeqIt t it l i h∧IsSeq t h l items):=by
 cases t with
 | false=>exact Draws.list hh it l hne items
 | true=>exact {
   live:=fun _ _ st=>let ⟨o,ho,_⟩:=st.1;⟨o,ho⟩
   frame:=fun _ _ _ st hk=>⟨Heap.IsTupleIter.at st.1 fun o e=>hk it (by simp) o e,by
    obtain ⟨o,e,r⟩:=(show Heap.IsTuple _ l items from st.2)
    exact ⟨o,hk l (by simp) o e,r⟩⟩
   item:=fun i s Q E hi st hQ=>by
    refine fj (show s.heap.IsTupleIter it l i from st.1) (show s.heap.IsTuple l items from st.2) (x:=items[i]) (by simp [hi]) fun h' hit' hs'=>?_
    refine hQ _ h' s.toks (by simp [hi]) ⟨hit',?_⟩ hs'
    obtain ⟨o,e,r⟩:=(show Heap.IsTuple _ l items from st.2)
    exact ⟨o,hs'.extBut l o hne e,r⟩
   done:=fun s Q E st hE=>fN hh (show s.heap.IsTupleIter it l _ from st.1) (show s.heap.IsTuple l items from st.2) (by simp) hE }
section
variable {prog:Program} {w:World} {A:Around} {E:Value→Shared→Prop} {s:Shared} {z TI TO i1 i2:Addr} {fp1 fp2:List Addr} {n1 n2 k:Nat} {P1 P2:Nat→Value→Prop} {St1 St2:Nat→Heap→Prop} {a b:Value}
structure ZApart (z TI TO i1 i2:Addr) (fp1 fp2:List Addr):Prop where
 TIz:TI≠z
 TOz:TO≠z
 i1z:i1≠z
 i2z:i2≠z
 TITO:TI≠TO
 TIi1:TI≠i1
 TIi2:TI≠i2
 TOi1:TO≠i1
 TOi2:TO≠i2
 i12:i1≠i2
 z1:z∉fp1
 z2:z∉fp2
 o1:TO∉fp1
 o2:TO∉fp2
 x12:i1∉fp2
 x21:i2∉fp1
theorem nP {Q:Value→Shared→Prop} (D1:Draws prog w A i1 fp1 n1 P1 St1) (D2:Draws prog w A i2 fp2 n2 P2 St2) (D:ZApart z TI TO i1 i2 fp1 fp2)
  (hz:IsZip s.heap z TI TO .none) (hTI:IsPair s.heap TI (.ref i1) (.ref i2)) (hTO:IsPair s.heap TO a b) (h1:St1 k s.heap) (h2:St2 k s.heap) (k1:k<n1) (k2:k<n2)
  (hQ:∀x y h' tk,P1 k x→P2 k y→IsZip h' z TI TO (rawInt s.heap.objs.size)→IsPair h' TO x y→St1 (k+1) h'→St2 (k+1) h'→IsPair h' s.heap.objs.size x y →
   (∀c o,c≠z→c≠TO→c≠i1→c≠i2→s.heap.get? c=some o→h'.get? c=some o)→Q (.ref s.heap.objs.size) { s with heap:=h',toks:=tk }) :
  wpAny (model prog w) A (Builtin.«zip.__next__» ⟨[.ref z],[]⟩) (fun fin s'=>∃v,fin=.done (.ret v)∧Q v s') E s:=by
 show wpAny _ _ (field (.ref z) 2 >>= _) _ _ _
 refine wpAny_bind (wpAny_field hz rfl (x:=.bool false) rfl ?_)
 show wpAny _ _ (field (.ref z) 3 >>= _) _ _ _
 refine wpAny_bind (wpAny_field hz rfl (x:=.ref TI) rfl ?_)
 refine wpAny_bind (wpAny_seqItems hTI rfl ?_)
 show wpAny _ _ (Builtin.SmallTypes.ownedTupleIsFree (.ref z) >>= _) _ _ _
 refine wpAny_bind ?_
 unfold Builtin.SmallTypes.ownedTupleIsFree
 refine wpAny_bind (wpAny_field hz rfl (x:=.none) rfl (wpAny_pure ?_))
 simp only [if_true]
 refine wpAny_bind (wpAny_rule ?_)
 refine wpAny_bind (wpAny_field hz rfl (x:=.ref TO) rfl ?_)
 refine wpAny_bind (wpAny_setField_rec hz (by simp) fun h₁ hz₁ hs₁=>?_)
 replace hz₁:IsZip h₁ z TI TO .ellipsis:=hz₁
 refine wpAny_bind ?_
 simp only [List.zipIdx_cons,List.zipIdx_nil,List.forIn_cons,List.forIn_nil]
 refine wpAny_bind (wpAny_bind (wpAny_onRaise ?_))
 show wpAny _ _ (Builtin.SmallTypes.nextOf (.ref i1) >>= _) _ _ _
 refine wpAny_bind (D1.item k _ _ _ k1 (D1.frame k _ h₁ h1 fun b hb o e=>hs₁.extBut b o (fun q=>D.z1 (q ▸ hb)) e) fun x h₂ tk₂ px h1₂ hs₂=>wpAny_pure ?_)
 replace hs₂:Heap.SameBut i1 h₁ h₂:=hs₂
 have hTO₂:IsPair h₂ TO a b:=hs₂.extBut _ _ D.TOi1 (hs₁.extBut _ _ D.TOz hTO)
 refine wpAny_bind (wpAny_seqItems hTO₂ rfl ?_)
 refine wpAny_bind (wpAny_updateSeq_pair hTO₂ fun h₃ hTO₃ hs₃=>?_)
 replace hTO₃:IsPair h₃ TO x b:=hTO₃
 replace hs₃:Heap.SameBut TO h₂ h₃:=hs₃
 refine wpAny_bind (wpAny_letGo (wpAny_pure ?_))
 refine wpAny_bind (wpAny_bind (wpAny_onRaise ?_))
 show wpAny _ _ (Builtin.SmallTypes.nextOf (.ref i2) >>= _) _ _ _
 refine wpAny_bind (D2.item k _ _ _ k2 (D2.frame k _ h₃ h2 fun b hb o e=>hs₃.extBut b o (fun q=>D.o2 (q ▸ hb)) (hs₂.extBut b o (fun q=>D.x12 (q ▸ hb)) (hs₁.extBut b o (fun q=>D.z2 (q ▸ hb)) e))) fun y h₄ tk₄ py h2₄ hs₄=>wpAny_pure ?_)
 replace hs₄:Heap.SameBut i2 h₃ h₄:=hs₄
 have hTO₄:IsPair h₄ TO x b:=hs₄.extBut _ _ D.TOi2 hTO₃
 refine wpAny_bind (wpAny_seqItems hTO₄ rfl ?_)
 refine wpAny_bind (wpAny_updateSeq_pair hTO₄ fun h₅ hTO₅ hs₅=>?_)
 replace hTO₅:IsPair h₅ TO x y:=hTO₅
 replace hs₅:Heap.SameBut TO h₄ h₅:=hs₅
 refine wpAny_bind (wpAny_letGo (wpAny_pure (wpAny_pure ?_)))
 refine wpAny_bind (wpAny_seqItems hTO₅ rfl ?_)
 refine wpAny_bind (wpAny_newTuple ?_)
 have hsz:h₅.objs.size=s.heap.objs.size:=by rw [hs₅.1,hs₄.1,hs₃.1,hs₂.1,hs₁.1]
 have hz₅:IsZip h₅ z TI TO .ellipsis:=hs₅.extBut _ _ D.TOz.symm (hs₄.extBut _ _ D.i2z.symm (hs₃.extBut _ _ D.TOz.symm (hs₂.extBut _ _ D.i1z.symm hz₁)))
 have hk₅:∀c o,c≠z→c≠TO→c≠i1→c≠i2→s.heap.get? c=some o→h₅.get? c=some o:=fun c o c1 c2 c3 c4 e =>
  hs₅.extBut _ _ c2 (hs₄.extBut _ _ c4 (hs₃.extBut _ _ c2 (hs₂.extBut _ _ c3 (hs₁.extBut _ _ c1 e))))
 have hzlt:z<h₅.objs.size:=Heap.lt_size hz₅
 show wpAny _ _ (Builtin.SmallTypes.ownedTupleHandOut (.ref z) (.ref h₅.objs.size) >>= _) _ _ _
 refine wpAny_bind ?_
 unfold Builtin.SmallTypes.ownedTupleHandOut
 have hz₆:IsZip (h₅.push { cls:=.type "tuple", data:=.seq #[x,y] }) z TI TO .ellipsis:=Heap.get?_push_of_some _ hz₅
 refine wpAny_bind (wpAny_setField_rec hz₆ (by simp) fun h₇ hz₇ hs₇=>?_)
 replace hz₇:IsZip h₇ z TI TO (rawInt h₅.objs.size):=hz₇
 refine wpAny_setField_rec hz₇ (by simp) fun h₈ hz₈ hs₈=>?_
 replace hz₈:IsZip h₈ z TI TO (rawInt h₅.objs.size):=hz₈
 have up:∀c o,c≠z→h₅.get? c=some o→h₈.get? c=some o:=fun c o c1 e=>hs₈.extBut _ _ c1 (hs₇.extBut _ _ c1 (Heap.get?_push_of_some _ e))
 have hT₈:IsPair h₈ h₅.objs.size x y:=hs₈.extBut _ _ (Nat.ne_of_gt hzlt) (hs₇.extBut _ _ (Nat.ne_of_gt hzlt) (Heap.get?_push_size _ rfl))
 rw [hsz] at hz₈ hT₈
 refine wpAny_pure ⟨_,rfl,?_⟩
 show Q (.ref h₅.objs.size) _
 rw [hsz]
 refine hQ x y h₈ _ px py hz₈ (up _ _ D.TOz hTO₅) (D1.frame _ h₂ h₈ h1₂ fun b hb o e=>up b o (fun q=>D.z1 (q ▸ hb)) (hs₅.extBut b o (fun q=>D.o1 (q ▸ hb)) (hs₄.extBut b o (fun q=>D.x21 (q ▸ hb)) (hs₃.extBut b o (fun q=>D.o1 (q ▸ hb)) e))))
  (D2.frame _ h₄ h₈ h2₄ fun b hb o e=>up b o (fun q=>D.z2 (q ▸ hb)) (hs₅.extBut b o (fun q=>D.o2 (q ▸ hb)) e)) hT₈ fun c o c1 c2 c3 c4 e=>up c o c1 (hk₅ c o c1 c2 c3 c4 e)
theorem qo {Q:Fin→Shared→Prop} {m:Nat} (hh:A.handled=none) (D1:Draws prog w A i1 fp1 n1 P1 St1) (D2:Draws prog w A i2 fp2 n2 P2 St2) (D:ZApart z TI TO i1 i2 fp1 fp2)
  (hz:IsZip s.heap z TI TO .none) (hTI:IsPair s.heap TI (.ref i1) (.ref i2)) (hTO:IsPair s.heap TO a b) (h1:St1 k s.heap) (h2:St2 k s.heap) (hend:k=n1∨(k<n1∧k=n2))
  (hE:∀h' e tk,(∀c o,c≠z→c≠TO→c≠i1→c≠i2→s.heap.get? c=some o→h'.get? c=some o)→(∃o,h'.get? e=some o∧o.cls=.type "StopIteration")→E (.ref e) { s with heap:=h',toks:=tk }) :
  wpAny (model prog w) A (Builtin.«zip.__next__» ⟨[.ref z],[]⟩) Q E s:=by
 show wpAny _ _ (field (.ref z) 2 >>= _) _ _ _
 refine wpAny_bind (wpAny_field hz rfl (x:=.bool false) rfl ?_)
 show wpAny _ _ (field (.ref z) 3 >>= _) _ _ _
 refine wpAny_bind (wpAny_field hz rfl (x:=.ref TI) rfl ?_)
 refine wpAny_bind (wpAny_seqItems hTI rfl ?_)
 show wpAny _ _ (Builtin.SmallTypes.ownedTupleIsFree (.ref z) >>= _) _ _ _
 refine wpAny_bind ?_
 unfold Builtin.SmallTypes.ownedTupleIsFree
 refine wpAny_bind (wpAny_field hz rfl (x:=.none) rfl (wpAny_pure ?_))
 simp only [if_true]
 refine wpAny_bind (wpAny_rule ?_)
 refine wpAny_bind (wpAny_field hz rfl (x:=.ref TO) rfl ?_)
 refine wpAny_bind (wpAny_setField_rec hz (by simp) fun h₁ hz₁ hs₁=>?_)
 replace hz₁:IsZip h₁ z TI TO .ellipsis:=hz₁
 refine wpAny_bind ?_
 simp only [List.zipIdx_cons,List.zipIdx_nil,List.forIn_cons,List.forIn_nil]
 refine wpAny_bind (wpAny_bind (wpAny_onRaise ?_))
 show wpAny _ _ (Builtin.SmallTypes.nextOf (.ref i1) >>= _) _ _ _
 have st1:St1 k h₁:=D1.frame k _ h₁ h1 fun b hb o e=>hs₁.extBut b o (fun q=>D.z1 (q ▸ hb)) e
 rcases hend with rfl | ⟨k1,rfl⟩
 ·refine wpAny_bind (D1.done _ _ _ st1 fun h₂ e hs₂ he=>?_)
  obtain ⟨oe,hoe,hce⟩:=he
  have hz₂:IsZip h₂ z TI TO .ellipsis:=hs₂ _ _ D.i1z.symm hz₁
  have hez:e≠z:=fun x=>by subst x;rw [hz₂] at hoe;cases hoe;simp at hce
  refine wpAny_setField_rec hz₂ (by simp) fun h₃ _ hs₃=>hE h₃ e _ (fun c o c1 _ c3 _ x=>hs₃.extBut _ _ c1 (hs₂ _ _ c3 (hs₁.extBut _ _ c1 x))) ⟨oe,hs₃.extBut _ _ hez hoe,hce⟩
 ·refine wpAny_bind (D1.item k _ _ _ k1 st1 fun x h₂ tk₂ px h1₂ hs₂=>wpAny_pure ?_)
  replace hs₂:Heap.SameBut i1 h₁ h₂:=hs₂
  have hTO₂:IsPair h₂ TO a b:=hs₂.extBut _ _ D.TOi1 (hs₁.extBut _ _ D.TOz hTO)
  refine wpAny_bind (wpAny_seqItems hTO₂ rfl ?_)
  refine wpAny_bind (wpAny_updateSeq_pair hTO₂ fun h₃ hTO₃ hs₃=>?_)
  replace hs₃:Heap.SameBut TO h₂ h₃:=hs₃
  refine wpAny_bind (wpAny_letGo (wpAny_pure ?_))
  refine wpAny_bind (wpAny_bind (wpAny_onRaise ?_))
  show wpAny _ _ (Builtin.SmallTypes.nextOf (.ref i2) >>= _) _ _ _
  refine wpAny_bind (D2.done _ _ _ (D2.frame k _ h₃ h2 fun b hb o e=>hs₃.extBut b o (fun q=>D.o2 (q ▸ hb)) (hs₂.extBut b o (fun q=>D.x12 (q ▸ hb)) (hs₁.extBut b o (fun q=>D.z2 (q ▸ hb)) e))) fun h₄ e hs₄ he=>?_)
  replace hs₄:Heap.ExtBut i2 h₃ h₄:=hs₄
  obtain ⟨oe,hoe,hce⟩:=he
  have hz₄:IsZip h₄ z TI TO .ellipsis:=hs₄ _ _ D.i2z.symm (hs₃.extBut _ _ D.TOz.symm (hs₂.extBut _ _ D.i1z.symm hz₁))
  have hez:e≠z:=fun x=>by subst x;rw [hz₄] at hoe;cases hoe;simp at hce
  refine wpAny_setField_rec hz₄ (by simp) fun h₅ _ hs₅=>hE h₅ e _ (fun c o c1 c2 c3 c4 x=>hs₅.extBut _ _ c1 (hs₄ _ _ c4 (hs₃.extBut _ _ c2 (hs₂.extBut _ _ c3 (hs₁.extBut _ _ c1 x))))) ⟨oe,hs₅.extBut _ _ hez hoe,hce⟩
end
abbrev itObj (t:Bool) (l:Addr):Obj:={ cls:=.type (if t then "tuple_iterator" else "list_iterator"),data:=.fields #[.ref l,.int 0 0] }
abbrev zH1 (h:Heap) (t1:Bool) (l1:Addr):Heap:=h.push (itObj t1 l1)
abbrev zH2 (h:Heap) (t1 t2:Bool) (l1 l2:Addr):Heap:=(zH1 h t1 l1).push (itObj t2 l2)
abbrev zH3 (h:Heap) (t1 t2:Bool) (l1 l2:Addr):Heap:=(zH2 h t1 t2 l1 l2).push { cls:=.type "tuple", data:=.seq #[.ref h.objs.size,.ref (zH1 h t1 l1).objs.size] }
abbrev zH4 (h:Heap) (t1 t2:Bool) (l1 l2:Addr):Heap:=(zH3 h t1 t2 l1 l2).push { cls:=.type "tuple", data:=.seq #[.none,.none] }
abbrev zH5 (h:Heap) (t1 t2:Bool) (l1 l2:Addr):Heap:=(zH4 h t1 t2 l1 l2).push { cls:=.type "zip", data:=.fields #[.none,.bool false,.bool false,.ref (zH2 h t1 t2 l1 l2).objs.size,.ref (zH3 h t1 t2 l1 l2).objs.size] }
theorem IsTuple.push {h:Heap} {a:Addr} {items:Array Value} (x:h.IsTuple a items) (o:Obj):(h.push o).IsTuple a items:=let ⟨ob,e,r⟩:=x;⟨ob,Heap.get?_push_of_some _ e,r⟩
set_option maxHeartbeats 4000000 in
theorem m8 (t1 t2:Bool) (l1 l2:Addr) (xs ys:Array Value) :
  Meets (Builtin.«zip.__new__» ⟨[.type "zip", .ref l1,.ref l2],[]⟩) (fun _ R s=>IsSeq t1 s.heap l1 xs∧IsSeq t2 s.heap l2 ys ∧
   R (.ok (.ret (.ref (zH4 s.heap t1 t2 l1 l2).objs.size))) { s with heap:=zH5 s.heap t1 t2 l1 l2 }) :=
 .of_wp fun prog w A R s h=>by
  obtain ⟨hp,g,d,tk,os⟩:=s;obtain ⟨hl1,hl2,h⟩:=h
  have hsub:=sub_zip
  cases t1 with
  | false =>
   have hL1:Heap.IsList (Shared.heap ⟨hp,g,d,tk,os⟩) l1 xs:=hl1
   cases t2 with
   | false =>
    have hL2:Heap.IsList (Shared.heap ⟨hp.push { cls:=.type "list_iterator", data:=.fields #[.ref l1,.int 0 0] },g,d,tk,os⟩) l2 ys:=Heap.IsList.push hl2 _
    wp_walk using wpAny_pyIter_list hL1,wpAny_pyIter_list hL2
    exact ⟨_,rfl,h⟩
   | true =>
    have hL2:Heap.IsTuple (Shared.heap ⟨hp.push { cls:=.type "list_iterator", data:=.fields #[.ref l1,.int 0 0] },g,d,tk,os⟩) l2 ys:=IsTuple.push hl2 _
    wp_walk using wpAny_pyIter_list hL1,wpAny_pyIter_tuple hL2
    exact ⟨_,rfl,h⟩
  | true =>
   have hL1:Heap.IsTuple (Shared.heap ⟨hp,g,d,tk,os⟩) l1 xs:=hl1
   cases t2 with
   | false =>
    have hL2:Heap.IsList (Shared.heap ⟨hp.push { cls:=.type "tuple_iterator", data:=.fields #[.ref l1,.int 0 0] },g,d,tk,os⟩) l2 ys:=Heap.IsList.push hl2 _
    wp_walk using wpAny_pyIter_tuple hL1,wpAny_pyIter_list hL2
    exact ⟨_,rfl,h⟩
   | true =>
    have hL2:Heap.IsTuple (Shared.heap ⟨hp.push { cls:=.type "tuple_iterator", data:=.fields #[.ref l1,.int 0 0] },g,d,tk,os⟩) l2 ys:=IsTuple.push hl2 _
    wp_walk using wpAny_pyIter_tuple hL1,wpAny_pyIter_tuple hL2
    exact ⟨_,rfl,h⟩
theorem jh {h:Heap} {t:Bool} {it l:Addr} (e:h.get? it=some (itObj t l)):SeqIt t it l 0 h:=by
 cases t
 ·exact ⟨_,e,rfl,rfl⟩
 ·exact ⟨_,e,rfl,rfl⟩
theorem oE {prog:Program} {w:World} {A:Around} {E:Value→Shared→Prop} {s:Shared} {t1 t2:Bool} {l1 l2:Addr} {xs ys:Array Value} {Q:Value→Shared→Prop} (hl1:IsSeq t1 s.heap l1 xs) (hl2:IsSeq t2 s.heap l2 ys)
  (h:∀h',IsZip h' (s.heap.objs.size+4) (s.heap.objs.size+2) (s.heap.objs.size+3) .none→IsPair h' (s.heap.objs.size+2) (.ref s.heap.objs.size) (.ref (s.heap.objs.size+1)) →
   IsPair h' (s.heap.objs.size+3) .none .none→SeqIt t1 s.heap.objs.size l1 0 h'→SeqIt t2 (s.heap.objs.size+1) l2 0 h' →
   (∀c o,s.heap.get? c=some o→h'.get? c=some o)→Q (.ref (s.heap.objs.size+4)) { s with heap:=h' }) :
  wpAny (model prog w) A (call (.type "zip") [.ref l1,.ref l2]) Q E s:=by
 refine callType_new PySem.F.called_zip (by decide) (PySem.F.typeCall_zip_2 _ _) (PySem.F.newCall_zip_2 _ _) (fun obj=>PySem.F.args_object_init_3 obj _ _) PySem.F.entry_zip_new
  (m8 t1 t2 l1 l2 xs ys) ⟨hl1,hl2,?_⟩
 have z1:(zH1 s.heap t1 l1).objs.size=s.heap.objs.size+1:=Heap.size_push ..
 have z2:(zH2 s.heap t1 t2 l1 l2).objs.size=s.heap.objs.size+2:=by rw [Heap.size_push,z1]
 have z3:(zH3 s.heap t1 t2 l1 l2).objs.size=s.heap.objs.size+3:=by rw [Heap.size_push,z2]
 have z4:(zH4 s.heap t1 t2 l1 l2).objs.size=s.heap.objs.size+4:=by rw [Heap.size_push,z3]
 have g5:(zH5 s.heap t1 t2 l1 l2).get? (zH4 s.heap t1 t2 l1 l2).objs.size=some _:=Heap.get?_push_size _ rfl
 have g4:(zH5 s.heap t1 t2 l1 l2).get? (zH3 s.heap t1 t2 l1 l2).objs.size=some _:=Heap.get?_push_of_some _ (Heap.get?_push_size _ rfl)
 have g3:(zH5 s.heap t1 t2 l1 l2).get? (zH2 s.heap t1 t2 l1 l2).objs.size=some _:=Heap.get?_push_of_some _ (Heap.get?_push_of_some _ (Heap.get?_push_size _ rfl))
 have g2:(zH5 s.heap t1 t2 l1 l2).get? (zH1 s.heap t1 l1).objs.size=some _:=Heap.get?_push_of_some _ (Heap.get?_push_of_some _ (Heap.get?_push_of_some _ (Heap.get?_push_size _ rfl)))
 have g1:(zH5 s.heap t1 t2 l1 l2).get? s.heap.objs.size=some _:=Heap.get?_push_of_some _ (Heap.get?_push_of_some _ (Heap.get?_push_of_some _ (Heap.get?_push_of_some _ (Heap.get?_push_size _ rfl))))
 show _∧_
 rw [z2,z3,z4] at g5
 rw [z1,z2] at g3
 rw [z3] at g4
 rw [z1] at g2
 rw [z4]
 exact ⟨⟨_,g5,rfl⟩,h _ g5 g3 g4 (jh g1) (jh g2) fun c o x =>
  Heap.get?_push_of_some _ (Heap.get?_push_of_some _ (Heap.get?_push_of_some _ (Heap.get?_push_of_some _ (Heap.get?_push_of_some _ x))))⟩
def SqS (K:Frag) (H:Hp) (t:Bool) (p:Addr) (xs:List V):Prop:=if t then SqT K H p xs else SqL K H p xs
theorem Inv.seqS {X:Cx} {pins:List (Addr×Obj)} {σ:St} {H:Hp} {s:Shared} {t:Bool} {p:Addr} {xs:List V} (I:Inv X pins σ H s) (h:SqS X.K H t p xs):∃its:List Value,Vals xs its∧IsSeq t s.heap p its.toArray:=by
 cases t
 ·obtain ⟨its,rv,pl,_⟩:=I.list (show SqL X.K H p xs from h);exact ⟨its,rv,pl.isList⟩
 ·obtain ⟨its,rv,pl,_⟩:=I.tuple (show SqT X.K H p xs from h);exact ⟨its,rv,pl⟩
theorem Inv.seqS_inj {X:Cx} {pins:List (Addr×Obj)} {σ:St} {H:Hp} {s:Shared} {t:Bool} {p:Addr} {xs ys:List V} (I:Inv X pins σ H s) (h:SqS X.K H t p xs) (h':SqS X.K H t p ys):xs=ys:=by
 cases t
 ·exact I.list_inj h h'
 ·exact I.tuple_inj h h'
def Itz (K:Frag) (t1 t2:Bool) (p1 p2:Addr):It :=
  ⟨fun i H=>∃xs ys x y,SqS K H t1 p1 xs∧SqS K H t2 p2 ys∧xs[i]?=some x∧ys[i]?=some y,
   fun i H v H'=>∃q x y,H q=none∧v=.ref q∧H'=upd H q (.tup [x,y])∧(∀xs,SqS K H t1 p1 xs→xs[i]?=some x)∧(∀ys,SqS K H t2 p2 ys→ys[i]?=some y),
   fun i H=>∃xs ys,SqS K H t1 p1 xs∧SqS K H t2 p2 ys∧i≤xs.length∧i≤ys.length∧(xs.length≤i∨ys.length≤i)⟩
theorem Inv.pair {X:Cx} {pins:List (Addr×Obj)} {σ:St} {H:Hp} {s:Shared} {fp:List Addr} {h':Heap} {tk:Nat} {x y:V} {u v:Value} (I:Inv X pins σ H s) (hf:∀b∈fp,FpOk X pins H b)
  (hk:∀c o,c∉fp→s.heap.get? c=some o→h'.get? c=some o) (hp:IsPair h' s.heap.objs.size u v) (rx:RelV x u) (ry:RelV y v) :
  Inv X pins σ (upd H s.heap.objs.size (.tup [x,y])) { s with heap:=h',toks:=tk }:=by
 have hn:H s.heap.objs.size=none:=I.hok.fresh (Nat.le_refl _)
 have trk:∀{b:Addr} {o:HO},H b=some o→b∉fp:=fun {b o} e hb=>by rw [(hf b hb).1] at e;cases e
 refine I.call' (s':={ s with heap:=h',toks:=tk }) (ch:=fp) rfl ⟨fun b o e n hb hx=>hk b o hx e,fun b o e n hb hx=>⟨o.slots,by rw [hk b o hx e]⟩,fun b o e n hx=>?_,fun b o e hx=>⟨o,hk b o hx e⟩,fun b xs e=>?_,fun b o u e=>?_,fun b o e=>?_⟩ (fun b o e=>?_) I.bare fun b hb=>⟨(hf b hb).2.2.2.1,(hf b hb).2.1,(hf b hb).2.2.2.2.1,(hf b hb).2.2.2.2.2⟩
 ·rw [aq (Nat.ne_of_lt (Heap.lt_size e))];exact n
 ·rw [aq (aQ e hn)];exact e
 ·rw [aq (aQ e hn)];exact e
 ·exact ⟨#[],by rw [aq (aQ e hn),e];simp⟩
 ·by_cases hb:b=s.heap.objs.size
  ·subst hb
   rw [ax] at e
   cases e
   exact ⟨by show 2≤sizeLine;decide,[u,v],.cons rx (.cons ry .nil),⟨_,hp,rfl,⟨_,rfl⟩,rfl⟩⟩
  ·rw [aq hb] at e
   refine (I.hok b o e).stay (fun c w' hc q=>hk c w' ?_ q) (fun c q=>by rw [aq (aQ q hn)];exact q) fun c xs q=>by rw [aq (aQ q hn)];exact q
   rcases hc with rfl | hc
   ·exact trk e
   ·exact trk hc
theorem Inv.turnedL {X:Cx} {pins:List (Addr×Obj)} {σ:St} {H:Hp} {s:Shared} {fp:List Addr} {h':Heap} {tk:Nat} (I:Inv X pins σ H s) (hf:∀b∈fp,FpOk X pins H b)
  (hk:∀c o,c∉fp→s.heap.get? c=some o→h'.get? c=some o):Inv X pins σ H { s with heap:=h',toks:=tk }:=by
 have trk:∀{b:Addr} {o:HO},H b=some o→b∉fp:=fun {b o} e hb=>by rw [(hf b hb).1] at e;cases e
 refine I.call' (s':={ s with heap:=h',toks:=tk }) (ch:=fp) rfl ⟨fun b o e n hb hx=>hk b o hx e,fun b o e n hb hx=>⟨o.slots,by rw [hk b o hx e]⟩,fun b o e n hx=>n,fun b o e hx=>⟨o,hk b o hx e⟩,fun b xs e=>e,fun b o u e=>e,fun b o e=>⟨#[],by rw [e];simp⟩⟩ (fun b o e=>?_) I.bare fun b hb=>⟨(hf b hb).2.2.2.1,(hf b hb).2.1,(hf b hb).2.2.2.2.1,(hf b hb).2.2.2.2.2⟩
 refine (I.hok b o e).stay (fun c w' hc q=>hk c w' ?_ q) (fun c q=>q) fun c xs q=>q
 rcases hc with rfl | hc
 ·exact trk e
 ·exact trk hc
theorem qg {P:Program} {w:World} {K:Frag} {es:List Expr} {k:Nat} {tpos:Pos} (t1 t2:Bool) {p1 p2 z TI TO i1 i2:Addr} (D:ZApart z TI TO i1 i2 [i1,p1] [i2,p2]) (n1:p1≠i1) (n2:p2≠i2) :
  Turn P w K (.Tuple es k tpos) (Itz K t1 t2 p1 p2) [z,TI,TO,i1,i2] z (fun i h=>IsZip h z TI TO .none∧IsPair h TI (.ref i1) (.ref i2)∧(∃a b,IsPair h TO a b)∧SeqIt t1 i1 p1 i h∧SeqIt t2 i2 p2 i h) where
 mem:=by simp
 obj:=fun i h st b hb=>by
  obtain ⟨hz,hTI,⟨a,c,hTO⟩,h1,h2⟩:=st
  simp only [List.mem_cons,List.not_mem_nil,or_false] at hb
  rcases hb with rfl | rfl | rfl | rfl | rfl
  ·exact ⟨_,hz,fun v q=>by cases q⟩
  ·exact ⟨_,hTI,fun v q=>by cases q⟩
  ·exact ⟨_,hTO,fun v q=>by cases q⟩
  ·exact h1.obj
  ·exact h2.obj
 keep:=fun i h h' st kk=>by
  obtain ⟨hz,hTI,⟨a,c,hTO⟩,h1,h2⟩:=st
  exact ⟨kk z (by simp) _ hz,kk TI (by simp) _ hTI,⟨a,c,kk TO (by simp) _ hTO⟩,h1.at fun o e=>kk i1 (by simp) o e,h2.at fun o e=>kk i2 (by simp) o e⟩
 item:=by
  intro X hP hw hK hc i pins s σ H E I hf st hg
  subst hP hw hK
  obtain ⟨hz,hTI,⟨a,c,hTO⟩,h1,h2⟩:=st
  obtain ⟨xs,ys,x,y,q1,q2,e1,e2⟩:=hg
  obtain ⟨its1,rv1,s1⟩:=Inv.seqS I q1
  obtain ⟨its2,rv2,s2⟩:=Inv.seqS I q2
  obtain ⟨u,hu,ru⟩:=rv1.get e1
  obtain ⟨v,hv,rv⟩:=rv2.get e2
  have hh:X.A.handled=none:=I.ok.hd hc
  have hT:s.TypeIs (.ref z) "zip" := ⟨_,hz,rfl⟩
  unfold pyNext
  have lt1:i<its1.toArray.size:=by have:=(List.getElem?_eq_some_iff.mp hu).1;simpa using this
  have lt2:i<its2.toArray.size:=by have:=(List.getElem?_eq_some_iff.mp hv).1;simpa using this
  refine wpAny_bind (wpAny_attempt (wpAny_callSpecial?_slot (name:=Str.ofString "__next__") hT PySem.F.slot_zip_next
   (wpAny_call_entry PySem.F.slot_zip_next hT PySem.F.entry_zip_next
    (nP (dU (by exact hh) t1 i1 p1 n1 its1.toArray) (dU (by exact hh) t2 i2 p2 n2 its2.toArray) D hz hTI hTO ⟨h1,s1⟩ ⟨h2,s2⟩ lt1 lt2 fun x' y' h' tk px py z1 o1 w1 w2 pr kp=>wpAny_pure ?_) (PySem.F.args_zip_next_1 _))))
  have ex:x'=u:=by
   have:its1.toArray[i]?=some u:=by simpa using hu
   rw [this] at px;exact (Option.some.inj px).symm
  have ey:y'=v:=by
   have:its2.toArray[i]?=some v:=by simpa using hv
   rw [this] at py;exact (Option.some.inj py).symm
  subst ex ey
  refine ⟨_,rfl,wpAny_letOwnedTupleGo_zip z1 fun h'' z2 sb=>?_⟩
  replace sb:Heap.SameBut z h' h'':=sb
  have szlt:z≠s.heap.objs.size:=Nat.ne_of_lt (Heap.lt_size hz)
  have kp2:∀c o,c∉[z,TI,TO,i1,i2]→s.heap.get? c=some o→h''.get? c=some o:=fun c o hc' e=>by
   simp only [List.mem_cons,List.not_mem_nil,or_false,not_or] at hc'
   exact sb.extBut c o hc'.1 (kp c o hc'.1 hc'.2.2.1 hc'.2.2.2.1 hc'.2.2.2.2 e)
  have IX:=Inv.pair (tk:=tk) (h':=h'') (x:=x) (y:=y) I hf kp2 (sb.extBut _ _ (Ne.symm szlt) pr) ru rv
  refine ⟨.ref s.heap.objs.size,_,IX,rfl,⟨_,x,y,I.hok.fresh (Nat.le_refl _),rfl,rfl,fun xs' hx'=>by rw [Inv.seqS_inj I hx' q1];exact e1,fun ys' hy'=>by rw [Inv.seqS_inj I hy' q2];exact e2⟩,
   ⟨z2,sb.extBut _ _ D.TIz (kp _ _ D.TIz D.TITO D.TIi1 D.TIi2 hTI),⟨_,_,sb.extBut _ _ D.TOz o1⟩,w1.1.at fun o e=>sb.extBut _ o D.i1z e,w2.1.at fun o e=>sb.extBut _ o D.i2z e⟩,fun b hb=>?_⟩
  have hbs:b≠s.heap.objs.size:=by
   obtain ⟨ob,e,_⟩:∃o,s.heap.get? b=some o∧∀v,o.data≠.cell v:=by
    simp only [List.mem_cons,List.not_mem_nil,or_false] at hb
    rcases hb with rfl | rfl | rfl | rfl | rfl
    ·exact ⟨_,hz,fun v q=>by cases q⟩
    ·exact ⟨_,hTI,fun v q=>by cases q⟩
    ·exact ⟨_,hTO,fun v q=>by cases q⟩
    ·exact h1.obj
    ·exact h2.obj
   exact Nat.ne_of_lt (Heap.lt_size e)
  rw [aq hbs]
  exact (hf b hb).1
 done:=by
  intro X hP hw hK hc i pins s σ H E I hf st hg
  subst hP hw hK
  obtain ⟨hz,hTI,⟨a,c,hTO⟩,h1,h2⟩:=st
  obtain ⟨xs,ys,q1,q2,b1,b2,hend⟩:=hg
  obtain ⟨its1,rv1,s1⟩:=Inv.seqS I q1
  obtain ⟨its2,rv2,s2⟩:=Inv.seqS I q2
  have l1:=rv1.length
  have l2:=rv2.length
  have hh:X.A.handled=none:=I.ok.hd hc
  have hT:s.TypeIs (.ref z) "zip" := ⟨_,hz,rfl⟩
  have he:i=its1.toArray.size∨(i<its1.toArray.size∧i=its2.toArray.size):=by simp;omega
  unfold pyNext
  refine wpAny_bind (wpAny_attempt (wpAny_callSpecial?_slot (name:=Str.ofString "__next__") hT PySem.F.slot_zip_next
   (wpAny_call_entry PySem.F.slot_zip_next hT PySem.F.entry_zip_next
    (qo (m:=0) (by exact hh) (dU (by exact hh) t1 i1 p1 n1 its1.toArray) (dU (by exact hh) t2 i2 p2 n2 its2.toArray) D hz hTI hTO ⟨h1,s1⟩ ⟨h2,s2⟩ he fun h' e tk hk he=>?_) (PySem.F.args_zip_next_1 _))))
  obtain ⟨o,ho,hc'⟩:=he
  refine wpAny_bind (wpAny_isInstance (T := "StopIteration") (b:=true) ⟨o,ho,hc'⟩ isSubtype_stop ?_)
  refine wpAny_pure ⟨rfl,Inv.turnedL (h':=h') I hf fun c o hc'' e=>?_⟩
  simp only [List.mem_cons,List.not_mem_nil,or_false,not_or] at hc''
  exact hk c o hc''.1 hc''.2.2.1 hc''.2.2.2.1 hc''.2.2.2.2 e
 self:=fun _ _ _ _ _ st h=>wpAny_pyIter_zip st.1 h
end VS

end
section
set_option linter.all false
set_option maxRecDepth 100000
namespace VS
open PySem PySem.Spec PyProof.Rows L2 VP
section
variable {X:Cx} {EX:XE} {L:Lc} {e a b:Expr} {fa fb fe:M D} {pos p:Pos} {x:Str}
def iZip (K:Frag) (t:TA):TI:=fun σ H R=>t σ H fun vs H1=>∃t1 t2 p1 p2,vs=[.ref p1,.ref p2]∧(∃xs,SqS K H1 t1 p1 xs)∧(∃ys,SqS K H1 t2 p2 ys)∧R (Itz K t1 t2 p1 p2) H1
theorem tX {es:List Expr} {k:Nat} {tpos:Pos} {t:TA} (hg:Gl X "zip") (hm:X.mg "zip" = none) (ha:PA X [a,b] t) (hs:starEach [a,b] X.env=[(false,eval a X.env),(false,eval b X.env)]:=by rfl) (hs2:starEach [b] X.env=[(false,eval b X.env)]:=by rfl) :
  PI X (.Tuple es k tpos) (.Call (.Name "zip" p) [a,b] [] pos) (iZip X.K t):=by
 intro pins s σ H R I h
 refine Call_ (cO I hg hm boot_zip (PyProof.Rows.callWith_type1 (thn (ha pos pins s σ H _ I h) fun us s1 ⟨vs,H1,I1,r1,q1⟩=>?_) (by rw [hs,hs2]) (by rw [hs2];rfl)))
 obtain ⟨t1,t2,p1,p2,e,⟨xs,h1⟩,⟨ys,h2⟩,q⟩:=q1
 subst e
 cases r1 with
 | cons r rr =>
  cases rr with
  | cons r' rr =>
   cases rr
   cases r
   cases r'
   obtain ⟨its1,rv1,s1'⟩:=Inv.seqS I1 h1
   obtain ⟨its2,rv2,s2'⟩:=Inv.seqS I1 h2
   have lt:∀{t:Bool} {q:Addr} {its:Array Value},IsSeq t s1.heap q its→q<s1.heap.objs.size:=fun {t q its} z=>by
    cases t
    ·obtain ⟨o,e,_⟩:=(show Heap.IsList _ _ _ from z);exact Heap.lt_size e
    ·obtain ⟨o,e,_⟩:=(show Heap.IsTuple _ _ _ from z);exact Heap.lt_size e
   have l1:=lt s1'
   have l2:=lt s2'
   refine oE s1' s2' fun h' hz hTI hTO hi1 hi2 hk=>?_
   refine wpAny_pyIter_zip hz ?_
   have IX:Inv X pins σ H1 { s1 with heap:=h' }:=I1.kept (t':=s1.toks) hk
   have ne:∀{q:Addr} (j:Nat),q<s1.heap.objs.size→q≠s1.heap.objs.size+j:=fun {q} j hq=>Nat.ne_of_lt (Nat.lt_of_lt_of_le hq (Nat.le_add_right _ _))
   have D:ZApart (s1.heap.objs.size+4) (s1.heap.objs.size+2) (s1.heap.objs.size+3) s1.heap.objs.size (s1.heap.objs.size+1) [s1.heap.objs.size,p1] [s1.heap.objs.size+1,p2]:=by
    have a1:=ne 4 l1;have a2:=ne 3 l1;have a3:=ne 1 l1
    have b1:=ne 4 l2;have b2:=ne 3 l2;have b3:=ne 0 l2
    refine ⟨by simp,by simp,by simp,by simp,by simp,by simp,by simp,by simp,by simp,by simp,?_,?_,?_,?_,?_,?_⟩
    ·simp [Ne.symm a1]
    ·simp [Ne.symm b1]
    ·simp [Ne.symm a2]
    ·simp [Ne.symm b2]
    ·simp;exact Ne.symm b3
    ·simp [Ne.symm a3]
   refine ⟨_,[s1.heap.objs.size+4,s1.heap.objs.size+2,s1.heap.objs.size+3,s1.heap.objs.size,s1.heap.objs.size+1],_,_,H1,rfl,IX,qg t1 t2 D (ne 0 l1) (ne 1 l2),⟨hz,hTI,⟨_,_,hTO⟩,hi1,hi2⟩,fun c hc=>?_,q⟩
   have hle:s1.heap.objs.size≤c:=by
    simp only [List.mem_cons,List.not_mem_nil,or_false] at hc
    rcases hc with rfl | rfl | rfl | rfl | rfl
    ·exact Nat.le_add_right _ _
    ·exact Nat.le_add_right _ _
    ·exact Nat.le_add_right _ _
    ·exact Nat.le_refl _
    ·exact Nat.le_add_right _ _
   exact I1.fpOk hle (I1.hok.fresh hle)
theorem SqS.same {K:Frag} {F F':Hp} {t:Bool} {q:Addr} {xs:List V} (h:SqS K F t q xs) (e:Same F F'):SqS K F' t q xs:=by
 cases t
 ·exact SqL.same h e
 ·exact SqT.same h e
theorem Den.seq {K:Frag} {mg:MG} {F:Hp} {v:V} {d:D} {ds:List D} (h:Den K mg F v d) (e:seqD d=some ds):∃t q vs,v=.ref q∧SqS K F t q vs∧DenL K mg F vs ds:=by
 cases h with
 | tup h r=>cases e;exact ⟨true,_,_,rfl,h,r⟩
 | lst h r=>cases e;exact ⟨false,_,_,rfl,h,r⟩
 | _=>cases e
theorem qG {G:Fx} {F:Hp} {t1 t2:Bool} {p1 p2:Addr} {vs ws:List V} {ds es:List D} (hinj:∀(σ:St) (F' H':Hp) (ρ:Rho),Same F F'→L.Good G F' H' σ ρ→True) (h1:SqS L.K F t1 p1 vs) (r1:DenL L.K L.mg F vs ds) (h2:SqS L.K F t2 p2 ws) (r2:DenL L.K L.mg F ws es) :
  ItR L G F (Itz L.K t1 t2 p1 p2) (List.zipWith (fun x y=>D.tup [x,y]) ds es):=fun σ i F' H' ρ s g=>by
 have q1:SqS L.K H' t1 p1 vs:=(h1.same s).same g.sub
 have q2:SqS L.K H' t2 p2 ws:=(h2.same s).same g.sub
 have l1:=r1.length
 have l2:=r2.length
 refine ⟨fun hi=>?_,fun hi=>?_,fun x H'' y=>?_⟩
 ·simp at hi
  exact ⟨vs,ws,vs[i]'(by omega),ws[i]'(by omega),q1,q2,by simp [show i<vs.length by omega],by simp [show i<ws.length by omega]⟩
 ·simp at hi
  exact ⟨vs,ws,q1,q2,by omega,by omega,by omega⟩
 ·obtain ⟨q,u,v,hq,rfl,rfl,y1,y2⟩:=y
  have sF:=aH (o:=.tup [u,v]) (g.sub.free hq)
  refine ⟨_,sF,g.laid hq,fun d hd=>?_⟩
  rw [List.getElem?_zipWith] at hd
  cases e1:ds[i]? with
  | none=>rw [e1] at hd;cases hd
  | some d1 =>
   cases e2:es[i]? with
   | none=>rw [e1,e2] at hd;cases hd
   | some d2 =>
    rw [e1,e2] at hd
    cases hd
    obtain ⟨u',a1,a2⟩:=(r1.same s).get e1
    obtain ⟨v',b1,b2⟩:=(r2.same s).get e2
    rw [y1 vs q1] at a1
    rw [y2 ws q2] at b1
    cases a1;cases b1
    exact .tup (SqT.of ax) (.cons (a2.same sF) (.cons (b2.same sF) .nil))
theorem iF {es:List Expr} {k:Nat} {tpos:Pos} {fl:List (M D)} (hg:Gl X "zip") (hm:X.mg "zip" = none) (ha:PLs X EX [a,b] (mL fl)) (hs:starEach [a,b] X.env=[(false,eval a X.env),(false,eval b X.env)]:=by rfl) (hs2:starEach [b] X.env=[(false,eval b X.env)]:=by rfl) :
  PVI X EX (.Tuple es k tpos) (.Call (.Name "zip" p) [a,b] [] pos) (mZip fl) :=
 (tX hg hm ha hs hs2).le fun σ H Q ⟨G,F,ρ,g0,o⟩=>au g0 o (fun x r q=>q) fun F1 H1 ρ1 d1 xs s1 g1 r1 o1=>by
  obtain ⟨ds,e,q⟩:=o1.opt
  unfold zipL at e
  split at e
  ·rename_i c d
   cases r1 with
   | cons h1 r1=>cases r1 with
    | cons h2 r1 =>
     cases r1
     cases e1:seqD c with
     | none=>rw [e1] at e;cases e
     | some cs =>
      cases e2:seqD d with
      | none=>rw [e1,e2] at e;cases e
      | some es =>
       rw [e1,e2] at e
       cases e
       obtain ⟨t1,q1,vs,rfl,z1,y1⟩:=Den.seq h1 e1
       obtain ⟨t2,q2,ws,rfl,z2,y2⟩:=Den.seq h2 e2
       exact ⟨t1,t2,q1,q2,rfl,⟨_,z1.same g1.sub⟩,⟨_,z2.same g1.sub⟩,q F1 H1 _ s1 g1 (qG (fun _ _ _ _ _ _=>trivial) z1 y1 z2 y2)⟩
  ·cases e
theorem mf {K:Frag} {mg:MG} {F:Hp}:∀{vs:List V} {ds:List D} {ns:List Int},DenL K mg F vs ds→intsD ds=some ns→vs=ns.map V.int
 | _,_,_,.nil,e=>by cases e;rfl
 | _,_,_,.cons (ds:=ds) h t,e=>by
  cases h with
  | int i =>
   simp only [intsD] at e
   cases q:intsD ds with
   | none=>rw [q] at e;cases e
   | some ns=>rw [q] at e;cases e;rw [mf t q];rfl
  | _=>cases e
def rSum (K:Frag):List V→Hp→VK→Prop:=fun xs H Q=>∃(t:Bool) (q:Addr) (ns:List Int),xs=[.ref q]∧SqS K H t q (ns.map V.int)∧Q (.int ns.sum) H
theorem oC (hc:X.calm=true):CallR X (.builtin "sum") (rSum X.K):=by
 intro pins s σ H xs us Q I r h
 obtain ⟨t,q,ns,rfl,hq,k⟩:=h
 obtain ⟨u,rfl,ru⟩:=vals1 r
 cases ru
 obtain ⟨its,rv,sq⟩:=Inv.seqS I hq
 have hi:IntsAre its ns:=lg rv
 have hh:X.A.handled=none:=I.ok.hd hc
 have hall:=hi.allInts
 obtain ⟨ys,ey⟩:=hall.items
 have es:preSum (numAt ys) ys.size=ns.sum:=by
  rw [preSum_eq,List.take_of_length_le (by simp)]
  have:=nums_intItems ys
  rw [←ey] at this
  rw [←this,show its.toArray.toList=its from rfl,hi.numsOf]
 cases t
 ·have sq':s.heap.IsList q its.toArray:=sq
  rw [ey] at sq'
  refine sum_intListG hh sq' fun h' tk t' hk=>?_
  rw [es]
  exact ⟨.int ns.sum,H,I.kept hk,⟨_,rfl⟩,k⟩
 ·have sq':s.heap.IsTuple q its.toArray:=sq
  rw [ey] at sq'
  refine PySem.W.ktm_sumG hh sq' fun h' tk t' hk=>?_
  rw [es]
  exact ⟨.int ns.sum,H,I.kept hk,⟨_,rfl⟩,k⟩
theorem RR.seqS {G:Fx} {F H:Hp} {σ:St} {ρ:Rho} {v:V} {d:D} {ds:List D} (h:RR L G F H σ ρ v d) (g:L.Good G F H σ ρ) (e:seqD d=some ds):∃t q vs,v=.ref q∧DenL L.K L.mg F vs ds∧SqS L.K H t q vs:=by
 obtain ⟨q,vs,rfl,r,z⟩:=RR.seq h g e
 rcases z with ⟨_,z⟩ | ⟨_,z,_⟩
 ·exact ⟨false,q,vs,rfl,r,z⟩
 ·exact ⟨true,q,vs,rfl,r,z⟩
theorem v6:F1G L (rSum L.K) sumD:=fun G F H σ ρ x dx d Q g0 rx e k=>by
 unfold sumD at e
 cases e1:seqD dx with
 | none=>rw [e1] at e;cases e
 | some ds =>
  rw [e1] at e
  dsimp only at e
  cases e2:intsD ds with
  | none=>rw [e2] at e;cases e
  | some ns =>
   rw [e2] at e
   cases e
   obtain ⟨t,q,vs,rfl,r,z⟩:=RR.seqS rx g0 e1
   rw [mf r e2] at z
   exact ⟨t,q,ns,rfl,z,k F H _ (Same.refl _) g0 (.int _)⟩
theorem qJ (K:Frag):∀k∈["NoneType", "bool", "int", "str", "tuple", "list", "dict"],∀T∈["int", "bool", "tuple", "list", "str", "dict"],
  PySem.W.kitOne K (.type k) (.type T)=some (k == T||(k == "bool" && T == "int")):=by
 intro k hk T hT
 simp only [List.mem_cons,List.not_mem_nil,or_false] at hk hT
 rcases hk with rfl | rfl | rfl | rfl | rfl | rfl | rfl<;>rcases hT with rfl | rfl | rfl | rfl | rfl | rfl<;>first | rfl | decide +kernel | (show PySem.W.kitOne K _ _=_;kernel_rfl)
def rIsa (L:Lc) (T:String):List V→Hp→VK→Prop:=fun xs H Q=>∃x G F σ ρ d k b,xs=[x,.ty T]∧L.Good G F H σ ρ∧RR L G F H σ ρ x d∧kindD d=some k∧PySem.W.kitOne L.K (.type k) (.type T)=some b∧Q (.bl b) H
theorem oB (T:String):CallR X (.builtin "isinstance") (rIsa (lc X EX) T):=by
 intro pins s σ0 H xs us Q I r h
 obtain ⟨x,G,F,σ,ρ,d,k,b,rfl,g,rx,hk,hb,q⟩:=h
 obtain ⟨u,c,rfl,ru,rc⟩:=vals2 r
 obtain rfl:c=Value.type T:=rc
 have fin:∀tk,EP X pins σ0 Q (.bool b) { s with toks:=tk }:=fun tk=>⟨.bl b,H,I.tok tk,rfl,q⟩
 have obj:∀{l:Addr} {ds:List D},seqD d=some ds→x=.ref l→(d=.lst ds→∃o,s.heap.get? l=some o∧o.cls=.type "list")∧(d=.tup ds→∃o,s.heap.get? l=some o∧o.cls=.type "tuple"):=fun {l ds} e ex=>by
  obtain ⟨q',vs,e2,_,z⟩:=RR.seq rx g e
  rw [ex] at e2
  cases e2
  rcases z with ⟨z1,z2⟩ | ⟨z1,z2,_⟩
  ·refine ⟨fun _=>?_,fun z=>(by rw [z1] at z;cases z)⟩
   obtain ⟨its,_,pl,_⟩:=I.list z2
   obtain ⟨o,ho,hc,_⟩:=pl.isList
   exact ⟨o,ho,hc⟩
  ·refine ⟨fun z=>(by rw [z1] at z;cases z),fun _=>?_⟩
   obtain ⟨its,_,⟨o,ho,hc,_⟩,_⟩:=I.tuple z2
   exact ⟨o,ho,hc⟩
 cases d with
 | non =>
  cases hk
  rcases rx with rx | ⟨_,_,z⟩
  ·cases rx;cases (show u=Value.none from ru);exact PySem.W.kia_one PySem.W.kitx_none I.kIn True.intro hb (fun z=>nomatch z) fin
  ·exact z.elim
 | bl v =>
  cases hk
  rcases rx with rx | ⟨_,_,z⟩
  ·cases rx;cases (show u=Value.bool v from ru);exact PySem.W.kia_one PySem.W.kitx_bool I.kIn True.intro hb (fun z=>nomatch z) fin
  ·exact z.elim
 | int v =>
  cases hk
  rcases rx with rx | ⟨_,_,z⟩
  ·cases rx;obtain ⟨t,q⟩:=(show ∃t,u=Value.int v t from ru);cases q;exact PySem.W.kia_one PySem.W.kitx_int I.kIn True.intro hb (fun z=>nomatch z) fin
  ·exact z.elim
 | str v =>
  cases hk
  rcases rx with rx | ⟨_,_,z⟩
  ·cases rx;obtain ⟨t,q⟩:=(show ∃t,u=Value.str v t from ru);cases q;exact PySem.W.kia_one PySem.W.kitx_str I.kIn True.intro hb (fun z=>nomatch z) fin
  ·exact z.elim
 | tup ds =>
  cases hk
  obtain ⟨l,vs,e2,_⟩:=RR.seq rx g rfl
  obtain ⟨o,ho,hc⟩:=(obj rfl e2).2 rfl
  subst e2
  cases (show u=Value.ref l from ru)
  exact PySem.W.kia_one PySem.W.kitx_tuple I.kIn ⟨o,ho,hc⟩ hb (fun z=>nomatch z) fin
 | lst ds =>
  cases hk
  obtain ⟨l,vs,e2,_⟩:=RR.seq rx g rfl
  obtain ⟨o,ho,hc⟩:=(obj rfl e2).1 rfl
  subst e2
  cases (show u=Value.ref l from ru)
  exact PySem.W.kia_one PySem.W.kitx_list I.kIn ⟨o,ho,hc⟩ hb (fun z=>nomatch z) fin
 | dct ks ds =>
  cases hk
  have hd:∃l kvs,x=.ref l∧H l=some (.dK kvs):=by
   rcases rx with rx | ⟨l,e,z⟩
   ·cases rx with
    | dct h r=>exact ⟨_,_,rfl,g.sub _ _ h⟩
   ·obtain ⟨kvs,z1,_⟩:=z;exact ⟨l,kvs,e,z1⟩
  obtain ⟨l,kvs,rfl,hl⟩:=hd
  cases (show u=Value.ref l from ru)
  obtain ⟨_,_,vs,_,p⟩:=(show ObjOk X.prog X.w H s.heap l (.dK kvs) from I.hok l _ hl)
  obtain ⟨o,es,ep,h1,h2,_⟩:=p
  exact PySem.W.kia_one PySem.W.kitx_dict I.kIn ⟨o,h1,h2.1⟩ hb (fun z=>nomatch z) fin
 | ins c ns ds=>cases hk
 | exn c ns ds=>cases hk
theorem jN (T:String) {xT:Str} {pT:Pos} (hT:T∈["int", "bool", "tuple", "list", "str", "dict"]) (hg:Gl X "isinstance") (hm:X.mg "isinstance" = none) (hgT:Gl X xT) (hmT:X.mg xT=none) (hvT:bootBuiltins xT=some (.type T)) (ha:PR X EX a fa)
  (hn:xT ≠ "__name__" := by decide) (hdT:(xT == ("__debug__" : Str))=false:=by decide)
  (hs:starEach [a,.Name xT pT] X.env=(false,eval a X.env)::starEach [.Name xT pT] X.env:=by rfl) (hs2:starEach [.Name xT pT] X.env=(false,eval (.Name xT pT) X.env)::starEach [] X.env:=by rfl) (hpl:(backTo pos (starEach [.Name xT pT] X.env)).any (·.1)=false:=by rfl) :
  PV X EX (.Call (.Name "isinstance" p) [a,.Name xT pT] [] pos) (m1 (isaD T) fa) :=
 (cz (oB (EX:=EX) T) hg hm boot_isinstance (aR ha (aR (mw (v:=.ty T) hgT hmT hvT rfl hn hdT) bM hs2) hs) (by decide) (by decide) hs hpl).le fun σ H Q ⟨G,F,ρ,g0,o⟩=>au g0 o (fun x r q=>q) fun F1 H1 ρ1 d1 x s1 g1 r1 o1=>by
  obtain ⟨d,e,q⟩:=o1.opt
  unfold isaD at e
  cases ek:kindD d1 with
  | none=>rw [ek] at e;cases e
  | some k =>
   rw [ek] at e
   cases e
   have hk:k∈["NoneType", "bool", "int", "str", "tuple", "list", "dict"]:=by cases d1<;>cases ek<;>simp
   exact ⟨x,G,F1,σ,ρ1,d1,k,_,rfl,g1,r1,ek,qJ _ k hk T hT,q F1 H1 _ s1 g1 (.bl _)⟩
theorem gY {G:Fx} {F H:Hp} {σ:St} {ρ:Rho} {j:Nat} (g:L.Good G F H σ ρ) (h:isLst (own ρ[j]?)=true):∃l vs,σ[j]?=some (some (V.ref l))∧H l=some (.lst vs):=by
 have hs:(own ρ[j]?).isSome=true:=by
  cases q:own ρ[j]? with
  | none=>rw [q] at h;cases h
  | some d=>rfl
 obtain ⟨l,d,h1,h2,h3⟩:=ic g hs
 rw [h2] at h
 cases d with
 | lst ds=>obtain ⟨vs,z,_⟩:=h3;exact ⟨l,vs,h1,z⟩
 | _=>cases h
theorem dg (i:Nat) {apos cpos:Pos} (he:PV X EX e fe) (hN:X.N[i]?=some x:=by rfl) (hv:Vis X.env.scope x:=by first | exact Or.inl rfl | exact Or.inr (Or.inl rfl) | exact Or.inr (Or.inr rfl)) (hd:(x == ("__debug__" : Str))=false:=by decide)
  (hcd:(x == ("__classdict__" : Str))=false:=by decide)
  (hpe:∀{to:TE} {t:TA},PE X (.Name x p) to→PA X [e] t→PE X (.Call (.Attribute (.Name x p) "append" apos) [e] [] cpos) (tBM X.K "list" rAppend to t))
  (hst:starEach [e] X.env=(false,eval e X.env)::starEach [] X.env:=by rfl):PVS X EX (.Expr (.Call (.Attribute (.Name x p) "append" apos) [e] [] cpos) pos) (sApp i fe) :=
 (mz (hpe (bz hN hv hd hcd) (aR he bM hst))).le fun E σ H ⟨G,F,ρ,g0,o⟩=>by
  unfold sApp at o
  by_cases hl:isLst (own ρ[i]?)=true
  ·rw [if_pos hl] at o
   obtain ⟨l,vs,z1,z2⟩:=gY (L:=lc X EX) g0 hl
   refine ⟨_,z1,.inl ⟨rfl,_,SqL.of z2⟩,au g0 o (fun x r q=>q.x) fun F1 H1 ρ1 d1 v s1 g1 r1 o1=>?_⟩
   obtain ⟨l',vs',ρ',y1,y2,y3,g2,q⟩:=kS (L:=lc X EX) g1 r1 (Out.bnd o1)
   rw [z1] at y1
   cases y1
   exact ⟨l,vs',v,rfl,rfl,y2,y3,q F1 _ σ s1 g2⟩
  ·rw [if_neg hl] at o;exact o.elim
def rCatL (K:Frag):R2:=fun x y H Q=>∃l b xs zs,x=.ref l∧y=.ref b∧SqL K H l xs∧SqL K H b zs∧xs.length+zs.length≤sizeLine∧∀p,H p=none→Q (.ref p) (upd H p (.lst (xs++zs)))
theorem qT:OpR X (binaryOp .Add) (rCatL X.K):=by
 intro pins s σ H x y v u Q I rx ry h
 obtain ⟨l,b,xs,zs,rfl,rfl,hH,hB,hz,q⟩:=h
 cases rx
 cases ry
 obtain ⟨its,r,⟨⟨c1,d1,dt1,sl1⟩,n,e,hc,hd,hdt⟩,_⟩:=I.list hH
 obtain ⟨its2,r2,⟨⟨c2,d2,dt2,sl2⟩,n2,e2,hc2,hd2,hdt2⟩,_⟩:=I.list hB
 simp only at hc hd hdt hc2 hd2 hdt2
 subst hc hdt hc2 hdt2
 refine concat_meets ⟨_,e,rfl⟩ ⟨_,e2,rfl⟩ noFill_list_add seq_list_add PySem.F.slot_list_add PySem.F.entry_list_add (PySem.F.args_list_add_2 _ _)
  (list_addW l b its.toArray its2.toArray n n2 d1 d2 sl1 sl2 (by rw [List.size_toArray,List.size_toArray,←r.length,←r2.length];exact hz)) ⟨e,e2,?_⟩
 have ea:its.toArray++its2.toArray=(its++its2).toArray:=by simp
 rw [ea]
 exact ⟨.ref _,_,I.lnew (t':=s.toks) (r.append r2) (by rw [List.length_append];omega),rfl,q _ I.fresh⟩
theorem sC:OpG L (rCatL L.K) addL:=fun G F H σ ρ x y dx dy d Q g0 rx ry e k=>by
 cases dx<;>cases dy<;>try (simp only [addL,reduceCtorEq] at e;done)
 rename_i xs ys
 simp only [addL] at e
 split at e
 ·rename_i hl
  cases e
  cases rx with
  | lst h1 r1=>cases ry with
   | lst h2 r2 =>
    refine ⟨_,_,_,_,rfl,rfl,SqL.same h1 g0.sub,SqL.same h2 g0.sub,by rw [r1.length,r2.length,←nS];exact hl,fun p hp=>?_⟩
    have sF:∀o,Same F (upd F p o):=fun o=>aH (o:=o) (g0.sub.free hp)
    exact k _ _ _ (sF _) (g0.laid hp) (.lst (SqL.of ax) (DenL.append (DenL.same (sF _) r1) (DenL.same (sF _) r2)))
 ·cases e
theorem aU:OpR X (binaryOp .Add) (fun x y H Q=>(rI0 fun i j=>.int (i+j)) x y H Q∨(rCatA X.K x y H Q∨rCatL X.K x y H Q)):=OpR.or tL (OpR.or qS qT)
theorem bj:OpG L (fun x y H Q=>(rI0 fun i j=>.int (i+j)) x y H Q∨(rCatA L.K x y H Q∨rCatL L.K x y H Q)) addA:=fun G F H σ ρ x y dx dy d Q g0 rx ry e k=>by
 cases dx<;>cases dy<;>try (simp only [addA,reduceCtorEq] at e;done)
 ·exact .inl (v4 G F H σ ρ x y _ _ d Q g0 rx ry e k)
 ·exact .inr (.inl (sD G F H σ ρ x y _ _ d Q g0 rx ry e k))
 ·exact .inr (.inr (sC G F H σ ρ x y _ _ d Q g0 rx ry e k))
def RO:Rl (Option Int) (Option Int):=fun _ _ _ _ _ b a=>b=a
def PPart (X:Cx) (EX:XE) (e:Option Expr) (f:Option (M D)):Prop:=PO X e (lift (lc X EX) RO (mPart f))
theorem rM {X:Cx} {e:Option Expr} {t t':TO} (h:PO X e t) (k:∀σ H Q,t' σ H Q→t σ H Q):PO X e t':=fun pins s σ H Q I q=>h pins s σ H Q I (k _ _ _ q)
theorem bo:PPart X EX none none:=rM re fun σ H Q ⟨G,F,ρ,g0,o⟩=>o F H none (Same.refl _) g0 rfl
theorem bp (h:PV X EX e fe):PPart X EX (some e) (some fe):=rM (rg h) fun σ H Q ⟨G,F,ρ,g0,o⟩=>au g0 o (fun x r q=>q) fun F1 H1 ρ1 d1 x s1 g1 r1 o1=>by
 cases d1 with
 | int i=>cases r1;exact ⟨i,rfl,o1 F1 H1 _ s1 g1 rfl⟩
 | _=>exact o1.elim
theorem p9 (n d:Nat) (o:Option Int):HT.sIx n d o=sIxP n d o:=by
 cases o with
 | none=>rfl
 | some v =>
  unfold HT.sIx sIxP
  first | rfl | (split<;>first | rfl | omega)
theorem jt {K:Frag} {mg:MG} {F:Hp} {vs:List V} {ds:List D} (h:DenL K mg F vs ds) (lo hi:Option Int):DenL K mg F (cutV vs lo hi) (VP.cutD ds lo hi):=by
 unfold cutV VP.cutD
 rw [h.length,p9,p9]
 exact (h.drop _).take _
end
theorem br {js:List Nat} {m n:Nat} (h:js.all (fun j=>decide (m≤j)&&decide (j<m+n))=true):∀j∈js,m≤j∧j<m+n:=fun j hj=>by
 have:=List.all_eq_true.mp h j hj
 rw [Bool.and_eq_true] at this
 exact ⟨of_decide_eq_true this.1,of_decide_eq_true this.2⟩
structure DefF (K:Frag) (mg:MG) (x:Str) (st:Stmt) (ps:List Str) (f:Addr) (fd:FuncData):Prop where
 fu:Fun K x x st f fd
 bi:Binds K fd ps []
 mg:mg x=some (.ref f)
end VS

end
section
set_option linter.all false
set_option maxRecDepth 100000
namespace VS
open PySem PySem.Spec PyProof.Rows L2 VP
section
variable {X:Cx} {EX:XE} {L:Lc} {e a b c:Expr} {fa fb fc fe:M D} {pos:Pos} {x:Str}
def FlatD:D→Value→Prop
 | .non,v=>v=.none
 | .bl k,v=>v=.bool k
 | .int i,v=>∃t,v=.int i t
 | .str s,v=>∃t,v=.str s t
 | _,_=>False
theorem FlatD.den {d:D} {v:Value} (h:FlatD d v):∃u:V,RelV u v∧∀(K:Frag) (mg:MG) (F:Hp),Den K mg F u d:=by
 cases d with
 | non=>cases h;exact ⟨.non,rfl,fun _ _ _=>.non⟩
 | bl k=>cases h;exact ⟨.bl k,rfl,fun _ _ _=>.bl k⟩
 | int i=>obtain ⟨t,rfl⟩:=h;exact ⟨.int i,⟨t,rfl⟩,fun _ _ _=>.int i⟩
 | str s=>obtain ⟨t,rfl⟩:=h;exact ⟨.str s,⟨t,rfl⟩,fun _ _ _=>.str s⟩
 | _=>exact h.elim
def GlF (mg:MG) (x:Str) (d:D):Prop:=∃v,mg x=some v∧FlatD d v
theorem dJ {d:D} (hm:GlF X.mg x d) (hg:Gl X x) (hd:(x == ("__debug__" : Str))=false:=by decide):PV X EX (.Name x pos) (mC d):=by
 obtain ⟨v,h1,h2⟩:=hm
 obtain ⟨u,r,den⟩:=h2.den
 exact kL (ge hg h1 r hd) (fun _ _ _ q=>q) fun F=>den _ _ F
theorem j9 {r r':R2} {g g':D→D→Option D} (hg:OpG (lc X EX) r g) (hg':OpG (lc X EX) r' g') {ta tb tc:TE} (ha:∀σ H Q,lift (lc X EX) (RV (lc X EX)) fa σ H Q→ta σ H Q) (hb:∀σ H Q,lift (lc X EX) (RV (lc X EX)) fb σ H Q→tb σ H Q)
  (hc:∀σ H Q,lift (lc X EX) (RV (lc X EX)) fc σ H Q→tc σ H Q) (σ:St) (H:Hp) (Q:VK) (h:lift (lc X EX) (RV (lc X EX)) (m3c g g' fa fb fc) σ H Q):tChain r r' ta tb tc σ H Q:=by
 obtain ⟨G,F,ρ,g0,o⟩:=h
 refine ha _ _ _ (au g0 o (fun x r q=>q) fun F1 H1 ρ1 d1 x s1 g1 r1 o1=>?_)
 refine hb _ _ _ (au g1 o1 (fun x r q=>q.same s1) fun F2 H2 ρ2 d2 y s2 g2 r2 o2=>?_)
 obtain ⟨d,e,q⟩:=o2.bnd.opt
 refine hg G F2 H2 σ ρ2 x y d1 d2 d _ g2 (r1.same s2) r2 e fun F3 H3 v s3 g3 r3=>?_
 cases d with
 | bl k =>
  cases r3
  refine ⟨k,rfl,?_⟩
  cases k with
  | true =>
   refine iteT (hc _ _ _ (au g3 q (fun x r q=>q.same (s1.trans (s2.trans s3))) fun F4 H4 ρ4 d4 z s4 g4 r4 o4=>?_))
   obtain ⟨d5,e5,q5⟩:=o4.opt
   exact hg' G F4 H4 σ ρ4 y z d2 d4 d5 Q g4 (r2.same (s3.trans s4)) r4 e5 (Post.same (s1.trans (s2.trans (s3.trans s4))) q5)
  | false=>exact iteF (q F3 H3 _ (s1.trans (s2.trans s3)) g3 (.bl _))
 | _=>exact q.elim
theorem dI {op op':CmpOp} {r r':R2} {g g':D→D→Option D} (ho:OpR X (compareOp op) r) (ho':OpR X (compareOp op') r') (hg:OpG (lc X EX) r g) (hg':OpG (lc X EX) r' g') (ha:PV X EX a fa) (hb:PV X EX b fb) (hc:PV X EX c fc)
  (hm:lastMarks [op,op'] [b,c]=false:=by with_unfolding_all rfl):PV X EX (.Compare a [op,op'] [b,c] pos) (m3c g g' fa fb fc) :=
 (pO ho ho' ha hb hc hm).le (j9 hg hg' (fun _ _ _ q=>q) (fun _ _ _ q=>q) fun _ _ _ q=>q)
theorem kE {op op':CmpOp} {r r':R2} {g g':D→D→Option D} (ho:OpR X (compareOp op) r) (ho':OpR X (compareOp op') r') (hg:OpG (lc X EX) r g) (hg':OpG (lc X EX) r' g') (ha:PV X EX a fa) (hb:PV X EX b fb) (hc:PV X EX c fc)
  (hm:lastMarks [op,op'] [b,c]=false:=by with_unfolding_all rfl):PB X EX (.Compare a [op,op'] [b,c] pos) (VP.tB (m3c g g' fa fb fc)) :=
 (pX ho ho' ha hb hc hm).le fun σ H Q ⟨G,F,ρ,g0,o⟩=>by
  refine j9 hg hg' (fun _ _ _ q=>q) (fun _ _ _ q=>q) (fun _ _ _ q=>q) σ H _ (au g0 o (fun x r q=>q) fun F1 H1 ρ1 d1 x s1 g1 r1 o1=>?_)
  cases d1 with
  | bl k=>cases r1;exact ⟨k,rfl,o1 F1 H1 k s1 g1 rfl⟩
  | _=>exact o1.elim
theorem ei {prog:Program} {w:World} {A:Around} {E:Value→Shared→Prop} {s:Shared} {t sl:Addr} {items:Array Value} {vl vu:Value} {lo hi:Option Int} {Q:Value→Shared→Prop} (ht:IsTup s.heap t items) (hs:s.heap.IsSliceOf sl vl vu .none) (pl:IsPart vl lo) (pu:IsPart vu hi)
  (hw:HT.sIx items.size 0 lo=0∧HT.sIx items.size items.size hi=items.size) (h:Q (.ref t) s):wpAny (model prog w) A (getItem (.ref t) (.ref sl)) Q E s:=by
 obtain ⟨os,hos,hcs,hds⟩:=id hs
 have hTs:s.TypeIs (.ref sl) "slice" := ⟨os,hos,hcs⟩
 unfold getItem
 try with_reducible refine wpAny_holding ?_
 first | refine wpAny_bind (wpAny_pure ?_) | skip
 refine wpAny_bind (wpAny_sequenceKey ht.typeIs (by decide) ?_)
 refine wpAny_bind (wpAny_callSpecial?_slot (name:=Str.ofString "__getitem__") ht.typeIs PyProof.Rows.slot_tuple_getitem
  (wpAny_call_entry PyProof.Rows.slot_tuple_getitem ht.typeIs entry_tuple_getitem ?_ (args_tuple_getitem _ _)))
 show wpAny _ _ (Builtin.Tuple.tupleItemsOf (.ref t) >>= _) _ _ s
 refine wpAny_bind (PyProof.Rows.tupleItemsOf_ ht ?_)
 refine wpAny_bind (wpAny_typeOf hTs ?_)
 rw [if_pos (by decide)]
 refine wpAny_bind (HT.sliceApplied_gen hs pl pu ?_)
 have hyes:(((HT.sIx items.size 0 lo:Nat):Int) == 0&&(1:Int) == 1&&(HT.sIx items.size items.size hi-HT.sIx items.size 0 lo) == items.size)=true:=by
  rw [hw.1,hw.2];simp
 show wpAny _ _ (if (((HT.sIx items.size 0 lo:Nat):Int) == 0&&(1:Int) == 1&&(HT.sIx items.size items.size hi-HT.sIx items.size 0 lo) == items.size)=true then _ else _) _ _ s
 rw [if_pos hyes]
 refine wpAny_bind ?_
 unfold Builtin.Tuple.tupleIsExact
 refine wpAny_bind (wpAny_typeOf ht.typeIs (wpAny_pure ?_))
 rw [if_pos (by decide)]
 refine wpAny_bind (wpAny_rule (wpAny_pure ⟨_,rfl,wpAny_pure h⟩))
def rSlA (K:Frag):V→Option Int→Option Int→Hp→VK→Prop:=fun x lo hi H Q=>∃q xs,x=.ref q∧SqT K H q xs ∧
 (cutV xs lo hi=xs→Q (.ref q) H)∧∀p,H p=none→Q (.ref p) (upd H p (.tup (cutV xs lo hi)))
theorem rC:L2.SlR X (rSlA X.K):=by
 intro pins s σ H x v vl vu lo hi sl Q I rx hs pl pu h
 obtain ⟨q,xs,rfl,hx,h1,h2⟩:=h
 by_cases hw:HT.sIx xs.length 0 lo=0∧HT.sIx xs.length xs.length hi=xs.length
 ·cases rx
  obtain ⟨its,r,ht,hz⟩:=I.tuple hx
  have hlen:its.toArray.size=xs.length:=by rw [List.size_toArray];exact r.length.symm
  refine ⟨"tuple", _,PyProof.Rows.slot_tuple_getitem.lookup,ht.typeIs,ei ht hs pl pu (by rw [hlen];exact hw) ⟨.ref q,H,I,rfl,h1 ?_⟩⟩
  unfold cutV
  rw [hw.1,hw.2]
  simp
 ·exact u4 pins s σ H _ v vl vu lo hi sl Q I rx hs pl pu ⟨q,xs,rfl,hx,hw,h2⟩
theorem iK (items:Array Value) (lo hi:Option Int):slicePick items lo hi none=((items.toList.drop (HT.sIx items.size 0 lo)).take (HT.sIx items.size items.size hi-HT.sIx items.size 0 lo)).toArray:=by
 have e:sliceBounds lo hi none items.size=(((HT.sIx items.size 0 lo:Nat):Int),((HT.sIx items.size items.size hi:Nat):Int),1):=by
  simp only [sliceBounds,Option.getD_none]
  simp only [show (1:Int) > 0 by decide,if_true]
  cases lo with
  | none=>cases hi with
   | none=>rfl
   | some j=>simp only [HT.sIx];congr 1;congr 1;split<;>omega
  | some i=>cases hi with
   | none=>simp only [HT.sIx];congr 1;split<;>omega
   | some j=>simp only [HT.sIx];congr 1;(split<;>omega);congr 1;split<;>omega
 unfold slicePick
 rw [e]
 simp only [sliceRange_one,pick_run]
def rSlL (K:Frag):V→Option Int→Option Int→Hp→VK→Prop:=fun x lo hi H Q=>∃q xs,x=.ref q∧SqL K H q xs∧∀p,H p=none→Q (.ref p) (upd H p (.lst (cutV xs lo hi)))
theorem u3:L2.SlR X (rSlL X.K):=by
 intro pins s σ H x v vl vu lo hi sl Q I rx hs pl pu h
 obtain ⟨q,xs,rfl,hx,h1⟩:=h
 cases rx
 obtain ⟨its,r,ht,hz⟩:=I.list hx
 have hlen:its.toArray.size=xs.length:=by rw [List.size_toArray];exact r.length.symm
 refine ⟨"list", _,slot_list_getitem.lookup,ht.isList.typeIs,wpAny_getItem_list_slice ht.isList hs pl pu .none (by decide) ?_ (by rw [hlen];exact hz)⟩
 rw [iK,hlen]
 exact ⟨.ref _,_,I.lnew (t':=s.toks) ((r.drop (HT.sIx xs.length 0 lo)).take (HT.sIx xs.length xs.length hi-HT.sIx xs.length 0 lo)) (Nat.le_trans (dl xs lo hi) hz),rfl,h1 _ I.fresh⟩
theorem cM {lo hi:Option Expr} {fl fh:Option (M D)} {p2:Pos} (he:PV X EX e fe) (hl:PPart X EX lo fl) (hh:PPart X EX hi fh):PV X EX (.Subscript e (.Slice lo hi none p2) pos) (mSl cutA fe fl fh) :=
 (pR (rC.or u3) he hl hh).le fun σ H Q ⟨G,F,ρ,g0,o⟩=>au g0 o (fun x r q=>q) fun F1 H1 ρ1 d1 x s1 g1 r1 o1 =>
  au g1 o1 (fun x r q=>q.same s1) fun F2 H2 ρ2 l l' s2 g2 r2 o2=>au g2 o2 (fun x r q=>q.same (s1.trans s2)) fun F3 H3 ρ3 h h' s3 g3 r3 o3=>by
   cases r2
   cases r3
   obtain ⟨d,e1,q⟩:=o3.opt
   have r1':=r1.same (s2.trans s3)
   cases d1 with
   | tup ds =>
    cases e1
    cases r1' with
    | tup hq rq =>
     refine .inl ⟨_,_,rfl,SqT.same hq g3.sub,fun e2=>?_,fun p hp=>?_⟩
     ·have:=jt rq l h
      rw [e2] at this
      exact q F3 H3 _ (s1.trans (s2.trans s3)) g3 (.tup hq this)
     ·rename_i vs
      have sF:=aH (o:=.tup (cutV vs l h)) (g3.sub.free hp)
      exact q _ _ _ (s1.trans (s2.trans (s3.trans sF))) (g3.laid hp) (.tup (SqT.of ax) ((jt rq l h).same sF))
   | lst ds =>
    cases e1
    cases r1' with
    | lst hq rq =>
     refine .inr ⟨_,_,rfl,SqL.same hq g3.sub,fun p hp=>?_⟩
     rename_i vs
     have sF:=aH (o:=.lst (cutV vs l h)) (g3.sub.free hp)
     exact q _ _ _ (s1.trans (s2.trans (s3.trans sF))) (g3.laid hp) (.lst (SqL.of ax) ((jt rq l h).same sF))
   | _=>cases e1
end
end VS

end
section
set_option linter.all false
set_option maxRecDepth 100000
namespace VS
open PySem PySem.Spec PyProof.Rows L2 VP
namespace RV
theorem nG:Slot "reversed" "__init__" "object.__init__" :=
 .of (owner := "object") (n := "__init__") (by rw [typeLookup_type,builtinLookup_eq_fast];kernel_rfl) (by decide +kernel) (by decide +kernel) (by decide +kernel) (by first | exact .inl (by decide +kernel) | exact .inr (by decide +kernel)) (by rw [isSubtype_type];kernel_rfl)
theorem called:TypeCalled "reversed" "reversed.__new__" "object.__init__" :=
 ⟨by decide +kernel,PySem.F.create_reversed,⟨_,_,PySem.F.mro_reversed⟩,PySem.F.made_reversed,PySem.F.plain_reversed_new,PySem.F.sub_reversed_self,nG⟩
theorem cV:Slot "reversed" "__next__" "reversed.__next__" :=
 .of (owner := "reversed") (n := "__next__") (by rw [typeLookup_type,builtinLookup_eq_fast];kernel_rfl) (by decide +kernel) (by decide +kernel) (by decide +kernel) (by first | exact .inl (by decide +kernel) | exact .inr (by decide +kernel)) (by rw [isSubtype_type];kernel_rfl)
theorem gC:entryFor table "reversed.__next__" = some Builtin.«reversed.__next__» := entryFor_of_tree (by kernel_rfl)
theorem owner_rev:Manifest.owners.lookup (String.ofList ['d','e','s','r','e','v','e','r'].reverse)=some Manifest.sig_reversed:=by kernel_rfl
theorem iO (a:Value):argsOk "reversed.__next__" ⟨[a],[]⟩:=by
 unfold argsOk;rw [signature?_of (id := "reversed.__next__") (n:=['_','_','t','x','e','n','_','_']) (o:=['d','e','s','r','e','v','e','r']) (by kernel_rfl) owner_rev];kernel_rfl
theorem jj:Slot "reversed" "__iter__" "reversed.__iter__" :=
 .of (owner := "reversed") (n := "__iter__") (by rw [typeLookup_type,builtinLookup_eq_fast];kernel_rfl) (by decide +kernel) (by decide +kernel) (by decide +kernel) (by first | exact .inl (by decide +kernel) | exact .inr (by decide +kernel)) (by rw [isSubtype_type];kernel_rfl)
theorem mM (a:Value):argsOk "reversed.__iter__" ⟨[a],[]⟩:=by
 unfold argsOk;rw [signature?_of (id := "reversed.__iter__") (n:=['_','_','r','e','t','i','_','_']) (o:=['d','e','s','r','e','v','e','r']) (by kernel_rfl) owner_rev];kernel_rfl
theorem k6:entryFor table "reversed.__iter__" = some Builtin.«dict_keyiterator.__iter__» :=
 entryFor_alias (id' := "dict_keyiterator.__iter__") (by kernel_rfl) (by first | rfl | decide +kernel | (unfold String.splitOn;simp +decide [String.splitOnAux])) (by decide +kernel) (by kernel_rfl)
theorem jE:typeLookup (.type "tuple") "__reversed__" = pure none:=by rw [typeLookup_type,builtinLookup_eq_fast];kernel_rfl
theorem iL:isSubtype (.type "tuple") (.type "dict")=pure false:=by rw [isSubtype_type];kernel_rfl
section
variable {prog:Program} {w:World} {A:Around} {E:Value→Shared→Prop} {s:Shared}
def obj (t:Addr) (i:Int):Obj:={ cls:=.type "reversed", data:=.fields #[.ref t,rawInt i] }
def Is (h:Heap) (a t:Addr) (i:Int):Prop:=∃o,h.get? a=some o∧o.cls=.type "reversed" ∧ o.data=.fields #[.ref t,rawInt i]
theorem oF {t:Addr} {items:Array Value} {Q₁:Value→Shared→Prop} (ht:IsTup s.heap t items) (hz:items.size≤sizeLine)
  (h:∀tk,Q₁ (.ref s.heap.objs.size) { s with heap:=s.heap.push (obj t ((items.size:Int)-1)),toks:=tk }) :
  codeAny (model prog w) A (.call (.builtin "reversed.__new__") ⟨[.type "reversed", .ref t],[]⟩) (wants Q₁ E) s:=by
 refine codeAny_of_tree ?_
 refine wpAny_bind (m:=checkBuiltinCall "reversed.__new__" ⟨[.type "reversed", .ref t],[]⟩) (wpAny_of_eq (PySem.F.newCall_reversed_1 _) (wpAny_pure ⟨plainId_quiet PySem.F.plain_reversed_new _,codeAny_builtin PySem.F.entry_reversed_new ?_⟩))
 rw [Around.under_plainId PySem.F.plain_reversed_new _]
 unfold Builtin.«reversed.__new__»
 refine wpAny_bind (wpAny_of_eq (newClass_reversed _) ?_)
 refine wpAny_bind (wpAny_of_eq (a:=()) (by first | rfl | kernel_rfl) ?_)
 refine wpAny_bind (wpAny_of_eq (a:=()) (by first | rfl | kernel_rfl) ?_)
 try dsimp only
 refine wpAny_bind (wpAny_specialOf ht.typeIs jE ?_)
 try dsimp only
 refine wpAny_bind (wpAny_bind (m:=isInstance (.ref t) (.type "dict")) (wpAny_isInstance (b:=false) ht.typeIs iL ?_))
 refine wpAny_bind (m:=specialOf (.ref t) "__getitem__") (wpAny_specialOf ht.typeIs PyProof.Rows.slot_tuple_getitem.lookup ?_)
 refine wpAny_pure ?_
 refine wpAny_bind (m:=call (Value.builtin "len") [Value.ref t]) (len_tuple ht (by rw [sizeLine_eq] at hz;omega) ?_)
 refine wpAny_bind (m:=asInt? (.int items.size _)) (wpAny_pure ?_)
 refine wpAny_bind (m:=newObj (.type "reversed") (.fields #[.ref t,rawInt ((items.size:Int)-1)])) (wpAny_newObj_type (wpAny_pure (h _)))
theorem make {t:Addr} {items:Array Value} {Q:Value→Shared→Prop} (ht:IsTup s.heap t items) (hz:items.size≤sizeLine)
  (h:∀tk,Q (.ref s.heap.objs.size) { s with heap:=s.heap.push (obj t ((items.size:Int)-1)),toks:=tk }):wpAny (model prog w) A (call (.type "reversed") [.ref t]) Q E s:=by
 refine callType_codes (Q₁:=fun o s₁=>s₁.TypeIs o "reversed" ∧ Q o s₁) called (PySem.F.typeCall_reversed_1 _) PySem.F.entry_object_init (oF ht hz fun tk=>⟨⟨_,Heap.get?_push_size _ rfl,rfl⟩,h tk⟩) fun o s₁ h₁=>?_
 exact ⟨h₁.1,PySem.F.args_object_init_2 o _,object_init_meets called.init.lookup called.made (by decide) prog w A.in1 _ s₁ ⟨h₁.1,rfl,h₁.2⟩⟩
theorem Is.typeIs {a t:Addr} {i:Int} (x:Is s.heap a t i):s.TypeIs (.ref a) "reversed" := let ⟨o,ho,hc,_⟩:=x;⟨o,ho,hc⟩
theorem Is.at {h h':Heap} {a t:Addr} {i:Int} (x:Is h a t i) (e:∀o,h.get? a=some o→h'.get? a=some o):Is h' a t i:=let ⟨o,ho,r⟩:=x;⟨o,e _ ho,r⟩
theorem next_item {it t:Addr} {i:Nat} {items:Array Value} {x:Value} {Q:Option Value→Shared→Prop} (hit:Is s.heap it t (i:Int)) (ht:IsTup s.heap t items) (hx:items[i]?=some x) (hz:items.size≤sizeLine)
  (hQ:∀h' tk,Is h' it t ((i:Int)-1)→Heap.SameBut it s.heap h'→Q (some x) { s with heap:=h',toks:=tk }):wpAny (model prog w) A (pyNext (.ref it)) Q E s:=by
 obtain ⟨o,ho,hc,hd⟩:=id hit
 unfold pyNext
 refine wpAny_bind (wpAny_attempt (wpAny_callSpecial?_slot (name:=Str.ofString "__next__") hit.typeIs cV (wpAny_call_entry cV hit.typeIs gC ?_ (iO _))))
 unfold Builtin.«reversed.__next__»
 refine wpAny_bind (wpAny_of_eq (a:=(Value.ref it,[])) rfl ?_)
 refine wpAny_bind (wpAny_field ho hd (x:=.ref t) rfl ?_)
 refine wpAny_bind (wpAny_field ho hd (x:=rawInt (i:Int)) rfl ?_)
 show wpAny _ _ (if (i:Int)<0 then _ else _) _ _ s
 rw [if_neg (by omega)]
 refine wpAny_bind (m:=specialOf (.ref t) "__getitem__") (wpAny_specialOf ht.typeIs PyProof.Rows.slot_tuple_getitem.lookup ?_)
 have hi:i<items.size:=(Array.getElem?_eq_some_iff.mp hx).1
 have hz':(items.size:Int)≤16777216:=by rw [sizeLine_eq] at hz;omega
 refine wpAny_bind (m:=mkInt (i:Int)) (wpAny_mkInt ?_)
 refine wpAny_bind (m:=(getItem (Value.ref t) _).attempt) (wpAny_attempt (getItem_tuple (items:=items) (j:=i) ht (by omega) (by omega) ?_ hx ?_))
 ·unfold seqIndex?;simp;omega
 refine wpAny_bind (m:=field (Value.ref it) 1) (wpAny_field ho hd (x:=rawInt (i:Int)) rfl ?_)
 refine wpAny_bind (m:=setField (Value.ref it) 1 (rawInt ((i:Int)-1))) (wpAny_setField ho hd (by simp) ?_)
 refine wpAny_pure ⟨x,rfl,wpAny_pure (hQ _ _ ?_ (Heap.SameBut.update ..))⟩
 exact ⟨_,Heap.get?_update_self _ ho (Obj.isFreed_of_fields (Obj.data_mapFields hd _)),(Obj.cls_mapFields ..).trans hc,by rw [Obj.data_mapFields hd];simp⟩
theorem next_end {it t:Addr} {Q:Option Value→Shared→Prop} (hh:A.handled=none) (hit:Is s.heap it t (-1)) (hQ:∀h',Heap.ExtBut it s.heap h'→Q none { s with heap:=h' }):wpAny (model prog w) A (pyNext (.ref it)) Q E s:=by
 obtain ⟨o,ho,hc,hd⟩:=id hit
 unfold pyNext
 refine wpAny_bind (wpAny_attempt (wpAny_callSpecial?_slot (name:=Str.ofString "__next__") hit.typeIs cV (wpAny_call_entry cV hit.typeIs gC ?_ (iO _))))
 unfold Builtin.«reversed.__next__»
 refine wpAny_bind (wpAny_of_eq (a:=(Value.ref it,[])) rfl ?_)
 refine wpAny_bind (wpAny_field ho hd (x:=.ref t) rfl ?_)
 refine wpAny_bind (wpAny_field ho hd (x:=rawInt (-1)) rfl ?_)
 show wpAny _ _ (if (-1:Int)<0 then _ else _) _ _ s
 rw [if_pos (by decide)]
 refine wpAny_bind (wpAny_rule ?_)
 refine wpAny_bind (wpAny_bind (m:=setField (Value.ref it) 1 (rawInt (-1))) (wpAny_setField ho hd (by simp) ?_))
 have ho1:=Heap.get?_update_self (Obj.mapFields fun vs=>vs.set! 1 (rawInt (-1))) ho (Obj.isFreed_of_fields (Obj.data_mapFields hd _))
 have hd1:(Obj.mapFields (fun vs=>vs.set! 1 (rawInt (-1))) o).data=.fields #[.ref t,rawInt (-1)]:=by rw [Obj.data_mapFields hd];simp
 refine wpAny_setField ho1 hd1 (by simp) ?_
 refine wpAny_bind (m:=Builtin.SmallTypes.stopIteration) ?_
 refine wpAny_bind (m:=newExc (.type "StopIteration") []) ?_
 simp only [newExc,newTuple]
 refine wpAny_bind (wpAny_newObj_type ?_ (by size_fits))
 refine wpAny_bind (m:=firstArgMember _ _) (wpAny_of_eq (a:=Value.none) (by first | rfl | (simp only [firstArgMember];rfl)) ?_)
 refine wpAny_newObj_type ?_ (by size_fits)
 simp only [raiseNew]
 refine wpAny_bind (wpAny_handled ?_)
 first | rw [show A.in1.handled=none from hh] | rw [hh]
 refine wpAny_bind (wpAny_pure (wpAny_throw ?_))
 refine wpAny_bind (wpAny_isInstance (T := "StopIteration") (b:=true) ⟨_,Heap.get?_push_size _ rfl,rfl⟩ isSubtype_stop ?_)
 refine wpAny_pure (hQ _ fun b ob hb e=>?_)
 refine Heap.get?_push_of_some _ (Heap.get?_push_of_some _ ?_)
 exact (Heap.get?_update_other _ _ (Ne.symm hb)).trans ((Heap.get?_update_other _ _ (Ne.symm hb)).trans e)
theorem iter_self {it t:Addr} {i:Int} {Q:Value→Shared→Prop} (hit:Is s.heap it t i) (h:Q (.ref it) s):wpAny (model prog w) A (pyIter (.ref it)) Q E s:=by
 refine wpAny_pyIter_slot hit.typeIs jj (wpAny_call_entry jj hit.typeIs k6 ?_ (mM _))
 exact wpAny_pure ⟨_,rfl,"reversed", _,hit.typeIs,cV.lookup,h⟩
end
end RV
def Itv (K:Frag) (t:Bool) (q:Addr) (n:Nat):It :=
 ⟨fun i H=>∃xs x,SqS K H t q xs∧xs.length=n∧i<n∧xs[n-1-i]?=some x,fun i H x H'=>H'=H∧∀xs,SqS K H t q xs→xs[n-1-i]?=some x,fun i H=>i=n⟩
def RevIt (t:Bool) (it q:Addr) (i:Int) (h:Heap):Prop:=if t then RV.Is h it q i else h.IsRevIter it q i
theorem RevIt.at {t:Bool} {it q:Addr} {i:Int} {h h':Heap} (x:RevIt t it q i h) (e:∀o,h.get? it=some o→h'.get? it=some o):RevIt t it q i h':=by
 cases t
 ·exact Heap.IsRevIter.at x e
 ·exact RV.Is.at x e
theorem RevIt.obj {t:Bool} {it q:Addr} {i:Int} {h:Heap} (x:RevIt t it q i h):∃o n vs,h.get? it=some o∧o.cls=.type n∧o.data=.fields vs∧["enumerate", "zip", "dict_itemiterator", "dict_reverseitemiterator", "odict_iterator", "itertools.zip_longest", "itertools.pairwise"].contains n=false:=by
 cases t
 ·obtain ⟨o,h1,h2,h3⟩:=x;exact ⟨o,_,_,h1,h2,h3,by decide⟩
 ·obtain ⟨o,h1,h2,h3⟩:=x;exact ⟨o,_,_,h1,h2,h3,by decide⟩
theorem kR {P:Program} {w:World} {K:Frag} {tg:Expr} (t:Bool) (q it:Addr) (n:Nat):Turn P w K tg (Itv K t q n) [it] it (fun i h=>i≤n∧RevIt t it q ((n:Int)-1-i) h) where
 mem:=by simp
 obj:=fun i h st b hb=>by
  have e:b=it:=by simpa using hb
  subst e
  obtain ⟨o,_,_,e,_,d,_⟩:=st.2.obj
  exact ⟨o,e,fun v z=>by rw [d] at z;cases z⟩
 keep:=fun i h h' st k=>⟨st.1,st.2.at fun o e=>k it (by simp) o e⟩
 item:=by
  intro X hP hw hK hc i pins s σ H E I hf st hg
  subst hP hw hK
  obtain ⟨xs,x,hq,hl,hi,hx⟩:=hg
  obtain ⟨f0,f1,f2,f3,f4,f5⟩:=hf it (by simp)
  have e1:(n:Int)-1-(i:Int)=((n-1-i:Nat):Int):=by omega
  have e2:((n-1-i:Nat):Int)-1=(n:Int)-1-((i+1:Nat):Int):=by omega
  have st2:=st.2
  rw [e1] at st2
  have fin:∀u h' tk,RelV x u→RevIt t it q (((n-1-i:Nat):Int)-1) h'→Heap.SameBut it s.heap h'→wpAny (model X.prog X.w) X.A (letOwnedTupleGo tg (.ref it) u) (fun _ s2=>∃x H',Inv X pins σ H' s2∧RelV x u∧(Itv X.K t q n).yld i H x H'∧(i+1≤n∧RevIt t it q ((n:Int)-1-((i+1:Nat):Int)) s2.heap)∧∀b∈[it],H' b=none) E { s with heap:=h',toks:=tk }:=fun u h' tk ru st' sb=>by
   have I1:Inv X pins σ H { s with heap:=h',toks:=tk }:=I.turned (t':=tk) (fun b o hb e=>(sb.2 b hb).trans e) f0 f1 f3 f4 f5
   rw [e2] at st'
   obtain ⟨o,nm,vs,e,c,d,nc⟩:=st'.obj
   exact kn (s:={ s with heap:=h',toks:=tk }) e c d nc ⟨x,H,I1,ru,⟨rfl,fun ys hy=>by rw [Inv.seqS_inj I hy hq];exact hx⟩,⟨hi,st'⟩,fun b hb=>(hf b hb).1⟩
  cases t with
  | false =>
   obtain ⟨its,rv,pl,hz⟩:=I.list (show SqL X.K H q xs from hq)
   obtain ⟨u,hu,ru⟩:=rv.get hx
   exact wpAny_pyNext_rev_item st2 pl.isList (x:=u) (by simpa using hu) fun h' st' sb=>⟨u,rfl,fin u h' s.toks ru st' sb⟩
  | true =>
   obtain ⟨its,rv,tp,hz⟩:=I.tuple (show SqT X.K H q xs from hq)
   obtain ⟨u,hu,ru⟩:=rv.get hx
   exact RV.next_item st2 tp (x:=u) (by simpa using hu) (by rw [List.size_toArray,←rv.length];exact hz) fun h' tk st' sb=>⟨u,rfl,fin u h' tk ru st' sb⟩
 done:=by
  intro X hP hw hK hc i pins s σ H E I hf st hg
  subst hP hw hK
  obtain ⟨f0,f1,f2,f3,f4,f5⟩:=hf it (by simp)
  have hg':i=n:=hg
  have e1:(n:Int)-1-(i:Int)=-1:=by omega
  have st2:=st.2
  rw [e1] at st2
  cases t with
  | false=>exact wpAny_pyNext_rev_end (I.ok.hd hc) st2 fun h' eb=>⟨rfl,I.turned (t':=s.toks) (fun b o hb e=>eb b o hb e) f0 f1 f3 f4 f5⟩
  | true=>exact RV.next_end (I.ok.hd hc) st2 fun h' eb=>⟨rfl,I.turned (t':=s.toks) (fun b o hb e=>eb b o hb e) f0 f1 f3 f4 f5⟩
 self:=fun _ i _ _ _ st h=>by
  cases t with
  | false=>exact wpAny_pyIter_revIter st.2 h
  | true=>exact RV.iter_self st.2 h
section
variable {X:Cx} {EX:XE} {L:Lc} {e a b tg:Expr} {fa fb fe:M D} {pos p:Pos} {x:Str}
def iRev (K:Frag) (t:TA):TI:=fun σ H R=>t σ H fun vs H1=>∃b q xs,vs=[.ref q]∧SqS K H1 b q xs∧R (Itv K b q xs.length) H1
theorem tV {t:TA} (hg:Gl X "reversed") (hm:X.mg "reversed" = none) (ha:PA X [a] t) (hs:starEach [a] X.env=[(false,eval a X.env)]:=by rfl):PI X tg (.Call (.Name "reversed" p) [a] [] pos) (iRev X.K t):=by
 intro pins s σ H R I h
 refine Call_ (cO I hg hm boot_reversed (PyProof.Rows.callWith_type1 (thn (ha pos pins s σ H _ I h) fun us s1 ⟨vs,H1,I1,r1,q1⟩=>?_) (by rw [hs];rfl) (by rfl)))
 obtain ⟨t,q,xs,e,sq,hR⟩:=q1
 subst e
 obtain ⟨u,rfl,ru⟩:=vals1 r1
 cases ru
 have fp:∀b∈[s1.heap.objs.size],FpOk X pins H1 b:=fun b hb=>by
  have e:b=s1.heap.objs.size:=by simpa using hb
  subst e
  exact I1.fpOk (Nat.le_refl _) (I1.hok.fresh (Nat.le_refl _))
 cases t with
 | false =>
  obtain ⟨its,rv,pl,hz⟩:=I1.list (show SqL X.K H1 q xs from sq)
  have hl:its.toArray.size=xs.length:=by rw [List.size_toArray];exact rv.length.symm
  refine call_reversed_list pl.isList ?_
  rw [hl]
  have ri:Heap.IsRevIter (s1.heap.push (revObj q ((xs.length:Int)-1))) s1.heap.objs.size q ((xs.length:Int)-1):=⟨_,Heap.get?_push_size _ rfl,rfl,rfl⟩
  refine wpAny_pyIter_revIter (s:={ s1 with heap:=_ }) ri ?_
  exact ⟨_,[s1.heap.objs.size],_,_,H1,rfl,I1.kept (t':=s1.toks) fun b o e=>Heap.get?_push_of_some _ e,kR false q _ xs.length,⟨Nat.zero_le _,by show Heap.IsRevIter _ _ _ _;simpa using ri⟩,fp,hR⟩
 | true =>
  obtain ⟨its,rv,tp,hz⟩:=I1.tuple (show SqT X.K H1 q xs from sq)
  have hl:its.toArray.size=xs.length:=by rw [List.size_toArray];exact rv.length.symm
  refine RV.make tp (by rw [hl];exact hz) fun tk=>?_
  rw [hl]
  have ri:RV.Is (s1.heap.push (RV.obj q ((xs.length:Int)-1))) s1.heap.objs.size q ((xs.length:Int)-1):=⟨_,Heap.get?_push_size _ rfl,rfl,rfl⟩
  refine RV.iter_self (s:={ s1 with heap:=_,toks:=tk }) ri ?_
  exact ⟨_,[s1.heap.objs.size],_,_,H1,rfl,I1.kept (t':=tk) fun b o e=>Heap.get?_push_of_some _ e,kR true q _ xs.length,⟨Nat.zero_le _,by show RV.Is _ _ _ _;simpa using ri⟩,fp,hR⟩
theorem qD {G:Fx} {F:Hp} {t:Bool} {q:Addr} {vs:List V} {ds:List D} (h:SqS L.K F t q vs) (r:DenL L.K L.mg F vs ds):ItR L G F (Itv L.K t q vs.length) ds.reverse:=fun σ i F' H' ρ s g=>by
 have sq:SqS L.K H' t q vs:=(h.same s).same g.sub
 have hl:=r.length
 refine ⟨fun hi=>?_,fun hi=>?_,fun x H'' ⟨e,y⟩=>?_⟩
 ·simp at hi
  exact ⟨vs,vs[vs.length-1-i]'(by omega),sq,rfl,by omega,by simp [show vs.length-1-i<vs.length by omega]⟩
 ·simp at hi
  show i=vs.length
  omega
 ·subst e
  refine ⟨F',Same.refl _,g,fun d hd=>?_⟩
  have hi:i<ds.length:=by simpa using (List.getElem?_eq_some_iff.mp hd).1
  rw [List.getElem?_reverse hi,←hl] at hd
  obtain ⟨v,h1,h2⟩:=(r.same s).get hd
  rw [y vs sq] at h1
  cases h1
  exact h2
theorem u9 (hg:Gl X "reversed") (hm:X.mg "reversed" = none) (ha:PV X EX a fa) (hs:starEach [a] X.env=[(false,eval a X.env)]:=by rfl):PVI X EX tg (.Call (.Name "reversed" p) [a] [] pos) (mRev fa) :=
 (tV hg hm (aR ha bM hs) hs).le fun σ H Q ⟨G,F,ρ,g0,o⟩=>au g0 o (fun x r q=>q) fun F1 H1 ρ1 d1 y s1 g1 r1 o1=>by
  obtain ⟨ds,e,q⟩:=o1.opt
  cases e1:seqD d1 with
  | none=>rw [e1] at e;cases e
  | some es =>
   rw [e1] at e
   cases e
   obtain ⟨t,q1,vs,rfl,z,r⟩:=Den.seq r1 e1
   exact ⟨t,q1,vs,rfl,z.same g1.sub,q F1 H1 _ s1 g1 (qD z r)⟩
end
end VS

end
section
set_option linter.all false
set_option maxRecDepth 100000
namespace VS
open PySem PySem.Spec PyProof.Rows L2 VP
namespace GA
def Two (T:String):Prop:=T = "list_reverseiterator" ∨ T = "reversed"
section
variable {prog:Program} {w:World} {A:Around} {E:Value→Shared→Prop} {s:Shared} {I:Addr} {fp wr:List Addr} {n:Nat} {P:Nat→Value→Prop} {St:Nat→Heap→Prop} {T:String}
def Hint (prog:Program) (w:World) (A:Around) (I:Addr) (St:Nat→Heap→Prop):Prop:=∀(s:Shared) (Q:Bool→Shared→Prop) (E:Value→Shared→Prop),St 0 s.heap→(∀b tk,s.toks≤tk→Q b { s with toks:=tk })→wpAny (model prog w) A (Builtin.List.listLengthHint (.ref I)) Q E s
theorem extend {R:Result→Shared→Prop} (h2:Two T) (W:WalksS prog w A.in1 I fp wr (fun a b=>b=a) n P (fun i s=>St i s.heap)) (hT:∀(i:Nat) (s:Shared),St i s.heap→s.TypeIs (.ref I) T) (hh:Hint prog w A.in1 I St) (S:Addr) (res:Value) (c₀:Nat) (hst:St 0 s.heap) (hSf:S∉fp) (hI:I∈fp)
  (hS:s.heap.get? S=some { cls:=.type "list", data:=.seq #[] c₀ }) (hn:n≤sizeLine)
  (hR:∀s' acc' c',Moved (S::wr) (fun a b=>b=a) s s'→s'.heap.get? S=some { cls:=.type "list", dict:=none,data:=.seq acc' c',slots:=#[] }→ItemsOf P acc' n→R (.ok (.ret res)) s') :
  wpAny (model prog w) A.in1 (Builtin.List.listExtendWith (.ref S) (.ref I) res)
   (fun fin s'=>match fin with | .done f=>R (.ok f) s' | .again c'=>c'.quiet=true∧codeAny (model prog w) A c' R s') (fun e s'=>R (.error e) s') s:=by
 have hSI:S≠I:=fun e=>hSf (e ▸ hI)
 have h1:Builtin.List.listSameRef (.ref S) (.ref I)=false:=by simp [Builtin.List.listSameRef,hSI]
 unfold Builtin.List.listExtendWith
 refine wpAny_bind (wpAny_typeOf (hT 0 _ hst) ?_)
 rw [if_neg (by rw [h1];rcases h2 with rfl | rfl<;>decide)]
 refine wpAny_bind (W.self 0 _ _ _ hst (wpAny_bind (wpAny_holding (hh s _ _ hst fun b tk htk=>?_))))
 have st2:=W.frame 0 s s.heap tk hst htk fun b _ o e=>e
 cases b with
 | false =>
  rw [if_neg (by rcases h2 with rfl | rfl<;>decide)]
  refine wpAny_pure ⟨plainId_quiet PySem.F.plain_extend_loop _,codeAny_extend_loopS W hn _ hSf _ n 0 _ _ _ rfl (Nat.zero_le _) st2 hS (ItemsOf.nil P) fun s' acc' c' hm hS' hacc=>hR s' acc' c' ?_ hS' hacc⟩
  have mv:Moved (S::wr) (fun a b=>b=a) s { s with toks:=tk }:=⟨fun b o hb e=>e,rfl,rfl,rfl,htk⟩
  exact Moved.trans W.gtrans mv hm
 | true =>
  rw [if_pos (by rcases h2 with rfl | rfl<;>decide)]
  refine wpAny_bind (wpAny_rule (wpAny_bind (m:=updateSeq S (·.push .none) >>= fun _=>updateSeq S (·.pop)) (wpAny_bind (wpAny_updateSeq hS rfl ?_))))
  have q1:=Heap.get?_update_self (Obj.mapSeq (·.push Value.none)) hS rfl
  refine wpAny_updateSeq (hz:=by seq_fits) q1 rfl ?_
  have q2:=Heap.get?_update_self (Obj.mapSeq (·.pop)) q1 rfl
  have oth:∀b o,b≠S→s.heap.get? b=some o→((s.heap.update S (Obj.mapSeq (·.push Value.none))).update S (Obj.mapSeq (·.pop))).get? b=some o :=
   fun b o hb e=>(Heap.get?_update_other _ _ (Ne.symm hb)).trans ((Heap.get?_update_other _ _ (Ne.symm hb)).trans e)
  refine wpAny_pure ⟨plainId_quiet PySem.F.plain_extend_loop _,codeAny_extend_loopS W hn _ hSf _ n 0 _ _ _ rfl (Nat.zero_le _) (W.frame 0 s _ tk hst htk fun b hb o e=>oth b o (fun z=>hSf (z ▸ hb)) e) q2 (ItemsOf.nil P) fun s' acc' c' hm hS' hacc=>hR s' acc' c' ?_ hS' hacc⟩
  have mv:Moved (S::wr) (fun a b=>b=a) s { s with heap:=(s.heap.update S (Obj.mapSeq (·.push Value.none))).update S (Obj.mapSeq (·.pop)),toks:=tk }:=⟨fun b o hb e=>oth b o (fun z=>hb (by rw [z];exact List.mem_cons_self)) e,rfl,rfl,rfl,htk⟩
  exact Moved.trans W.gtrans mv hm
theorem gathered {Q:List Value→Shared→Prop} (h2:Two T) (W:WalksS prog w A.in1 I fp wr (fun a b=>b=a) n P (fun i s=>St i s.heap)) (hT:∀(i:Nat) (s:Shared),St i s.heap→s.TypeIs (.ref I) T) (hh:Hint prog w A.in1 I St) (hst:St 0 s.heap) (hfp:∀b∈fp,b<s.heap.objs.size) (hI:I∈fp) (hn:n≤sizeLine)
  (hQ:∀s' acc,Moved wr (fun a b=>b=a) s s'→ItemsOf P acc n→Q acc.toList s'):wpAny (model prog w) A (collect (.ref I)) Q E s:=by
 have hSf:s.heap.objs.size∉fp:=fun hm=>Nat.lt_irrefl _ (hfp _ hm)
 refine wpAny_bind (m:=runValue (.builtin "proto.collect" ⟨[.ref I],[]⟩)) (wpAny_runValue (codeAny_builtin PySem.F.entry_proto_collect ?_))
 rw [Around.under_plainId PySem.F.plain_proto_collect _]
 refine wpAny_bind (m:=newList []) (wpAny_newObj_type (wpAny_pure ⟨plainId_quiet PySem.F.plain_list_iadd _,codeAny_builtin PySem.F.entry_list_iadd ?_⟩))
 rw [Around.under_plainId PySem.F.plain_list_iadd _]
 have X:=extend (R:=fun r s'=>r=.ok (.ret (.ref s.heap.objs.size))∧∃acc c,Moved (s.heap.objs.size::wr) (fun a b=>b=a) { s with heap:=s.heap.push { cls:=.type "list", data:=.seq ([]:List Value).toArray } } s'∧s'.heap.get? s.heap.objs.size=some { cls:=.type "list", dict:=none,data:=.seq acc c,slots:=#[] }∧ItemsOf P acc n)
  (s:={ s with heap:=s.heap.push { cls:=.type "list", data:=.seq ([]:List Value).toArray } }) h2 W hT hh s.heap.objs.size (.ref s.heap.objs.size) 0 (W.frame 0 s _ s.toks hst (Nat.le_refl _) fun b _ o e=>Heap.get?_push_of_some _ e) hSf hI (Heap.get?_push_size _ rfl) hn fun s' acc c hm hS hacc=>⟨rfl,acc,c,hm,hS,hacc⟩
 have fin:∀s',(∃acc c,Moved (s.heap.objs.size::wr) (fun a b=>b=a) { s with heap:=s.heap.push { cls:=.type "list", data:=.seq ([]:List Value).toArray } } s'∧s'.heap.get? s.heap.objs.size=some { cls:=.type "list", dict:=none,data:=.seq acc c,slots:=#[] }∧ItemsOf P acc n) →
   wpAny (model prog w) A (do let o ←load s.heap.objs.size;match o.data with | .seq xs _=>pure xs.toList | _=>unsupported "internal:collect") Q E s':=fun s' ⟨acc,c,hm,hS,hacc⟩ =>
  wpAny_bind (wpAny_load hS (wpAny_pure (hQ s' acc (Moved.drop_new (o:={ cls:=.type "list", data:=.seq ([]:List Value).toArray }) (tk:=s.toks) hm (Nat.le_refl _)) hacc)))
 refine wpAny_mono X (fun f s' h=>?_) fun e s' h=>absurd h.1 (by simp)
 cases f with
 | done f=>obtain ⟨e,h⟩:=h;cases e;exact fin s' h
 | again c'=>exact ⟨h.1,codeAny_mono h.2 fun r s'' ⟨e,h⟩=>by subst e;exact fin s'' h⟩
theorem kX {Q₁:Value→Shared→Prop} (h2:Two T) (W:WalksS prog w A.in1.in1 I fp wr (fun a b=>b=a) n P (fun i s=>St i s.heap)) (hT:∀(i:Nat) (s:Shared),St i s.heap→s.TypeIs (.ref I) T) (hh:Hint prog w A.in1.in1 I St) (hst:St 0 s.heap) (hfp:∀b∈fp,b<s.heap.objs.size) (hI:I∈fp) (hn:n≤sizeLine)
  (h:∀s' acc,Moved wr (fun a b=>b=a) s s'→ItemsOf P acc n→Q₁ (.ref s'.heap.objs.size) { s' with heap:=s'.heap.push { cls:=.type "tuple", data:=.seq acc } }) :
  codeAny (model prog w) A (.call (.builtin "tuple.__new__") ⟨[.type "tuple", .ref I],[]⟩) (wants Q₁ E) s:=by
 refine codeAny_of_tree (wpAny_bind (m:=checkBuiltinCall "tuple.__new__" ⟨[.type "tuple", .ref I],[]⟩) (wpAny_of_eq (PySem.F.newCall_tuple_1 _) (wpAny_pure ⟨plainId_quiet PySem.F.plain_tuple_new _,codeAny_builtin PySem.F.entry_tuple_new ?_⟩)))
 rw [Around.under_plainId PySem.F.plain_tuple_new _]
 have k1:=sub_tuple_self
 have k2:=init_tuple_lookup
 have k3:=madeHere_tuple
 have k4:=hT 0 s hst
 rcases h2 with rfl | rfl
 ·have z2:Two "list_reverseiterator" := .inl rfl
  wp_walk using wpAny_typeOf k4,gathered z2 W hT hh hst hfp hI hn
  intro s' acc hm hacc
  refine wpAny_bind (m:=Builtin.Tuple.tupleExact acc.toList.toArray) (wpAny_newObj_type (wpAny_pure ?_) (by show acc.toList.toArray.size≤sizeLine;simp only [Array.toArray_toList];rw [hacc.1];exact hn))
  rw [show acc.toList.toArray=acc by simp]
  exact h s' acc hm hacc
 ·have z2:Two "reversed" := .inr rfl
  wp_walk using wpAny_typeOf k4,gathered z2 W hT hh hst hfp hI hn
  intro s' acc hm hacc
  refine wpAny_bind (m:=Builtin.Tuple.tupleExact acc.toList.toArray) (wpAny_newObj_type (wpAny_pure ?_) (by show acc.toList.toArray.size≤sizeLine;simp only [Array.toArray_toList];rw [hacc.1];exact hn))
  rw [show acc.toList.toArray=acc by simp]
  exact h s' acc hm hacc
theorem call_tuple {Q:Value→Shared→Prop} (h2:Two T) (W:WalksS prog w A.in1.in1.in1 I fp wr (fun a b=>b=a) n P (fun i s=>St i s.heap)) (hT:∀(i:Nat) (s:Shared),St i s.heap→s.TypeIs (.ref I) T) (hh:Hint prog w A.in1.in1.in1 I St) (hst:St 0 s.heap) (hfp:∀b∈fp,b<s.heap.objs.size) (hI:I∈fp) (hn:n≤sizeLine)
  (hQ:∀s' acc,Moved wr (fun a b=>b=a) s s'→ItemsOf P acc n→Q (.ref s'.heap.objs.size) { s' with heap:=s'.heap.push { cls:=.type "tuple", data:=.seq acc } }):wpAny (model prog w) A (call (.type "tuple") [.ref I]) Q E s:=by
 refine callType_codes (Q₁:=fun obj s₁=>s₁.TypeIs obj "tuple" ∧ Q obj s₁) PySem.F.called_tuple (PySem.F.typeCall_tuple_1 _) PySem.F.entry_object_init
  (kX h2 W hT hh hst hfp hI hn fun s' acc hm hacc=>⟨⟨_,Heap.get?_push_size _ rfl,rfl⟩,hQ s' acc hm hacc⟩) fun obj s₁ h₁=>?_
 exact ⟨h₁.1,PySem.F.args_object_init_2 obj _,object_init_meets PySem.F.called_tuple.init.lookup PySem.F.called_tuple.made (by decide) prog w A.in1 _ s₁ ⟨h₁.1,rfl,h₁.2⟩⟩
end
theorem qP:typeLookup (.type "list_reverseiterator") "__len__" = pure none:=by rw [typeLookup_type,builtinLookup_eq_fast];kernel_rfl
theorem sI:typeLookup (.type "list_reverseiterator") "__length_hint__" = pure (some (.builtin "list_reverseiterator.__length_hint__")):=by rw [typeLookup_type,builtinLookup_eq_fast];kernel_rfl
theorem qQ:typeLookup (.type "reversed") "__len__" = pure none:=by rw [typeLookup_type,builtinLookup_eq_fast];kernel_rfl
theorem oR:typeLookup (.type "reversed") "__length_hint__" = pure (some (.builtin "reversed.__length_hint__")):=by rw [typeLookup_type,builtinLookup_eq_fast];kernel_rfl
theorem ji:Slot "reversed" "__length_hint__" "reversed.__length_hint__" :=
 .of (owner := "reversed") (n := "__length_hint__") oR (by decide +kernel) (by decide +kernel) (by decide +kernel) (by first | exact .inl (by decide +kernel) | exact .inr (by decide +kernel)) (by rw [isSubtype_type];kernel_rfl)
theorem kZ:entryFor table "reversed.__length_hint__" = some Builtin.«reversed.__length_hint__» := entryFor_of_tree (by kernel_rfl)
theorem mK (a:Value):argsOk "reversed.__length_hint__" ⟨[a],[]⟩:=by
 unfold argsOk;rw [signature?_of (id := "reversed.__length_hint__") (n:=['_','_','t','n','i','h','_','h','t','g','n','e','l','_','_']) (o:=['d','e','s','r','e','v','e','r']) (by kernel_rfl) RV.owner_rev];kernel_rfl
section
variable {prog:Program} {w:World} {A:Around}
def StL (it q:Addr) (items:Array Value):Nat→Heap→Prop:=fun i h=>i≤items.size∧h.IsRevIter it q ((items.size:Int)-1-(i:Int))∧h.IsList q items
def StT (it q:Addr) (items:Array Value):Nat→Heap→Prop:=fun i h=>i≤items.size∧RV.Is h it q ((items.size:Int)-1-(i:Int))∧IsTup h q items
theorem hintL {it q:Addr} {items:Array Value}:Hint prog w A it (StL it q items):=fun s Q E st h=>by
 have hT:s.TypeIs (.ref it) "list_reverseiterator" := st.2.1.typeIs
 unfold Builtin.List.listLengthHint
 refine wpAny_bind (wpAny_specialOf hT qP ?_)
 refine wpAny_bind (m:=specialOf (.ref it) "__length_hint__") (wpAny_specialOf hT sI ?_)
 generalize hid:("list_reverseiterator.__length_hint__" : String)=id0
 wp_delta
 rw [show splitId id0=some ("list_reverseiterator", "__length_hint__") from by subst hid;decide +kernel]
 subst hid
 refine wpAny_bind (wpAny_isInstance (b:=true) hT (by rw [isSubtype_type];kernel_rfl) (wpAny_pure (h _ s.toks (Nat.le_refl _))))
theorem hintT {it q:Addr} {items:Array Value} (hz:items.size≤sizeLine):Hint prog w A it (StT it q items):=fun s Q E st h=>by
 have hT:s.TypeIs (.ref it) "reversed" := st.2.1.typeIs
 unfold Builtin.List.listLengthHint
 refine wpAny_bind (wpAny_specialOf hT qQ ?_)
 refine wpAny_bind (m:=specialOf (.ref it) "__length_hint__") (wpAny_specialOf hT oR ?_)
 generalize hid:("reversed.__length_hint__" : String)=id0
 wp_delta
 rw [show splitId id0=some ("reversed", "__length_hint__") from by subst hid;decide +kernel]
 subst hid
 refine wpAny_bind (wpAny_isInstance (b:=true) hT (by rw [isSubtype_type];kernel_rfl) ?_)
 obtain ⟨_,⟨o,ho,hc,hd⟩,ht⟩:=id st
 have hz':(items.size:Int)≤16777216:=by rw [sizeLine_eq] at hz;omega
 rw [if_neg (show ¬((!true)=true) by decide)]
 dsimp only []
 rw [if_neg (by decide)]
 refine wpAny_bind (wpAny_rule (wpAny_bind (wpAny_of_eq (ji.bind _) ?_)))
 refine wpAny_bind (m:=(call (.builtin "reversed.__length_hint__") [.ref it]).attempt) (wpAny_attempt (wpAny_call_entry ji hT kZ ?_ (mK _)))
 unfold Builtin.«reversed.__length_hint__»
 refine wpAny_bind (wpAny_of_eq (a:=Value.ref it) (by first | rfl | kernel_rfl) ?_)
 refine wpAny_bind (wpAny_field ho hd (x:=.ref q) rfl ?_)
 rw [if_neg (by intro z;cases z)]
 dsimp only []
 refine wpAny_bind (m:=call (Value.builtin "len") [Value.ref q]) (len_tuple ht (by omega) ?_)
 refine wpAny_bind (m:=asInt? (.int items.size _)) (wpAny_pure ?_)
 refine wpAny_bind (m:=field (.ref it) 1) (wpAny_field (s:={ s with toks:=s.toks+1+1 }) ho hd (x:=rawInt ((items.size:Int)-1-((0:Nat):Int))) rfl ?_)
 have e0:(items.size:Int)-1-((0:Nat):Int)+1=items.size:=by omega
 show wpAny _ _ (if (items.size:Int)<(items.size:Int)-1-((0:Nat):Int)+1 then _ else retInt ((items.size:Int)-1-((0:Nat):Int)+1)) _ _ _
 rw [if_neg (by omega),e0]
 have f1:Builtin.List.listFitsIndex (items.size:Int)=true:=by
  unfold Builtin.List.listFitsIndex
  simp only [Bool.and_eq_true,decide_eq_true_eq]
  omega
 have f2:Builtin.List.listTooLong ((items.size:Int).toNat)=false:=by
  unfold Builtin.List.listTooLong
  rw [Int.toNat_natCast]
  simp only [decide_eq_false_iff_not,gt_iff_lt,Nat.not_lt]
  exact hz
 have f3:¬(items.size:Int)<0:=by omega
 generalize (items.size:Int)=k at f1 f2 f3 ⊢
 refine wpAny_bind (m:=mkInt k) (wpAny_mkInt (wpAny_pure ⟨_,rfl,?_⟩))
 dsimp only []
 refine wpAny_bind (wpAny_of_eq (a:=some k) rfl ?_)
 dsimp only []
 rw [if_neg (by rw [f1];decide),if_neg f3,if_neg (by rw [f2];decide)]
 exact wpAny_pure (h _ _ (by show s.toks≤s.toks+1+1+1;omega))
theorem walkT (hh:A.handled=none) (it q:Addr) (hne:q≠it) (items:Array Value) (hz:items.size≤sizeLine):Walks prog w A it [it,q] [it] items.size (fun i v=>items[items.size-1-i]?=some v) (StT it q items) where
 sub:=fun b hb=>by simp at hb;simp [hb]
 frame:=fun _ _ _ x hk=>⟨x.1,x.2.1.at fun o e=>hk it (by simp) o e,by
  obtain ⟨o,e,r⟩:=x.2.2
  exact ⟨o,hk q (by simp) o e,r⟩⟩
 item:=fun i s Q E hi x hQ=>by
  have e:(items.size:Int)-1-(i:Int)=((items.size-1-i:Nat):Int):=by omega
  have e2:((items.size-1-i:Nat):Int)-1=(items.size:Int)-1-((i+1:Nat):Int):=by omega
  have hit:=x.2.1
  rw [e] at hit
  have hx:items[items.size-1-i]?=some (items[items.size-1-i]'(by omega)):=Array.getElem?_eq_getElem (by omega)
  refine RV.next_item hit x.2.2 hx hz fun h' tk hit' sb=>?_
  rw [e2] at hit'
  refine hQ _ h' tk hx ⟨hi,hit',?_⟩ fun b o hb eo=>(sb.2 b fun z=>hb (by simp [z])).trans eo
  obtain ⟨o,eo,r⟩:=x.2.2
  exact ⟨o,(sb.2 q hne).trans eo,r⟩
 done:=fun s Q E x hQ=>by
  have e:(items.size:Int)-1-(items.size:Int)=-1:=by omega
  have hit:=x.2.1
  rw [e] at hit
  exact RV.next_end hh hit fun h' he=>hQ h' s.toks fun b o hb eo=>he b o (fun z=>hb (by simp [z])) eo
 self:=fun _ _ _ _ x hQ=>RV.iter_self x.2.1 hQ
end
end GA
section
variable {X:Cx} {EX:XE} {L:Lc} {e a b tg:Expr} {fa fb fe:M D} {pos p pos' p':Pos}
theorem mV {items acc:Array Value} (h:ItemsOf (fun i v=>items[items.size-1-i]?=some v) acc items.size):acc=items.toList.reverse.toArray:=by
 obtain ⟨h1,h2⟩:=h
 apply Array.ext'
 refine List.ext_getElem? fun i=>?_
 by_cases hi:i<acc.size
 ·have e:=h2 i acc[i] (Array.getElem?_eq_getElem hi)
  have l:acc.toList[i]?=some acc[i]:=by simp [hi]
  rw [l]
  simp only [List.toList_toArray]
  rw [List.getElem?_reverse (by simp;omega),←e]
  simp
 ·have hi2:¬i<items.size:=by omega
  rw [List.getElem?_eq_none (by simp;omega),List.getElem?_eq_none (by simp;omega)]
theorem m9 {pins:List (Addr×Obj)} {σ:St} {H:Hp} {s s':Shared} {it:Addr} (I:Inv X pins σ H s) (hf:FpOk X pins H it) (m:Moved [it] (fun a b=>b=a) s s'):Inv X pins σ H s':=by
 obtain ⟨hp,g,d,tk,os⟩:=s'
 obtain ⟨m1,m2,m3,m4,m5⟩:=m
 simp only at m1 m2 m3 m4 m5
 subst m2 m3 m4
 have hf':∀b∈[it],FpOk X pins H b:=fun b hb=>by
  have e:b=it:=by simpa using hb
  subst e
  exact hf
 exact Inv.turnedL (h':=hp) (tk:=tk) (fp:=[it]) I hf' m1
def rRevT (K:Frag):List V→Hp→VK→Prop:=fun xs H Q=>∃t q ys,xs=[.ref q]∧SqS K H t q ys∧∀p,H p=none→Q (.ref p) (upd H p (.tup ys.reverse))
theorem qX {t:TA} (hg:Gl X "reversed") (hm:X.mg "reversed" = none) (hgT:Gl X "tuple") (hmT:X.mg "tuple" = none) (hc:X.calm=true) (ha:PA X [a] t) (hs:starEach [a] X.env=[(false,eval a X.env)]:=by rfl)
  (hs2:starEach [.Call (.Name "reversed" p) [a] [] pos] X.env=[(false,eval (.Call (.Name "reversed" p) [a] [] pos) X.env)]:=by rfl):PE X (.Call (.Name "tuple" p') [.Call (.Name "reversed" p) [a] [] pos] [] pos') (tCB (rRevT X.K) t):=by
 intro pins s σ H Q I h
 refine wpAny_Call_Name_kw (cO I hgT hmT boot_tuple (PyProof.Rows.callWith_type1 ?_ hs2 rfl))
 rw [hs2]
 refine Calls.spliced_cons (Call_ (cO I hg hm boot_reversed (PyProof.Rows.callWith_type1 (thn (ha pos pins s σ H _ I h) fun us s1 ⟨vs,H1,I1,r1,q1⟩=>?_) hs rfl)))
 obtain ⟨t,q,xs,e,sq,hR⟩:=q1
 subst e
 obtain ⟨u,rfl,ru⟩:=vals1 r1
 cases ru
 have fp:FpOk X pins H1 s1.heap.objs.size:=I1.fpOk (Nat.le_refl _) (I1.hok.fresh (Nat.le_refl _))
 have fin:∀(o:Obj) (tk:Nat) (its:List Value) (s':Shared) (acc:Array Value),Vals xs its→xs.length≤sizeLine→Moved [s1.heap.objs.size] (fun a b=>b=a) { s1 with heap:=s1.heap.push o,toks:=tk } s'→ItemsOf (fun i v=>its.toArray[its.toArray.size-1-i]?=some v) acc its.toArray.size →
   EP X pins σ Q (.ref s'.heap.objs.size) { s' with heap:=s'.heap.push { cls:=.type "tuple", data:=.seq acc } }:=fun o tk its s' acc rv hz m hi=>by
  have I2:Inv X pins σ H1 { s1 with heap:=s1.heap.push o,toks:=tk }:=I1.kept (t':=tk) fun b o e=>Heap.get?_push_of_some _ e
  have I3:=m9 I2 fp m
  rw [mV hi]
  refine ⟨.ref s'.heap.objs.size,_,I3.laid (t':=s'.toks) (o:=.tup xs.reverse) (fun b ob q=>Heap.get?_push_of_some _ q) (Nat.le_refl _) ?_,rfl,hR _ (I3.hok.fresh (Nat.le_refl _))⟩
  exact ⟨by rw [List.length_reverse];exact hz,_,Vals.reverse rv,TupD.new _ _⟩
 cases t with
 | false =>
  obtain ⟨its,rv,pl,hz⟩:=I1.list (show SqL X.K H1 q xs from sq)
  have hsz:its.toArray.size≤sizeLine:=by rw [List.size_toArray,←rv.length];exact hz
  refine call_reversed_list pl.isList (Calls.spliced_nil ?_)
  have lt:q<s1.heap.objs.size:=by obtain ⟨o,e,_⟩:=pl.isList;exact Heap.lt_size e
  have ri:Heap.IsRevIter (s1.heap.push (revObj q ((its.toArray.size:Int)-1))) s1.heap.objs.size q ((its.toArray.size:Int)-1-((0:Nat):Int)):=⟨_,Heap.get?_push_size _ rfl,rfl,by simp [revObj]⟩
  have W:=(Walks.listRev (prog:=X.prog) (w:=X.w) (A:=X.A.in1.in1.in1) (I1.ok.hd hc) s1.heap.objs.size q (Nat.ne_of_lt lt) its.toArray).toS
  refine GA.call_tuple (T := "list_reverseiterator") (St:=GA.StL s1.heap.objs.size q its.toArray) (s:={ s1 with heap:=s1.heap.push (revObj q ((its.toArray.size:Int)-1)) }) (.inl rfl) W (fun i s st=>st.2.1.typeIs) GA.hintL ⟨Nat.zero_le _,ri,?_⟩ (fun b hb=>?_) (by simp) hsz fun s' acc m hi=>fin _ s1.toks its s' acc rv hz m hi
  ·exact pl.isList.at fun o e=>Heap.get?_push_of_some _ e
  ·simp only [List.mem_cons,List.not_mem_nil,or_false] at hb
   rcases hb with rfl | rfl
   ·exact Heap.lt_size (Heap.get?_push_size _ rfl)
   ·exact Nat.lt_trans lt (Heap.lt_size (Heap.get?_push_size _ rfl))
 | true =>
  obtain ⟨its,rv,tp,hz⟩:=I1.tuple (show SqT X.K H1 q xs from sq)
  have hsz:its.toArray.size≤sizeLine:=by rw [List.size_toArray,←rv.length];exact hz
  refine RV.make tp hsz fun tk=>Calls.spliced_nil ?_
  have lt:q<s1.heap.objs.size:=by obtain ⟨o,e,_⟩:=tp;exact Heap.lt_size e
  have ri:RV.Is (s1.heap.push (RV.obj q ((its.toArray.size:Int)-1))) s1.heap.objs.size q ((its.toArray.size:Int)-1-((0:Nat):Int)):=⟨_,Heap.get?_push_size _ rfl,rfl,by simp [RV.obj]⟩
  have W:=(GA.walkT (prog:=X.prog) (w:=X.w) (A:=X.A.in1.in1.in1) (I1.ok.hd hc) s1.heap.objs.size q (Nat.ne_of_lt lt) its.toArray hsz).toS
  refine GA.call_tuple (T := "reversed") (St:=GA.StT s1.heap.objs.size q its.toArray) (s:={ s1 with heap:=s1.heap.push (RV.obj q ((its.toArray.size:Int)-1)),toks:=tk }) (.inr rfl) W (fun i s st=>st.2.1.typeIs) (GA.hintT hsz) ⟨Nat.zero_le _,ri,?_⟩ (fun b hb=>?_) (by simp) hsz fun s' acc m hi=>fin _ tk its s' acc rv hz m hi
  ·obtain ⟨o,e,r⟩:=tp;exact ⟨o,Heap.get?_push_of_some _ e,r⟩
  ·simp only [List.mem_cons,List.not_mem_nil,or_false] at hb
   rcases hb with rfl | rfl
   ·exact Heap.lt_size (Heap.get?_push_size _ rfl)
   ·exact Nat.lt_trans lt (Heap.lt_size (Heap.get?_push_size _ rfl))
theorem sH:F1G L (rRevT L.K) revT:=fun G F H σ ρ x dx d Q g0 rx e k=>by
 unfold revT at e
 cases e1:seqD dx with
 | none=>rw [e1] at e;cases e
 | some ds =>
  rw [e1] at e
  cases e
  obtain ⟨t,q,vs,rfl,r,z⟩:=RR.seqS rx g0 e1
  refine ⟨t,q,vs,rfl,z,fun p hp=>?_⟩
  have sF:=aH (o:=.tup vs.reverse) (g0.sub.free hp)
  exact k _ _ _ sF (g0.laid hp) (.tup (SqT.of ax) ((DenL.reverse r).same sF))
theorem rm (hg:Gl X "reversed") (hm:X.mg "reversed" = none) (hgT:Gl X "tuple") (hmT:X.mg "tuple" = none) (ha:PR X EX a fa) (hc:X.calm=true:=by rfl) (hs:starEach [a] X.env=[(false,eval a X.env)]:=by rfl)
  (hs2:starEach [.Call (.Name "reversed" p) [a] [] pos] X.env=[(false,eval (.Call (.Name "reversed" p) [a] [] pos) X.env)]:=by rfl):PV X EX (.Call (.Name "tuple" p') [.Call (.Name "reversed" p) [a] [] pos] [] pos') (m1 revT fa) :=
 (qX hg hm hgT hmT hc (jI ha hs) hs hs2).le fun σ H Q ⟨G,F,ρ,g0,o⟩=>au g0 o (fun x r q=>q) fun F1 H1 ρ1 d1 x s1 g1 r1 o1=>by
  obtain ⟨d,e,q⟩:=o1.opt
  exact sH G F1 H1 σ ρ1 x d1 d Q g1 r1 e (Post.same s1 q)
end
end VS

end
section
set_option linter.all false
set_option maxRecDepth 100000
namespace VS
open PySem PySem.Spec PyProof.Rows L2 VP
section
variable {X:Cx} {EX:XE} {L:Lc} {a:Expr} {fa:M D} {p pos p' pos':Pos}
def rAll (K:Frag) (al:Bool):List V→Hp→VK→Prop:=fun xs H Q=>∃(q:Addr) (bs:List Bool),xs=[.ref q]∧SqL K H q (bs.map V.bl)∧Q (.bl (if al then bs.all id else bs.any id)) H
theorem iW:∀{bs:List Bool} {us:List Value},Vals (bs.map V.bl) us→us=bs.map Value.bool
 | [],_,h=>by cases h;rfl
 | b::bs,_,h=>by
  cases h with
  | cons h1 h2=>rw [iW h2,List.map_cons];cases (show _=Value.bool b from h1);rfl
theorem jg (bs:List Bool):(List.range bs.length).all (fun i=>bs.getD i false)=bs.all id∧(List.range bs.length).any (fun i=>bs.getD i false)=bs.any id:=by
 have e:(List.range bs.length).map (fun i=>bs.getD i false)=bs:=by
  apply List.ext_getElem
  ·simp
  ·intro i h1 h2;simp [h2]
 refine ⟨?_,?_⟩
 ·rw [show bs.all id=((List.range bs.length).map fun i=>bs.getD i false).all id by rw [e],List.all_map];rfl
 ·rw [show bs.any id=((List.range bs.length).map fun i=>bs.getD i false).any id by rw [e],List.any_map];rfl
theorem mO (hc:X.calm=true) (al:Bool):CallR X (.builtin (if al then "all" else "any")) (rAll X.K al):=by
 intro pins s σ H xs us Q I r h
 obtain ⟨q,bs,rfl,hq,k⟩:=h
 obtain ⟨u,rfl,ru⟩:=vals1 r
 cases ru
 obtain ⟨its,rv,pl,hz⟩:=I.list hq
 have e:=iW rv
 subst e
 have lt:q<s.heap.objs.size:=by obtain ⟨o,e,_⟩:=pl.isList;exact Heap.lt_size e
 have hh:X.A.in1.handled=none:=I.ok.hd hc
 have W:=Walks.list (prog:=X.prog) (w:=X.w) (A:=X.A.in1) hh s.heap.objs.size q (Nat.ne_of_lt lt) (bs.map Value.bool).toArray
 have st:(fun i (h:Heap)=>h.IsListIter s.heap.objs.size q i∧h.IsList q (bs.map Value.bool).toArray) 0 (s.heap.push { cls:=.type "list_iterator", data:=.fields #[.ref q,.int 0 0] }) :=
  ⟨⟨_,Heap.get?_push_size _ rfl,rfl,rfl⟩,pl.isList.push _⟩
 have tr:TruthOf X.prog X.w X.A.in1 (fun i v=>(bs.map Value.bool).toArray[i]?=some v) (fun i=>bs.getD i false):=fun i v s Q E hP hQ=>by
  have hP':bs[i]?.map Value.bool=some v:=by simpa using hP
  cases e:bs[i]? with
  | none=>rw [e] at hP';cases hP'
  | some b =>
   rw [e] at hP'
   cases hP'
   have:bs.getD i false=b:=by simp [e]
   dsimp only at hQ
   rw [this] at hQ
   exact wpAny_truthy_bool hQ
 have kp:∀(h':Heap),(∀b o,b∉[s.heap.objs.size]→(s.heap.push { cls:=.type "list_iterator", data:=.fields #[.ref q,.int 0 0] }).get? b=some o→h'.get? b=some o)→∀b o,s.heap.get? b=some o→h'.get? b=some o:=fun h' hk b o e=>by
  have lt:=Heap.lt_size e
  have n1:b≠s.heap.objs.size:=Nat.ne_of_lt lt
  exact hk b o (by simp [n1]) (Heap.get?_push_of_some _ e)
 have hsz:(bs.map Value.bool).toArray.size=bs.length:=by simp
 cases al with
 | true =>
  refine call_all_walk (wpAny_pyIter_list pl.isList ⟨_,_,_,_,_,_,_,rfl,W,st,tr,fun h' tk hk=>?_⟩)
  rw [hsz,(jg bs).1]
  exact ⟨.bl _,H,I.kept (kp h' hk),rfl,k⟩
 | false =>
  refine call_any_walk (wpAny_pyIter_list pl.isList ⟨_,_,_,_,_,_,_,rfl,W,st,tr,fun h' tk hk=>?_⟩)
  rw [hsz,(jg bs).2]
  exact ⟨.bl _,H,I.kept (kp h' hk),rfl,k⟩
theorem oA {K:Frag} {mg:MG} {F:Hp}:∀{vs:List V} {ds:List D} {bs:List Bool},DenL K mg F vs ds→boolsD ds=some bs→vs=bs.map V.bl
 | _,_,_,.nil,e=>by cases e;rfl
 | _,_,_,.cons (d:=d) h t,e=>by
  cases d with
  | bl b =>
   cases h
   simp only [boolsD] at e
   cases q:boolsD _ with
   | none=>rw [q] at e;cases e
   | some bs =>
    rw [q] at e
    cases e
    rw [oA t q];rfl
  | _=>cases e
theorem jw (al:Bool):F1G L (rAll L.K al) (allD al):=fun G F H σ ρ x dx d Q g0 rx e k=>by
 cases dx with
 | lst ds =>
  simp only [allD] at e
  cases e2:boolsD ds with
  | none=>rw [e2] at e;cases e
  | some bs =>
   rw [e2] at e
   cases e
   obtain ⟨q,vs,rfl,r,z⟩:=RR.seq rx g0 rfl
   rcases z with ⟨_,z⟩ | ⟨z,_⟩
   ·rw [oA r e2] at z
    exact ⟨q,bs,rfl,z,k F H _ (Same.refl _) g0 (.bl _)⟩
   ·cases z
 | _=>cases e
theorem dQ (hc:X.calm=true):CallR X (.builtin "all") (rAll X.K true):=mO hc true
theorem eS:bootBuiltins "all" = some (.builtin "all"):=by kernel_rfl
theorem lJ {L:Lc} {G:Fx} {F H:Hp} {σ:St} {ρ:Rho} {k:Nat} {kd x:D} {v:V} {P:Unit→Rho→Prop} {E:Xn→Rho→Prop} (g:L.Good G F H σ ρ) (r:Den L.K L.mg F v x) (o:Out (mUpd k (setAt kd x) ρ) P E) :
  ∃l vs i j ρ',kd=.int i∧σ[k]?=some (some (V.ref l))∧H l=some (.lst vs)∧ixN vs.length i=some j∧L.Good G F (upd H l (.lst (vs.set j v))) σ ρ'∧P () ρ':=by
 unfold mUpd at o
 cases q:own ρ[k]? with
 | none=>rw [q] at o;exact o.elim
 | some d =>
  rw [q] at o
  dsimp only at o
  cases q2:setAt kd x d with
  | none=>rw [q2] at o;exact o.elim
  | some d' =>
   rw [q2] at o
   have o':P () (putS k d' ρ):=o
   cases d with
   | lst ds =>
    cases kd with
    | int i =>
     simp only [setAt] at q2
     cases q4:ixP ds.length i with
     | none=>rw [q4] at q2;cases q2
     | some j =>
      rw [q4] at q2
      cases q2
      cases q3:ρ[k]? with
      | none=>rw [q3] at q;cases q
      | some s =>
       rw [q3] at q
       have sl:=g.slot k s q3
       have fin:∀l s',σ[k]?=some (some (V.ref l))→Owned s=true→Obj1 L.K L.mg F H l (.lst ds)→((∃e,s=.ow e∧s'=.ow (.lst (ds.set j x)))∨(∃e,s=.io e∧s'=.io (.lst (ds.set j x))))→putS k (.lst (ds.set j x)) ρ=ρ.set k s' →
         ∃l vs i' j ρ',D.int i=.int i'∧σ[k]?=some (some (V.ref l))∧H l=some (.lst vs)∧ixN vs.length i'=some j∧L.Good G F (upd H l (.lst (vs.set j v))) σ ρ'∧P () ρ':=fun l s' z1 z2 z3 z4 z5=>by
        obtain ⟨vs,y1,y2⟩:=z3
        refine ⟨l,vs,i,j,_,rfl,z1,y1,by rw [y2.length];exact q4,Good.write g q3 z2 z1 z4 ⟨_,ax,y2.set j r⟩,?_⟩
        rw [←z5];exact o'
       cases s with
       | no=>cases q
       | sh e=>cases q
       | ow e =>
        cases q
        obtain ⟨l,z1,z2,z3,z4⟩:=sl
        exact fin l _ (aI z1) rfl z4 (.inl ⟨_,rfl,rfl⟩) (by unfold putS;rw [q3])
       | io e =>
        cases q
        obtain ⟨l,z1,z2,z3,z4⟩:=sl
        exact fin l _ (aI z1) rfl z4 (.inr ⟨_,rfl,rfl⟩) (by unfold putS;rw [q3])
    | _=>cases q2
   | _=>cases q2
variable {b value:Expr} {fk fv:M D} {x:Str}
theorem iG (i:Nat) {p1 p2 p3:Pos} (hk:PV X EX b fk) (hv:PV X EX value fv) (hN:X.N[i]?=some x:=by rfl) (hvs:Vis X.env.scope x:=by first | exact Or.inl rfl | exact Or.inr (Or.inl rfl) | exact Or.inr (Or.inr rfl)) (hd:(x == ("__debug__" : Str))=false:=by decide)
  (hcd:(x == ("__classdict__" : Str))=false:=by decide) (hs:swapsWithSole [.Subscript (.Name x p1) b p2] value p3.line X.env=pure false:=by rfl) (hw:swappedStores [.Subscript (.Name x p1) b p2] value X.env=pure none:=by rfl)
  (h1:(assignEach [.Subscript (.Name x p1) b p2] X.env).map (·.2)=[assign (.Subscript (.Name x p1) b p2) X.env]:=by rfl)
  (ha:∀v,assign (.Subscript (.Name x p1) b p2) X.env v=(do
   let ov ←holding [v] (eval (.Name x p1) X.env)
   let iv ←holding [v,ov] (eval b X.env)
   standAt p2
   holding [v,ov,iv] (setItem ov iv v)
   release [v,ov,iv] []):=by intro _;rfl):PVS X EX (.Assign [.Subscript (.Name x p1) b p2] value p3) (sSetIx i fk fv) :=
 (lF hv (lC (bz hN hvs hd hcd) hk iu ha) hs hw h1).le fun E σ H ⟨G,F,ρ,g0,o⟩=>au g0 o (fun x r q=>q.x) fun F1 H1 ρ1 d1 v s1 g1 r1 o1=>by
  by_cases hl:isLst (own ρ1[i]?)=true
  ·rw [if_pos hl] at o1
   obtain ⟨l,vs,z1,z2⟩:=gY (L:=lc X EX) g1 hl
   refine ⟨_,z1,au g1 o1 (fun x r q=>(q.same s1).x) fun F2 H2 ρ2 d2 y s2 g2 r2 o2=>?_⟩
   obtain ⟨l',vs',k,j,ρ',y0,y1,y2,y3,g3,q⟩:=lJ (L:=lc X EX) g2 (r1.same s2) (Out.bnd o2)
   rw [z1] at y1
   cases y1
   subst y0
   cases r2
   exact ⟨l,vs',k,j,rfl,rfl,y2,y3,q F2 _ σ (s1.trans s2) g3⟩
  ·rw [if_neg hl] at o1;exact o1.elim
end
end VS

end
section
set_option linter.all false
set_option maxRecDepth 100000
namespace VS
open PySem PySem.Spec PyProof.Rows L2 VP
section
variable {X:Cx} {EX:XE} {L:Lc} {e a b c:Expr} {fa fb fc fe:M D} {pos:Pos} {x:Str}
theorem FlatD.dens:∀{ds:List D} {us:List Value},Paired FlatD ds us→∃vs:List V,Vals vs us∧∀(K:Frag) (mg:MG) (F:Hp),DenL K mg F vs ds
 | _,_,.nil=>⟨[],.nil,fun _ _ _=>.nil⟩
 | _,_,.cons h t=>by
  obtain ⟨v,r,d⟩:=h.den
  obtain ⟨vs,rs,es⟩:=FlatD.dens t
  exact ⟨v::vs,.cons r rs,fun K mg F=>.cons (d K mg F) (es K mg F)⟩
def ValK (K:Frag) (d:D) (v:Value):Prop:=FlatD d v∨∃(ds:List D) (q:Addr) (its:Array Value) (n:Nat),d=.tup ds∧v=.ref q∧K.lookup q=some ⟨.type "tuple", none,.seq its n,#[]⟩∧its.size≤sizeLine∧Paired FlatD ds its.toList
theorem ValK.den {K:Frag} {d:D} {v:Value} (h:ValK K d v):∃u:V,RelV u v∧∀(mg:MG) (F:Hp),Den K mg F u d:=by
 rcases h with h | ⟨ds,q,its,n,rfl,rfl,hl,hz,hp⟩
 ·obtain ⟨u,r,d⟩:=h.den
  exact ⟨u,r,fun mg F=>d K mg F⟩
 ·obtain ⟨vs,rs,es⟩:=FlatD.dens hp
  exact ⟨.ref q,rfl,fun mg F=>.tup (.inr ⟨_,its,n,hl,rfl,rfl,hz,rs,rfl⟩) (es K mg F)⟩
theorem valT {K:Frag} {ds:List D} {q:Addr} {its:Array Value} {n:Nat} (hl:K.lookup q=some ⟨.type "tuple", none,.seq its n,#[]⟩) (hz:its.size≤sizeLine) (hp:Paired FlatD ds its.toList):ValK K (.tup ds) (.ref q):=.inr ⟨ds,q,its,n,rfl,rfl,hl,hz,hp⟩
structure TabT (w:World) (K:Frag) (mg:MG) (x:Str) (t:List (Str×D)) (ab:List Str):Prop where
 ex:∃(q:Addr) (es:Array DictEntry) (n:Nat),mg x=some (.ref q)∧(q == sysModules)=false∧K.lookup q=some ⟨.type "dict", none,.dict es n,#[]⟩∧PySem.W.KeysLit w.params es.toList∧(∀k d,t.lookup k=some d→∃v,PySem.W.nsIn K q k=some (some v)∧ValK K d v)∧∀k∈ab,PySem.W.nsIn K q k=some none
theorem kP {K:Frag} {q:Addr} {t:List (Str×D)} (h:∀p∈t,∃v,PySem.W.nsIn K q p.1=some (some v)∧ValK K p.2 v):∀k d,t.lookup k=some d→∃v,PySem.W.nsIn K q k=some (some v)∧ValK K d v :=
 fun k d e=>h (k,d) (PySem.mem_of_lookup e)
theorem jP {t:List (Str×D)} {ab:List Str} {p:Pos} (T:TabT X.w X.K X.mg x t ab) (hg:Gl X x) (hb:PV X EX b fb) (hdb:(x == ("__debug__" : Str))=false:=by decide)
  (hs:∀(q:Addr) (k:Str) (tk:Tok),subscripted b false (.ref q) (.str k tk)=operate [.ref q,.str k tk] (getItem (.ref q) (.str k tk)):=by intro _ _ _;with_unfolding_all rfl) :
  PV X EX (.Subscript (.Name x p) b pos) (m1 (tabD t) fb):=by
 intro pins s σ H Q I h
 obtain ⟨G,F,ρ,g0,o⟩:=h
 obtain ⟨q,es,n,hm,_,hl,hk,hv,_⟩:=T.ex
 refine Subscript_ (c7 I hg hm ?_ hdb)
 refine thn (hb pins s σ H _ I (au g0 o (fun x r q=>q) fun F1 H1 ρ1 d1 y s1 g1 r1 o1=>(⟨F1,ρ1,d1,s1,g1,r1,o1⟩:∃F1 ρ1 d1,Same F F1∧(lc X EX).Good G F1 H1 σ ρ1∧Den X.K X.mg F1 y d1∧Out (opt (tabD t d1) ρ1) (Post (lc X EX) (RV (lc X EX)) G F σ Q) (PostX (lc X EX) G F σ)))) fun u s2 ⟨y,H2,I2,r2,F1,ρ1,d1,s1,g1,den,o1⟩=>?_
 obtain ⟨d,e1,q1⟩:=o1.opt
 cases d1 with
 | str k =>
  cases den
  obtain ⟨tk,rfl⟩:=r2
  obtain ⟨v,hn,fl⟩:=hv k d e1
  obtain ⟨u2,ru,den2⟩:=fl.den
  have hm2:=PySem.W.mapOf_K (prog:=X.prog) (w:=X.w) I2.kIn hl hk
  refine PyProof.Rows.tail_any hm2.typeIs slot_dict_getitem.lookup (wpAny_getItem_of (strKind_is X.prog X.w k tk) hm2 (PySem.W.find_K hl hn) ?_) (hs q k tk)
  exact ⟨u2,H2,I2.tok _,ru,q1 F1 H2 u2 s1 g1 (den2 _ F1)⟩
 | _=>cases e1
def rInTab (w:World) (K:Frag) (neg:Bool):R2:=fun x y H Q=>∃(k:Str) (q:Addr) (es:Array DictEntry) (n:Nat) (r:Option Value),x=.str k∧y=.ref q∧(q == sysModules)=false∧K.lookup q=some ⟨.type "dict", none,.dict es n,#[]⟩∧PySem.W.KeysLit w.params es.toList ∧
 PySem.W.nsIn K q k=some r∧Q (.bl (if neg then !r.isSome else r.isSome)) H
theorem pJ:OpR X (compareOp .In) (rInTab X.w X.K false):=by
 intro pins s σ H x y v u Q I rx ry h
 obtain ⟨k,q,es,n,r,rfl,rfl,lo,hl,hk,hn,hq⟩:=h
 obtain ⟨tk,rfl⟩:=rx
 cases ry
 have hm2:=PySem.W.mapOf_K (prog:=X.prog) (w:=X.w) I.kIn hl hk
 refine wpAny_in_of (strKind_is X.prog X.w k tk) lo hm2 ?_
 rw [PySem.W.find_K hl hn]
 exact ⟨.bl _,H,I.tok _,rfl,hq⟩
theorem oT {neg:Bool} {t:List (Str×D)} {ab:List Str} {q:Addr} {es:Array DictEntry} {n:Nat} (lo:(q == sysModules)=false) (hl:X.K.lookup q=some ⟨.type "dict", none,.dict es n,#[]⟩) (hk:PySem.W.KeysLit X.w.params es.toList)
  (hv:∀k d,t.lookup k=some d→∃v,PySem.W.nsIn X.K q k=some (some v)∧ValK X.K d v) (hab:∀k∈ab,PySem.W.nsIn X.K q k=some none) (σ:St) (H:Hp) (Q:VK)
  (h:lift (lc X EX) (RV (lc X EX)) (m1 (tabInD neg t ab) fa) σ H Q):tOp (rInTab X.w X.K neg) (lift (lc X EX) (RV (lc X EX)) fa) (tC (.ref q)) σ H Q:=by
 obtain ⟨G,F,ρ,g0,o⟩:=h
 refine au g0 o (fun x r q=>q) fun F1 H1 ρ1 d1 x s1 g1 r1 o1=>?_
 obtain ⟨d,e1,q1⟩:=o1.opt
 cases d1 with
 | str k =>
  cases r1
  simp only [tabInD] at e1
  cases e2:t.lookup k with
  | some d2 =>
   rw [e2] at e1
   cases e1
   obtain ⟨v,hn,_⟩:=hv k d2 e2
   exact ⟨k,q,es,n,some v,rfl,rfl,lo,hl,hk,hn,by cases neg<;>exact q1 F1 H1 _ s1 g1 (.bl _)⟩
  | none =>
   rw [e2] at e1
   dsimp only at e1
   split at e1
   ·rename_i hm
    cases e1
    exact ⟨k,q,es,n,none,rfl,rfl,lo,hl,hk,hab k (by simpa using hm),by cases neg<;>exact q1 F1 H1 _ s1 g1 (.bl _)⟩
   ·cases e1
 | _=>cases e1
theorem xz {e:Expr} {f:M D} {t:TE} {tt:TT} (hp:PT X e tt) (k:∀σ H Q,t σ H (fun v H1=>∃b,v=.bl b∧Q b H1)→tt σ H Q) (hl:∀σ H Q,lift (lc X EX) (RV (lc X EX)) f σ H Q→t σ H Q):PB X EX e (VP.tB f) :=
 hp.le fun σ H Q ⟨G,F,ρ,g0,o⟩=>k σ H Q (hl σ H _ (au g0 o (fun x r q=>q) fun F1 H1 ρ1 d1 x s1 g1 r1 o1=>by
  cases d1 with
  | bl k=>cases r1;exact ⟨k,rfl,o1 F1 H1 k s1 g1 rfl⟩
  | _=>exact o1.elim))
theorem pN {t:List (Str×D)} {ab:List Str} {p:Pos} (T:TabT X.w X.K X.mg x t ab) (hg:Gl X x) (ha:PV X EX a fa) (hm:behindInMarks .In (.Name x p)=false) (hdb:(x == ("__debug__" : Str))=false:=by decide):PB X EX (.Compare a [.In] [.Name x p] pos) (VP.tB (m1 (tabInD false t ab) fa)):=by
 obtain ⟨q,es,n,h1,lo,hl,hk,hv,hab⟩:=T.ex
 exact xz (gi pJ ha (ge (v:=.ref q) hg h1 rfl hdb) hm) (fun _ _ _ h=>h) (oT lo hl hk hv hab)
theorem kl {K:Frag} {mg:MG} {F:Hp} {v:V} {d:D} (r:Den K mg F v d) (f:flatD d=true):flatV v=true:=by
 cases r<;>first | rfl | cases f
theorem qu {K:Frag} {mg:MG} {F:Hp} {v w:V} {d e:D} (r:Den K mg F v d) (q:Den K mg F w e) (f:flatD d=true) (f2:flatD e=true):eqV v w=eqB d e:=by
 cases r<;>cases q<;>first | rfl | cases f | cases f2
theorem md {K:Frag} {mg:MG} {F:Hp} {v:V} {d:D} (r:Den K mg F v d) (f:flatD d=true):∀{vs:List V} {ds:List D},DenL K mg F vs ds→ds.all flatD=true→vs.all flatV=true∧inV v vs=ds.any fun y=>eqB y d
 | _,_,.nil,_=>⟨rfl,rfl⟩
 | _,_,.cons h t,fs=>by
  rw [List.all_cons,Bool.and_eq_true] at fs
  obtain ⟨i1,i2⟩:=md r f t fs.2
  refine ⟨?_,?_⟩
  ·rw [List.all_cons,kl h fs.1,i1];rfl
  ·unfold inV at i2 ⊢
   rw [List.any_cons,List.any_cons,i2,qu h r fs.1 f]
theorem g_in (neg:Bool):OpG L (rIn L.K neg) (inD neg):=fun G F H σ ρ x y dx dy d Q g0 rx ry e k=>by
 unfold inD at e
 cases e1:seqD dy with
 | none=>rw [e1] at e;cases e
 | some ds =>
  rw [e1] at e
  dsimp only at e
  split at e
  ·rename_i hf
   rw [Bool.and_eq_true] at hf
   cases e
   obtain ⟨t,q,vs,rfl,hq,r⟩:=Den.seq ry e1
   obtain ⟨i1,i2⟩:=md rx hf.1 r hf.2
   refine ⟨q,vs,rfl,?_,kl rx hf.1,i1,?_⟩
   ·have:=SqS.same hq g0.sub
    cases t
    ·exact .inl this
    ·exact .inr this
   ·rw [i2];exact k F H _ (Same.refl _) g0 (.bl _)
  ·cases e
end
end VS

end
section
set_option linter.all false
set_option maxRecDepth 100000
namespace VS
open PySem PySem.Spec PyProof.Rows L2 VP
section
variable {K:Frag} {mg:MG} {G:Fx} {F H:Hp} {σ:St} {ρ:Rho}
theorem Good.snoc {l:Addr} {d:D} (g:Good K mg G F H σ ρ) (x:Loose K mg G F H σ ρ l d):Good K mg G F H (σ++[some (V.ref l)]) (ρ++[.ow d]):=by
 have low:∀{i:Nat} {s:Sl},(ρ++[Sl.ow d])[i]?=some s→(i<ρ.length∧ρ[i]?=some s∧(σ++[some (V.ref l)])[i]?=σ[i]?)∨(i=ρ.length∧s=.ow d∧(σ++[some (V.ref l)])[i]?=some (some (V.ref l))):=fun {i s} h=>by
  by_cases hi:i<ρ.length
  ·rw [List.getElem?_append_left hi] at h
   exact .inl ⟨hi,h,List.getElem?_append_left (by rw [g.len];exact hi)⟩
  ·rw [List.getElem?_append_right (by omega)] at h
   have:i=ρ.length:=by
    by_cases z:i-ρ.length=0
    ·omega
    ·rw [List.getElem?_eq_none (by simp;omega)] at h;cases h
   subst this
   simp at h
   refine .inr ⟨rfl,h.symm,?_⟩
   rw [List.getElem?_append_right (by rw [g.len];exact Nat.le_refl _),g.len];simp
 exact {
  sF:=g.sF
  sub:=g.sub
  old:=g.old
  new:=g.new
  len:=by simp [g.len]
  slot:=fun i s h=>by
   rcases low h with ⟨_,h1,h2⟩ | ⟨_,rfl,h2⟩
   ·rw [h2];exact g.slot i s h1
   ·rw [h2];exact ⟨l,rfl,x.nF,x.n0,x.ob⟩
  apart:=fun i j m s t h1 h2 o1 o2 e1 e2=>by
   rcases low h1 with ⟨_,a1,a2⟩ | ⟨a0,rfl,a2⟩
   ·rw [a2] at e1
    rcases low h2 with ⟨_,b1,b2⟩ | ⟨b0,rfl,b2⟩
    ·rw [b2] at e2;exact g.apart i j m s t a1 b1 o1 o2 e1 e2
    ·rw [b2] at e2;cases e2;exact absurd e1 (x.ns i s a1 o1)
   ·rw [a2] at e1
    cases e1
    rcases low h2 with ⟨_,b1,b2⟩ | ⟨b0,rfl,b2⟩
    ·rw [b2] at e2;exact absurd e2 (x.ns j t b1 o2)
    ·omega
  ioT:=g.ioT
  ioU:=g.ioU }
theorem Good.unsnoc {l:Addr} {d:D} {ρ':Rho} (g:Good K mg G F H (σ++[some (V.ref l)]) ρ') (hd:ρ'[σ.length]?=some (.ow d)):Good K mg G F H σ (ρ'.take σ.length)∧Loose K mg G F H σ (ρ'.take σ.length) l d:=by
 have g2:=g.take σ.length
 rw [List.take_left] at g2
 have at_:(σ++[some (V.ref l)])[σ.length]?=some (some (V.ref l)):=by simp
 obtain ⟨m,h1,h2,h3,h4⟩:=g.slot _ _ hd
 rw [at_] at h1
 cases h1
 refine ⟨g2,h2,h3,h4,fun i s h o e=>?_⟩
 have hi:i<σ.length:=by
  have:=(List.getElem?_eq_some_iff.mp h).1
  simp at this
  omega
 rw [List.getElem?_take_of_lt hi] at h
 have:=g.apart i σ.length l s _ h hd o rfl (by rw [List.getElem?_append_left hi];exact e) at_
 omega
theorem AvsR.more {L:Lc} {F:Hp} {σ t:St}:∀{vs:List V} {as:List AV},AvsR L F σ vs as→AvsR L F (σ++t) vs as
 | _,_,.nil=>.nil
 | _,_,.cons (a:=a) h r=>by
  refine .cons ?_ (AvsR.more r)
  cases a with
  | val d=>exact h
  | io j =>
   have hj:j<σ.length:=(List.getElem?_eq_some_iff.mp (show σ[j]?=_ from h)).1
   show (σ++t)[j]?=_
   rw [List.getElem?_append_left hj];exact h
end
section
variable {X:Cx} {EX:XE} {L:Lc} {e a b o value:Expr} {es:List Expr} {fa fe fo:M D} {as:List VP.Arg} {pos p apos:Pos} {x c m:Str}
variable {CX:CXT} {k:Nat} {fA C:Addr} {fd:FuncData} {ps:List Str} {fl:List Bool} {fs:Fn} {cs:List Str} {f:Str}
def FldK (K:Frag) (mg:MG) (cs:List Str) (f:Str):Prop:=∀c∈cs,∃C,mg c=some (.ref C)∧Cls K C∧NoAttr K C f
theorem eI {K:Frag} {mg:MG} {F:Hp} {f:Str} {d:D}:∀{fs:List (Str×V)} {ds:List D},DenL K mg F (fs.map (·.2)) ds→((fs.map (·.1)).zip ds).lookup f=some d→∃v,fs.lookup f=some v∧Den K mg F v d
 | [],_,.nil,h=>by cases h
 | (n,v)::fs,_,.cons h t,q=>by
  simp only [List.map_cons,List.zip_cons_cons,List.lookup_cons] at q ⊢
  split at q
  ·cases q;exact ⟨v,rfl,h⟩
  ·exact eI t q
theorem bv (T:FldK X.K X.mg cs f) (ha:PR X EX e fe) (hb:attributeBase e f X.env (eval e X.env)=eval e X.env:=by rfl):PV X EX (.Attribute e f pos) (m1 (fldD cs f) fe) :=
 (tO ha hb).le fun σ H Q ⟨G,F,ρ,g0,o⟩=>au g0 o (fun x r q=>q) fun F1 H1 ρ1 d1 y s1 g1 r1 o1=>by
  obtain ⟨d,e1,q⟩:=o1.opt
  cases d1 with
  | ins c ns vs =>
   simp only [fldD] at e1
   split at e1
   ·rename_i hc
    obtain ⟨C,hm,hC,hn⟩:=T c (by simpa using hc)
    rcases r1 with r1 | ⟨l,rfl,C',dx,fs,h1,h2,rfl,h4⟩
    ·cases r1 with
     | ins h hc' r =>
      obtain ⟨v,lv,dv⟩:=eI r e1
      rw [show (lc X EX).mg c=some (.ref C) from hm] at hc'
      cases hc'
      exact ⟨_,C,_,_,v,rfl,g1.sub _ _ h,hC,hn,lv,q F1 H1 v s1 g1 dv⟩
    ·obtain ⟨v,lv,dv⟩:=eI h4 e1
     rw [show (lc X EX).mg c=some (.ref C) from hm] at h2
     cases h2
     exact ⟨_,C,_,_,v,rfl,h1,hC,hn,lv,q F1 H1 v s1 g1 dv⟩
   ·cases e1
  | _=>cases e1
theorem kK {K:Frag} {mg:MG} {F:Hp} {f:Str} {v:V} {d:D} (h:Den K mg F v d):∀{fs:List (Str×V)} {ds:List D},DenL K mg F (fs.map (·.2)) ds→(putF f v fs).map (·.1)=(putND f d (fs.map (·.1)) ds).1∧DenL K mg F ((putF f v fs).map (·.2)) (putND f d (fs.map (·.1)) ds).2
 | [],_,.nil=>⟨rfl,.cons h .nil⟩
 | (n,w)::fs,_,.cons q t=>by
  obtain ⟨i1,i2⟩:=kK (f:=f) h t
  simp only [putF,List.map_cons,putND]
  split
  ·exact ⟨rfl,.cons h t⟩
  ·exact ⟨by simp [i1],.cons q i2⟩
theorem qh (i:Nat) {pos' p':Pos} (T:FldK X.K X.mg cs f) (hv:PV X EX value fe) (hN:X.N[i]?=some x:=by rfl) (hvs:Vis X.env.scope x:=by first | exact Or.inl rfl | exact Or.inr (Or.inl rfl) | exact Or.inr (Or.inr rfl)) (hd:(x == ("__debug__" : Str))=false:=by decide)
  (hcd:(x == ("__classdict__" : Str))=false:=by decide) (hs:swapsWith value (some (.Attribute (.Name x p') f pos')) pos.line X.env=pure false:=by rfl):PVS X EX (.Assign [.Attribute (.Name x p') f pos'] value pos) (sSetF i cs f fe) :=
 (tY (bz hN hvs hd hcd) hv hs).le fun E σ H ⟨G,F,ρ,g0,o⟩=>au g0 o (fun x r q=>q.x) fun F1 H1 ρ1 d1 v s1 g1 r1 o1=>by
  have o2:=o1.bnd
  unfold mUpd at o2
  cases q:ρ1[i]? with
  | none=>rw [q] at o2;exact o2.elim
  | some sl =>
   rw [q] at o2
   have go:∀(d:D) (l:Addr),own (some sl)=some d→σ[i]?=some (some (V.ref l))→Obj1 X.K X.mg F1 H1 l d→Owned sl=true→∃v_1,σ[i]?=some (some v_1)∧∃a C dx fs,v_1=V.ref a∧H1 a=some (HO.ins C dx fs)∧Cls X.K C∧NoAttr X.K C f∧fs.length<1000∧E.nx σ (upd H1 a (HO.ins C dx (putF f v fs))):=fun d l e1 e2 ob ow=>by
    rw [e1] at o2
    dsimp only at o2
    cases e3:setFD cs f d1 d with
    | none=>rw [e3] at o2;exact o2.elim
    | some d' =>
     rw [e3] at o2
     cases d with
     | ins c ns vs =>
      simp only [setFD] at e3
      split at e3
      ·rename_i hc
       rw [Bool.and_eq_true] at hc
       cases e3
       obtain ⟨C,dx,fs,h1,h2,rfl,h4⟩:=ob
       obtain ⟨C',hm,hC,hn⟩:=T c (by simpa using hc.1)
       rw [hm] at h2
       cases h2
       obtain ⟨p1,p2⟩:=kK (f:=f) r1 h4
       refine ⟨_,e2,l,C,dx,fs,rfl,h1,hC,hn,by simpa using of_decide_eq_true hc.2,?_⟩
       have ob':Obj1 X.K X.mg F1 (upd H1 l (HO.ins C dx (putF f v fs))) l (.ins c (putND f d1 (fs.map (·.1)) vs).1 (putND f d1 (fs.map (·.1)) vs).2):=⟨C,dx,_,ax,hm,p1,p2⟩
       have g2:(lc X EX).Good G F1 (upd H1 l (HO.ins C dx (putF f v fs))) σ (putS i (.ins c (putND f d1 (fs.map (·.1)) vs).1 (putND f d1 (fs.map (·.1)) vs).2) ρ1):=by
        unfold putS
        rw [q]
        cases sl with
        | ow z=>exact Good.write g1 q rfl e2 (.inl ⟨z,rfl,rfl⟩) ob'
        | io z=>exact Good.write g1 q rfl e2 (.inr ⟨z,rfl,rfl⟩) ob'
        | _=>cases ow
       exact o2 F1 _ σ s1 g2
      ·cases e3
     | _=>cases e3
   have k:=g1.slot i sl q
   cases sl with
   | no=>exact o2.elim
   | sh d=>exact o2.elim
   | ow d =>
    obtain ⟨l,z1,z2,z3,z4⟩:=k
    exact go d l rfl (aI z1) z4 rfl
   | io d =>
    obtain ⟨l,z1,z2,z3,z4⟩:=k
    exact go d l rfl (aI z1) z4 rfl
theorem lR {K:Frag} {mg:MG} {EX EX':XE} {F:Hp} {σ:St}:∀{vs:List V} {as:List AV},AvsR ⟨K,mg,EX⟩ F σ vs as→AvsR ⟨K,mg,EX'⟩ F σ vs as
 | _,_,.nil=>.nil
 | _,_,.cons (a:=a) h r=>.cons (by cases a<;>exact h) (lR r)
theorem fX {m:Str}:∀{fs:List (Str×V)},(fs.map (·.1)).contains m=false→fs.lookup m=none
 | [],_=>rfl
 | (n,v)::fs,h=>by
  simp only [List.map_cons,List.contains_cons,Bool.or_eq_false_iff] at h
  rw [List.lookup_cons,h.1]
  exact fX h.2
theorem d6 {pl:Sem Bool} (hcl:X.mg c=some (.ref C)) (cl:Cls X.K C) (hm:Meth X.K C m fA) (F:FnOk X.prog X.w X.K X.mg X.base CX k fA fd ps (spV X.K X.mg (false::fl) fs)) (hr:Room k X.A) (hb:Binds X.K fd ps []) (hx:PassesAt CX X EX)
  (ho:PV X EX o fo) (ha:PAs X EX (e::es) as) (hfl:as.map VP.Arg.isIo=fl:=by rfl)
  (hst:starEach (e::es) X.env=(false,eval e X.env)::starEach es X.env:=by rfl) (hpl:(backTo pos (starEach es X.env)).any (·.1)=false:=by rfl)
  (ht:eval (.Call (.Attribute o m apos) (e::es) [] pos) X.env=(do
   let ov ←eval o X.env
   standAt apos.atName
   let (f,first) ←holding [ov] (getMethod ov m pl)
   callWith pos f first (backTo pos (starEach (e::es) X.env)) (backToKw pos (keywordEach [] X.env))):=by rfl) :
  PV X EX (.Call (.Attribute o m apos) (e::es) [] pos) (mMeth c m fs fo as):=by
 intro pins s σ H Q I h
 obtain ⟨G,F0,ρ,g0,oo⟩:=h
 refine PySem.W.methodCall_KW (pl:=pl) (thn (ho pins s σ H _ I (au g0 oo (fun x r q=>q) fun F1 H1 ρ1 d1 x s1 g1 r1 o1=>(⟨F1,ρ1,d1,s1,g1,r1,o1⟩:∃F1 ρ1 d1,Same F0 F1∧(lc X EX).Good G F1 H1 σ ρ1∧Den X.K X.mg F1 x d1 ∧
  Out ((if insOf c m d1 then bnd (mArgs as) fun vs=>mApp fs (.val d1::vs) else stuck) ρ1) (Post (lc X EX) (RV (lc X EX)) G F0 σ Q) (PostX (lc X EX) G F0 σ)))) fun u s1 ⟨y,H1,I1,ry,F1,ρ1,d1,se,g1,r1,o1⟩=>?_) ht
 rcases o1.ite with ⟨hi,o2⟩ | ⟨_,o2⟩
 ·cases d1 with
  | ins c' ns vs =>
   simp only [insOf,Bool.and_eq_true,Bool.not_eq_true'] at hi
   have hc':c'=c:=by simpa using hi.1
   subst hc'
   cases r1 with
   | ins h hc2 r =>
    rw [hcl] at hc2
    cases hc2
    rename_i a dx fs0
    obtain rfl:u=Value.ref a:=ry
    refine k9 I1 (g1.sub _ _ h) cl hm (fX hi.2) ?_
    refine PySem.W.callWith_K (first:=[.ref a]) (h₀:=X.base) I.ok.mod.kin hm.kp (thn (ha pos pins s1 σ H1 (fun ws H2=>spV X.K X.mg (false::fl) fs (.ref a::ws) H2 Q (EX σ)) I1 ⟨G,F1,ρ1,g1,?_⟩) fun us s2 ⟨ws,H2,I2,r2,q2⟩=>⟨I2.kIn,?_⟩) hst hpl
    ·unfold VP.bnd at o2
     cases q:mArgs as ρ1 with
     | no=>rw [q] at o2;exact o2.elim
     | exc xx ρ2=>rw [q] at o2;exact PostX.same se o2
     | ok av ρ2 =>
      rw [q] at o2
      intro F2 H2 ws s2 g2 r2
      have r1':Den X.K X.mg F2 (.ref a) (.ins c' (fs0.map (·.1)) vs):=Den.same s2 (.ins h hcl r)
      exact kW (L:=lc X EX) g2 (.cons (show AvR (lc X EX) F2 σ (.ref a) (.val _) from r1') r2) (by rw [List.map_cons,bY q,hfl]) o2 (fun x r q=>q.same (se.trans s2)) fun F' H' ρ' d v s' g' rd P=>P F' H' v (se.trans (s2.trans s')) g' rd
    ·exact jR (us:=.ref a::us) (vs:=.ref a::ws) F hr hb hx I2 (.cons rfl r2) q2
  | _=>cases hi
 ·exact o2.elim
theorem nA {pins:List (Addr×Obj)} {σ:St} {H:Hp} {s:Shared} {Q:VK} {us:List Value} {vs:List V} {sp:Sp} (M:Mk X.K C fA) (F:FnOk X.prog X.w X.K X.mg X.base CX k fA fd ps sp) (hr:Room (k+1) X.A) (hb:Binds X.K fd ps [])
  (hx:PassesAt CX X EX) (I:Inv X pins σ H s) (r:Vals vs us)
  (h:∀x dx,H x=none→H dx=none→dx≠x→sp (.ref x::vs) (upd (upd H dx (.own x)) x (.ins C dx [])) (fun v H2=>v=.non∧Q (.ref x) H2) (EX σ)) :
  wpAny (model X.prog X.w) X.A (call (.ref C) us) (EP X pins σ Q) X.xe s:=by
 have hq:=h (s.heap.objs.size+1) s.heap.objs.size (I.hok.fresh (Nat.le_succ _)) (I.hok.fresh (Nat.le_refl _)) (Nat.ne_of_lt (Nat.lt_succ_self _))
 have I2:=Inv.made (C:=C) I
 have r2:Vals (V.ref (s.heap.objs.size+1)::vs) (Value.ref (s.heap.objs.size+1)::us):=.cons rfl r
 have hl:(Value.ref (s.heap.objs.size+1)::us).length=ps.length:=by rw [←F.len _ _ _ _ hq];exact r2.length.symm
 have hb':=hb _ (Value.ref (s.heap.objs.size+1)::us) I2.kIn (by simpa using hl)
 rw [List.append_nil] at hb'
 refine wpAny_call (pj (f:=fA) I.kIn M.makes M.init (beq_iff_eq.mp M.fn) (codeAny_mono (F.run _ X.stack _ _ ⟨Value.ref (s.heap.objs.size+1)::us,[]⟩ (Value.ref (s.heap.objs.size+1)::us) _ _ (EX σ) (hr.make C us []) (I2.env0.make C us []) hb' r2 hq) fun r s' hq'=>?_))
 cases r with
 | error e=>exact hx pins σ _ _ e s' I2 hq'
 | ok fl =>
  cases fl with
  | ret u =>
   obtain ⟨v,H',I3,rv,ev,q3⟩:=I2.after hq'
   subst ev
   exact ⟨rv,⟨V.ref (s.heap.objs.size+1),H',I3,rfl,q3⟩⟩
  | next=>exact False.elim hq'
  | brk=>exact False.elim hq'
  | cont=>exact False.elim hq'
theorem jJ (M:Mk X.K C fA) (F:FnOk X.prog X.w X.K X.mg X.base CX k fA fd ps (spV X.K X.mg (true::fl) fs)) (hr:Room (k+1) X.A) (hg:Gl X c) (hm:X.mg c=some (.ref C)) (hb:Binds X.K fd ps []) (hx:PassesAt CX X EX)
  (ha:PAs X EX (e::es) as) (hfl:as.map VP.Arg.isIo=fl:=by rfl) (hdb:(c == ("__debug__" : Str))=false:=by decide) (he:starEach (e::es) X.env=(false,eval e X.env)::starEach es X.env:=by rfl) (hpl:(backTo pos (starEach es X.env)).any (·.1)=false:=by rfl) :
  PF X EX (.Call (.Name c p) (e::es) [] pos) (mMake c fs as):=by
 intro pins s σ H Q I h
 obtain ⟨G,F0,ρ,g0,o⟩:=h
 refine wpAny_Call_Name_kw (c7 I hg hm ?_ hdb)
 refine PySem.W.callWith_K (h₀:=X.base) I.ok.mod.kin M.kp (thn (ha pos pins s σ H (fun vs H1=>∀x dx,H1 x=none→H1 dx=none→dx≠x→spV X.K X.mg (true::fl) fs (.ref x::vs) (upd (upd H1 dx (.own x)) x (.ins C dx [])) (fun v H2=>v=.non∧Q (.ref x) H2) (EX σ)) I ⟨G,F0,ρ,g0,?_⟩) fun us s1 ⟨vs,H1,I1,r,q⟩=>⟨I1.kIn,nA M F hr hb hx I1 r q⟩) he hpl
 unfold mMake VP.bnd at o
 cases q:mArgs as ρ with
 | no=>rw [q] at o;exact o.elim
 | exc xx ρ1=>rw [q] at o;exact o
 | ok av ρ1 =>
  rw [q] at o
  intro F1 H1 vs s1 g1 r1 x dx hxn hdn hne
  have hx2:upd H1 dx (.own x) x=none:=by rw [aq (Ne.symm hne)];exact hxn
  have g2:(lc X EX).Good G F1 (upd (upd H1 dx (.own x)) x (.ins C dx [])) σ ρ1:=(g1.made hdn).made hx2
  have lo:Loose X.K X.mg G F1 (upd (upd H1 dx (.own x)) x (.ins C dx [])) σ ρ1 x (.ins c [] []):=Good.loose (g1.made hdn) hx2 ⟨C,dx,[],ax,hm,rfl,.nil⟩
  have g3:=Good.snoc g2 lo
  have len:σ.length=ρ1.length:=g1.len
  have av0:AvR (⟨X.K,X.mg,fun _=>EX σ⟩:Lc) F1 (σ++[some (V.ref x)]) (.ref x) (.io ρ1.length):=by
   show (σ++[some (V.ref x)])[ρ1.length]?=_
   rw [←len];simp
  have o':Out (mNew c fs av ρ1) (Post (lc X EX) (RF (lc X EX)) G F0 σ Q) (PostX (lc X EX) G F0 σ):=o
  have bk:Out (mApp fs (.io ρ1.length::av) (ρ1++[.ow (.ins c [] [])])) (fun d r'=>d=.non∧∃d',r'[ρ1.length]?=some (.ow d')∧Post (lc X EX) (RF (lc X EX)) G F0 σ Q d' (r'.take ρ1.length)) (fun x r'=>PostX (lc X EX) G F0 σ x (r'.take ρ1.length)):=by
   unfold mNew at o'
   cases e1:mApp fs (.io ρ1.length::av) (ρ1++[.ow (.ins c [] [])]) with
   | no=>rw [e1] at o';exact o'
   | exc y r'=>rw [e1] at o';exact o'
   | ok d r' =>
    rw [e1] at o'
    cases d with
    | non =>
     dsimp only at o'
     cases e2:r'[ρ1.length]? with
     | none=>rw [e2] at o';exact o'.elim
     | some sl =>
      rw [e2] at o'
      cases sl with
      | ow d'=>exact ⟨rfl,d',e2,o'⟩
      | _=>exact o'.elim
    | _=>exact o'.elim
  refine kW (L:=⟨X.K,X.mg,fun _=>EX σ⟩) (G:=G) (F:=F1) (σ:=σ++[some (V.ref x)]) g3 (.cons av0 (AvsR.more (L:=⟨X.K,X.mg,fun _=>EX σ⟩) (by exact lR r1))) (by rw [List.map_cons,bY q,hfl]) bk (fun y r' z F' H' cc dd s' g' xr=>?_) fun F' H' ρ' d v s' g' rd P=>?_
  ·have gt:=g'.take σ.length
   rw [List.take_left,len] at gt
   exact z F' H' cc dd (s1.trans s') gt xr
  ·obtain ⟨rfl,d',e2,P⟩:=P
   cases rd
   rw [←len] at e2 P
   obtain ⟨gt,lo'⟩:=Good.unsnoc g' e2
   exact ⟨rfl,P F' H' _ (s1.trans s') gt ⟨x,rfl,lo'⟩⟩
end
end VS

end
section
set_option linter.all false
set_option maxRecDepth 100000
namespace VS
open PySem PySem.Spec PyProof.Rows L2 VP
def Ite (K:Frag) (p:Addr):It :=
  ⟨fun i H=>∃xs x,SqL K H p xs∧xs[i]?=some x,
   fun i H v H'=>∃q x,H q=none∧v=.ref q∧H'=upd H q (.tup [.int i,x])∧∀xs,SqL K H p xs→xs[i]?=some x,
   fun i H=>∃xs,SqL K H p xs∧i=xs.length⟩
theorem nK {P:Program} {w:World} {K:Frag} {es:List Expr} {k:Nat} {tpos:Pos} {p e it:Addr} (n1:p≠it) (n2:e≠it) (n3:e≠p) :
  Turn P w K (.Tuple es k tpos) (Ite K p) [e,it] e (fun i h=>(∃old,IsEnum h e it i old)∧h.IsListIter it p i) where
 mem:=by simp
 obj:=fun i h st b hb=>by
  obtain ⟨⟨old,he⟩,o,hi,hc,hd⟩:=st
  simp only [List.mem_cons,List.not_mem_nil,or_false] at hb
  rcases hb with rfl | rfl
  ·exact ⟨_,he,fun v q=>by cases q⟩
  ·exact ⟨_,hi,fun v q=>by rw [hd] at q;cases q⟩
 keep:=fun i h h' st kk=>by
  obtain ⟨⟨old,he⟩,hi⟩:=st
  exact ⟨⟨old,kk e (by simp) _ he⟩,hi.at fun o q=>kk it (by simp) o q⟩
 item:=by
  intro X hP hw hK hc i pins s σ H E I hf st hg
  subst hP hw hK
  obtain ⟨⟨old,he⟩,hi⟩:=st
  obtain ⟨xs,x,q1,e1⟩:=hg
  obtain ⟨its,rv,pl,_⟩:=I.list q1
  obtain ⟨u,hu,ru⟩:=rv.get e1
  have hh:X.A.handled=none:=I.ok.hd hc
  have lt1:i<its.toArray.size:=by have:=(List.getElem?_eq_some_iff.mp hu).1;simpa using this
  refine wpAny_pyNext_enum_itemD (Draws.list (by exact hh) it p n1 its.toArray) he ⟨hi,pl.isList⟩ lt1 n2 (by simp [n2,n3]) fun x' h' tk px ho st' pr hsz kp=>?_
  have ex:x'=u:=by
   have:its.toArray[i]?=some u:=by simpa using hu
   rw [this] at px;exact (Option.some.inj px).symm
  subst ex
  refine ⟨_,rfl,wpAny_letOwnedTupleGo_enum ho fun h'' z2 sb=>?_⟩
  replace sb:Heap.SameBut e h' h'':=sb
  have szlt:e≠s.heap.objs.size:=Nat.ne_of_lt (Heap.lt_size he)
  have kp2:∀c o,c∉[e,it]→s.heap.get? c=some o→h''.get? c=some o:=fun c o hc' q=>by
   simp only [List.mem_cons,List.not_mem_nil,or_false,not_or] at hc'
   exact sb.extBut c o hc'.1 (kp c o hc'.1 hc'.2 q)
  have IX:=Inv.pair (tk:=tk+1) (h':=h'') (x:=.int i) (y:=x) I hf kp2 (sb.extBut _ _ (Ne.symm szlt) pr) ⟨_,rfl⟩ ru
  refine ⟨.ref s.heap.objs.size,_,IX,rfl,⟨_,x,I.hok.fresh (Nat.le_refl _),rfl,rfl,fun xs' hx'=>by rw [I.list_inj hx' q1];exact e1⟩,⟨⟨_,by simpa using z2⟩,st'.1.at fun o q=>sb.extBut _ o (Ne.symm n2) q⟩,fun b hb=>?_⟩
  have hbs:b≠s.heap.objs.size:=by
   simp only [List.mem_cons,List.not_mem_nil,or_false] at hb
   rcases hb with rfl | rfl
   ·exact szlt
   ·obtain ⟨o,q,_⟩:=hi;exact Nat.ne_of_lt (Heap.lt_size q)
  rw [aq hbs]
  exact (hf b hb).1
 done:=by
  intro X hP hw hK hc i pins s σ H E I hf st hg
  subst hP hw hK
  obtain ⟨⟨old,he⟩,hi⟩:=st
  obtain ⟨xs,q1,hend⟩:=hg
  obtain ⟨its,rv,pl,_⟩:=I.list q1
  have l1:=rv.length
  have hh:X.A.handled=none:=I.ok.hd hc
  have ee:i=its.toArray.size:=by simp;omega
  rw [ee] at he hi
  refine wpAny_pyNext_enum_endD (Draws.list (by exact hh) it p n1 its.toArray) he ⟨hi,pl.isList⟩ fun h' hk=>⟨rfl,Inv.turnedL (h':=h') I hf fun c o hc'' q=>?_⟩
  simp only [List.mem_cons,List.not_mem_nil,or_false,not_or] at hc''
  exact hk c o hc''.2 q
 self:=fun _ _ _ _ _ st h=>by
  obtain ⟨⟨old,he⟩,_⟩:=st
  exact wpAny_pyIter_enum he h
theorem lx (l:Addr) (xs:Array Value) (n:Nat) (sl:Array (Option Value)):Meets (Builtin.«enumerate.__new__» ⟨[.type "enumerate", .ref l],[]⟩) (fun _ R s=>s.heap.get? l=some { cls:=.type "list", dict:=none,data:=.seq xs n,slots:=sl } ∧
  R (.ok (.ret (.ref (s.heap.push { cls:=.type "list_iterator", data:=.fields #[.ref l,.int 0 0] }).objs.size))) { s with heap:=(s.heap.push { cls:=.type "list_iterator", data:=.fields #[.ref l,.int 0 0] }).push { cls:=.type "enumerate", data:=.fields #[.none,.bool false,.ref s.heap.objs.size,rawInt 0,.none,.none] } }) :=
 .of_wp fun prog w A R s z=>by
  obtain ⟨hp,g,d,tk,os⟩:=s
  obtain ⟨q1,q2⟩:=z
  have z1:=sub_enumerate
  have z2:Heap.IsList (Shared.heap ⟨hp,g,d,tk,os⟩) l xs:=⟨_,q1,rfl,n,rfl⟩
  wp_walk using AutoSeq1.wpAny_loadPart' q1
  refine wpAny_stack_any fun st=>wpAny_pure ?_
  split
  ·rename_i c _ _ _ _ _
   cases (c == Value.type "enumerate")<;>(wp_walk using AutoSeq1.wpAny_loadPart' q1,wpAny_pyIter_list z2;exact ⟨_,rfl,q2⟩)
  ·wp_walk using AutoSeq1.wpAny_loadPart' q1,wpAny_pyIter_list z2
   exact ⟨_,rfl,q2⟩
section
variable {X:Cx} {EX:XE} {L:Lc} {e a b:Expr} {fa fb fe:M D} {pos p:Pos} {x:Str}
theorem gw:bootBuiltins "enumerate" = some (.type "enumerate"):=by kernel_rfl
def iEnum (K:Frag) (t:TA):TI:=fun σ H R=>t σ H fun vs H1=>∃q,vs=[.ref q]∧(∃xs,SqL K H1 q xs)∧R (Ite K q) H1
theorem q9 {es:List Expr} {k:Nat} {tpos:Pos} {t:TA} (hg:Gl X "enumerate") (hm:X.mg "enumerate" = none) (ha:PA X [a] t) (hs:starEach [a] X.env=[(false,eval a X.env)]:=by rfl) :
  PI X (.Tuple es k tpos) (.Call (.Name "enumerate" p) [a] [] pos) (iEnum X.K t):=by
 intro pins s σ H R I h
 refine Call_ (cO I hg hm gw (PyProof.Rows.callWith_type1 (thn (ha pos pins s σ H _ I h) fun us s1 ⟨vs,H1,I1,r1,q1⟩=>?_) hs rfl))
 obtain ⟨q,e,⟨xs,h1⟩,hR⟩:=q1
 subst e
 obtain ⟨u,rfl,ru⟩:=vals1 r1
 cases ru
 obtain ⟨its,rv,pl,_⟩:=I1.list h1
 obtain ⟨⟨c0,d0,dt0,sl0⟩,n,hq,hc0,hd0,hdt0⟩:=pl
 simp only at hc0 hd0 hdt0
 subst hc0 hd0 hdt0
 have lt:q<s1.heap.objs.size:=Heap.lt_size hq
 refine callType_new PySem.F.called_enumerate (by decide) (PySem.F.typeCall_enumerate_1 _) (PySem.F.newCall_enumerate_1 _) (fun obj=>PySem.F.args_object_init_2 obj _) PySem.F.entry_enumerate_new (lx q its.toArray n sl0) ⟨hq,⟨_,Heap.get?_push_size _ rfl,rfl⟩,?_⟩
 have sz:(s1.heap.push { cls:=.type "list_iterator", data:=.fields #[.ref q,.int 0 0] }).objs.size=s1.heap.objs.size+1:=Heap.size_push ..
 have he:IsEnum ((s1.heap.push { cls:=.type "list_iterator", data:=.fields #[.ref q,.int 0 0] }).push { cls:=.type "enumerate", data:=.fields #[.none,.bool false,.ref s1.heap.objs.size,rawInt 0,.none,.none] }) (s1.heap.objs.size+1) s1.heap.objs.size 0 .none:=by
  rw [←sz];exact Heap.get?_push_size _ rfl
 rw [sz]
 refine wpAny_pyIter_enum he ?_
 have IX:Inv X pins σ H1 { s1 with heap:=(s1.heap.push { cls:=.type "list_iterator", data:=.fields #[.ref q,.int 0 0] }).push { cls:=.type "enumerate", data:=.fields #[.none,.bool false,.ref s1.heap.objs.size,rawInt 0,.none,.none] } } :=
  I1.kept (t':=s1.toks) fun b o e=>Heap.get?_push_of_some _ (Heap.get?_push_of_some _ e)
 refine ⟨_,[s1.heap.objs.size+1,s1.heap.objs.size],_,_,H1,rfl,IX,nK (Nat.ne_of_lt lt) (by simp) (Nat.ne_of_gt (Nat.lt_succ_of_lt lt)),⟨⟨_,he⟩,⟨_,Heap.get?_push_of_some _ (Heap.get?_push_size _ rfl),rfl,rfl⟩⟩,fun c hc=>?_,hR⟩
 have hle:s1.heap.objs.size≤c:=by
  simp only [List.mem_cons,List.not_mem_nil,or_false] at hc
  rcases hc with rfl | rfl
  ·exact Nat.le_add_right _ _
  ·exact Nat.le_refl _
 exact I1.fpOk hle (I1.hok.fresh hle)
theorem oX {G:Fx} {F:Hp} {q:Addr} {vs:List V} {ds:List D} (h1:SqL L.K F q vs) (r1:DenL L.K L.mg F vs ds) :
  ItR L G F (Ite L.K q) (enumL ds):=fun σ i F' H' ρ s g=>by
 have q1:SqL L.K H' q vs:=SqL.same (SqL.same h1 s) g.sub
 have l1:=r1.length
 have le:(enumL ds).length=ds.length:=by simp [enumL]
 refine ⟨fun hi=>?_,fun hi=>?_,fun x H'' y=>?_⟩
 ·exact ⟨vs,vs[i]'(by omega),q1,by simp [show i<vs.length by omega]⟩
 ·exact ⟨vs,q1,by omega⟩
 ·obtain ⟨b,u,hq,rfl,rfl,y1⟩:=y
  have sF:=aH (o:=.tup [.int i,u]) (g.sub.free hq)
  refine ⟨_,sF,g.laid hq,fun d hd=>?_⟩
  unfold enumL at hd
  rw [List.getElem?_zipWith] at hd
  cases e1:ds[i]? with
  | none=>rw [e1] at hd;cases e2:(List.range ds.length)[i]?<;>rw [e2] at hd<;>cases hd
  | some d1 =>
   have hi:i<ds.length:=(List.getElem?_eq_some_iff.mp e1).1
   rw [e1,List.getElem?_range hi] at hd
   cases hd
   obtain ⟨u',a1,a2⟩:=(r1.same s).get e1
   rw [y1 vs q1] at a1
   cases a1
   exact .tup (SqT.of ax) (.cons (.int i) (.cons (a2.same sF) .nil))
theorem mG {es:List Expr} {k:Nat} {tpos:Pos} {fl:List (M D)} (hg:Gl X "enumerate") (hm:X.mg "enumerate" = none) (ha:PLs X EX [a] (mL fl)) (hs:starEach [a] X.env=[(false,eval a X.env)]:=by rfl) :
  PVI X EX (.Tuple es k tpos) (.Call (.Name "enumerate" p) [a] [] pos) (mEnum fl) :=
 (q9 hg hm ha hs).le fun σ H Q ⟨G,F,ρ,g0,o⟩=>au g0 o (fun x r q=>q) fun F1 H1 ρ1 d1 xs s1 g1 r1 o1=>by
  obtain ⟨ds,e,q⟩:=o1.opt
  unfold enumD at e
  split at e
  ·cases r1 with
   | cons h1 r1 =>
    cases r1;cases e
    cases h1 with
    | lst h r=>exact ⟨_,rfl,⟨_,SqL.same h g1.sub⟩,q F1 H1 _ s1 g1 (oX h r)⟩
  ·cases e
end
end VS

end
section
set_option linter.all false
set_option maxRecDepth 100000
namespace VS
open PySem PySem.Spec PyProof.Rows L2 VP
section
variable {X:Cx} {EX:XE} {L:Lc} {e a b:Expr} {fa fb fe:M D} {pos p:Pos} {x c:Str}
theorem aD {st:Stmt}:PVS X EX st sNever:=fun pins s σ H E I ⟨G,F,ρ,g0,o⟩=>o.elim
structure IsaF (K:Frag) (D:Addr):Prop where
 pg:PySem.W.plainGet K D "__class__" = true
 hd:PySem.W.hasDictIn K D=true
 fi:PySem.W.findIn K (.ref D) "__class__" = some (some (.builtin "object.__class__"))
 mr:PySem.W.mroIn K D (.type "object")=some true
structure IsaK (K:Frag) (mg:MG) (c:Str) (subs:List (Str×Bool)):Prop where
 sp:PySem.W.specialIn K (.builtin "object.__class__") "__get__" = some (some (.builtin "getset_descriptor.__get__"))
 tk:PySem.W.takesIn K (.builtin "object.__class__")=some true
 ex:∃C,mg c=some (.ref C)∧∀p∈subs,∃D,mg p.1=some (.ref D)∧IsaF K D∧PySem.W.kitOne K (.ref D) (.ref C)=some p.2
def rIsaC (K:Frag) (C:Addr):List V→Hp→VK→Prop:=fun xs H Q=>∃q D dx fs b,xs=[.ref q,.ref C]∧H q=some (.ins D dx fs)∧IsaF K D∧PySem.W.kitOne K (.ref D) (.ref C)=some b∧Q (.bl b) H
theorem mP {C:Addr} (sp:PySem.W.specialIn X.K (.builtin "object.__class__") "__get__" = some (some (.builtin "getset_descriptor.__get__"))) (tk:PySem.W.takesIn X.K (.builtin "object.__class__")=some true):CallR X (.builtin "isinstance") (rIsaC X.K C):=by
 intro pins s σ H xs us Q I r h
 obtain ⟨q,D,dx,fs,b,rfl,hq,f,hb,k⟩:=h
 obtain ⟨u,v,rfl,ru,rv⟩:=vals2 r
 cases ru
 cases rv
 obtain ⟨h1,h2,h3,h4,mA,h5,h6⟩:=(show ObjOk X.prog X.w H s.heap q (.ins D dx fs) from I.hok q _ hq)
 obtain ⟨od,hod⟩:=(show ∃o,s.heap.get? dx=some o from I.hok dx _ h1)
 exact PySem.W.kia_one (PySem.W.kitx_own f.pg f.hd f.fi sp tk f.mr) I.kIn ⟨h4,rfl,rfl,hod⟩ hb (fun z=>nomatch z) fun tk=>⟨.bl b,H,I.tok tk,rfl,k⟩
theorem rl {subs:List (Str×Bool)} {pT:Pos} (T:IsaK X.K X.mg c subs) (hg:Gl X "isinstance") (hm:X.mg "isinstance" = none) (hgT:Gl X c) (ha:PR X EX a fa) (hdT:(c == ("__debug__" : Str))=false:=by decide)
  (hs:starEach [a,.Name c pT] X.env=(false,eval a X.env)::starEach [.Name c pT] X.env:=by rfl) (hs2:starEach [.Name c pT] X.env=(false,eval (.Name c pT) X.env)::starEach [] X.env:=by rfl) (hpl:(backTo pos (starEach [.Name c pT] X.env)).any (·.1)=false:=by rfl) :
  PV X EX (.Call (.Name "isinstance" p) [a,.Name c pT] [] pos) (m1 (isaC subs) fa):=by
 obtain ⟨C,hC,hsub⟩:=T.ex
 exact (cz (mP (C:=C) T.sp T.tk) hg hm boot_isinstance (aR ha (aR (ge (v:=.ref C) hgT hC rfl hdT) bM hs2) hs) (by decide) (by decide) hs hpl).le fun σ H Q ⟨G,F,ρ,g0,o⟩=>au g0 o (fun x r q=>q) fun F1 H1 ρ1 d1 x s1 g1 r1 o1=>by
  obtain ⟨d,e,q⟩:=o1.opt
  cases d1 with
  | ins c' ns vs =>
   simp only [isaC] at e
   cases e1:subs.lookup c' with
   | none=>rw [e1] at e;cases e
   | some b =>
    rw [e1] at e
    cases e
    obtain ⟨D,hD,f,hb⟩:=hsub (c',b) (PySem.mem_of_lookup e1)
    rcases r1 with r1 | ⟨l,rfl,D',dx,fs,z1,z2,z3,z4⟩
    ·cases r1 with
     | ins h hc r =>
      rw [show (lc X EX).mg c'=some (.ref D) from hD] at hc
      cases hc
      exact ⟨_,D,_,_,b,rfl,g1.sub _ _ h,f,hb,q F1 H1 _ s1 g1 (.bl _)⟩
    ·rw [show (lc X EX).mg c'=some (.ref D) from hD] at z2
     cases z2
     exact ⟨_,D,_,_,b,rfl,z1,f,hb,q F1 H1 _ s1 g1 (.bl _)⟩
  | _=>cases e
structure ClsK (K:Frag) (mg:MG) (c:Str) (C:Addr):Prop where
 mg:mg c=some (.ref C)
 cls:Cls K C
structure MetF (K:Frag) (x qual:Str) (st:Stmt) (ps:List Str) (f:Addr) (fd:FuncData):Prop where
 fu:Fun K x qual st f fd
 bi:Binds K fd ps []
end
end VS

end
section
set_option linter.all false
set_option maxRecDepth 100000
namespace VS
open PySem PySem.Spec PyProof.Rows L2 VP
def Itd (lo:Int) (n:Nat):It:=⟨fun i _=>i<n,fun i H x H'=>H'=H∧x=.int (lo-i),fun i _=>n≤i⟩
theorem nJ {P:Program} {w:World} {K:Frag} {tg:Expr} (it:Addr) (lo:Int) (n:Nat):Turn P w K tg (Itd lo n) [it] it (fun i h=>IsRangeIter h it (lo+(i:Nat)*(-1)) ((n:Int)-(i:Nat)) (-1)) where
 mem:=by simp
 obj:=fun i h st b hb=>by
  have e:b=it:=by simpa using hb
  subst e
  exact ⟨_,st,fun v z=>by
   have z':Data.fields _=Data.cell v:=z
   cases z'⟩
 keep:=fun i h h' st k=>k it (by simp) _ st
 item:=by
  intro X hP hw hK hc i pins s σ H E I hf st hg
  subst hP hw hK
  obtain ⟨f0,f1,f2,f3,f4,f5⟩:=hf it (by simp)
  refine (Walks.range (prog:=X.prog) (w:=X.w) (I.ok.hd hc) it lo (-1) n).item i s _ _ hg st fun v h' tk hv st' kk=>?_
  obtain ⟨t,rfl⟩:=hv
  have I1:Inv X pins σ H { s with heap:=h',toks:=tk }:=I.turned (fun b o hb e=>kk b o (by simpa using hb) e) f0 f1 f3 f4 f5
  refine ⟨_,rfl,kn (s:={ s with heap:=h',toks:=tk }) (n := "range_iterator") st' rfl rfl (by decide) ⟨.int (lo-i),H,I1,⟨t,?_⟩,⟨rfl,rfl⟩,st',fun b hb=>(hf b hb).1⟩⟩
  rw [show lo+(i:Int)*-1=lo-i by omega]
 done:=by
  intro X hP hw hK hc i pins s σ H E I hf st hg
  subst hP hw hK
  obtain ⟨f0,f1,f2,f3,f4,f5⟩:=hf it (by simp)
  exact wpAny_pyNext_range_end (I.ok.hd hc) st (by have:n≤i:=hg;omega) fun h' eb=>⟨rfl,I.turned (t':=s.toks) (fun b o hb e=>eb b o hb e) f0 f1 f3 f4 f5⟩
 self:=fun _ _ _ _ _ st h=>wpAny_pyIter_rangeiter st h
section
variable {X:Cx} {EX:XE} {L:Lc} {tg a b c:Expr} {p pos:Pos}
def iDown (ta:TA):TI:=fun σ H R=>ta σ H fun vs H1=>∃i j:Int,vs=[.int i,.int j,.int (-1)]∧(-(2 ^ 62)≤i∧i<2 ^ 62∧-(2 ^ 62)≤j∧j<2 ^ 62)∧R (Itd i (i-j).toNat) H1
theorem q8 {ta:TA} (hg:Gl X "range") (hm:X.mg "range" = none) (ha:PA X [a,b,c] ta) (hs:starEach [a,b,c] X.env=[(false,eval a X.env),(false,eval b X.env),(false,eval c X.env)]:=by rfl) (hs2:starEach [b,c] X.env=[(false,eval b X.env),(false,eval c X.env)]:=by rfl) :
  PI X tg (.Call (.Name "range" p) [a,b,c] [] pos) (iDown ta):=by
 intro pins s σ H R I h
 refine Call_ (cO I hg hm boot_range (PyProof.Rows.callWith_type1 (thn (ha pos pins s σ H _ I h) fun us s1 ⟨vs,H1,I1,r1,q1⟩=>?_) (by rw [hs,hs2]) (by rw [hs2];rfl)))
 obtain ⟨i,j,e,⟨q1,q2,q3,q4⟩,q⟩:=q1
 subst e
 cases r1 with
 | cons r rr=>cases rr with
  | cons r' rr=>cases rr with
   | cons r'' rr =>
    cases rr
    obtain ⟨t,rfl⟩:=r
    obtain ⟨u,rfl⟩:=r'
    obtain ⟨v,rfl⟩:=r''
    refine call_range_3 (by decide) ?_ (.inl (PyProof.noPylong_small (by decide)))
    have I2:Inv X pins σ H1 { s1 with heap:=s1.heap.push { cls:=.type "range", data:=.fields #[.int i t,.int j u,.int (-1) v] },toks:=s1.toks }:=I1.kept fun b o e=>Heap.get?_push_of_some _ e
    refine wpAny_pyIter_range (IsRange.new ..) (PySem.W.small_down q1 q2 q3 q4) ?_
    refine ⟨(s1.heap.push { cls:=.type "range", data:=.fields #[.int i t,.int j u,.int (-1) v] }).objs.size,[(s1.heap.push { cls:=.type "range", data:=.fields #[.int i t,.int j u,.int (-1) v] }).objs.size],_,_,H1,rfl,
     I2.kept (t':=s1.toks) fun b o e=>Heap.get?_push_of_some _ e,nJ _ i (i-j).toNat,?_,fun b hb=>?_,q⟩
    ·show IsRangeIter _ _ (i+((0:Nat):Int)*(-1)) ((((i-j).toNat:Nat):Int)-((0:Nat):Int)) (-1)
     rw [show i+((0:Nat):Int)*(-1)=i by simp,show (((i-j).toNat:Nat):Int)-((0:Nat):Int)=Builtin.Range.rangeSize i j (-1) by rw [PySem.W.rangeSize_downNat];simp]
     exact Heap.get?_push_size _ rfl
    ·have e:b=(s1.heap.push { cls:=.type "range", data:=.fields #[.int i t,.int j u,.int (-1) v] }).objs.size:=by simpa using hb
     subst e
     exact I2.fpOk (Nat.le_refl _) (I2.hok.fresh (Nat.le_refl _))
theorem oW {G:Fx} {F:Hp} (lo:Int) (n:Nat):ItR L G F (Itd lo n) ((List.range n).map fun (k:Nat)=>.int (lo-k)):=fun σ i F' H' ρ s g=>by
 refine ⟨fun hi=>?_,fun hi=>?_,fun x H'' y=>?_⟩
 ·exact (by simpa using hi:i<n)
 ·exact Nat.le_of_eq (by simpa using hi.symm:n=i)
 ·obtain ⟨rfl,rfl⟩:=y
  refine ⟨F',Same.refl _,g,fun d hd=>?_⟩
  rw [List.getElem?_map] at hd
  cases e:(List.range n)[i]? with
  | none=>rw [e] at hd;cases hd
  | some k =>
   rw [e] at hd
   cases hd
   have hi:i<n:=by have:=(List.getElem?_eq_some_iff.mp e).1;simpa using this
   rw [List.getElem?_range hi] at e
   cases e
   exact .int _
theorem rF {fl:List (M D)} (hg:Gl X "range") (hm:X.mg "range" = none) (ha:PLs X EX [a,b,c] (mL fl)) (hs:starEach [a,b,c] X.env=[(false,eval a X.env),(false,eval b X.env),(false,eval c X.env)]:=by rfl) (hs2:starEach [b,c] X.env=[(false,eval b X.env),(false,eval c X.env)]:=by rfl) :
  PVI X EX tg (.Call (.Name "range" p) [a,b,c] [] pos) (mDown fl) :=
 (q8 hg hm ha hs hs2).le fun σ H Q ⟨G,F,ρ,g0,o⟩=>au g0 o (fun x r q=>q) fun F1 H1 ρ1 d1 xs s1 g1 r1 o1=>by
  obtain ⟨ds,e,q⟩:=o1.opt
  unfold rngD at e
  split at e
  ·rename_i i j k
   cases r1 with
   | cons h r1=>cases r1 with
    | cons h2 r1=>cases r1 with
     | cons h3 r1 =>
      cases r1;cases h;cases h2;cases h3
      split at e
      ·rename_i hb
       cases e
       obtain ⟨b1,b2,b3⟩:=hb
       subst b1
       exact ⟨i,j,rfl,⟨b2.1,b2.2,b3.1,b3.2⟩,q F1 H1 _ s1 g1 (oW i (i-j).toNat)⟩
      ·cases e
  ·cases e
end
end VS

end
section
set_option linter.all false
set_option maxRecDepth 100000
namespace VS
open PySem PySem.Spec PyProof.Rows L2 VP
open AutoSeq1 (wpAny_loadPart')
section
variable {X:Cx} {EX:XE} {L:Lc} {a b:Expr} {fa fb:M D} {pos:Pos}
theorem Obj1.now {K:Frag} {mg:MG} {F H:Hp} {l:Addr} {d:D} (sub:Same F H) (o:Obj1 K mg F H l d):∃F',Same F F'∧Same F' H∧Den K mg F' (.ref l) d:=by
 obtain ⟨u,hu⟩:=o.has
 have s1:Same F (upd F l u):=fun a v e=>by
  by_cases z:a=l
  ·subst z;rw [ax,←hu];exact sub _ _ e
  ·rw [aq z];exact e
 refine ⟨upd F l u,s1,fun a v e=>?_,o.den hu s1 ax⟩
 by_cases z:a=l
 ·subst z;rw [ax] at e;rw [hu];exact e
 ·rw [aq z] at e;exact sub _ _ e
end
end VS

end
section
set_option linter.all false
set_option maxRecDepth 100000
namespace VS
open PySem PySem.Spec PyProof.Rows L2 VP
structure DM (K:Frag) (x qn:Str) (st:Stmt) (f:Addr):Prop where
 l:∃(oc:Value) (od:Option Addr) (kV doc pm:Value) (an:Option Addr) (cd ct:Value) (sl:Array (Option Value)),K.lookup f=some ⟨oc,od,.func (PySem.W.fnOf x qn (defArgs st) (defBody st) (defScope st) .none kV doc pm an cd ct),sl⟩∧PySem.W.codeIn K cd qn=true
 k:PySem.W.keepIn K (.ref f)=true
structure DH (K:Frag) (x:Str) (st:Stmt) (f:Addr):Prop where
 a:PySem.W.nsIn K mainGlobals x=some (some (.ref f))
 m:DM K x x st f
abbrev BiH (x qn:Str) (st:Stmt) (ps:List Str):Prop:=∀(kV doc pm:Value) (an:Option Addr) (cd ct:Value) (us:List Value),us.length=ps.length→bindArgs (PySem.W.fnOf x qn (defArgs st) (defBody st) (defScope st) .none kV doc pm an cd ct) ⟨us,[]⟩=pure (ps.zip us)
section
variable {K:Frag} {mg:MG} {h:Heap} {x qn:Str} {st:Stmt} {f:Addr} {ps:List Str}
theorem DM.is (d:DM K x qn st f) (b:BiH x qn st ps):∃fd,Fun K x qn st f fd∧Binds K fd ps []:=by
 obtain ⟨⟨oc,od,kV,doc,pm,an,cd,ct,sl,l,c⟩,k⟩:=d
 exact ⟨_,jv l c k,(jv l c k).binds b⟩
theorem DH.is (d:DH K x st f) (X:K.In h) (G:h.Ns mainGlobals mg) (b:BiH x x st ps):∃fd,DefF K mg x st ps f fd:=by
 obtain ⟨fd,F,B⟩:=d.m.is b
 exact ⟨fd,F,B,PySem.W.mg_of X G d.a⟩
theorem DH.law {p:Str} (d:DH K x st f) (X:K.In h) (G:h.Ns mainGlobals mg) (b:BiH x x st [p])
  (c:∀(kV doc pm:Value) (an:Option Addr) (cd ct:Value) (s:Shared) (v:Value),BindsTo s (PySem.W.fnOf x x (defArgs st) (defBody st) (defScope st) .none kV doc pm an cd ct) ⟨[v],[]⟩ [(p,v)]) :
  ∃fd,DefF K mg x st [p] f fd∧∀(s:Shared) (v:Value),BindsTo s fd ⟨[v],[]⟩ [(p,v)]:=by
 obtain ⟨a,⟨oc,od,kV,doc,pm,an,cd,ct,sl,l,e⟩,k⟩:=d
 exact ⟨_,⟨jv l e k,(jv l e k).binds b,PySem.W.mg_of X G a⟩,fun s v=>c _ _ _ _ _ _ s v⟩
end
section
variable {X:Cx} {EX:XE} {fA:Addr} {fd:FuncData} {x:Str} {st:Stmt} {ps:List Str} {fl:List Bool} {fs:Fn} {k n:Nat} {e:Expr} {es:List Expr} {as:List VP.Arg} {p pos:Pos}
theorem pc (D:DefF X.K X.mg x st ps fA fd) (F:FnOk X.prog X.w X.K X.mg X.base CX0 k fA fd ps (spV X.K X.mg fl fs)) (hr:Room n X.A) (hg:Gl X x) (ha:PAs X EX (e::es) as) (hk:k≤n:=by decide) (hfl:as.map VP.Arg.isIo=fl:=by rfl) (hdb:(x == ("__debug__" : Str))=false:=by decide)
  (he:starEach (e::es) X.env=(false,eval e X.env)::starEach es X.env:=by rfl) (hpl:(backTo pos (starEach es X.env)).any (·.1)=false:=by rfl):PV X EX (.Call (.Name x p) (e::es) [] pos) (mCall fs as) :=
 dZ F (hr.mono hk) hg D.mg D.fu.kp D.bi pass0V ha hfl hdb he hpl
end
theorem bi1 {x qn:Str} {st:Stmt} {p0:Str} (h:∀(kV doc pm:Value) (an:Option Addr) (cd ct:Value) (a0:Value),bindArgs (PySem.W.fnOf x qn (defArgs st) (defBody st) (defScope st) .none kV doc pm an cd ct) ⟨[a0],[]⟩=pure ([p0].zip [a0]):=by intros;rfl):BiH x qn st [p0] :=
 fun _ _ _ _ _ _ us hl=>match us,hl with | [_],_=>h _ _ _ _ _ _ _
theorem bi2 {x qn:Str} {st:Stmt} {p0 p1:Str} (h:∀(kV doc pm:Value) (an:Option Addr) (cd ct:Value) (a0 a1:Value),bindArgs (PySem.W.fnOf x qn (defArgs st) (defBody st) (defScope st) .none kV doc pm an cd ct) ⟨[a0,a1],[]⟩=pure ([p0,p1].zip [a0,a1]):=by intros;rfl):BiH x qn st [p0,p1] :=
 fun _ _ _ _ _ _ us hl=>match us,hl with | [_,_],_=>h _ _ _ _ _ _ _ _
theorem bi3 {x qn:Str} {st:Stmt} {p0 p1 p2:Str} (h:∀(kV doc pm:Value) (an:Option Addr) (cd ct:Value) (a0 a1 a2:Value),bindArgs (PySem.W.fnOf x qn (defArgs st) (defBody st) (defScope st) .none kV doc pm an cd ct) ⟨[a0,a1,a2],[]⟩=pure ([p0,p1,p2].zip [a0,a1,a2]):=by intros;rfl):BiH x qn st [p0,p1,p2] :=
 fun _ _ _ _ _ _ us hl=>match us,hl with | [_,_,_],_=>h _ _ _ _ _ _ _ _ _
theorem bi4 {x qn:Str} {st:Stmt} {p0 p1 p2 p3:Str} (h:∀(kV doc pm:Value) (an:Option Addr) (cd ct:Value) (a0 a1 a2 a3:Value),bindArgs (PySem.W.fnOf x qn (defArgs st) (defBody st) (defScope st) .none kV doc pm an cd ct) ⟨[a0,a1,a2,a3],[]⟩=pure ([p0,p1,p2,p3].zip [a0,a1,a2,a3]):=by intros;rfl):BiH x qn st [p0,p1,p2,p3] :=
 fun _ _ _ _ _ _ us hl=>match us,hl with | [_,_,_,_],_=>h _ _ _ _ _ _ _ _ _ _
theorem bi5 {x qn:Str} {st:Stmt} {p0 p1 p2 p3 p4:Str} (h:∀(kV doc pm:Value) (an:Option Addr) (cd ct:Value) (a0 a1 a2 a3 a4:Value),bindArgs (PySem.W.fnOf x qn (defArgs st) (defBody st) (defScope st) .none kV doc pm an cd ct) ⟨[a0,a1,a2,a3,a4],[]⟩=pure ([p0,p1,p2,p3,p4].zip [a0,a1,a2,a3,a4]):=by intros;rfl):BiH x qn st [p0,p1,p2,p3,p4] :=
 fun _ _ _ _ _ _ us hl=>match us,hl with | [_,_,_,_,_],_=>h _ _ _ _ _ _ _ _ _ _ _
theorem scs {N P:List Str} {sc:Scope} (h1:sc.kind=.function:=by rfl) (h2:sc.isCoroutine=false:=by rfl) (h3:sc.isGenerator=false:=by rfl) (h4:N.Nodup:=by decide +kernel) (h5:N.take P.length=P:=by rfl)
  (h6:∀x∈P,sc.names.lookup x=some .local∨sc.names.lookup x=some .cell:=by decide +kernel) (h7:∀y∈sc.names,y.2≠.free:=by decide +kernel):FnScope N P sc:=⟨h1,h2,h3,h4,h5,h6,h7⟩
theorem ndk (l:List Str) (h:l.Nodup:=by decide +kernel):List.Nodup l:=h
end VS

end
section
set_option linter.all false
set_option maxRecDepth 100000
namespace VS
open PySem PySem.Spec PyProof.Rows L2 VP
theorem az {X:Cx} {EX:XE} {x y:Str} {j} {pos:Pos} (h:x=y:=by decide +kernel):PV X EX (.Constant (.str x) j pos) (mC (.str y)):=h ▸ ue
end VS

end
section
set_option linter.all false
set_option maxRecDepth 100000
namespace VS
open PySem PySem.Spec PyProof.Rows L2 VP
section
variable {X:Cx} {EX:XE} {L:Lc} {a:Expr} {fa:M D} {p pos p' pos':Pos}
theorem ef:∀{us:List Value} {ns:List Int},IntsAre us ns→Vals (ns.map V.int) us
 | _,_,.nil=>.nil
 | _,_,.cons n t h=>.cons ⟨t,rfl⟩ (ef h)
end
end VS

end
section
set_option linter.all false
set_option maxRecDepth 100000
namespace VS
open PySem PySem.Spec PyProof.Rows L2 VP
def XRaw (h:Heap) (e:Addr) (c:Value) (dx:Option Addr):Prop:=∃vs sl,h.get? e=some ⟨c,dx,.fields vs,sl⟩∧vs[2]?=some .none∧vs[1]?=some .none
def XTb (h0:Heap) (H:Hp) (h:Heap) (e:Addr) (c:Value) (dx:Option Addr) (v:Value):Prop :=
 ∃vs sl T ot ts,h.get? e=some ⟨c,dx,.fields vs,sl⟩∧vs[2]?=some .none∧vs[1]?=some (.ref T)∧T≠e∧h0.get? T=none∧H T=none∧h.get? T=some ot∧ot.data=.fields ts∧ts[3]?=some v
structure Xo (h0:Heap) (H:Hp) (h:Heap) (e:Addr) (c:Value) (dx:Option Addr):Prop where
 lo:h0.get? e=none
 nt:H e=none
 st:XRaw h e c dx∨∃v,XTb h0 H h e c dx v
theorem HOk.keepT {P:Program} {w:World} {H:Hp} {h h':Heap} (x:HOk P w H h) (k:∀b o u,H b=some u→h.get? b=some o→h'.get? b=some o):HOk P w H h':=fun a o e=>by
 refine (x a o e).stay (fun c v hc q=>?_) (fun _ q=>q) fun _ _ q=>q
 rcases hc with z | z
 ·subst z;exact k _ _ _ e q
 ·exact k _ _ _ z q
theorem ObjOk.there {P:Program} {w:World} {H:Hp} {h:Heap} {a:Addr} {o:HO} (x:ObjOk P w H h a o):∃ob,h.get? a=some ob:=by
 cases o with
 | lst xs=>obtain ⟨_,_,_,_,e⟩:=x;exact ⟨_,e⟩
 | tup xs=>obtain ⟨_,_,_,o,e,_⟩:=x;exact ⟨_,e⟩
 | dK kvs=>obtain ⟨_,_,_,_,o,_,_,e,_⟩:=x;exact ⟨_,e⟩
 | dT kvs=>obtain ⟨_,_,_,_,o,_,_,e,_⟩:=x;exact ⟨_,e⟩
 | set S n=>obtain ⟨o,_,_,_,e,_⟩:=x;exact ⟨_,e⟩
 | ins C dx fs=>obtain ⟨_,_,_,e,_⟩:=x;exact ⟨_,e⟩
 | own y=>exact x
 | xd fs=>obtain ⟨_,⟨_,_,_,e,_⟩,_⟩:=x;exact ⟨_,e⟩
 | rng lo hi=>obtain ⟨_,_,_,e⟩:=x;exact ⟨_,e⟩
 | frz ob u=>exact ⟨_,x.1⟩
 | tbl ps=>exact ⟨_,x⟩
 | met f y=>exact ⟨_,x⟩
 | ext φ=>exact x.2.1
theorem HOk.free {P:Program} {w:World} {H:Hp} {h:Heap} {a:Addr} (x:HOk P w H h) (e:h.get? a=none):H a=none:=by
 cases q:H a with
 | none=>rfl
 | some o=>obtain ⟨ob,z⟩:=ObjOk.there (x a o q);rw [e] at z;cases z
section
variable {X:Cx} {σ:St} {H:Hp} {s:Shared} {e:Addr} {c:Value} {dx:Option Addr}
theorem Inv.recs {h':Heap} (I:Inv X [] σ H s) (hpn:X.pn=[]) (ch:List Addr) (hlo:∀b∈ch,X.s₀.heap.get? b=none) (hnt:∀b∈ch,H b=none) (hrec:∀b∈ch,∃o vs,s.heap.get? b=some o∧o.data=.fields vs)
  (k1:∀b o,b∉frs X.stack→b∉ch→s.heap.get? b=some o→h'.get? b=some o) (k2:∀b o,b∉ch→s.heap.get? b=some o→∃sl,h'.get? b=some { o with slots:=sl }) (k3:∀b o,s.heap.get? b=some o→∃o',h'.get? b=some o') :
  Inv X [] σ H { s with heap:=h' }:=by
 have hok:HOk X.prog X.w H h':=HOk.keepT I.hok fun b o u hu q=>k1 b o (fun z=>by rw [I.stkFree b z] at hu;cases hu) (fun z=>by rw [hnt b z] at hu;cases hu) q
 have neL:∀b o,X.s₀.heap.get? b=some o→b≠X.env.locals:=fun b o e=>Nat.ne_of_lt (Nat.lt_of_lt_of_le (Heap.lt_size e) I.ok.above)
 have neC:∀b o,X.s₀.heap.get? b=some o→b∉ch:=fun b o e hb=>by rw [hlo b hb] at e;cases e
 have nst:∀b,b≠X.env.locals→b∉X.fs→b∉frs X.stack:=fun b h1 h2 z=>(List.mem_cons.mp (I.stkSub b z)).elim h1 h2
 have nC:∀b o,s.heap.get? b=some o→(∀vs,o.data≠.fields vs)→b∉ch:=fun b o q hn z=>by
  obtain ⟨o',vs,h1,h2⟩:=hrec b z
  rw [q] at h1
  cases h1
  exact hn vs h2
 have cellK:∀x c,X.env.cells.lookup x=some c→∀v,s.heap.IsCell c v→h'.IsCell c v:=fun x c e v ⟨o,ho,hd⟩=>by
  obtain ⟨sl,q⟩:=k2 c o (nC c o ho fun vs z=>by rw [hd] at z;cases z) ho
  exact ⟨_,q,hd⟩
 refine ⟨I.ok,I.os,I.bare,⟨fun b o e n hb hx=>?_,fun b o e n hb hx=>?_,fun b o e n hx=>I.base.free b o e n hx,fun b o e hx=>?_,I.base.tups,I.base.frzs,I.base.tbls⟩,?_,fun x c e=>?_,I.free,I.freeC,fun p hp=>?_,hok,I.len⟩
 ·exact k1 b o (nst b (neL b o e) hb) (neC b o e) (I.base.keep b o e n hb hx)
 ·obtain ⟨sl,e1⟩:=I.base.slot b o e n hb hx
  obtain ⟨sl',e2⟩:=k2 b _ (neC b o e) e1
  exact ⟨sl',e2⟩
 ·obtain ⟨o',e1⟩:=I.base.there b o e hx
  exact k3 b o' e1
 ·obtain ⟨m,⟨o,es,ep,ho,hd,r⟩,hl⟩:=I.loc
  obtain ⟨sl,q⟩:=k2 _ o (nC _ o ho fun vs z=>by rw [hd] at z;cases z) ho
  refine ⟨m,⟨_,es,ep,q,hd,r⟩,fun i x v e1 e2 e3=>?_⟩
  obtain ⟨u,r,l⟩:=hl i x v e1 e2 e3
  refine ⟨u,r,?_⟩
  rcases l with l | ⟨k,c,e,z⟩
  ·exact .inl l
  ·exact .inr ⟨k,c,e,cellK x c e _ z⟩
 ·obtain ⟨v,z⟩:=I.cell x c e
  exact ⟨v,cellK x c e v z⟩
 ·rw [hpn] at hp
  exact absurd hp (by simp)
def Kp (fs:List Addr) (h h':Heap):Prop:=∀b o,b∉fs→(∀vs,o.data≠.fields vs)→h.get? b=some o→h'.get? b=some o
theorem kA {hadNext:Bool} {head:Value} {Q:Unit→Shared→Prop} {E:Value→Shared→Prop} {vs:Array Value} {sl:Array (Option Value)} (I:Inv X [] σ H s) (hpn:X.pn=[]) (hs:X.stack=X.env::X.outer) (hf:X.env.frame=some X.env.locals)
  (hlo:X.s₀.heap.get? e=none) (hnt:H e=none) (he:s.heap.get? e=some ⟨c,dx,.fields vs,sl⟩) (hv2:vs[2]?=some .none) (hsz:1<vs.size)
  (hQ:∀h',Inv X [] σ H { s with heap:=h' }→XTb X.s₀.heap H h' e c dx (rawInt X.env.locals)→Kp (frs X.stack) s.heap h'→Q () { s with heap:=h' }) :
  wpAny (model X.prog X.w) X.A (do let a ←frameOf X.env;let pl ←entryPlaceOf X.env.locals hadNext;let b ←EntryCells.newEntry head a .none (rawInt X.env.locals) .none pl;setField (.ref e) 1 b) Q E s:=by
 have hfr:X.A.frames=some (X.env::X.outer):=by rw [←hs];exact I.ok.frames
 have hl:s.heap.FunFrames X.base (X.env::X.outer):=by rw [←hs];exact I.stack
 have fe:frs X.stack=(X.env::X.outer).filterMap (·.frame):=by rw [hs];rfl
 have hene:e∉frs X.stack:=fun hm=>by
  rw [fe] at hm
  obtain ⟨_,o,ho,hnf⟩:=hl.mem hm
  rw [he] at ho;cases ho;exact hnf vs rfl
 refine wpAny_bind (wpAny_frameOf_fun hfr hl hf fun h₁ hs₁=>?_)
 rw [←fe] at hs₁
 refine wpAny_bind (wpAny_entryPlaceOf fun pl hpl=>?_)
 unfold EntryCells.newEntry newFields
 refine wpAny_bind (wpAny_newObj_type ?_ (hpl.sizeOk5 _ _ _ _ _))
 have he₁:h₁.get? e=some ⟨c,dx,.fields vs,sl⟩:=(hs₁.2.1 e hene).trans he
 have he₂:=Heap.get?_push_of_some (h:=h₁) { cls:=.type "traceback", dict:=none,data:=.fields ([head,.ref X.env.locals,.none,rawInt X.env.locals,.none]++(if pl.isEmpty then List.replicate 6 Value.none else pl)).toArray } he₁
 refine wpAny_setField he₂ rfl hsz (hQ _ ?_ ?_ fun b o hb hn q=>?_)
 ·have keep:∀b o,b≠e→h₁.get? b=some o→((h₁.push { cls:=.type "traceback", dict:=none,data:=.fields ([head,.ref X.env.locals,.none,rawInt X.env.locals,.none]++(if pl.isEmpty then List.replicate 6 Value.none else pl)).toArray }).update e (Obj.mapFields (·.setIfInBounds 1 (Value.ref h₁.objs.size)))).get? b=some o:=fun b o hbe hb=>by
   rw [Heap.get?_update_other _ _ (Ne.symm hbe)]
   exact Heap.get?_push_of_some _ hb
  refine Inv.recs I hpn [e] (fun b hb=>by cases List.mem_singleton.mp hb;exact hlo) (fun b hb=>by cases List.mem_singleton.mp hb;exact hnt) (fun b hb=>by cases List.mem_singleton.mp hb;exact ⟨_,vs,he,rfl⟩) (fun b o hb hc q=>keep b o (fun z=>hc (by simp [z])) ((hs₁.2.1 b hb).trans q)) (fun b o hc q=>?_) fun b o q=>?_
  ·obtain ⟨sl',q'⟩:=hs₁.2.2 b o q
   exact ⟨sl',keep b _ (fun z=>hc (by simp [z])) q'⟩
  ·by_cases z:b=e
   ·subst z;exact ⟨_,Heap.get?_update_self _ he₂ (Obj.isFreed_of_fields (Obj.data_mapFields rfl _))⟩
   ·obtain ⟨sl',q'⟩:=hs₁.2.2 b o q
    exact ⟨_,keep b _ z q'⟩
 ·have hTe:h₁.objs.size≠e:=Nat.ne_of_gt (Heap.lt_size he₁)
  refine ⟨vs.setIfInBounds 1 (.ref h₁.objs.size),sl,h₁.objs.size,{ cls:=.type "traceback", dict:=none,data:=.fields ([head,.ref X.env.locals,.none,rawInt X.env.locals,.none]++(if pl.isEmpty then List.replicate 6 Value.none else pl)).toArray },_,?_,by rw [Array.getElem?_setIfInBounds_ne (by decide)];exact hv2,by simp [hsz],hTe,?_,?_,?_,rfl,?_⟩
  ·rw [Heap.get?_update_self _ he₂ (Obj.isFreed_of_fields (Obj.data_mapFields rfl _))]
   rfl
  ·rw [hs₁.1];exact Heap.get?_none_of_le I.sz
  ·rw [hs₁.1];exact I.fresh
  ·rw [Heap.get?_update_other _ _ (Ne.symm hTe)]
   exact Heap.get?_push_size h₁ rfl
  ·first | (simp;done) | (rcases hpl with rfl | ⟨_,_,_,_,_,_,_,rfl⟩<;>simp)
 ·have hbe:b≠e:=fun z=>by subst z;rw [he] at q;cases q;exact hn _ rfl
  rw [Heap.get?_update_other _ _ (Ne.symm hbe)]
  exact Heap.get?_push_of_some _ ((hs₁.2.1 b hb).trans q)
theorem qd {v:Value} {i:Value} {Q:Unit→Shared→Prop} {E:Value→Shared→Prop} {T:Addr} {ot:Obj} {ts:Array Value} {vs:Array Value} {sl:Array (Option Value)} (I:Inv X [] σ H s) (hpn:X.pn=[])
  (he:s.heap.get? e=some ⟨c,dx,.fields vs,sl⟩) (hT:vs[1]?=some (.ref T)) (hTe:T≠e) (hlo:X.s₀.heap.get? T=none) (hnt:H T=none) (hot:s.heap.get? T=some ot) (hd:ot.data=.fields ts) (h3:ts[3]?=some v)
  (hQ:∀h',Inv X [] σ H { s with heap:=h' }→h'.get? e=some ⟨c,dx,.fields vs,sl⟩→(∃ot' ts',h'.get? T=some ot'∧ot'.data=.fields ts'∧ts'[3]?=some i)→Kp (frs X.stack) s.heap h'→Q () { s with heap:=h' }) :
  wpAny (model X.prog X.w) X.A (setField (.ref T) 3 i) Q E s:=by
 have hsz:3<ts.size:=(Array.getElem?_eq_some_iff.mp h3).1
 have other:∀b o,b≠T→s.heap.get? b=some o→(s.heap.update T (Obj.mapFields (·.setIfInBounds 3 i))).get? b=some o:=fun b o hb q=>by
  rw [Heap.get?_update_other _ _ (Ne.symm hb)];exact q
 have self:=Heap.get?_update_self (Obj.mapFields (·.setIfInBounds 3 i)) hot (Obj.isFreed_of_fields (Obj.data_mapFields hd _))
 refine wpAny_setField hot hd hsz (hQ _ ?_ (other e _ (Ne.symm hTe) he) ⟨_,_,self,Obj.data_mapFields hd _,by simp [hsz]⟩ fun b o _ hn q=>other b o (fun z=>by subst z;rw [hot] at q;cases q;exact hn _ hd) q)
 refine Inv.recs I hpn [T] (fun b hb=>by cases List.mem_singleton.mp hb;exact hlo) (fun b hb=>by cases List.mem_singleton.mp hb;exact hnt) (fun b hb=>by cases List.mem_singleton.mp hb;exact ⟨_,ts,hot,hd⟩) (fun b o hb hc q=>other b o (fun z=>hc (by simp [z])) q) (fun b o hc q=>⟨o.slots,other b o (fun z=>hc (by simp [z])) q⟩) fun b o q=>?_
 by_cases z:b=T
 ·subst z;exact ⟨_,self⟩
 ·exact ⟨_,other b o z q⟩
theorem jF {Q:Unit→Shared→Prop} {E:Value→Shared→Prop} (I:Inv X [] σ H s) (hpn:X.pn=[]) (hs:X.stack=X.env::X.outer) (hf:X.env.frame=some X.env.locals) (x:Xo X.s₀.heap H s.heap e c dx)
  (hQ:∀h',Inv X [] σ H { s with heap:=h' }→XTb X.s₀.heap H h' e c dx (rawInt X.env.locals)→Kp (frs X.stack) s.heap h'→Q () { s with heap:=h' }):wpAny (model X.prog X.w) X.A (noteFrame (.ref e) X.env) Q E s:=by
 unfold noteFrame
 simp only [hf]
 rcases x.st with ⟨vs,sl,he,hv2,h1⟩ | ⟨v,vs,sl,T,ot,ts,he,hv2,h1,hTe,hTl,hTn,hot,hd,h3⟩
 ·refine wpAny_bind (wpAny_field he rfl h1 ?_)
  rw [if_neg (by decide)]
  exact kA I hpn hs hf x.lo x.nt he hv2 (Array.getElem?_eq_some_iff.mp h1).1 hQ
 ·refine wpAny_bind (wpAny_field he rfl h1 ?_)
  rw [if_pos (show (Value.ref T != Value.none)=true from by simp)]
  refine wpAny_bind (wpAny_field hot hd h3 ?_)
  by_cases q:(v == rawInt X.env.locals)=true
  ·rw [if_pos q]
   have:v=rawInt X.env.locals:=by simpa using q
   subst this
   exact wpAny_pure (hQ s.heap I ⟨vs,sl,T,ot,ts,he,hv2,h1,hTe,hTl,hTn,hot,hd,h3⟩ fun _ _ _ _ q=>q)
  ·rw [if_neg q]
   refine wpAny_bind (qd (i:=.none) I hpn he h1 hTe hTl hTn hot hd h3 fun h' I' he' _ kp=>?_)
   exact kA I' hpn hs hf x.lo x.nt he' hv2 (Array.getElem?_eq_some_iff.mp h1).1 fun h2 I2 x2 k2=>hQ h2 I2 x2 fun b o hb hn q=>k2 b o hb hn (kp b o hb hn q)
theorem dt {Q:Unit→Shared→Prop} {E:Value→Shared→Prop} {v:Value} (fr:Option Addr) (I:Inv X [] σ H s) (hpn:X.pn=[]) (x:XTb X.s₀.heap H s.heap e c dx v)
  (hQ:∀h',Inv X [] σ H { s with heap:=h' }→XTb X.s₀.heap H h' e c dx (fr.elim .none fun f=>rawInt f)→Q () { s with heap:=h' }):wpAny (model X.prog X.w) X.A (setFlight (.ref e) fr) Q E s:=by
 obtain ⟨vs,sl,T,ot,ts,he,hv2,h1,hTe,hTl,hTn,hot,hd,h3⟩:=x
 unfold setFlight
 refine wpAny_bind (wpAny_field he rfl h1 ?_)
 rw [if_pos (show (Value.ref T != Value.none)=true from by simp)]
 exact qd I hpn he h1 hTe hTl hTn hot hd h3 fun h' I' he' ⟨ot',ts',q1,q2,q3⟩ _=>hQ h' I' ⟨vs,sl,T,ot',ts',he',hv2,h1,hTe,hTl,hTn,q1,q2,q3⟩
def xeOf (X:Cx) (EX:XE):Value→Shared→Prop:=fun v s=>∃e c dx σ H,v=.ref e∧Inv X.nox [] σ H s∧Xo X.s₀.heap H s.heap e c dx∧EX σ c dx H
theorem rZ {EX:XE} (hpn:X.pn=[]) (hs:X.stack=X.env::X.outer) (hf:X.env.frame=some X.env.locals):PassesOwn (model X.prog X.w) X.A X.env (xeOf X EX):=by
 intro v s ⟨e,c,dx,σ,H,hv,I,x,q⟩
 subst hv
 refine jF (X:=X.nox) I hpn hs hf x fun h' I' x' _=>?_
 obtain ⟨vs,sl,T,ot,ts,he,_,h1,hTe,hTl,hTn,hot,hd,h3⟩:=id x'
 refine wpAny_bind (wpAny_field he rfl h1 ?_)
 rw [if_neg (by simp)]
 exact dt (X:=X.nox) _ I' hpn x' fun h2 I2 x2=>⟨e,c,dx,σ,H,rfl,I2,⟨x.lo,x.nt,.inr ⟨_,x2⟩⟩,q⟩
end
end VS

end
section
set_option linter.all false
set_option maxRecDepth 100000
namespace VS
open PySem PySem.Spec PyProof.Rows L2 VP
def CX1 (P:Program) (w:World):CXT:=fun outer H s E v s'=>∃e c dx H',v=.ref e∧s'.os=s.os∧AllBare s'.gens∧Un (frs outer) [] H H' s.heap s'.heap∧HOk P w H' s'.heap∧Xo s.heap H' s'.heap e c dx∧E c dx H'
theorem Inv.nopin {X:Cx} {pins:List (Addr×Obj)} {σ:St} {H:Hp} {s:Shared} (I:Inv X pins σ H s):Inv X [] σ H s :=
 ⟨I.ok,I.os,I.bare,I.base,I.loc,I.cell,I.free,I.freeC,fun p hp=>I.pin p (List.mem_append_left _ (by simpa using hp)),I.hok,I.len⟩
theorem Xo.mono {h0 h1:Heap} {H:Hp} {h:Heap} {e:Addr} {c:Value} {dx:Option Addr} (x:Xo h1 H h e c dx) (k:∀b,h1.get? b=none→h0.get? b=none):Xo h0 H h e c dx :=
 ⟨k _ x.lo,x.nt,x.st.imp id fun ⟨v,vs,sl,T,ot,ts,a1,a0,a2,a3,a4,a5⟩=>⟨v,vs,sl,T,ot,ts,a1,a0,a2,a3,k _ a4,a5⟩⟩
section
variable {X:Cx} {σ:St} {H:Hp} {s:Shared} {e:Addr} {c:Value} {dx:Option Addr} {EX:XE}
theorem qK {E:XK} {E':Value→Shared→Prop} (I:Inv X [] σ H s) (hpn:X.pn=[]) (hs:X.stack=X.env::X.outer) (hf:X.env.frame=some X.env.locals) (hex:X.ex=[]) (x:Xo X.s₀.heap H s.heap e c dx) (q:E c dx H) :
  wpAny (model X.prog X.w) X.A (leaving X.env (.ref e)) (fun _ s''=>CX1 X.prog X.w X.outer X.H₀ X.s₀ E (.ref e) s'') E' s:=by
 unfold leaving
 refine wpAny_bind (jF I hpn hs hf x fun h' I' x' _=>?_)
 refine dt none I' hpn x' fun h2 I2 x2=>⟨e,c,dx,H,rfl,I2.os,I2.bare,?_,I2.hok,⟨x.lo,x.nt,.inr ⟨_,x2⟩⟩,q⟩
 have b:=I2.base
 rw [hex] at b
 exact b
theorem Inv.older {pins:List (Addr×Obj)} (I:Inv X pins σ H s) (hex:X.ex=[]) (b:Addr) (h:s.heap.get? b=none):X.s₀.heap.get? b=none:=by
 cases q:X.s₀.heap.get? b with
 | none=>rfl
 | some o =>
  obtain ⟨o',z⟩:=I.base.there b o q (by rw [hex];simp)
  rw [h] at z
  cases z
theorem pass1 (hpn:X.pn=[]) (hex:X.ex=[]):PassesAt (CX1 X.prog X.w) (X.wish (xeOf X EX)) EX:=by
 intro pins σ H s v s' I ⟨e,c,dx,H',hv,ho,hg,un,hok,x,q⟩
 refine ⟨e,c,dx,σ,H',hv,?_,x.mono fun b hb=>(Inv.older (X:=X) I.unwish hex b hb),q⟩
 have I1:Inv X.nox [] σ H s:=(Inv.nopin I.unwish).wish _
 exact I1.call' (ch:=[]) ho un hok hg fun b hb=>absurd hb (by simp)
end
section
variable {P:Program} {w:World} {K:Frag} {mg:MG} {base:Heap}
abbrev cx1 (P:Program) (w:World) (K:Frag) (mg:MG) (base:Heap) (N:List Str) (qual:Str) (sc:Scope) (f:Addr) (cdv:Value) (A:Around) (outer:List Env) (s:Shared) (H:Hp) (E:XK):Cx :=
 (cxOf (CX1 P w) P w K mg base N qual sc f cdv A outer s H E).wish (xeOf (cxOf (CX1 P w) P w K mg base N qual sc f cdv A outer s H E) fun _=>E)
theorem gR {x qual:Str} {st:Stmt} {f:Addr} {fd:FuncData} {N ps:List Str} {k:Nat} {fl:List Bool} {body:M Fl} (Fu:Fun K x qual st f fd) (S:FnScope N ps (defScope st)) (hl:fl.length=ps.length)
  (hbody:∀(cdv:Value) (A:Around) (outer:List Env) (s:Shared) (H:Hp) (E:XK),Room k (A.deeper (envOfC qual (defScope st) s.heap.objs.size f cdv)) →
   PassesAt (CX1 P w) (cx1 P w K mg base N qual (defScope st) f cdv A outer s H E) (fun _=>E) →
   PassesOwn (model P w) (cx1 P w K mg base N qual (defScope st) f cdv A outer s H E).A (cx1 P w K mg base N qual (defScope st) f cdv A outer s H E).env (cx1 P w K mg base N qual (defScope st) f cdv A outer s H E).xe →
   PVSs (cx1 P w K mg base N qual (defScope st) f cdv A outer s H E) (fun _=>E) (defBody st) body) :
  FnOk P w K mg base (CX1 P w) (k+1) f fd ps (spV K mg fl (defn N.length fl body)):=by
 obtain ⟨oc,od,kV,doc,pm,an,cdv,ct,osl,rfl,lk,hcd⟩:=Fu.ex
 refine rQ lk hcd S (fun vs H Q E h=>by rw [h.1,hl]) fun A outer s H vs Q E hr hsp=>?_
 refine ⟨_,fun pins s1 σ H1 D I q=>?_,iA S.pre hl hsp⟩
 refine wpAny_mono (hbody cdv A outer s H E hr (pass1 rfl rfl) (rZ rfl rfl rfl) pins s1 σ H1 D (I.wish _) q) (fun fl s2 h2=>h2.unwish) fun v s2 h2=>?_
 obtain ⟨e,c,dx,σ2,H2,rfl,I2,x2,q2⟩:=h2
 exact qK (X:=cxOf (CX1 P w) P w K mg base N qual (defScope st) f cdv A outer s H E) I2.unwish rfl rfl rfl rfl x2 q2
end
abbrev vmro:List Value:=[.type "ValueError", .type "Exception", .type "BaseException", .type "object"]
theorem qx {K:Frag} {h:Heap} {C:Addr} {bb:List Value} {nid:String} (kin:K.In h) (q:PySem.W.excIn K C bb nid=true) :
  ∃bm N nm qn bs hd sn sub ab col dd k0 k1 k2 k3 k5 mN,h.get? C=some (excClassObj nm qn C N bs bm hd sn sub ab col dd k0 k1 k2 k3 k5 nid)∧h.Ns N mN∧mN "__init__" = none∧OwnTail h bb bm:=by
 revert q
 unfold PySem.W.excIn
 cases hl:K.lookup C with
 | none=>intro q;cases q
 | some o =>
  intro q
  obtain ⟨cl,dd,data,sl⟩:=o
  split at q
  ·rename_i dd' cd sl' e
   injection e with e
   injection e with e1 e2 e3 e4
   subst e1 e2 e3 e4
   split at q
   ·rename_i C' bm k0 k1 k2 k3 nn k5 hm hs
    simp only [Bool.and_eq_true,beq_iff_eq,Bool.not_eq_true'] at q
    obtain ⟨⟨⟨⟨⟨z1,z2⟩,z3⟩,z4⟩,z5⟩,z6⟩:=q
    subst z1 z2
    cases cd with
    | mk nm bs mro ns qn hd sn sub ab col del =>
     dsimp only at hm z3 z5 z6
     subst hm z3
     have hsl:sl=#[k0,k1,k2,k3,some (.builtin nn),k5]:=by
      cases sl with
      | mk l=>exact congrArg Array.mk hs
     subst hsl
     exact ⟨bm,ns,nm,qn,bs,hd,sn,sub,ab,col,dd,k0,k1,k2,k3,k5,_,kin _ _ hl,.of_isNs (PySem.W.isNs_of_in kin z5),PySem.W.nsMap_none_of_in kin z5 z6,PySem.W.tail_of_in kin z4⟩
   ·cases q
  ·cases q
section
variable {X:Cx} {EX:XE} {C:Addr} {x:Str} {e:Expr} {es:List Expr} {fs:List (M D)} {np cpos pos:Pos}
theorem qj (hk:PySem.W.excIn X.K C vmro "ValueError.__new__" = true) (hg:Gl X x) (hm:X.mg x=some (.ref C)) (hpn:X.pn=[]) (hex:X.ex=[]) (hxe:X.xe=xeOf X EX) (hc:X.calm=true) (ha:PLs X EX (e::es) (mL fs))
  (hd:(x == ("__debug__" : Str))=false:=by decide) (he:starEach (e::es) X.env=(false,eval e X.env)::starEach es X.env:=by rfl) (hpl:(backTo cpos (starEach es X.env)).any (·.1)=false:=by rfl) :
  PVS X EX (.Raise (some (.Call (.Name x np) (e::es) [] cpos)) none pos) (sRaise x fs):=by
 intro pins s σ H D I ⟨G,F,ρ,g0,o⟩
 obtain ⟨bm,N,nm,qn,bs,hdc,sn,sub,ab,col,dd,k0,k1,k2,k3,k5,mN,hC,hN,hni,TL⟩:=qx I.ok.mod.kin hk
 refine wpAny_Raise_call_subU (C:=C) (nm:=nm) (q:=qn) (N:=N) (bs:=bs) (bm:=bm) (hdct:=hdc) (sn:=sn) (sub:=sub) (ab:=ab) (col:=col) (dd:=dd) (k0:=k0) (k1:=k1) (k2:=k2) (k3:=k3) (k5:=k5)
  PySem.F.excBase_ValueError (by decide) PySem.F.excBase_ValueError (mN:=mN) (TL.hasType (by decide)) (I.ok.hd hc) (by rw [he];show (false||(backTo cpos (starEach es X.env)).any (·.1))=false;rw [hpl];rfl) hni (c7 I hg hm ⟨rfl,?_⟩ hd)
 have o':Out (bnd (mL fs) (fun ds r=>if ds.length≤1000 then Res.exc ⟨x,[],[]⟩ r else .no) ρ) (PostS (lc X EX) G F D) (PostXS (lc X EX) G F):=o
 have h:=ha cpos pins s σ H (fun vs H1=>∃F1 ρ1,Same F F1∧(lc X EX).Good G F1 H1 σ ρ1∧PostXS (lc X EX) G F ⟨x,[],[]⟩ ρ1∧vs.length≤1000) I (au g0 o' (fun x r q=>q.x) fun F1 H1 ρ1 d1 v s1 g1 r1 o1=>by
  split at o1
  ·rename_i hl
   exact ⟨F1,ρ1,s1,g1,o1,by rw [DenL.length r1];exact hl⟩
  ·exact o1.elim)
 rw [he] at h ⊢
 refine Calls.evalArgs_plain (wpAny_mono h (fun us s2 h2=>?_) fun _ _ y=>y)
 obtain ⟨vs,H1,I1,r,F1,ρ1,s1,g1,hx,hlen⟩:=h2
 refine ⟨rfl,?_,I1.bk _ _ hC,hN.keeps I1.bk,TL.keeps I1.bk,fun h' a hmade=>?_⟩
 ·show us.length≤sizeLine
  rw [←r.length]
  exact Nat.le_trans hlen (by decide)
 ·obtain ⟨t,h1,h2,h3⟩:=hmade.there
  have I2:=I1.kept (t':=s2.toks) hmade.keeps
  rw [hxe]
  refine ⟨a,.ref C,none,σ,H1,rfl,(Inv.nopin I2).wish _,⟨Inv.older (X:=X) I1 hex a hmade.new,HOk.free I1.hok hmade.new,.inl ⟨_,_,h1,rfl,rfl⟩⟩,?_⟩
  exact hx F1 H1 σ (.ref C) none s1 g1 ⟨C,rfl,hm,[],.inl ⟨rfl,rfl⟩,rfl,.nil⟩
end
end VS

end
section
set_option linter.all false
set_option maxRecDepth 100000
namespace VS
open PySem PySem.Spec PyProof.Rows L2 VP
structure ErrK (K:Frag) (C:Addr):Prop where
 ga:PySem.W.findIn K (.ref C) "__getattribute__" = some (some (.builtin "BaseException.__getattribute__"))
 gh:PySem.W.findIn K (.ref C) "__getattr__" = some none
 mb:PySem.W.mroIn K C (.type "BaseException")=some true
 mo:PySem.W.mroIn K C (.type "object")=some true
section
variable {prog:Program} {w:World} {A:Around} {E:Value→Shared→Prop} {s:Shared} {K:Frag} {e C:Addr} {oe:Obj} {od:Option Obj} {name:Str}
theorem vf {tk:Tok} {r:Builtin.ObjectAttr.Found} {Q:PySem.Fin→Shared→Prop} (kin:K.In s.heap) (I:PySem.W.InstAt s.heap e oe C od) (hf:PySem.W.findObj K C od name=some r)
  (h:match r with | .value v=>Q (.done (.ret v)) s | .bind g a=>wpAny (model prog w) A (call g [a,.ref e,.ref C]) (fun v s'=>Q (.done (.ret v)) s') E s | _=>False) :
  wpAny (model prog w) A (Builtin.«object.__getattribute__» ⟨[.ref e,.str name tk],[]⟩) Q E s:=by
 obtain ⟨hh,gg,d,t,os⟩:=s
 have L0:=I.type (M:=model prog w)
 have L1:=PySem.W.looks_find (M:=model prog w) kin I hf
 unfold Builtin.«object.__getattribute__»
 refine wpAny_bind (wpAny_pure ?_)
 refine wpAny_bind (wpAny_pure ?_)
 refine wpAny_bind (L0.at (wpAny_bind (L1.at ?_)))
 cases r with
 | value v=>exact wpAny_pure h
 | bind g a =>
  show wpAny _ _ (holding [a] (call g [a,.ref e,.ref C]) >>= ret) _ _ _
  exact wpAny_bind (wpAny_holding (wpAny_mono h (fun v s' z=>wpAny_pure z) fun _ _ z=>z))
 | missing=>exact h.elim
theorem rL {tk:Tok} {Q:Unit→Shared→Prop} (kin:K.In s.heap) (I:PySem.W.InstAt s.heap e oe C od) (k:ErrK K C) (h:Q () s):wpAny (model prog w) A (checkBuiltinCall "BaseException.__getattribute__" ⟨[.ref e,.str name tk],[]⟩) Q E s:=by
 obtain ⟨hh,gg,d,t,os⟩:=s
 have L0:=I.type (M:=model prog w)
 have L1:=PySem.W.looks_mroIn (M:=model prog w) kin k.mb
 have hk:builtinKind "BaseException.__getattribute__" = some .slot:=by decide +kernel
 have hsplit:splitId "BaseException.__getattribute__" = some ("BaseException", "__getattribute__"):=by decide +kernel
 have ha:=PySem.F.args_bexc_ga (.ref e) (.str name tk)
 simp only [checkBuiltinCall,hk,hsplit]
 refine wpAny_bind ?_
 unfold isInstance
 refine wpAny_bind (L0.at (L1.at ?_))
 repeat (first | assumption | wp_step)
theorem x_by {tk:Tok} {fill ex:Bool} {r:Builtin.ObjectAttr.Found} {Q:Value→Shared→Prop} (kin:K.In s.heap) (I:PySem.W.InstAt s.heap e oe C od) (k:ErrK K C) (hf:PySem.W.findObj K C od name=some r)
  (h:match r with | .value v=>wpAny (model prog w) A (handedOut v) Q E s | .bind g a=>wpAny (model prog w) A.in1 (call g [a,.ref e,.ref C]) (fun v s'=>wpAny (model prog w) A (handedOut v) Q E s') (fun _ _=>False) s | _=>False) :
  wpAny (model prog w) A (getAttrBy (.ref e) (.str name tk) fill ex) Q E s:=by
 obtain ⟨hh,gg,d,t,os⟩:=s
 have L0:=I.type (M:=model prog w)
 have L1:=PySem.W.looks_findIn (M:=model prog w) kin k.ga
 have L2:=PySem.W.looks_findIn (M:=model prog w) kin k.gh
 have f3:=PySem.F.excAttr_ValueError.ga.bind (.ref e)
 unfold getAttrBy
 refine wpAny_holding (wpAny_bind (L0.at (wpAny_bind (L1.at ?_))))
 have hx0:(ex&&onTheHeap (Value.builtin "BaseException.__getattribute__"))=false:=by cases ex<;>rfl
 dsimp only
 rw [if_neg (by rw [show (Value.builtin "BaseException.__getattribute__" == Value.builtin "object.__getattribute__")=false by decide +kernel];simp)]
 unfold getAttrByItsOwn hookBefore
 refine wpAny_bind ?_
 rw [if_pos (show onTheHeap (Value.ref C)=true from rfl)]
 refine L2.at ?_
 refine wpAny_bind (wpAny_attempt (wpAny_holding ?_))
 unfold callGetattribute
 rw [hx0,if_neg Bool.false_ne_true]
 unfold boundAndCalled
 rw [f3]
 refine wpAny_bind (wpAny_pure ?_)
 refine wpAny_call (codeAny_call_builtin PySem.F.excAttr_ValueError.ga.plain PySem.F.entry_bexc_ga (rL kin I k (vf kin I hf ?_)))
 cases r with
 | value v=>exact h
 | bind g a=>exact wpAny_mono h (fun v s' z=>z) fun _ _ z=>z.elim
 | missing=>exact h.elim
def ErrAt (e C:Addr) (h:Heap):Prop:=∃oe od,PySem.W.InstAt h e oe C od
structure ErrC (K:Frag) (C:Addr):Prop extends ErrK K C where
 cl:PySem.W.isClsIn K C=true
 fc:PySem.W.findIn K (.ref C) "__class__" = some (some (.builtin "object.__class__"))
theorem oY (k:ErrC K C) (hn:PySem.W.specialIn K (.builtin "object.__class__") "__get__" = some (some (.builtin "getset_descriptor.__get__"))) (htk:PySem.W.takesIn K (.builtin "object.__class__")=some true) :
  PySem.W.KitX K (.ref e) (.ref C) (ErrAt e C) where
 ty:=fun _ _ _ ⟨_,_,I⟩=>I.type
 it:=fun _ _ kin _=>by
  have z:(PySem.W.clsIn K C).isSome=true:=k.cl
  unfold PySem.W.clsIn at z
  split at z
  ·rename_i ho
   intro A' Q' E' s' kk q
   unfold isType loadHead
   exact wpAny_bind (wpAny_loadPart (kk _ _ (kin _ _ ho)) (wpAny_pure q))
  ·cases z
 ne:=fun h tp dd its n sl kin htp=>by
  refine Bool.eq_false_iff.mpr fun q=>?_
  have z:(PySem.W.clsIn K C).isSome=true:=k.cl
  cases Value.ref.inj (beq_iff_eq.mp q)
  unfold PySem.W.clsIn at z
  split at z
  ·rename_i ho
   have y:=(kin _ _ ho).symm.trans htp
   cases y
  ·cases z
 ca:=fun {prog w A E Q s} kin ⟨oe,od,I⟩ h=>by
  have hf:PySem.W.findObj K C od "__class__" = some (.bind (.builtin "getset_descriptor.__get__") (.builtin "object.__class__")):=by
   obtain ⟨cd,hc⟩:=Option.isSome_iff_exists.mp (show (PySem.W.clsIn K C).isSome=true from k.cl)
   unfold PySem.W.findObj
   simp [hc,k.fc,hn,htk]
  unfold getAttr? getAttrBy?
  refine wpAny_bind (wpAny_mkText (wpAny_bind (wpAny_attempt ?_)))
  refine x_by (s:={ s with toks:=s.toks+1 }) kin I k.toErrK hf ?_
  exact wpAny_call (PySem.W.class_get (s:={ s with toks:=s.toks+1 }) kin I k.mo (PySem.W.handed_on rfl (wpAny_pure h)))
end
end VS

end
section
set_option linter.all false
set_option maxRecDepth 100000
namespace VS
open PySem PySem.Spec PyProof.Rows L2 VP
open PySem.W (Looks)
abbrev hand (X:Cx) (e:Addr):Cx:={ X with A:=X.A.mark (some (.ref e)),calm:=false,xe:=fun _ _=>False }
section
variable {X:Cx} {pins:List (Addr×Obj)} {σ:St} {H:Hp} {s:Shared} {e:Addr}
theorem Ok.hand (ok:X.Ok) (e:Addr):(hand X e).Ok :=
 ⟨ok.mod,ok.kind,ok.glob,ok.blt,ok.above,ok.inj,ok.has,ok.cab,(fun z=>nomatch z),ok.frames,ok.stk,ok.exf,ok.bs,ok.bsz,ok.noex,ok.exfs,ok.funs,ok.frf⟩
theorem Inv.hand (I:Inv X pins σ H s) (e:Addr):Inv (hand X e) pins σ H s:=⟨Ok.hand I.ok e,I.os,I.bare,I.base,I.loc,I.cell,I.free,I.freeC,I.pin,I.hok,I.len⟩
theorem Inv.unhand (ok:X.Ok) (I:Inv (VS.hand X e) pins σ H s):Inv X pins σ H s:=⟨ok,I.os,I.bare,I.base,I.loc,I.cell,I.free,I.freeC,I.pin,I.hok,I.len⟩
theorem Inv.track {o:HO} (I:Inv X [] σ H s) (hpn:X.pn=[]) (hlo:X.s₀.heap.get? e=none) (hnt:H e=none) (hrec:∃ob vs,s.heap.get? e=some ob∧ob.data=.fields vs) (new:ObjOk X.prog X.w (upd H e o) s.heap e o) (hown:∀a,o≠.own a) :
  Inv X [] σ (upd H e o) s:=by
 obtain ⟨ob,vs,h1,h2⟩:=hrec
 have ne:∀b u,H b=some u→b≠e:=fun b u q z=>by rw [z,hnt] at q;cases q
 refine ⟨I.ok,I.os,I.bare,⟨I.base.keep,I.base.slot,fun b o' q n hx=>?_,I.base.there,fun b xs q=>?_,fun b o' u q=>?_,fun b ps q=>?_⟩,I.loc,I.cell,?_,fun x c q=>?_,fun p hp=>?_,fun b u q=>?_,I.len⟩
 ·rw [aq (fun z=>by rw [z,hlo] at q;cases q)];exact I.base.free b o' q n hx
 ·have:=I.base.tups b xs q;rw [aq (ne _ _ this)];exact this
 ·have:=I.base.frzs b o' u q;rw [aq (ne _ _ this)];exact this
 ·obtain ⟨m,this⟩:=I.base.tbls b ps q;exact ⟨m,by rw [aq (ne _ _ this)];exact this⟩
 ·rw [aq (fun z=>?_)]
  ·exact I.free
  ·obtain ⟨m,⟨o',es,ep,h3,h4,_⟩,_⟩:=I.loc
   rw [z,h1] at h3;cases h3;rw [h2] at h4;cases h4
 ·rw [aq (fun z=>?_)]
  ·exact I.freeC x c q
  ·obtain ⟨v,o',h3,h4⟩:=I.cell x c q
   rw [z,h1] at h3;cases h3;rw [h2] at h4;cases h4
 ·rw [hpn] at hp;exact absurd hp (by simp)
 ·by_cases z:b=e
  ·subst z
   rw [ax] at q
   cases q
   exact new
  ·rw [aq z] at q
   refine (I.hok b u q).stay (fun c v hc y=>y) (fun c y=>?_) fun c xs y=>?_
   ·rw [aq (ne _ _ y)];exact y
   ·rw [aq (ne _ _ y)];exact y
theorem na {M:Model} {A:Around} {E:Value→Shared→Prop} {Q:Unit→Shared→Prop} {j:Nat} {n:Str} {pos:Pos} (I:Inv X pins σ H s) (hN:X.N[j]?=some n) (hnd:X.N.Nodup) (hloc:X.env.scope.names.lookup n=some .local)
  (h:∀s',Inv X pins (σ.set j none) H s'→Q () s'):wpAny M A (do bindName X.env n .none;unbindBehindTheSuite X.env n pos) Q E s:=by
 obtain ⟨m,hm,hl⟩:=id I.loc
 refine wpAny_nameGoes_keeps hloc hm (by rw [I.ok.kind];rfl) fun h' v hn hs=>h _ ?_
 have nl:∀b u,H b=some u→b≠X.env.locals:=fun b u q z=>by rw [z,I.free] at q;cases q
 have neL:∀b o,X.s₀.heap.get? b=some o→b≠X.env.locals:=fun b o q=>Nat.ne_of_lt (Nat.lt_of_lt_of_le (Heap.lt_size q) I.ok.above)
 refine ⟨I.ok,I.os,I.bare,⟨fun b o q n hb hx=>?_,fun b o q n hb hx=>?_,I.base.free,fun b o q hx=>?_,I.base.tups,I.base.frzs,I.base.tbls⟩,⟨_,hn,fun i x w e1 e2 e3=>?_⟩,fun x c q=>?_,I.free,I.freeC,fun p hp=>?_,HOk.keepT I.hok fun b o u hu q=>(hs.2 b (nl b u hu)).trans q,by simpa using I.len⟩
 ·exact (hs.2 b (neL b o q)).trans (I.base.keep b o q n hb hx)
 ·obtain ⟨sl,e1⟩:=I.base.slot b o q n hb hx
  exact ⟨sl,(hs.2 b (neL b o q)).trans e1⟩
 ·obtain ⟨o',e1⟩:=I.base.there b o q hx
  exact ⟨o',(hs.2 b (neL b o q)).trans e1⟩
 ·by_cases hj:i=j
  ·subst hj
   by_cases hi:i<σ.length
   ·rw [List.getElem?_set_self hi] at e2;cases e2
   ·rw [List.getElem?_eq_none (by simpa using hi)] at e2;cases e2
  ·rw [List.getElem?_set_ne (Ne.symm hj)] at e2
   obtain ⟨u,r,l⟩:=hl i x w e1 e2 e3
   have nx:x≠n:=fun z=>hj (hZ hnd e1 (z ▸ hN))
   refine ⟨u,r,?_⟩
   rcases l with ⟨k,q⟩ | ⟨k,c,q,z⟩
   ·exact .inl ⟨k,by simp [nx,q]⟩
   ·exact .inr ⟨k,c,q,z.sameBut hs (I.cne x c q)⟩
 ·obtain ⟨w,z⟩:=I.cell x c q
  exact ⟨w,z.sameBut hs (I.cne x c q)⟩
 ·obtain ⟨a1,a2,a3,a4,a5⟩:=I.pin p hp
  exact ⟨(hs.2 p.1 a3).trans a1,a2,a3,a4,a5⟩
end
section
variable {prog:Program} {w:World} {A:Around} {E:Value→Shared→Prop} {s:Shared} {K:Frag} {e C D:Addr} {oe:Obj} {b:Bool}
structure CatK (K:Frag) (D:Addr):Prop where
 ty:PySem.W.typeIn K (.ref D)=some (.type "type")
 cl:PySem.W.isClsIn K D=true
 mb:PySem.W.mroIn K D (.type "BaseException")=some true
theorem jC {M:Model} {h:Heap} (kin:K.In h) (cl:(PySem.W.clsIn K D).isSome=true):PySem.W.Looks M h (isType (.ref D)) true:=by
 unfold PySem.W.clsIn at cl
 split at cl
 ·rename_i ho
  intro A' Q' E' s' kk q
  unfold isType loadHead
  exact wpAny_bind (wpAny_loadPart (kk _ _ (kin _ _ ho)) (wpAny_pure q))
 ·cases cl
theorem nO {Q:Bool→Shared→Prop} (kin:K.In s.heap) (k:CatK K D) (he:s.heap.get? e=some oe) (hc:oe.cls=.ref C) (hm:PySem.W.mroIn K C (.ref D)=some b) (h:Q b s):wpAny (model prog w) A (excMatches (.ref e) (.ref D)) Q E s:=by
 obtain ⟨hh,gg,d,t,os⟩:=s
 have L1:=PySem.W.looks_typeIn (M:=model prog w) kin k.ty
 have L2:=jC (M:=model prog w) kin k.cl
 have L3:=PySem.W.looks_mroIn (M:=model prog w) kin k.mb
 have L4:=PySem.W.looks_mroIn (M:=model prog w) kin hm
 have L0:PySem.W.Looks (model prog w) hh (typeOf (.ref e)) (.ref C):=hc ▸ (PySem.W.Looks.ld he).andThen .now
 have f:=tc_notTuple
 unfold excMatches isExcClass isInstance
 refine wpAny_bind (wpAny_bind (L1.at ?_))
 refine wpAny_of_eq f ?_
 repeat (first | lk | wp_step)
 cases b<;>(repeat (first | exact h | lk | wp_step))
end
def PS0 (X:Cx) (st:Stmt) (t:TS):Prop:=∀(s:Shared) (σ:St) (H:Hp) (D:Ends),Inv X [] σ H s→t D σ H→wpAny (model X.prog X.w) X.A (exec st X.env) (SP X [] D) X.xe s
def PSs0 (X:Cx) (st:List Stmt) (t:TS):Prop:=∀(s:Shared) (σ:St) (H:Hp) (D:Ends),Inv X [] σ H s→t D σ H→wpAny (model X.prog X.w) X.A (execs st X.env) (SP X [] D) X.xe s
def PVS0 (X:Cx) (EX:XE) (st:Stmt) (f:M Fl):Prop:=PS0 X st (liftS (lc X EX) f)
def PVSs0 (X:Cx) (EX:XE) (st:List Stmt) (f:M Fl):Prop:=PSs0 X st (liftS (lc X EX) f)
section
variable {X:Cx} {EX:XE} {st:Stmt} {rest:List Stmt} {f g:M Fl}
theorem vs_0 (h:PVS X EX st f):PVS0 X EX st f:=fun s σ H D I q=>h [] s σ H D I q
theorem xM (h:PVSs X EX rest f):PVSs0 X EX rest f:=fun s σ H D I q=>h [] s σ H D I q
theorem jn (h1:PVS0 X EX st f) (h2:PVSs0 X EX rest g):PVSs0 X EX (st::rest) (sSeq f g):=by
 intro s σ H D I ⟨G,F,ρ,g0,o⟩
 refine wpAny_execs_cons (thn (h1 s σ H { D with nx:=liftS (lc X EX) g D } I ⟨G,F,ρ,g0,o.bnd.mono (fun k r q=>?_) fun _ _ q=>q⟩) fun f s1 q=>?_)
 ·cases k with
  | nx=>exact fun F' H' σ' s g'=>⟨G,F',r,g',Out.mono q (fun _ _=>PostS.same s) fun _ _=>PostXS.same s⟩
  | bk=>exact q
  | ct=>exact q
  | rt d=>exact q
 ·cases f with
  | next=>obtain ⟨σ',H',I',q⟩:=q;exact h2 s1 σ' H' D I' q
  | ret v=>exact q
  | brk=>exact q
  | cont=>exact q
end
theorem Good.toNo {K:Frag} {mg:MG} {G:Fx} {F H:Hp} {σ:St} {ρ:Rho} {j:Nat} (g:Good K mg G F H σ ρ):Good K mg G F H (σ.set j none) (ρ.set j .no):=by
 refine ⟨g.sF,g.sub,g.old,g.new,by simpa using g.len,fun i s hi=>?_,fun i k l s t hi hk oi ok si sk=>?_,g.ioT,g.ioU⟩
 ·by_cases z:i=j
  ·subst z
   by_cases hl:i<ρ.length
   ·rw [List.getElem?_set_self hl] at hi;cases hi;trivial
   ·rw [List.getElem?_eq_none (by simpa using hl)] at hi;cases hi
  ·rw [List.getElem?_set_ne (Ne.symm z)] at hi
   have:=g.slot i s hi
   rw [List.getElem?_set_ne (Ne.symm z)];exact this
 ·have ni:i≠j:=fun z=>by
   subst z
   by_cases hl:i<σ.length
   ·rw [List.getElem?_set_self hl] at si;cases si
   ·rw [List.getElem?_eq_none (by simpa using hl)] at si;cases si
  have nk:k≠j:=fun z=>by
   subst z
   by_cases hl:k<σ.length
   ·rw [List.getElem?_set_self hl] at sk;cases sk
   ·rw [List.getElem?_eq_none (by simpa using hl)] at sk;cases sk
  rw [List.getElem?_set_ne (Ne.symm ni)] at hi si
  rw [List.getElem?_set_ne (Ne.symm nk)] at hk sk
  exact g.apart i k l s t hi hk oi ok si sk
section
variable {X:Cx} {EX:XE} {body:List Stmt} {b₀:Stmt} {suite:List Stmt} {fb fh:M Fl} {cn n:Str} {D:Addr} {j:Nat} {subs:List (Str×Bool)} {cp hp pos:Pos}
theorem rJ (ct:CatK X.K D) (hg:Gl X cn) (hm:X.mg cn=some (.ref D)) (hsub:∀p∈subs,p.2=true→∃C,X.mg p.1=some (.ref C)∧PySem.W.mroIn X.K C (.ref D)=some true) (j:Nat) (hN:X.N[j]?=some n) (hnd:X.N.Nodup)
  (hloc:X.env.scope.names.lookup n=some .local) (hpn:X.pn=[]) (hs:X.stack=X.env::X.outer) (hf:X.env.frame=some X.env.locals) (hex:X.ex=[])
  (hb:∀EXb:XE,PassesAt (CX1 X.prog X.w) (X.wish (xeOf X EXb)) EXb→PassesOwn (model X.prog X.w) X.A X.env (xeOf X EXb)→PVSs (X.wish (xeOf X EXb)) EXb body fb) (hh:∀e:Addr,PSs (hand X e) (b₀::suite) (fun D σ H=>σ[j]?=some (some (.ref e))∧liftS (lc (hand X e) (fun _ _ _ _=>False)) fh D σ H))
  (hd:(cn == ("__debug__" : Str))=false:=by decide) :
  PVS0 X EX (.Try body [.ExceptHandler (some (.Name cn cp)) (some n) (b₀::suite) hp] [] [] pos) (sTry fb subs j fh):=by
 intro s σ H E I ⟨G,F,ρ,g0,o⟩
 refine wpAny_Try_except ?_
 have hB:=hb (fun σ1 c dx H1=>∃x ρ1 F1,Same F F1∧(lc X EX).Good G F1 H1 σ1 ρ1∧XR X.K X.mg F1 H1 c dx x∧Out (sCatch subs j fh x ρ1) (PostS (lc X EX) G F E) (PostXS (lc X EX) G F)) (pass1 hpn hex) (rZ hpn hs hf)
 refine wpAny_mono (hB [] s σ H E (I.wish _) ⟨G,F,ρ,g0,?_⟩) (fun k s1 h1=>?_) fun v s1 h1=>?_
 ·unfold sTry at o
  cases q:fb ρ with
  | ok k r1=>rw [q] at o;exact o
  | exc x r1=>rw [q] at o;exact fun F' H' σ' c dx s' g' r'=>⟨x,r1,F',s',g',r',o⟩
  | no=>rw [q] at o;exact o
 ·have h2:=h1.unwish
  cases k with
  | next=>exact wpAny_execs_nil h2
  | ret v=>exact h2
  | brk=>exact h2
  | cont=>exact h2
 ·obtain ⟨e,c,dx,σ1,H1,rfl,I1,x,xn,ρ1,F1,sF,g1,⟨C,rfl,hC,fs,hfs,hns,hvs⟩,o1⟩:=h1
  unfold sCatch at o1
  split at o1
  ·rename_i hl hj
   have hm2:=hsub (xn.cls,true) (PySem.mem_of_lookup hl) rfl
   obtain ⟨C',hC',hmr⟩:=hm2
   rw [hC] at hC'
   cases hC'
   refine jF (X:=X.nox) I1 hpn hs hf x fun h2 I2 x2 _=>?_
   refine dt (X:=X.nox) none I2 hpn x2 fun h3 I3 x3=>?_
   obtain ⟨vs3,sl3,T3,ot3,ts3,ob3,_⟩:=id x3
   refine wpAny_handleBy_cons (codeAny_handlers_test (c7 (X:=hand X e) (Inv.hand (X:=X) I3.unwish e) hg hm ?_ hd)) (by intro q;cases q)
   refine nO I3.kIn ct ob3 rfl hmr (codeAny_handlers_suite_as ?_)
   refine dt (X:=hand X e) none (Inv.hand (X:=X) I3.unwish e) hpn x3 fun h4 I4 x4=>?_
   obtain ⟨vs4,sl4,T4,ot4,ts4,ob4,v24,_⟩:=id x4
   have I5:=Inv.track (o:=.ext (XOb e C dx)) I4 hpn x.lo x.nt ⟨_,vs4,ob4,rfl⟩ ⟨⟨vs4,sl4,ob4,v24⟩,⟨_,ob4⟩,fun h1 h2 ⟨ws,zl,z,z2⟩ kk=>⟨ws,zl,kk _ z,z2⟩⟩ fun a z=>nomatch z
   refine iB (X:=hand X e) (i:=j) I5 hnd hN (.inl hloc) (v:=.ref e) rfl (fun s5 I6=>?_) (.inr hloc)
   have fe:F1 e=none:=g1.sub.free x.nt
   have sE:Same F1 (upd F1 e (.ext (XOb e C dx))):=aH fe
   have den:Den X.K X.mg (upd F1 e (.ext (XOb e C dx))) (.ref e) (.exn xn.cls xn.ns xn.vs):=by
    rw [←hns]
    exact .exn ax hC (hfs.imp id fun ⟨a,z1,z2⟩=>⟨a,z1,sE _ _ z2⟩) (hvs.same sE)
   have oS:Out (mSet j (.exn xn.cls xn.ns xn.vs) ρ1) (fun _ r=>r=ρ1.set j (.sh (.exn xn.cls xn.ns xn.vs))) (fun _ _=>False):=by
    unfold mSet
    rw [hj,if_pos (show free (some Sl.no)=true from rfl)]
    exact rfl
   obtain ⟨ρ2,g2,hρ⟩:=dN (L:=lc X EX) (v:=.ref e) (Good.laid g1 x.nt) den oS
   subst hρ
   refine wpAny_mono (hh e [] s5 _ _ { nx:=fun σ' H'=>E.nx (σ'.set j none) H',rt:=E.rt,bk:=fun σ' H'=>E.bk (σ'.set j none) H',ct:=fun σ' H'=>E.ct (σ'.set j none) H' } I6 ⟨List.getElem?_set_self (by have:=(List.getElem?_eq_some_iff.mp hj).1;have:=g1.len;omega),G,_,_,g2,?_⟩) (fun k s6 h6=>?_) fun _ _ z=>z.elim
   ·split at o1
    ·rename_i k r2 hk
     rw [hk]
     have sA:∀{F':Hp},Same (upd F1 e (.ext (XOb e C dx))) F'→Same F F':=fun z=>sF.trans (sE.trans z)
     cases k with
     | nx=>exact fun F' H' σ' s' g'=>o1 F' H' _ (sA s') (Good.toNo g')
     | bk=>exact fun F' H' σ' s' g'=>o1 F' H' _ (sA s') (Good.toNo g')
     | ct=>exact fun F' H' σ' s' g'=>o1 F' H' _ (sA s') (Good.toNo g')
     | rt d=>exact fun F' H' σ' v s' g' r'=>o1 F' H' _ v (sA s') (Good.toNo g') r'
    ·exact o1.elim
   ·have fin:∀{σ':St} {H':Hp} {Q:Shared→Prop},Inv (hand X e) [] σ' H' s6→(∀s7,Inv X [] (σ'.set j none) H' s7→Q s7)→wpAny (model X.prog X.w) X.A (do bindName X.env n .none;unbindBehindTheSuite X.env n hp) (fun _ s7=>Q s7) X.xe s6:=fun I7 q=>na (Inv.unhand I.ok I7) hN hnd hloc q
    cases k with
    | next=>obtain ⟨σ',H',I7,q⟩:=h6;exact fin I7 fun s7 I8=>⟨_,H',I8,q⟩
    | brk=>obtain ⟨σ',H',I7,q⟩:=h6;exact fin I7 fun s7 I8=>⟨_,H',I8,q⟩
    | cont=>obtain ⟨σ',H',I7,q⟩:=h6;exact fin I7 fun s7 I8=>⟨_,H',I8,q⟩
    | ret v=>obtain ⟨u,σ',H',I7,r,q⟩:=h6;exact fin I7 fun s7 I8=>⟨u,_,H',I8,r,q⟩
  ·exact o1.elim
theorem ve (ct:CatK X.K D) (hg:Gl X cn) (hm:X.mg cn=some (.ref D)) (hsub:∀p∈subs,p.2=true→∃C,X.mg p.1=some (.ref C)∧PySem.W.mroIn X.K C (.ref D)=some true) (j:Nat) (hN:X.N[j]?=some n) (hnd:X.N.Nodup)
  (hloc:X.env.scope.names.lookup n=some .local) (hpn:X.pn=[]) (hs:X.stack=X.env::X.outer) (hf:X.env.frame=some X.env.locals) (hex:X.ex=[])
  (hb:∀EXb:XE,PassesAt (CX1 X.prog X.w) (X.wish (xeOf X EXb)) EXb→PassesOwn (model X.prog X.w) X.A X.env (xeOf X EXb)→PVSs (X.wish (xeOf X EXb)) EXb body fb) (hh:∀e:Addr,PVSs (hand X e) (fun _ _ _ _=>False) (b₀::suite) fh)
  (hd:(cn == ("__debug__" : Str))=false:=by decide) :
  PVS0 X EX (.Try body [.ExceptHandler (some (.Name cn cp)) (some n) (b₀::suite) hp] [] [] pos) (sTry fb subs j fh) :=
 rJ ct hg hm hsub j hN hnd hloc hpn hs hf hex hb (fun e pins s σ H D I q=>hh e pins s σ H D I q.2) hd
end
end VS

end
section
set_option linter.all false
set_option maxRecDepth 100000
namespace VS
open PySem PySem.Spec PyProof.Rows L2 VP
section
variable {X:Cx} {EX:XE} {e a b:Expr} {fa fb fe:M D} {pos p pT:Pos} {x c:Str}
structure IsaX (K:Frag) (mg:MG) (t:Value) (subs:List (Str×Bool)):Prop where
 sp:PySem.W.specialIn K (.builtin "object.__class__") "__get__" = some (some (.builtin "getset_descriptor.__get__"))
 tk:PySem.W.takesIn K (.builtin "object.__class__")=some true
 ex:∀p∈subs,∃D,mg p.1=some (.ref D)∧ErrC K D∧PySem.W.kitOne K (.ref D) t=some p.2
def rIsaX (K:Frag) (t:Value) (vt:V):List V→Hp→VK→Prop:=fun xs H Q=>∃q D dx b,xs=[.ref q,vt]∧H q=some (.ext (XOb q D dx))∧(∀d,dx=some d→∃o,H d=some o)∧ErrC K D∧PySem.W.kitOne K (.ref D) t=some b∧Q (.bl b) H
theorem iX {t:Value} {vt:V} (hr:∀u,RelV vt u→u=t) (sp:PySem.W.specialIn X.K (.builtin "object.__class__") "__get__" = some (some (.builtin "getset_descriptor.__get__"))) (tk:PySem.W.takesIn X.K (.builtin "object.__class__")=some true) :
  CallR X (.builtin "isinstance") (rIsaX X.K t vt):=by
 intro pins s σ H xs us Q I r h
 obtain ⟨q,D,dx,b,rfl,hq,hdx,f,hb,k⟩:=h
 obtain ⟨u,v,rfl,ru,rv⟩:=vals2 r
 cases ru
 cases hr v rv
 obtain ⟨⟨vs,sl,ho,_⟩,_,_⟩:=(show ObjOk X.prog X.w H s.heap q (.ext (XOb q D dx)) from I.hok q _ hq)
 have at_:ErrAt q D s.heap:=by
  cases dx with
  | none=>exact ⟨_,none,ho,rfl,rfl,trivial⟩
  | some d =>
   obtain ⟨o,z⟩:=hdx d rfl
   obtain ⟨od,y⟩:=ObjOk.there (I.hok d o z)
   exact ⟨_,some od,ho,rfl,rfl,y⟩
 exact PySem.W.kia_one (oY f sp tk) I.kIn at_ hb (fun z=>nomatch z) fun tk=>⟨.bl b,H,I.tok tk,rfl,k⟩
theorem mh {t:Value} {vt:V} {subs:List (Str×Bool)} (T:IsaX X.K X.mg t subs) {G:Fx} {F H:Hp} {σ:St} {ρ:Rho} {Q:VK} (g0:(lc X EX).Good G F H σ ρ) (o:Out (m1 (isaX subs) fa ρ) (Post (lc X EX) (RV (lc X EX)) G F σ Q) (PostX (lc X EX) G F σ)) :
  lift (lc X EX) (RV (lc X EX)) fa σ H (fun x H1=>rIsaX X.K t vt [x,vt] H1 Q) :=
 au g0 o (fun x r q=>q) fun F1 H1 ρ1 d1 x s1 g1 r1 o1=>by
  obtain ⟨d,e,q⟩:=o1.opt
  cases d1 with
  | exn c' ns vs =>
   simp only [isaX] at e
   cases e1:subs.lookup c' with
   | none=>rw [e1] at e;cases e
   | some b =>
    rw [e1] at e
    cases e
    obtain ⟨D,hD,f,hb⟩:=T.ex (c',b) (PySem.mem_of_lookup e1)
    cases r1 with
    | exn h hc hf r =>
     rw [show (lc X EX).mg c'=some (.ref D) from hD] at hc
     cases hc
     refine ⟨_,D,_,b,rfl,g1.sub _ _ h,fun d z=>?_,f,hb,q F1 H1 _ s1 g1 (.bl _)⟩
     rcases hf with ⟨z1,_⟩ | ⟨d',z1,z2⟩
     ·rw [z1] at z;cases z
     ·rw [z1] at z;cases z;exact ⟨_,g1.sub _ _ z2⟩
  | _=>cases e
theorem gj {C:Addr} {subs:List (Str×Bool)} (hC:X.mg c=some (.ref C)) (T:IsaX X.K X.mg (.ref C) subs) (hg:Gl X "isinstance") (hm:X.mg "isinstance" = none) (hgT:Gl X c) (ha:PV X EX a fa) (hdT:(c == ("__debug__" : Str))=false:=by decide)
  (hs:starEach [a,.Name c pT] X.env=(false,eval a X.env)::starEach [.Name c pT] X.env:=by rfl) (hs2:starEach [.Name c pT] X.env=(false,eval (.Name c pT) X.env)::starEach [] X.env:=by rfl) (hpl:(backTo pos (starEach [.Name c pT] X.env)).any (·.1)=false:=by rfl) :
  PV X EX (.Call (.Name "isinstance" p) [a,.Name c pT] [] pos) (m1 (isaX subs) fa) :=
 (cz (iX (vt:=.ref C) (fun u h=>by cases h;rfl) T.sp T.tk) hg hm boot_isinstance (aR ha (aR (ge (v:=.ref C) hgT hC rfl hdT) bM hs2) hs) (by decide) (by decide) hs hpl).le fun σ H Q ⟨G,F,ρ,g0,o⟩=>mh T g0 o
theorem p5 (T:String) {subs:List (Str×Bool)} (K:IsaX X.K X.mg (.type T) subs) (hg:Gl X "isinstance") (hm:X.mg "isinstance" = none) (hgT:Gl X c) (hmT:X.mg c=none) (hvT:bootBuiltins c=some (.type T)) (ha:PV X EX a fa) (hn:c ≠ "__name__" := by decide) (hdT:(c == ("__debug__" : Str))=false:=by decide)
  (hs:starEach [a,.Name c pT] X.env=(false,eval a X.env)::starEach [.Name c pT] X.env:=by rfl) (hs2:starEach [.Name c pT] X.env=(false,eval (.Name c pT) X.env)::starEach [] X.env:=by rfl) (hpl:(backTo pos (starEach [.Name c pT] X.env)).any (·.1)=false:=by rfl) :
  PV X EX (.Call (.Name "isinstance" p) [a,.Name c pT] [] pos) (m1 (isaX subs) fa) :=
 (cz (iX (vt:=.ty T) (fun u h=>h) K.sp K.tk) hg hm boot_isinstance (aR ha (aR (mw (v:=.ty T) hgT hmT hvT rfl hn hdT) bM hs2) hs) (by decide) (by decide) hs hpl).le fun σ H Q ⟨G,F,ρ,g0,o⟩=>mh K g0 o
end
section
variable {P:Program} {w:World} {K:Frag} {mg:MG} {base:Heap}
theorem FnOk.no {k:Nat} {f:Addr} {fd:FuncData} {ps:List Str} {sp sp':Sp} (F:FnOk P w K mg base (CX1 P w) k f fd ps sp) (h:∀vs H Q E,sp' vs H Q E→sp vs H Q fun _ _ _=>False):FnOk P w K mg base CX0 k f fd ps sp' :=
 ⟨fun vs H Q E q=>F.len _ _ _ _ (h vs H Q E q),fun A outer s H args us vs Q E hr e0 hb r hsp=>codeAny_mono (F.run A outer s H args us vs Q (fun _ _ _=>False) hr e0 hb r (h _ _ _ _ hsp)) fun r s' hq=>by
  cases r with
  | error e=>obtain ⟨_,_,_,_,_,_,_,_,_,_,z⟩:=hq;exact z.elim
  | ok fl=>cases fl<;>exact hq⟩
theorem sy {CX:CXT} {k:Nat} {f:Addr} {name qual:Str} {params:Arguments} {body:List Stmt} {scope:Scope} {dV kV doc pm cdv ct oc:Value} {an od:Option Addr} {osl:Array (Option Value)} {N ps:List Str} {sp:Sp}
  (lk:K.lookup f=some ⟨oc,od,.func (PySem.W.fnOf name qual params body scope dV kV doc pm an cdv ct),osl⟩) (hcd:PySem.W.codeIn K cdv qual=true) (S:FnScope N ps scope) (len:∀vs H Q E,sp vs H Q E→vs.length=ps.length)
  (hbody:∀(A:Around) (outer:List Env) (s:Shared) (H:Hp) (vs:List V) (Q:VK) (E:XK),Room k (A.deeper (envOfC qual scope s.heap.objs.size f cdv))→sp vs H Q E →
   ∃t,PSs0 (cxOf CX P w K mg base N qual scope f cdv A outer s H E) body t∧t { nx:=fun _ H'=>Q .non H',rt:=Q } (start N vs) H):FnOk P w K mg base CX (k+1) f (PySem.W.fnOf name qual params body scope dV kV doc pm an cdv ct) ps sp:=by
 refine ⟨len,fun A outer s H args us vs Q E hr e0 hb r hsp=>?_⟩
 have kx:K.In s.heap:=e0.mod.kin.keeps fun b o e=>(e0.bs b o e).1
 have lim:s.heap.NoLimit:=e0.mod.nolimit.keeps fun b o e=>(e0.bs b o e).1
 refine codeAny_call_function hr.depth (kx _ _ lk) rfl S.co S.gen rfl (PySem.W.codeRec_of kx hcd) (hb _ _ _ _ ?_)
 refine wpAny_newFunctionEnv_cells S.kind (fun ⟨n,v⟩ hy=>(S.par n (List.of_mem_zip hy).1).imp id fun q=>⟨q,PySem.W.cellsFrom_some _ _ _ (.inl q)⟩) fun env he s1 x=>?_
 subst he
 refine ⟨lim.keeps x.toInCall.keep,codeAny_func ?_⟩
 obtain ⟨t,ht,hq⟩:=hbody A outer s H vs Q E (hr.deeper _) hsp
 refine wpAny_mono (ht s1 (start N vs) H _ (i8 S hr.hd e0 (len _ _ _ _ hsp) r x) hq) (fun fl s' hs=>?_) fun e s' hs=>hs
 cases fl with
 | ret u=>obtain ⟨v,σ',H',J,rv,q⟩:=hs;exact ⟨v,H',J.os,J.bare,J.base,J.hok,rv,q⟩
 | next=>obtain ⟨σ',H',J,q⟩:=hs;exact ⟨V.non,H',J.os,J.bare,J.base,J.hok,rfl,q⟩
 | brk=>obtain ⟨_,_,_,q⟩:=hs;exact False.elim q
 | cont=>obtain ⟨_,_,_,q⟩:=hs;exact False.elim q
theorem sB {x qual:Str} {st:Stmt} {f:Addr} {fd:FuncData} {N ps:List Str} {k:Nat} {fl:List Bool} {body:M Fl} (Fu:Fun K x qual st f fd) (S:FnScope N ps (defScope st)) (hl:fl.length=ps.length)
  (hbody:∀(cdv:Value) (A:Around) (outer:List Env) (s:Shared) (H:Hp) (E:XK),Room k (A.deeper (envOfC qual (defScope st) s.heap.objs.size f cdv)) →
   PVSs0 (cxOf CX0 P w K mg base N qual (defScope st) f cdv A outer s H E).nox (fun _=>E) (defBody st) body) :
  FnOk P w K mg base CX0 (k+1) f fd ps (spV K mg fl (defn N.length fl body)):=by
 obtain ⟨oc,od,kV,doc,pm,an,cdv,ct,osl,rfl,lk,hcd⟩:=Fu.ex
 refine sy lk hcd S (fun vs H Q E h=>by rw [h.1,hl]) fun A outer s H vs Q E hr hsp=>⟨_,fun s1 σ H1 D I q=>?_,iA S.pre hl hsp⟩
 exact wpAny_mono (hbody cdv A outer s H E hr s1 σ H1 D (I.wish _) q) (fun fl s2 h2=>h2.unwish) fun v s2 h2=>h2.elim
end
end VS

end
section
set_option linter.all false
set_option maxRecDepth 100000
namespace VS
open PySem PySem.Spec PyProof.Rows L2 VP
def xeC (X:Cx) (scope:Scope) (N':List Str) (E:XK) (C:Addr) (s2:Shared) (H2:Hp) (fp:List Addr):Value→Shared→Prop:=fun v s'=>∃e c dx σ' H1 H' pins s1,v=.ref e∧Inv (compCx X scope C N' s2 H2 fp) pins σ' H1 s1∧s'.os=s1.os∧AllBare s'.gens∧Un (frs X.stack) [] H1 H' s1.heap s'.heap∧HOk X.prog X.w H' s'.heap∧Xo s1.heap H' s'.heap e c dx∧E c dx H'
section
variable {X:Cx} {EX:XE} {elt tg iter:Expr} {ifs:List Expr} {pos:Pos} {it:M (List D)} {gf:D→M Unit} {ft:M Bool} {fe:M D} {js:List Nat} {scope:Scope} {N':List Str}
theorem passC {E:XK} {C:Addr} {s2:Shared} {H2:Hp} {fp:List Addr}:PassesAt (CX1 X.prog X.w) ((compCx X scope C N' s2 H2 fp).wish (xeC X scope N' E C s2 H2 fp)) (fun _=>E):=by
 intro pins σ H s v s' I ⟨e,c,dx,H',hv,ho,hg,un,hok,x,q⟩
 exact ⟨e,c,dx,σ,H,H',pins,s,hv,I.unwish,ho,hg,un,hok,x,q⟩
theorem oG {use:Option (Value→Sem Unit)} {QQ:Value→Shared→Prop} {pins:List (Addr×Obj)} {σ:St} {l C:Addr} {s2:Shared} {H2:Hp} {fp:List Addr} {v:Value} {s':Shared} (hpn:X.pn=[]) (hex:X.ex=[]) (hs:X.stack=X.env::X.outer) (hf:X.env.frame=some X.env.locals) (hxe:X.xe=xeOf X EX)
  (I2:Inv X pins σ H2 s2) (f2:∀b∈fp,FpOk X pins H2 b) (hC:C=s2.heap.objs.size+1) (h:xeC X scope N' (EX σ) C s2 H2 fp v s') :
  notedBy (model X.prog X.w) X.A (compCx X scope C N' s2 H2 fp).env (fun x s''=>compPost (model X.prog X.w) X.A X.xe use QQ (.ref l) C (.error x) s'') v s':=by
 obtain ⟨e,c,dx,σ',H1,H',pins',s1,rfl,I1,ho,hg,un,hok,x,q⟩:=h
 have I3:Inv (compCx X scope C N' s2 H2 fp) [] σ' H' s':=(Inv.nopin I1).call' (ch:=[]) ho un hok hg fun b hb=>absurd hb (by simp)
 have IX:Inv X pins σ H' s':=I2.call' (s':=s') I3.os I3.base I3.hok I3.bare fun b hb=>⟨(f2 b hb).2.2.2.1,(f2 b hb).2.1,(f2 b hb).2.2.2.2.1,(f2 b hb).2.2.2.2.2⟩
 have FC:FpOk X pins H' C:=I2.fpOk (by rw [hC];exact Nat.le_succ _) I3.free
 have old:∀b,s1.heap.get? b=none→X.s₀.heap.get? b=none:=fun b hb=>by
  cases q1:X.s₀.heap.get? b with
  | none=>rfl
  | some o =>
   by_cases hb2:b∈fp
   ·rcases (f2 b hb2).2.2.2.1 with z | z
    ·rw [hex] at z;simp at z
    ·exact absurd (Heap.lt_size q1) (Nat.not_lt.mpr z)
   ·obtain ⟨o2,z2⟩:=I2.base.there b o q1 (by rw [hex];simp)
    obtain ⟨o3,z3⟩:=I1.base.there b o2 z2 hb2
    rw [hb] at z3;cases z3
 obtain ⟨m1,⟨oc1,_,_,hc1,hcd1,_⟩,_⟩:=I1.loc
 have atC:∀b,s1.heap.get? b=none→b≠C:=fun b hb z=>by rw [z] at hb;rw [show s1.heap.get? C=some oc1 from hc1] at hb;cases hb
 have neC:e≠C:=atC e x.lo
 obtain ⟨m3,⟨oc,es,ep,hc3,hcd,hr⟩,_⟩:=I3.loc
 have hc3':s'.heap.get? C=some oc:=hc3
 have CnF:C∉frs X.stack:=fun z=>(List.mem_cons.mp (I2.stkSub C z)).elim FC.2.1 FC.2.2.1
 show wpAny (model X.prog X.w) X.A (noteFrame (.ref e) X.env) _ _ s'
 refine jF (X:=X.nox) ((Inv.nopin IX).wish _) hpn hs hf (x.mono old) fun h1 I4 x4 kp=>?_
 have hcA:h1.get? C=some oc:=kp C oc CnF (fun vs z=>by rw [hcd] at z;cases z) hc3'
 refine ⟨m3,⟨oc,es,ep,hcA,hcd,hr⟩,fun h2 sb cenv hcl=>?_⟩
 obtain ⟨vs,sl,T,ot,ts,he,hv2,h1',hTe,hTl,hTn,hot,hd,h3⟩:=x4
 have TC:T≠C:=fun z=>by rw [z,hcA] at hot;cases hot;rw [hcd] at hd;cases hd
 have I5:Inv X.nox [] σ H' { s' with heap:=h2,toks:=s'.toks }:=I4.turned (t':=s'.toks) (fun b ob hb e=>sb.extBut b ob hb e) FC.1 FC.2.1 FC.2.2.2.1 FC.2.2.2.2.1 (fun p hp=>absurd (show p∈X.pn++[] from hp) (by rw [hpn];simp))
 have he2:=sb.extBut e _ neC he
 have x5:XTb X.s₀.heap H' h2 e c dx (rawInt X.env.locals):=⟨vs,sl,T,ot,ts,he2,hv2,h1',hTe,hTl,hTn,sb.extBut T _ TC hot,hd,h3⟩
 unfold PySem.passOn
 refine wpAny_bind (wpAny_field he2 rfl h1' ?_)
 rw [if_neg (by simp)]
 refine wpAny_bind (dt (X:=X.nox) cenv.frame I5 hpn x5 fun h4 I6 x6=>?_)
 refine wpAny_throw ?_
 rw [hxe]
 exact ⟨e,c,dx,σ,H',rfl,I6,⟨old e x.lo,x.nt,.inr ⟨_,x6⟩⟩,q⟩
theorem pS (n:Nat) (hpn:X.pn=[]) (hex:X.ex=[]) (hst:X.stack=X.env::X.outer) (hfr:X.env.frame=some X.env.locals) (hxe:X.xe=xeOf X EX) (hc:X.calm=true) (c:CompOk X scope N') (hn:X.N.length+n+1=N'.length) (hi:PVI X EX tg iter it) (hgx:∀d r x r',gf d r≠.exc x r') (hjs:∀j∈js,X.N.length≤j∧j<X.N.length+n)
  (hg:∀C s H ex,PVG (compCx X scope C N' s H ex) EX tg js gf) (ht:∀C s H ex EX,PTs (compCx X scope C N' s H ex) EX ifs ft)
  (he:∀C s H ex E,PassesAt (CX1 X.prog X.w) ((compCx X scope C N' s H ex).wish (xeC X scope N' E C s H ex)) (fun _=>E)→PV ((compCx X scope C N' s H ex).wish (xeC X scope N' E C s H ex)) (fun _=>E) elt fe)
  (hs:∀x,foldedSetIterable iter X.env x=pure x:=by intro _;rfl):PF X EX (.ListComp elt [⟨tg,iter,ifs,0⟩] scope pos) (mComp n it gf ft fe):=by
 intro pins s σ H Q I h
 obtain ⟨G,F,ρ,g0,o⟩:=h
 rw [eval_ListComp]
 refine fH (use:=none) n hc c hn hi hgx hjs hg ht (xw:=xeC X scope N' (EX σ)) (fun C s H ex=>he C s H ex _ passC) (fun l C s2 H2 fp v s' I2 f2 hC z=>oG hpn hex hst hfr hxe I2 f2 hC z) hs I g0 o (fun x r q=>q) fun F4 H4 s5 ρ5 d l C mm e4 g4 lo post IX hmm FC=>?_
 refine ⟨mm,hmm,fun h' hs'=>⟨.ref l,H4,?_,rfl,post F4 H4 _ e4 g4 ⟨l,rfl,lo⟩⟩⟩
 exact IX.turned (t':=s5.toks) (fun b ob hb e=>hs'.extBut b ob hb e) FC.1 FC.2.1 FC.2.2.2.1 FC.2.2.2.2.1 FC.2.2.2.2.2
end
end VS

end
section
set_option linter.all false
set_option maxRecDepth 100000
namespace VS
open PySem PySem.Spec PyProof.Rows L2 VP
def NewF (f:Str) (H₀ F:Hp) (v:V):Prop:=∃o C dx fs l xs,v=.ref o∧H₀ o=none∧F o=some (.ins C dx fs)∧fs.lookup f=some (.ref l)∧H₀ l=none∧F l=some (.lst xs)∧xs.length≤16777216
def NewO (f:Str) (H₀ F H:Hp) (x:Addr):Prop:=∃C dx fs l xs,H x=some (.ins C dx fs)∧fs.lookup f=some (.ref l)∧H₀ l=none∧F l=some (.lst xs)∧xs.length≤16777216
theorem Loose.fastU {K:Frag} {mg:MG} {G:Fx} {F H:Hp} {σ:St} {ρ:Rho} {l:Addr} {d:D} {o:HO} (x:Loose K mg G F H σ ρ l d) (g:Good K mg G F H σ ρ) (ho:H l=some o):Good K mg G (upd F l o) H σ ρ where
 sF:=g.sF.trans (aH x.nF)
 sub:=fun b q e=>by
  by_cases hb:b=l
  ·subst hb;rw [ax] at e;cases e;exact ho
  ·rw [aq hb] at e;exact g.sub _ _ e
 old:=g.old
 new:=fun a u e=>by
  by_cases hb:a=l
  ·subst hb;exact .inr x.n0
  ·rw [aq hb] at e;exact g.new a u e
 len:=g.len
 slot:=fun i s h=>(g.slot i s h).same (aH x.nF) (fun m hv ow hf _=>by
  have:m≠l:=fun z=>by
   subst z
   exact x.ns i s h ow (aI hv)
  rw [aq this];exact hf) fun _ _ _ _ e=>e
 apart:=g.apart
 ioT:=fun i a h=>by
  obtain ⟨h1,h2,u,h3⟩:=g.ioT i a h
  refine ⟨h1,?_,u,h3⟩
  have:a≠l:=fun z=>by subst z;rw [x.n0] at h3;cases h3
  rw [aq this];exact h2
 ioU:=g.ioU
section
variable {X:Cx} {EX:XE} {e a test value:Expr} {ft:M Bool} {fe:M D} {f g:M Fl} {st:Stmt} {body rest:List Stmt} {pos p:Pos} {x fn:Str}
def JI (i:Nat) (f:Str) (G:Fx) (F H:Hp) (σ:St):Prop:=∃x,σ[i]?=some (some (V.ref x))∧NewO f G.H₀ F H x
def PostJ (L:Lc) (i:Nat) (fn:Str) (G:Fx) (F:Hp) (E:Ends):Fl→Rho→Prop:=fun k ρ'=>match k with
 | .nx=>∀F' H' σ',Same F F'→L.Good G F' H' σ' ρ'→JI i fn G F' H' σ'→E.nx σ' H'
 | _=>False
def liftJ (L:Lc) (i:Nat) (fn:Str) (f:M Fl):TS:=fun E σ H=>∃G F ρ,L.Good G F H σ ρ∧JI i fn G F H σ∧Out (f ρ) (PostJ L i fn G F E) (PostXS L G F)
def liftK (L:Lc) (i:Nat) (fn:Str) (f:M Fl):TS:=fun E σ H=>∃G F ρ,L.Good G F H σ ρ∧Out (f ρ) (PostJ L i fn G F E) (PostXS L G F)
def PVSJ (X:Cx) (EX:XE) (i:Nat) (fn:Str) (st:List Stmt) (f:M Fl):Prop:=PSs X st (liftJ (lc X EX) i fn f)
def PVSK (X:Cx) (EX:XE) (i:Nat) (fn:Str) (st:List Stmt) (f:M Fl):Prop:=PSs X st (liftK (lc X EX) i fn f)
theorem cG {v:V}:∀{fs:List (Str×V)},(putF fn v fs).lookup fn=some v
 | []=>by simp [putF]
 | (n,w)::fs=>by
  simp only [putF]
  split
  ·rename_i h;simp [h]
  ·rename_i h
   rw [List.lookup_cons,show (fn == n)=false from beq_false_of_ne (Ne.symm h)]
   exact cG
end
end VS

end
section
set_option linter.all false
set_option maxRecDepth 100000
namespace VS
open PySem PySem.Spec PyProof.Rows L2 VP
def RFN (L:Lc) (fn:Str):Rl D V:=fun G F H σ ρ v d=>∃l,v=.ref l∧Loose L.K L.mg G F H σ ρ l d∧NewO fn G.H₀ F H l
def RVN (L:Lc) (fn:Str):Rl D V:=fun G F _ _ _ v d=>Den L.K L.mg F v d∧NewF fn G.H₀ F v
def PFN (X:Cx) (EX:XE) (fn:Str) (e:Expr) (f:M D):Prop:=PE X e (lift (lc X EX) (RFN (lc X EX) fn) f)
def PVN (X:Cx) (EX:XE) (fn:Str) (e:Expr) (f:M D):Prop:=PE X e (lift (lc X EX) (RVN (lc X EX) fn) f)
def PostN (L:Lc) (fn:Str) (G:Fx) (F:Hp) (E:Ends):Fl→Rho→Prop:=fun k ρ'=>match k with
 | .nx=>∀F' H' σ',Same F F'→L.Good G F' H' σ' ρ'→E.nx σ' H'
 | .rt d=>∀F' H' σ' v,Same F F'→L.Good G F' H' σ' ρ'→Den L.K L.mg F' v d→NewF fn G.H₀ F' v→E.rt v H'
 | _=>False
def liftN (L:Lc) (fn:Str) (f:M Fl):TS:=fun E σ H=>∃G F ρ,L.Good G F H σ ρ∧Out (f ρ) (PostN L fn G F E) (PostXS L G F)
def PVSN1 (X:Cx) (EX:XE) (fn:Str) (st:Stmt) (f:M Fl):Prop:=PS X st (liftN (lc X EX) fn f)
def PVSN (X:Cx) (EX:XE) (fn:Str) (st:List Stmt) (f:M Fl):Prop:=PSs X st (liftN (lc X EX) fn f)
section
variable {P:Program} {w:World} {K:Frag} {mg:MG} {base:Heap}
theorem uZ {f g:M Fl} (h:∀r ρ',g r≠.ok .nx ρ'):∀r ρ',sSeq f g r≠.ok .nx ρ':=fun r ρ' e=>by
 unfold sSeq VP.bnd at e
 cases q:f r with
 | no=>rw [q] at e;cases e
 | exc x r'=>rw [q] at e;cases e
 | ok k r' =>
  rw [q] at e
  cases k with
  | nx=>exact h _ _ e
  | bk=>cases e
  | ct=>cases e
  | rt d=>cases e
end
end VS

end
section
set_option linter.all false
set_option maxRecDepth 100000
namespace VS
open PySem PySem.Spec PyProof.Rows L2 VP
section
variable {X:Cx} {EX:XE} {e a test value call idx:Expr} {ft:M Bool} {fe fi:M D} {f g:M Fl} {st:Stmt} {body rest:List Stmt} {pos p:Pos} {x y z fn:Str}
def JM (j:Nat) (fn:Str) (G:Fx) (F H:Hp) (σ:St):Prop:=∃l xs,σ[j]?=some (some (V.ref l))∧H l=some (.lst xs)∧∀u∈xs,u=.non∨NewF fn G.H₀ F u
def liftM (L:Lc) (j:Nat) (fn:Str) (f:M Fl):TS:=fun E σ H=>∃G F ρ,L.Good G F H σ ρ∧JM j fn G F H σ∧Out (f ρ) (PostN L fn G F E) (PostXS L G F)
def PVSM (X:Cx) (EX:XE) (j:Nat) (fn:Str) (st:List Stmt) (f:M Fl):Prop:=PSs X st (liftM (lc X EX) j fn f)
end
end VS

end
section
set_option linter.all false
set_option maxRecDepth 100000
namespace VS
open PySem PySem.Spec PyProof.Rows L2 VP
theorem DenL.two {K:Frag} {mg:MG} {F:Hp} {vs:List V} {d1 d2:D} (h:DenL K mg F vs [d1,d2]):∃v1 v2,vs=[v1,v2]∧Den K mg F v1 d1∧Den K mg F v2 d2:=by
 cases h with
 | cons k1 t=>cases t with
  | cons k2 t=>cases t;exact ⟨_,_,rfl,k1,k2⟩
end VS

end
section
set_option linter.all false
set_option maxRecDepth 100000
namespace VS
open PySem PySem.Spec PyProof.Rows L2 VP
section
variable {K:Frag} {mg:MG} {G:Fx} {F H:Hp} {σ:St} {ρ:Rho}
theorem Good.forget (g:Good K mg G F H σ ρ) (i:Nat):Good K mg G F H σ (ρ.set i .no) where
 sF:=g.sF
 sub:=g.sub
 old:=g.old
 new:=g.new
 len:=by simp [g.len]
 slot:=fun j s h=>by
  by_cases hj:j=i
  ·subst hj
   have hi:j<ρ.length:=by
    have:=(List.getElem?_eq_some_iff.mp h).1
    simpa using this
   rw [List.getElem?_set_self hi] at h;cases h
   trivial
  ·rw [List.getElem?_set_ne (Ne.symm hj)] at h
   exact g.slot j s h
 apart:=fun j k l s t h1 h2 o1 o2 e1 e2=>by
  have f:∀{j:Nat} {t:Sl},(ρ.set i .no)[j]?=some t→Owned t=true→ρ[j]?=some t:=fun {j t} h o=>by
   by_cases hj:j=i
   ·subst hj
    have hi:j<ρ.length:=by
     have:=(List.getElem?_eq_some_iff.mp h).1
     simpa using this
    rw [List.getElem?_set_self hi] at h;cases h;cases o
   ·rw [List.getElem?_set_ne (Ne.symm hj)] at h;exact h
  exact g.apart j k l s t (f h1 o1) (f h2 o2) o1 o2 e1 e2
 ioT:=g.ioT
 ioU:=g.ioU
theorem Good.free_write {l:Addr} {o:HO} (g:Good K mg G F H σ ρ) (nF:F l=none) (n0:G.H₀ l=none) (ns:∀(i:Nat) (s:Sl),ρ[i]?=some s→Owned s=true→σ[i]?≠some (some (V.ref l))):Good K mg G F (upd H l o) σ ρ where
 sF:=g.sF
 sub:=fun b q e=>by
  have:b≠l:=aQ e nF
  rw [aq this];exact g.sub _ _ e
 old:=fun a q e n=>by
  have:a≠l:=fun z=>by subst z;rw [n0] at e;cases e
  rw [aq this];exact g.old a q e n
 new:=g.new
 len:=g.len
 slot:=fun j t h=>(g.slot j t h).same (Same.refl _) (fun _ _ _ z _=>z) fun m q hv ow e=>by
  have:m≠l:=fun z=>by subst z;exact ns j t h ow (aI hv)
  rw [aq this];exact e
 apart:=g.apart
 ioT:=fun j a h=>by
  obtain ⟨⟨q,h1⟩,h2,u,h3⟩:=g.ioT j a h
  refine ⟨⟨q,?_⟩,h2,u,h3⟩
  have:a≠l:=fun z=>by subst z;rw [n0] at h3;cases h3
  rw [aq this];exact h1
 ioU:=g.ioU
end
end VS

end
section
set_option linter.all false
set_option maxRecDepth 100000
namespace VS
open PySem PySem.Spec PyProof.Rows L2 VP
section
variable {X:Cx} {EX:XE} {o e:Expr} {es:List Expr} {to:TE} {t:TA} {name:Str} {apos cpos:Pos} {T id:String} {r:V→List V→Hp→VK→Prop} {fo fe:M D}
theorem iY {K:Frag} {mg:MG} {F:Hp}:∀{vs:List V} {ns:List Int},DenL K mg F vs (ns.map D.int)→vs=ns.map V.int
 | _,[],.nil=>rfl
 | _,n::ns,.cons h t=>by
  cases h
  rw [iY t]
  rfl
end
end VS

end
section
set_option linter.all false
set_option maxRecDepth 100000
namespace VS
open PySem PySem.Spec PyProof.Rows L2 VP
section
variable {X:Cx} {EX:XE} {e:Expr} {es:List Expr} {as:List VP.Arg} {pos p:Pos} {CX:CXT} {k:Nat} {fA:Addr} {fd:FuncData} {ps:List Str} {x y z:Str} {fl:List Bool} {fs:Fn} {t:TA} {te:TE}
theorem ie (F:FnOk X.prog X.w X.K X.mg X.base CX k fA fd ps (spV X.K X.mg fl fs)) (hr:Room k X.A) (hg:Gl X x) (hm:X.mg x=some (.ref fA)) (hk:PySem.W.keepIn X.K (.ref fA)=true) (hb:Binds X.K fd ps []) (hx:PassesAt CX X EX)
  (ha:PA X (e::es) t) (hdb:(x == ("__debug__" : Str))=false:=by decide) (he:starEach (e::es) X.env=(false,eval e X.env)::starEach es X.env:=by rfl) (hpl:(backTo pos (starEach es X.env)).any (·.1)=false:=by rfl) :
  PE X (.Call (.Name x p) (e::es) [] pos) (fun σ H Q=>t σ H fun vs H1=>spV X.K X.mg fl fs vs H1 Q (EX σ)):=by
 intro pins s σ H Q I h
 refine wpAny_Call_Name_kw (c7 I hg hm ?_ hdb)
 exact PySem.W.callWith_K (h₀:=X.base) I.ok.mod.kin hk (thn (ha pos pins s σ H (fun vs H1=>spV X.K X.mg fl fs vs H1 Q (EX σ)) I h) fun us s1 ⟨vs,H1,I1,r,q⟩=>⟨I1.kIn,jR F hr hb hx I1 r q⟩) he hpl
theorem qq {L:Lc} {G:Fx} {F H:Hp} {σ:St} {ρ:Rho} {v:V} {n:D} {i:Nat} {Q:VK} {P:D→Rho→Prop} {Ex:Xn→Rho→Prop} (g:L.Good G F H σ ρ) (hi:σ[i]?=some (some v)) {u:V} (hu:Den L.K L.mg F u n)
  (o:Out (mApp fs [.io i,.val n] ρ) P Ex) (hE:∀x r,Ex x r→PostX L G F σ x r)
  (hP:∀F' H' ρ' d w,Same F F'→L.Good G F' H' σ ρ'→Den L.K L.mg F' w d→(∀j,j≠i→ρ'[j]?=ρ[j]?)→(∀a ob,H a=some ob→v≠.ref a→H' a=some ob)→(∀a ob,H a=some ob→F a=none→F' a=none)→P d ρ'→Q w H'):spV L.K L.mg [true,false] fs [v,u] H Q (L.EX σ):=by
 unfold mApp at o
 have r:AvsR L F σ [v,u] [.io i,.val n]:=.cons hi (.cons hu .nil)
 cases q:avs [.io i,.val n] ρ with
 | none=>rw [q] at o;exact o.elim
 | some ds =>
  rw [q] at o
  dsimp only at o
  by_cases nd:(ioSl [.io i,.val n]).Nodup
  ·rw [if_pos nd] at o
   obtain ⟨k1,k2⟩:=nW g r q (fl:=[true,false]) rfl
   obtain ⟨k3,k4⟩:=k2 0
   refine ⟨by rw [k1.len.1],F,ds,g.sub,k1,iN g nd k3 k4,?_⟩
   have ad:∀a,a∈ioAd [true,false] [v,u]→v=.ref a:=fun a ha=>by
    cases v with
    | ref l=>simp [ioAd,ioAs] at ha;rw [ha]
    | _=>simp [ioAd,ioAs] at ha
   cases q2:fs ds with
   | no=>rw [q2] at o;exact o.elim
   | ok d ios =>
    rw [q2] at o
    refine fun F' H' w a rd=>hP F' H' _ d w a.sF (Good.called g nd k3 k4 a) rd (fun j hj=>cB (by simpa [ioSl] using hj)) (fun b ob hb hn=>a.old b ob hb fun z=>hn (ad b z)) (fun b ob hb hf=>?_) o
    cases q3:F' b with
    | none=>rfl
    | some ob' =>
     rcases a.new b ob' q3 with h | h
     ·rw [hf] at h;cases h
     ·rw [hb] at h;cases h
   | exc xx ios =>
    rw [q2] at o
    exact fun F' H' c dx a rx=>hE _ _ o F' H' c dx a.sF (Good.called g nd k3 k4 a) rx
  ·rw [if_neg nd] at o;exact o.elim
end
theorem lE (n:Nat) (ns:List Int):plains n (ns.map D.int)=true:=by
 induction ns with
 | nil=>rfl
 | cons i r ih=>simp [plains,VP.plain,ih]
structure CS (X:Cx) (j:Nat) (G:Fx) (F:Hp) (ρ:Rho) (σ:St) (H:Hp) (lc m:Addr) (va vb:V) (d0 d1:D) (ns:List Int):Prop where
 g:Good X.K X.mg G F H σ ρ
 rj:ρ[j]?=some .no
 sj:σ[j]?=some (some (V.ref lc))
 hc:H lc=some (.lst [va,vb,.ref m])
 hm:H m=some (.lst (ns.map V.int))
 ne:lc≠m
 fc:F lc=none
 fm:F m=none
 c0:G.H₀ lc=none
 m0:G.H₀ m=none
 nc:∀(i:Nat) (s:Sl),ρ[i]?=some s→Owned s=true→σ[i]?≠some (some (V.ref lc))
 nm:∀(i:Nat) (s:Sl),ρ[i]?=some s→Owned s=true→σ[i]?≠some (some (V.ref m))
 da:Den X.K X.mg F va d0
 db:Den X.K X.mg F vb d1
section
variable {X:Cx} {j:Nat} {G:Fx} {F F' H H':Hp} {ρ ρ':Rho} {σ:St} {lc m:Addr} {va vb:V} {d0 d1:D} {ns:List Int}
theorem CS.made (c:CS X j G F ρ σ H lc m va vb d0 d1 ns) {p:Addr} {o:HO} (hp:H p=none):CS X j G F ρ σ (upd H p o) lc m va vb d0 d1 ns:=by
 obtain ⟨g,rj,sj,hc,hm,ne,fc,fm,c0,m0,nc,nm,da,db⟩:=c
 exact ⟨g.made hp,rj,sj,aH hp _ _ hc,aH hp _ _ hm,ne,fc,fm,c0,m0,nc,nm,da,db⟩
theorem CS.put (c:CS X j G F ρ σ H lc m va vb d0 d1 ns) (ns':List Int):CS X j G F ρ σ (upd H m (.lst (ns'.map V.int))) lc m va vb d0 d1 ns':=by
 obtain ⟨g,rj,sj,hc,hm,ne,fc,fm,c0,m0,nc,nm,da,db⟩:=c
 exact ⟨g.free_write fm m0 nm,rj,sj,by rw [aq ne];exact hc,ax,ne,fc,fm,c0,m0,nc,nm,da,db⟩
theorem CS.back (c:CS X j G F ρ σ H lc m va vb d0 d1 ns):∃F',Same F F'∧Good X.K X.mg G F' H σ (ρ.set j (.ow (.lst [d0,d1,.lst (ns.map .int)]))):=by
 obtain ⟨g,rj,sj,hc,hm,ne,fc,fm,c0,m0,nc,nm,da,db⟩:=c
 have lo:Loose X.K X.mg G F H σ ρ m (.lst (ns.map .int)):=⟨fm,m0,⟨_,hm,DenL.ints ns⟩,nm⟩
 have g2:=lo.fastU g hm
 have s2:Same F (upd F m (.lst (ns.map V.int))):=aH fm
 refine ⟨_,s2,?_⟩
 have g3:=Good.store (s':=.ow (.lst [d0,d1,.lst (ns.map .int)])) (v:=.ref lc) g2 (i:=j) (by rw [rj];rfl) ⟨lc,rfl,by rw [aq ne];exact fc,c0,_,hc,.cons (da.same s2) (.cons (db.same s2) (.cons (.lst (SqL.of ax) (DenL.ints ns)) .nil))⟩ (fun _ i s h o _=>nc i s h o)
 have e:σ.set j (some (V.ref lc))=σ:=by
  have hj:j<σ.length:=(List.getElem?_eq_some_iff.mp sj).1
  have:σ[j]=some (V.ref lc):=(List.getElem?_eq_some_iff.mp sj).2
  rw [←this];exact List.set_getElem_self hj
 rw [e] at g3
 exact g3
variable {EX:XE} {fs:Fn}
theorem gq (g:Good X.K X.mg G F H σ ρ) {i:Nat} {n:D} {P:D→Rho→Prop} {E:Xn→Rho→Prop} (o:Out (mApp fs [.io i,.val n] ρ) P E):∃s l,ρ[i]?=some s∧Owned s=true∧σ[i]?=some (some (V.ref l)):=by
 have sl:∃s,ρ[i]?=some s∧Owned s=true:=by
  unfold mApp at o
  cases q:ρ[i]? with
  | none=>simp only [avs,q,own] at o;exact o.elim
  | some s =>
   refine ⟨s,rfl,?_⟩
   cases s with
   | no=>simp only [avs,q,own] at o;exact o.elim
   | sh d=>simp only [avs,q,own] at o;exact o.elim
   | ow d=>rfl
   | io d=>rfl
 obtain ⟨s,hs,ho⟩:=sl
 obtain ⟨l,d,h1,h2,h3,h4⟩:=(g.slot i s hs).own ho
 exact ⟨s,l,hs,ho,aI h1⟩
theorem CS.call (c:CS X j G F ρ σ H lc m va vb d0 d1 ns) {i:Nat} {n:Int} {Q:VK} {P:D→Rho→Prop} {s:Sl} {l:Addr} (hij:i≠j) (hs:ρ[i]?=some s) (ho:Owned s=true) (hl:σ[i]?=some (some (V.ref l))) (o:Out (mApp fs [.io i,.val (.int n)] ρ) P (PostXS ⟨X.K,X.mg,EX⟩ G F))
  (hP:∀F' H' ρ' d w,Same F F'→CS X j G F' ρ' σ H' lc m va vb d0 d1 ns→Den X.K X.mg F' w d→P d ρ'→Q w H'):spV X.K X.mg [true,false] fs [.ref l,.int n] H Q (EX σ):=by
 refine qq (L:=⟨X.K,X.mg,EX⟩) c.g hl (.int n) o (fun x r z=>z.x) fun F' H' ρ' d' w s' g' rd hj hh hf p=>hP F' H' ρ' d' w s' ?_ rd p
 obtain ⟨g,rj,sj,hc,hm,ne,fc,fm,c0,m0,nc,nm,da,db⟩:=c
 have own:∀(k:Nat) (t:Sl),ρ'[k]?=some t→Owned t=true→∃t',ρ[k]?=some t'∧Owned t'=true:=fun k t h o=>by
  by_cases hk:k=i
  ·subst hk;exact ⟨s,hs,ho⟩
  ·rw [hj k hk] at h;exact ⟨t,h,o⟩
 exact ⟨g',by rw [hj j (Ne.symm hij)];exact rj,sj,hh _ _ hc fun z=>nc i s hs ho (by rw [hl,z]),hh _ _ hm fun z=>nm i s hs ho (by rw [hl,z]),ne,hf _ _ hc fc,hf _ _ hm fm,c0,m0,
  fun k t h o=>by obtain ⟨t',a1,a2⟩:=own k t h o;exact nc k t' a1 a2,fun k t h o=>by obtain ⟨t',a1,a2⟩:=own k t h o;exact nm k t' a1 a2,da.same s',db.same s'⟩
end
theorem oK (ns:List Int):eqBs (ns.map D.int) []=decide (ns=[]):=by
 cases ns<;>simp [eqBs]
section
variable {X:Cx} {EX:XE} {rest:List Stmt} {fc:M D} {g:M Fl} {ec:Expr} {CX:CXT} {k:Nat} {fA:Addr} {fd:FuncData} {ps:List Str} {f x y:Str} {fs:Fn} {j r:Nat} {ka kb kc:Int}
theorem rh (hjr:r≠j) {pf1 pf2 pf3 px1 px2 px3 pr1 pr2 pr3 pi1 pi2 pi3 psb1 psb2 psb3 pn pne pA pc1 pk pB pbo pc2 pkc pc3 plen plc psb4 pas pif:Pos} {j1 j2 j3 j4 j5 j6}
  (F:FnOk X.prog X.w X.K X.mg X.base CX k fA fd ps (spV X.K X.mg [true,false] fs)) (hr:Room k X.A) (hg:Gl X f) (hm:X.mg f=some (.ref fA)) (hk:PySem.W.keepIn X.K (.ref fA)=true) (hb:Binds X.K fd ps []) (hx:PassesAt CX X EX) (hu:X.A.units+64<cLine) (hgl:Gl X "len") (hml:X.mg "len" = none)
  (hN:X.N[j]?=some x:=by rfl) (hv:Vis X.env.scope x:=by first | exact Or.inl rfl | exact Or.inr (Or.inl rfl) | exact Or.inr (Or.inr rfl)) (hd:(x == ("__debug__" : Str))=false:=by decide) (hcd:(x == ("__classdict__" : Str))=false:=by decide)
  (hN2:X.N[r]?=some y:=by rfl) (hv2:Vis X.env.scope y:=by first | exact Or.inl rfl | exact Or.inr (Or.inl rfl) | exact Or.inr (Or.inr rfl)) (hd2:(y == ("__debug__" : Str))=false:=by decide) (hcd2:(y == ("__classdict__" : Str))=false:=by decide)
  (hdb:(f == ("__debug__" : Str))=false:=by decide)
  (hs1:starEach [.Name y pr1,.Constant (.int ka) j1 pk] X.env=(false,eval (.Name y pr1) X.env)::starEach [.Constant (.int ka) j1 pk] X.env:=by rfl) (hs2:starEach [.Constant (.int ka) j1 pk] X.env=(false,eval (.Constant (.int ka) j1 pk) X.env)::starEach [] X.env:=by rfl)
  (hp1:(backTo pc1 (starEach [.Constant (.int ka) j1 pk] X.env)).any (·.1)=false:=by rfl)
  (hs3:starEach [.Name y pr2,.Constant (.int kc) j4 pkc] X.env=(false,eval (.Name y pr2) X.env)::starEach [.Constant (.int kc) j4 pkc] X.env:=by rfl) (hs4:starEach [.Constant (.int kc) j4 pkc] X.env=(false,eval (.Constant (.int kc) j4 pkc) X.env)::starEach [] X.env:=by rfl)
  (hp2:(backTo pc2 (starEach [.Constant (.int kc) j4 pkc] X.env)).any (·.1)=false:=by rfl)
  (hs5:starEach [.Name y pr3,.Call (.Name "len" plen) [.Subscript (.Name x px3) (.Constant (.int 2) j6 pi3) psb3] [] plc] X.env=(false,eval (.Name y pr3) X.env)::starEach [.Call (.Name "len" plen) [.Subscript (.Name x px3) (.Constant (.int 2) j6 pi3) psb3] [] plc] X.env:=by rfl)
  (hs6:starEach [.Call (.Name "len" plen) [.Subscript (.Name x px3) (.Constant (.int 2) j6 pi3) psb3] [] plc] X.env=(false,eval (.Call (.Name "len" plen) [.Subscript (.Name x px3) (.Constant (.int 2) j6 pi3) psb3] [] plc) X.env)::starEach [] X.env:=by rfl)
  (hs7:starEach [.Subscript (.Name x px3) (.Constant (.int 2) j6 pi3) psb3] X.env=(false,eval (.Subscript (.Name x px3) (.Constant (.int 2) j6 pi3) psb3) X.env)::starEach [] X.env:=by rfl)
  (hp3:(backTo pc3 (starEach [.Call (.Name "len" plen) [.Subscript (.Name x px3) (.Constant (.int 2) j6 pi3) psb3] [] plc] X.env)).any (·.1)=false:=by rfl) (hp4:(backTo plc (starEach [] X.env)).any (·.1)=false:=by rfl)
  (hm1:behindInMarks .NotEq (.List [] pn)=false:=by rfl) (hm2:behindInMarks .Eq (.Constant (.int kb) j2 pB)=false:=by rfl)
  (hx1:PlainIx (.Constant (.int 2) j3 pi1):=by intro _ _;rfl) (hx2:PlainIx (.Constant (.int 2) j5 pi2):=by intro _ _;rfl) (hx3:PlainIx (.Constant (.int 2) j6 pi3):=by intro _ _;rfl)
  (ha:∀v,assign (.Subscript (.Subscript (.Name x px2) (.Constant (.int 2) j5 pi2) psb2) (.Call (.Name f pf3) [.Name y pr3,.Call (.Name "len" plen) [.Subscript (.Name x px3) (.Constant (.int 2) j6 pi3) psb3] [] plc] [] pc3) psb4) X.env v=(do
   let ov ←holding [v] (eval (.Subscript (.Name x px2) (.Constant (.int 2) j5 pi2) psb2) X.env)
   let iv ←holding [v,ov] (eval (.Call (.Name f pf3) [.Name y pr3,.Call (.Name "len" plen) [.Subscript (.Name x px3) (.Constant (.int 2) j6 pi3) psb3] [] plc] [] pc3) X.env)
   standAt psb4
   holding [v,ov,iv] (setItem ov iv v)
   release [v,ov,iv] []):=by intro _;rfl)
  (hsw:swapsWithSole [.Subscript (.Subscript (.Name x px2) (.Constant (.int 2) j5 pi2) psb2) (.Call (.Name f pf3) [.Name y pr3,.Call (.Name "len" plen) [.Subscript (.Name x px3) (.Constant (.int 2) j6 pi3) psb3] [] plc] [] pc3) psb4] (.Call (.Name f pf2) [.Name y pr2,.Constant (.int kc) j4 pkc] [] pc2) pas.line X.env=pure false:=by rfl)
  (hss:swappedStores [.Subscript (.Subscript (.Name x px2) (.Constant (.int 2) j5 pi2) psb2) (.Call (.Name f pf3) [.Name y pr3,.Call (.Name "len" plen) [.Subscript (.Name x px3) (.Constant (.int 2) j6 pi3) psb3] [] plc] [] pc3) psb4] (.Call (.Name f pf2) [.Name y pr2,.Constant (.int kc) j4 pkc] [] pc2) X.env=pure none:=by rfl)
  (hh1:(assignEach [.Subscript (.Subscript (.Name x px2) (.Constant (.int 2) j5 pi2) psb2) (.Call (.Name f pf3) [.Name y pr3,.Call (.Name "len" plen) [.Subscript (.Name x px3) (.Constant (.int 2) j6 pi3) psb3] [] plc] [] pc3) psb4] X.env).map (·.2)=[assign (.Subscript (.Subscript (.Name x px2) (.Constant (.int 2) j5 pi2) psb2) (.Call (.Name f pf3) [.Name y pr3,.Call (.Name "len" plen) [.Subscript (.Name x px3) (.Constant (.int 2) j6 pi3) psb3] [] plc] [] pc3) psb4) X.env]:=by rfl) :
  PS X (.If (.BoolOp .And [.Compare (.Subscript (.Name x px1) (.Constant (.int 2) j3 pi1) psb1) [.NotEq] [.List [] pn] pne,.Compare (.Call (.Name f pf1) [.Name y pr1,.Constant (.int ka) j1 pk] [] pc1) [.Eq] [.Constant (.int kb) j2 pB] pA] pbo)
    [.Assign [.Subscript (.Subscript (.Name x px2) (.Constant (.int 2) j5 pi2) psb2) (.Call (.Name f pf3) [.Name y pr3,.Call (.Name "len" plen) [.Subscript (.Name x px3) (.Constant (.int 2) j6 pi3) psb3] [] plc] [] pc3) psb4] (.Call (.Name f pf2) [.Name y pr2,.Constant (.int kc) j4 pkc] [] pc2) pas] [] pif)
   (fun E σ H=>∃G F ρ l m va vb d0 d1 ns,CS X j G F ρ σ H l m va vb d0 d1 ns∧Out (nestIn r fs ka kb kc ns ρ) (fun ns' ρ'=>∀F' H',Same F F'→CS X j G F' ρ' σ H' l m va vb d0 d1 ns'→E.nx σ H') (PostXS (lc X EX) G F)) :=
 (r8 (PW.pt (uf (gi (eM hu) (kF hJ (bz hN hv hd hcd) dG hx1) (pQ bM) hm1) (rn (gi (aG hu) (ie F hr hg hm hk hb hx (aR (bz hN2 hv2 hd2 hcd2) (aR dG bM hs2) hs1) hdb hs1 hp1) dG hm2))))
  (rk (lF (ie F hr hg hm hk hb hx (aR (bz hN2 hv2 hd2 hcd2) (aR dG bM hs4) hs3) hdb hs3 hp2) (lC (kF hJ (bz hN hv hd hcd) dG hx2)
   (ie F hr hg hm hk hb hx (aR (bz hN2 hv2 hd2 hcd2) (aR (cz ay hgl hml PySem.boot_len (aR (kF hJ (bz hN hv hd hcd) dG hx3) bM hs7) (he:=hs7) (hpl:=hp4)) bM hs6) hs5) hdb hs5 hp3) iu ha) hsw hss hh1)) mB).le fun E σ H ⟨G,F0,ρ,l,m,va,vb,d0,d1,ns,c,o⟩=>by
  refine ⟨_,c.sj,.inl ⟨l,_,2,.ref m,rfl,rfl,SqL.of c.hc,rfl,by simp [sizeLine],fun p hp=>?_⟩⟩
  have c2:=c.made (o:=.lst []) hp
  refine ⟨_,.lst (ns.map .int),.lst [],Same.refl _,.lst (SqL.of c2.hm) (DenL.ints ns),.lst (SqL.of ax) .nil,lE 59 ns,rfl,_,rfl,?_⟩
  show (if (!eqBs (ns.map D.int) [])=true then _ else _)
  rw [oK]
  by_cases h0:ns=[]
  ·rw [if_neg (by simp [h0])]
   unfold nestIn at o
   rw [if_pos h0] at o
   exact iteF (o F0 _ (Same.refl _) c2)
  ·rw [if_pos (by simp [h0])]
   unfold nestIn at o
   rw [if_neg h0] at o
   have o1:=Out.bnd o
   obtain ⟨t1,l1,h1,h2,h3⟩:=gq c2.g o1
   refine ⟨_,h3,c2.call hjr h1 h2 h3 o1 fun F1 H1 ρ1 x1 w1 e1 c3 r1 o2=>?_⟩
   have o3:=Out.bnd o2
   cases x1 with
   | int x1 =>
    cases r1
    replace o3:Out ((if x1=kb then bnd (mApp fs [.io r,.val (.int kc)]) (fun v=>bnd (intM v) fun v=>bnd (mApp fs [.io r,.val (.int ns.length)]) fun i=>bnd (intM i) fun i=>opt ((ixP ns.length i).map fun k=>ns.set k v)) else ret ns) ρ1) (fun ns' ρ'=>∀F' H',Same F0 F'→CS X j G F' ρ' σ H' l m va vb d0 d1 ns'→E.nx σ H') (PostXS (lc X EX) G F0):=o3
    refine ⟨F1,.int x1,.int kb,c3.g.sub,.int _,.int _,rfl,rfl,_,rfl,?_⟩
    show (if (x1 == kb)=true then _ else _)
    by_cases hk1:x1=kb
    ·rw [if_pos hk1] at o3
     rw [if_pos (by simp [hk1])]
     have o4:=Out.bnd o3
     obtain ⟨t2,l2,g1,g2,g3⟩:=gq c3.g o4
     refine ⟨_,g3,c3.call hjr g1 g2 g3 (o4.mono (fun _ _ z=>z) fun _ _ z=>z.same e1) fun F2 H2 ρ2 v2 w2 e2 c4 r2 o5=>?_⟩
     have o6:=Out.bnd o5
     cases v2 with
     | int v2 =>
      cases r2
      refine ⟨_,c4.sj,.inl ⟨l,_,2,.ref m,rfl,rfl,SqL.of c4.hc,rfl,?_⟩⟩
      have o7:=Out.bnd o6
      obtain ⟨t3,l3,f1,f2,f3⟩:=gq c4.g o7
      refine ⟨_,f3,_,c4.sj,.inl ⟨l,_,2,.ref m,rfl,rfl,SqL.of c4.hc,rfl,m,_,rfl,.inl (SqL.of c4.hm),?_⟩⟩
      rw [List.length_map]
      refine c4.call hjr f1 f2 f3 (o7.mono (fun _ _ z=>z) fun _ _ z=>z.same (e1.trans e2)) fun F3 H3 ρ3 i3 w3 e3 c5 r3 o8=>?_
      have o9:=Out.bnd o8
      cases i3 with
      | int i3 =>
       cases r3
       obtain ⟨ns',q1,q2⟩:=Out.opt (show Out (opt ((ixP ns.length i3).map fun k=>ns.set k v2) ρ3) _ _ from o9)
       cases q3:ixP ns.length i3 with
       | none=>rw [q3] at q1;cases q1
       | some k3 =>
        rw [q3] at q1
        cases q1
        refine ⟨m,_,i3,k3,rfl,rfl,c5.hm,by rw [List.length_map];exact q3,?_⟩
        have c6:=c5.put (ns.set k3 v2)
        rw [List.map_set] at c6
        exact q2 F3 _ (e1.trans (e2.trans e3)) c6
      | _=>exact o9.elim
     | _=>exact o6.elim
    ·rw [if_neg hk1] at o3
     rw [if_neg (by simp [hk1])]
     exact o3 F1 H1 e1 c3
   | _=>exact o3.elim
theorem kr:∀{ds:List D} {ns:List Int},intsD ds=some ns→ds=ns.map .int
 | [],ns,q=>by cases q;rfl
 | d::ds,ns,q=>by
  cases d with
  | int i =>
   simp only [intsD] at q
   cases q2:intsD ds with
   | none=>rw [q2] at q;cases q
   | some ms =>
    rw [q2] at q
    cases q
    rw [List.map_cons,←kr q2]
  | _=>cases q
theorem DenL.three {K:Frag} {mg:MG} {F:Hp} {vs:List V} {d1 d2 d3:D} (h:DenL K mg F vs [d1,d2,d3]):∃v1 v2 v3,vs=[v1,v2,v3]∧Den K mg F v1 d1∧Den K mg F v2 d2:=by
 cases h with
 | cons k1 t=>obtain ⟨v1,v2,rfl,a,b⟩:=DenL.two t;exact ⟨_,_,_,rfl,k1,a⟩
theorem rH {st2:Stmt} {px pi psb pas:Pos} {j7} (hv:PF X EX ec fc) (h2:PS X st2 (fun E σ H=>∃G F ρ l m va vb d0 d1 ns,CS X j G F ρ σ H l m va vb d0 d1 ns∧Out (nestIn r fs ka kb kc ns ρ) (fun ns' ρ'=>∀F' H',Same F F'→CS X j G F' ρ' σ H' l m va vb d0 d1 ns'→E.nx σ H') (PostXS (lc X EX) G F))) (hr:PVSs X EX rest g)
  (hN:X.N[j]?=some x:=by rfl) (hvs:Vis X.env.scope x:=by first | exact Or.inl rfl | exact Or.inr (Or.inl rfl) | exact Or.inr (Or.inr rfl)) (hd:(x == ("__debug__" : Str))=false:=by decide) (hcd:(x == ("__classdict__" : Str))=false:=by decide)
  (hs:swapsWithSole [.Subscript (.Name x px) (.Constant (.int 2) j7 pi) psb] ec pas.line X.env=pure false:=by rfl) (hw:swappedStores [.Subscript (.Name x px) (.Constant (.int 2) j7 pi) psb] ec X.env=pure none:=by rfl)
  (h1:(assignEach [.Subscript (.Name x px) (.Constant (.int 2) j7 pi) psb] X.env).map (·.2)=[assign (.Subscript (.Name x px) (.Constant (.int 2) j7 pi) psb) X.env]:=by rfl)
  (ha:∀v,assign (.Subscript (.Name x px) (.Constant (.int 2) j7 pi) psb) X.env v=(do
   let ov ←holding [v] (eval (.Name x px) X.env)
   let iv ←holding [v,ov] (eval (.Constant (.int 2) j7 pi) X.env)
   standAt psb
   holding [v,ov,iv] (setItem ov iv v)
   release [v,ov,iv] []):=by intro _;rfl) :
  PVSs X EX (.Assign [.Subscript (.Name x px) (.Constant (.int 2) j7 pi) psb] ec pas::st2::rest) (sNest j r fs ka kb kc fc g) :=
 (ij (lF hv (lC (bz hN hvs hd hcd) dG iu ha) hs hw h1) (ij h2 hr)).le fun E σ H ⟨G,F,ρ,g0,o⟩=>au g0 o (fun x r q=>q.x) fun F1 H1 ρ1 dd v s1 g1 ⟨m,ev,lo⟩ o1=>by
  subst ev
  have o2:=Out.bnd o1
  cases dd with
  | lst ds =>
   obtain ⟨ns,q1,o3⟩:=Out.opt (show Out (opt (intsD ds) ρ1) _ _ from o2)
   have e1:=kr q1
   subst e1
   obtain ⟨vs,hm,dm⟩:=id lo.ob
   have e2:=iY dm
   subst e2
   have o4:=Out.bnd o3
   have sl:∃d0 d1 d2,ρ1[j]?=some (.ow (.lst [d0,d1,d2])):=by
    unfold nestGet at o4
    split at o4
    ·exact ⟨_,_,_,by assumption⟩
    ·exact o4.elim
   obtain ⟨d0,d1,d2,hj⟩:=sl
   have o5:Out (bnd (nestAt j .no) (fun _=>bnd (nestIn r fs ka kb kc ns) fun ns'=>bnd (nestAt j (.ow (.lst [d0,d1,.lst (ns'.map .int)]))) fun _=>g) ρ1) (PostS (lc X EX) G F E) (PostXS (lc X EX) G F):=by
    unfold nestGet at o4
    rw [hj] at o4
    exact o4
   obtain ⟨l,z1,z2,z3,xs,z4,z5⟩:=g1.slot j _ hj
   have hl:=aI z1
   obtain ⟨va,vb,vc,rfl,da,db⟩:=DenL.three z5
   have ne:l≠m:=fun z=>by subst z;exact lo.ns j _ hj rfl hl
   have hjl:j<ρ1.length:=(List.getElem?_eq_some_iff.mp hj).1
   have own:∀(i:Nat) (s:Sl),(ρ1.set j .no)[i]?=some s→Owned s=true→i≠j∧ρ1[i]?=some s:=fun i s h o=>by
    by_cases hi:i=j
    ·subst hi;rw [List.getElem?_set_self hjl] at h;cases h;cases o
    ·rw [List.getElem?_set_ne (Ne.symm hi)] at h;exact ⟨hi,h⟩
   have nc:∀(i:Nat) (s:Sl),(ρ1.set j .no)[i]?=some s→Owned s=true→σ[i]?≠some (some (V.ref l)):=fun i s h o e=>by
    obtain ⟨n1,n2⟩:=own i s h o
    exact n1 (g1.apart i j l s _ n2 hj o rfl e hl)
   refine ⟨_,hl,l,_,2,2,rfl,rfl,z4,rfl,?_⟩
   have c:CS X j G F1 (ρ1.set j .no) σ (upd H1 l (.lst [va,vb,.ref m])) l m va vb d0 d1 ns:=⟨(g1.forget j).free_write z2 z3 nc,by rw [List.getElem?_set_self hjl],hl,ax,by rw [aq (Ne.symm ne)];exact hm,ne,z2,lo.nF,z3,lo.n0,nc,fun i s h o=>lo.ns i s (own i s h o).2 o,da,db⟩
   refine ⟨G,F1,_,l,m,va,vb,d0,d1,ns,c,(Out.bnd (show Out (bnd (nestIn r fs ka kb kc ns) (fun ns'=>bnd (nestAt j (.ow (.lst [d0,d1,.lst (ns'.map .int)]))) fun _=>g) (ρ1.set j .no)) (PostS (lc X EX) G F E) (PostXS (lc X EX) G F) from o5)).mono (fun ns' ρ' o6 F' H' s' c'=>?_) fun _ _ z=>z.same s1⟩
   obtain ⟨F2,s2,g2⟩:=c'.back
   exact ⟨G,F2,_,g2,Out.mono (show Out (g (ρ'.set j (.ow (.lst [d0,d1,.lst (ns'.map .int)])))) (PostS (lc X EX) G F E) (PostXS (lc X EX) G F) from o6) (fun _ _=>PostS.same (s1.trans (s'.trans s2))) fun _ _=>PostXS.same (s1.trans (s'.trans s2))⟩
  | _=>exact o2.elim
end
end VS

end
section
namespace VP
open PySem
section
variable {α β:Type}
def Res.then {α β:Type}:Res α→(α→M β)→Res β
 | .ok a r,g=>g a r
 | .exc x r,_=>.exc x r
 | .no,_=>.no
def Res.seq:Res Fl→M Fl→Res Fl
 | .ok .nx r,g=>g r
 | .ok k r,_=>.ok k r
 | .exc x r,_=>.exc x r
 | .no,_=>.no
def Res.turn:Res Fl→M Fl→Res Fl
 | .ok .nx r,g=>g r
 | .ok .ct r,g=>g r
 | .ok .bk r,_=>.ok .nx r
 | .ok (.rt d) r,_=>.ok (.rt d) r
 | .exc x r,_=>.exc x r
 | .no,_=>.no
@[simp] theorem aC (a:α) (r:Rho) (g:α→M β):(Res.ok a r).then g=g a r:=Eq.trans rfl rfl
@[simp] theorem qe (x:Xn) (r:Rho) (g:α→M β):(Res.exc x r:Res α).then g=.exc x r:=Eq.trans rfl rfl
@[simp] theorem xC (c:Prop) [Decidable c] (a b:Res α) (g:α→M β):(if c then a else b).then g=if c then a.then g else b.then g:=by split<;>rfl
@[simp] theorem uZ (r:Rho) (g:M Fl):(Res.ok .nx r).seq g=g r:=Eq.trans rfl rfl
@[simp] theorem zH (r:Rho) (g:M Fl):(Res.ok .bk r).seq g=.ok .bk r:=Eq.trans rfl rfl
@[simp] theorem zI (r:Rho) (g:M Fl):(Res.ok .ct r).seq g=.ok .ct r:=Eq.trans rfl rfl
@[simp] theorem zJ (d:D) (r:Rho) (g:M Fl):(Res.ok (.rt d) r).seq g=.ok (.rt d) r:=Eq.trans rfl rfl
@[simp] theorem yJ (x:Xn) (r:Rho) (g:M Fl):(Res.exc x r).seq g=.exc x r:=Eq.trans rfl rfl
@[simp] theorem yK (c:Prop) [Decidable c] (a b:Res Fl) (g:M Fl):(if c then a else b).seq g=if c then a.seq g else b.seq g:=by split<;>rfl
@[simp] theorem yU (r:Rho) (g:M Fl):(Res.ok .nx r).turn g=g r:=Eq.trans rfl rfl
@[simp] theorem yS (r:Rho) (g:M Fl):(Res.ok .bk r).turn g=.ok .nx r:=Eq.trans rfl rfl
@[simp] theorem yT (r:Rho) (g:M Fl):(Res.ok .ct r).turn g=g r:=Eq.trans rfl rfl
@[simp] theorem yV (d:D) (r:Rho) (g:M Fl):(Res.ok (.rt d) r).turn g=.ok (.rt d) r:=Eq.trans rfl rfl
@[simp] theorem xF (x:Xn) (r:Rho) (g:M Fl):(Res.exc x r).turn g=.exc x r:=Eq.trans rfl rfl
@[simp] theorem xG (c:Prop) [Decidable c] (a b:Res Fl) (g:M Fl):(if c then a else b).turn g=if c then a.turn g else b.turn g:=by split<;>rfl
@[simp] theorem cC (a:α) (r:Rho):ret a r=.ok a r:=Eq.trans rfl rfl
@[simp] theorem xy (r:Rho):(stuck:M α) r=.no:=Eq.trans rfl rfl
@[simp] theorem cy (a:α):opt (some a)=ret a:=Eq.trans rfl rfl
@[simp] theorem wQ:(opt none:M α)=stuck:=Eq.trans rfl rfl
theorem aj (f:M α) (g:α→M β) (r:Rho):bnd f g r=(f r).then g:=by unfold bnd;cases f r<;>rfl
@[simp] theorem z8 (d:D) (r:Rho):mC d r=.ok d r:=Eq.trans rfl rfl
@[simp] theorem z7 (g:D→Option D) (a:M D) (r:Rho):m1 g a r=(a r).then fun x=>opt (g x):=aj _ _ _
@[simp] theorem wp (g:D→D→Option D) (a b:M D) (r:Rho):m2 g a b r=(a r).then fun x r=>(b r).then fun y=>opt (g x y):=by
 unfold m2;rw [aj];congr;funext x r;exact aj _ _ _
@[simp] theorem zr (r:Rho):mL [] r=.ok [] r:=Eq.trans rfl rfl
@[simp] theorem yk (f:M D) (fs:List (M D)) (r:Rho):mL (f::fs) r=(f r).then fun x r=>(mL fs r).then fun xs=>ret (x::xs):=by
 conv=>lhs;unfold mL
 rw [aj];congr;funext x r;exact aj _ _ _
@[simp] theorem z9 (g:List D→Option D) (as:List (M D)) (r:Rho):mF g as r=(mL as r).then fun xs=>opt (g xs):=aj _ _ _
@[simp] theorem yr (as:List (M D)) (r:Rho):mTup as r=(mL as r).then fun xs=>opt (tupD xs):=aj _ _ _
@[simp] theorem yl (as:List (M D)) (r:Rho):mLst as r=(mL as r).then fun xs=>opt (lstD xs):=aj _ _ _
def boolOf:D→M Bool
 | .bl b=>ret b
 | _=>stuck
@[simp] theorem vh (b:Bool):boolOf (.bl b)=ret b:=Eq.trans rfl rfl
@[simp] theorem Ad (a:M D) (r:Rho):tB a r=(a r).then boolOf:=by
 unfold tB;rw [aj];cases a r with
 | ok d r'=>cases d<;>rfl
 | _=>rfl
@[simp] theorem yO (a:M Bool) (r:Rho):tNot a r=(a r).then fun b=>ret (!b):=aj _ _ _
@[simp] theorem yN (a b:M Bool) (r:Rho):tAnd a b r=(a r).then fun x r=>if x=true then b r else .ok false r:=by
 unfold tAnd;rw [aj];congr;funext x r;cases x<;>rfl
@[simp] theorem zM (a b:M Bool) (r:Rho):tOr a b r=(a r).then fun x r=>if x=true then .ok true r else b r:=by
 unfold tOr;rw [aj];congr;funext x r;cases x<;>rfl
@[simp] theorem ym (a:M Bool) (r:Rho):mOfT a r=(a r).then fun b=>ret (.bl b):=aj _ _ _
@[simp] theorem zq (c:M Bool) (a b:M D) (r:Rho):mIf c a b r=(c r).then fun x r=>if x=true then a r else b r:=by
 unfold mIf;rw [aj];congr;funext x r;cases x<;>rfl
@[simp] theorem wq (a b:M D) (r:Rho):mAndV a b r=((a r).then boolOf).then fun x r=>if x=true then b r else .ok (.bl false) r:=by
 unfold mAndV;rw [aj];cases a r with
 | ok d r' =>
  cases d<;>try rfl
  rename_i b;cases b<;>rfl
 | _=>rfl
@[simp] theorem yn (a b:M D) (r:Rho):mOrV a b r=((a r).then boolOf).then fun x r=>if x=true then .ok (.bl true) r else b r:=by
 unfold mOrV;rw [aj];cases a r with
 | ok d r' =>
  cases d<;>try rfl
  rename_i b;cases b<;>rfl
 | _=>rfl
@[simp] theorem zE (r:Rho):sNx r=.ok .nx r:=Eq.trans rfl rfl
@[simp] theorem zB (r:Rho):sBk r=.ok .bk r:=Eq.trans rfl rfl
@[simp] theorem zC (r:Rho):sCt r=.ok .ct r:=Eq.trans rfl rfl
@[simp] theorem yF (f g:M Fl) (r:Rho):sSeq f g r=(f r).seq g:=by
 unfold sSeq bnd;cases f r with
 | ok k r'=>cases k<;>rfl
 | _=>rfl
@[simp] theorem fQ (f:M Unit) (r:Rho):sDo f r=(f r).then fun _=>ret .nx:=aj _ _ _
@[simp] theorem w6 (f:M D) (r:Rho):sDrop f r=(f r).then fun _=>ret .nx:=aj _ _ _
@[simp] theorem yE (f:M D) (r:Rho):sRet f r=(f r).then fun d=>ret (.rt d):=aj _ _ _
@[simp] theorem ui (c:M Bool) (a b:M Fl) (r:Rho):sIf c a b r=(c r).then fun x r=>if x=true then a r else b r:=by
 unfold sIf;rw [aj];congr;funext x r;cases x<;>rfl
@[simp] theorem yG (i:Nat) (f:M D) (r:Rho):sSet i f r=(f r).then fun d r=>if free r[i]?=true then .ok .nx (r.set i (.sh d)) else .no:=by
 unfold sSet;rw [aj];congr;funext d r;rw [fQ];unfold mSet;split<;>rfl
@[simp] theorem yD (i:Nat) (f:M D) (r:Rho):sOwn i f r=(f r).then fun d r=>if free r[i]?=true then .ok .nx (r.set i (.ow d)) else .no:=by
 unfold sOwn;rw [aj];congr;funext d r;rw [fQ];unfold mOwn;split<;>rfl
@[simp] theorem zD (i:Nat) (f:M Fl) (r:Rho):sFz i f r=(mFz i r).then fun _=>f:=aj _ _ _
def shOf:Option Sl→Option D
 | some (.sh d)=>some d
 | _=>none
def anyOf:Option Sl→Option D
 | some (.sh d)=>some d
 | some (.ow d)=>some d
 | some (.io d)=>some d
 | _=>none
@[simp] theorem rB (d:D):shOf (some (.sh d))=some d:=Eq.trans rfl rfl
@[simp] theorem vT (d:D):anyOf (some (.sh d))=some d:=Eq.trans rfl rfl
@[simp] theorem vS (d:D):anyOf (some (.ow d))=some d:=Eq.trans rfl rfl
@[simp] theorem vR (d:D):anyOf (some (.io d))=some d:=Eq.trans rfl rfl
@[simp] theorem xX:free (some .no)=true:=Eq.trans rfl rfl
@[simp] theorem xZ (d:D):free (some (.sh d))=true:=Eq.trans rfl rfl
@[simp] theorem xY (d:D):free (some (.ow d))=true:=Eq.trans rfl rfl
@[simp] theorem lB (d:D):own (some (.ow d))=some d:=Eq.trans rfl rfl
@[simp] theorem zv (d:D):own (some (.io d))=some d:=Eq.trans rfl rfl
@[simp] theorem qN (i:Nat) (r:Rho):mVar i r=opt (shOf r[i]?) r:=by
 unfold mVar;cases h:r[i]? with
 | none=>rfl
 | some s=>cases s<;>rfl
@[simp] theorem zt (i:Nat) (r:Rho):mRd i r=opt (anyOf r[i]?) r:=by
 unfold mRd;cases h:r[i]? with
 | none=>rfl
 | some s=>cases s<;>rfl
def fzS (i:Nat) (r:Rho):Option Sl→Res Unit
 | some (.ow d)=>.ok () (r.set i (.sh d))
 | some (.sh _)=>.ok () r
 | _=>.no
@[simp] theorem zp (i:Nat) (r:Rho):mFz i r=fzS i r r[i]?:=by
 unfold mFz;cases h:r[i]? with
 | none=>rfl
 | some s=>cases s<;>rfl
@[simp] theorem yZ (i:Nat) (r:Rho) (d:D):fzS i r (some (.ow d))=.ok () (r.set i (.sh d)):=Eq.trans rfl rfl
@[simp] theorem y4 (i:Nat) (r:Rho) (d:D):fzS i r (some (.sh d))=.ok () r:=Eq.trans rfl rfl
def putR (i:Nat) (r:Rho):Option Sl→D→Rho
 | some (.ow _),d=>r.set i (.ow d)
 | some (.io _),d=>r.set i (.io d)
 | _,_=>r
@[simp] theorem jL (i:Nat) (d:D) (r:Rho):putS i d r=putR i r r[i]? d:=by
 unfold putS;cases h:r[i]? with
 | none=>rfl
 | some s=>cases s<;>rfl
@[simp] theorem jK (i:Nat) (r:Rho) (e d:D):putR i r (some (.ow e)) d=r.set i (.ow d):=Eq.trans rfl rfl
@[simp] theorem yz (i:Nat) (r:Rho) (e d:D):putR i r (some (.io e)) d=r.set i (.io d):=Eq.trans rfl rfl
@[simp] theorem ml (i:Nat) (g:D→Option D) (r:Rho):mUpd i g r=(opt (own r[i]?) r).then fun d r=>(opt (g d) r).then fun d' r=>.ok () (putS i d' r):=by
 unfold mUpd;cases own r[i]? with
 | none=>rfl
 | some d=>simp only [cy,cC,aC];cases g d<;>rfl
@[simp] theorem yA (i:Nat) (fe:M D) (r:Rho):sApp i fe r=if isLst (own r[i]?)=true then (fe r).then fun x r=>(mUpd i (appD x) r).then fun _=>ret .nx else .no:=by
 unfold sApp;split
 ·rw [aj];congr;funext x r;exact fQ _ _
 ·rfl
@[simp] theorem vp (ds:List D):isLst (some (.lst ds))=true:=Eq.trans rfl rfl
@[simp] theorem vL (i:Nat) (fk fv:M D) (r:Rho):sSetIx i fk fv r=(fv r).then fun v r=>if isLst (own r[i]?)=true then (fk r).then fun k r=>(mUpd i (setAt k v) r).then fun _=>ret .nx else .no:=by
 unfold sSetIx;rw [aj];congr;funext v r;split
 ·rw [aj];congr;funext k r;exact fQ _ _
 ·rfl
@[simp] theorem km (i:Nat) (d:D) (r:Rho):gName i d r=if free r[i]?=true then .ok () (r.set i (.sh d)) else .no:=Eq.trans rfl rfl
@[simp] theorem gb (i:Nat) (d:D) (r:Rho):mSet i d r=if free r[i]?=true then .ok () (r.set i (.sh d)) else .no:=Eq.trans rfl rfl
@[simp] theorem v0 (r:Rho):gAll [] [] r=.ok () r:=Eq.trans rfl rfl
@[simp] theorem dX (i:Nat) (is:List Nat) (d:D) (ds:List D) (r:Rho):gAll (i::is) (d::ds) r=(mSet i d r).then fun _=>gAll is ds:=aj _ _ _
@[simp] theorem ma (is:List Nat) (ds:List D):gTup is (.tup ds)=gAll is ds:=Eq.trans rfl rfl
@[simp] theorem yC (it:M (List D)) (g:D→M Unit) (body:M Fl) (r:Rho):sFor it g body r=(it r).then fun ds=>loop g body ds:=aj _ _ _
@[simp] theorem wk (g:D→M Unit) (body:M Fl) (r:Rho):loop g body [] r=.ok .nx r:=Eq.trans rfl rfl
@[simp] theorem ja (g:D→M Unit) (body:M Fl) (d:D) (ds:List D) (r:Rho):loop g body (d::ds) r=(g d r).then fun _ r=>(body r).turn (loop g body ds):=by
 conv=>lhs;unfold loop
 rw [aj];congr;funext u r;rw [aj];cases body r with
 | ok k r'=>cases k<;>rfl
 | _=>rfl
@[simp] theorem vO (k:Nat) (g:D→M Unit) (test:M Bool) (elt:M D) (r:Rho):turns k g test elt [] r=.ok () r:=Eq.trans rfl rfl
@[simp] theorem cE (k:Nat) (g:D→M Unit) (test:M Bool) (elt:M D) (d:D) (ds:List D) (r:Rho):turns k g test elt (d::ds) r =
  (g d r).then fun _ r=>(test r).then fun b r=>if b=true then (elt r).then fun x r=>(mUpd k (appD x) r).then fun _=>turns k g test elt ds else turns k g test elt ds r:=by
 conv=>lhs;unfold turns
 rw [aj];congr;funext u r;rw [aj];congr;funext b r;cases b with
 | true=>simp only [if_true];rw [aj];congr;funext x r;exact aj _ _ _
 | false=>rfl
theorem bL (n:Nat) (it:M (List D)) (g:D→M Unit) (test:M Bool) (elt:M D) (r:Rho):mComp n it g test elt r=(it r).then fun ds=>inner n fun k=>turns k g test elt ds:=aj _ _ _
def fin (fl:List Bool):Res Fl→FR
 | .ok (.rt d) r=>match iosOf fl r with
  | some ios=>.ok d ios
  | none=>.no
 | .ok .nx r=>match iosOf fl r with
  | some ios=>.ok .non ios
  | none=>.no
 | .exc x r=>match iosOf fl r with
  | some ios=>.exc x ios
  | none=>.no
 | _=>.no
theorem am (n:Nat) (fl:List Bool) (body:M Fl) (ds:List D) (h:ds.length=fl.length):defn n fl body ds=fin fl (body (startR n fl ds)):=by
 unfold defn;rw [if_pos h];cases body (startR n fl ds) with
 | ok k r=>cases k<;>rfl
 | _=>rfl
def backR (js:List Nat) (r:Rho):FR→Res D
 | .ok d ios=>.ok d (putAll js ios r)
 | .exc x ios=>.exc x (putAll js ios r)
 | .no=>.no
@[simp] theorem oz (js:List Nat) (r:Rho) (d:D) (ios:List D):backR js r (.ok d ios)=.ok d (putAll js ios r):=Eq.trans rfl rfl
@[simp] theorem vg (js:List Nat) (r:Rho) (x:Xn) (ios:List D):backR js r (.exc x ios)=.exc x (putAll js ios r):=Eq.trans rfl rfl
@[simp] theorem lG (ds:List D) (r:Rho):putAll [] ds r=r:=Eq.trans rfl rfl
@[simp] theorem kJ (j:Nat) (js:List Nat) (d:D) (ds:List D) (r:Rho):putAll (j::js) (d::ds) r=putAll js ds (putS j d r):=Eq.trans rfl rfl
@[simp] theorem vB (r:Rho):mArgs [] r=.ok [] r:=Eq.trans rfl rfl
@[simp] theorem vC (f:M D) (as:List Arg) (r:Rho):mArgs (.val f::as) r=(f r).then fun d r=>(mArgs as r).then fun vs=>ret (.val d::vs):=by
 conv=>lhs;unfold mArgs
 rw [aj];congr;funext x r;exact aj _ _ _
@[simp] theorem wu (j:Nat) (as:List Arg) (r:Rho):mArgs (.io j::as) r=if (own r[j]?).isSome=true then (mArgs as r).then fun vs=>ret (.io j::vs) else .no:=by
 conv=>lhs;unfold mArgs
 split
 ·exact aj _ _ _
 ·rfl
@[simp] theorem xO (r:Rho):avs [] r=some []:=Eq.trans rfl rfl
@[simp] theorem xP (d:D) (as:List AV) (r:Rho):avs (.val d::as) r=(avs as r).map (d::·):=Eq.trans rfl rfl
@[simp] theorem sg (j:Nat) (as:List AV) (r:Rho):avs (.io j::as) r=(own r[j]?).bind fun d=>(avs as r).map (d::·):=by
 conv=>lhs;unfold avs
 cases own r[j]?<;>rfl
@[simp] theorem v7:ioSl []=[]:=Eq.trans rfl rfl
@[simp] theorem v8 (d:D) (as:List AV):ioSl (.val d::as)=ioSl as:=Eq.trans rfl rfl
@[simp] theorem qz (j:Nat) (as:List AV):ioSl (.io j::as)=j::ioSl as:=Eq.trans rfl rfl
@[simp] theorem wx (f:Fn) (as:List Arg) (r:Rho):mCall f as r=(mArgs as r).then fun vs=>mApp f vs:=aj _ _ _
@[simp] theorem qM (f:Fn) (vs:List AV) (r:Rho):mApp f vs r=(opt (avs vs r) r).then fun ds r=>if (ioSl vs).Nodup then backR (ioSl vs) r (f ds) else .no:=by
 unfold mApp;cases avs vs r with
 | none=>rfl
 | some ds =>
  simp only [cy,cC,aC];split
  ·cases f ds<;>rfl
  ·rfl
@[simp] theorem sf (n:Nat) (b:Bool) (bs:List Bool) (d:D) (ds:List D):startR (n+1) (b::bs) (d::ds)=(if b=true then .io d else .sh d)::startR n bs ds:=by
 cases b<;>rfl
@[simp] theorem u5 (n:Nat):startR n [] []=List.replicate n .no:=Eq.trans rfl rfl
@[simp] theorem xW (d:D) (r:Rho):fin [] (.ok (.rt d) r)=.ok d []:=Eq.trans rfl rfl
@[simp] theorem xN (i j:Int):addI (.int i) (.int j)=some (.int (i+j)):=Eq.trans rfl rfl
@[simp] theorem vQ (i j:Int):addA (.int i) (.int j)=some (.int (i+j)):=Eq.trans rfl rfl
@[simp] theorem yM (i j:Int):subI (.int i) (.int j)=some (.int (i-j)):=Eq.trans rfl rfl
@[simp] theorem yx (i:Int):negI (.int i)=some (.int (-i)):=Eq.trans rfl rfl
@[simp] theorem zm (i j:Int):ltI (.int i) (.int j)=some (.bl (decide (i<j))):=Eq.trans rfl rfl
@[simp] theorem zb (i j:Int):leI (.int i) (.int j)=some (.bl (decide (i≤j))):=Eq.trans rfl rfl
@[simp] theorem y9 (i j:Int):gtI (.int i) (.int j)=some (.bl (decide (j<i))):=Eq.trans rfl rfl
@[simp] theorem y8 (i j:Int):geI (.int i) (.int j)=some (.bl (decide (j≤i))):=Eq.trans rfl rfl
theorem cr (i j:Int) (h:0<j):modI (.int i) (.int j)=some (.int (i % j)):=if_pos h
theorem i5 (i j:Int) (h:0<j) (h2:j<1073741824):fdivI (.int i) (.int j)=some (.int (i / j)):=if_pos ⟨h,h2⟩
theorem fM (i j:Int) (h:-(2 ^ 64)<i) (h2:i<2 ^ 64):mulI (.int i) (.int j)=some (.int (i*j)):=if_pos (.inl ⟨h,h2⟩)
theorem eJ (i j:Int) (h:-(2 ^ 64)<j) (h2:j<2 ^ 64):mulI (.int i) (.int j)=some (.int (i*j)):=if_pos (.inr ⟨h,h2⟩)
@[simp] theorem xS (i j:Int):eqG (.int i) (.int j)=some (.bl (decide (i=j))):=by
 simp [eqG,plain,eqB];rfl
@[simp] theorem yw (i j:Int):neG (.int i) (.int j)=some (.bl (!decide (i=j))):=by
 simp [neG,plain,eqB];rfl
@[simp] theorem v9 (x:D):isND x .non=some (.bl (isNon x)):=Eq.trans rfl rfl
@[simp] theorem vH (x:D):notND x .non=some (.bl (!isNon x)):=Eq.trans rfl rfl
@[simp] theorem vv:isNon .non=true:=Eq.trans rfl rfl
@[simp] theorem vw (ds:List D):isNon (.tup ds)=false:=Eq.trans rfl rfl
@[simp] theorem vq (i:Int):isNon (.int i)=false:=Eq.trans rfl rfl
@[simp] theorem wj (ds:List D):lenD (.tup ds)=some (.int ds.length):=Eq.trans rfl rfl
@[simp] theorem wg (ds:List D):lenD (.lst ds)=some (.int ds.length):=Eq.trans rfl rfl
@[simp] theorem vN (ds:List D):tupOf (.tup ds)=some (.tup ds):=Eq.trans rfl rfl
@[simp] theorem vM (ds:List D):tupOf (.lst ds)=some (.tup ds):=Eq.trans rfl rfl
@[simp] theorem vA (ds:List D):lstOf (.tup ds)=some (.lst ds):=Eq.trans rfl rfl
@[simp] theorem vz (ds:List D):lstOf (.lst ds)=some (.lst ds):=Eq.trans rfl rfl
@[simp] theorem yu (i j:Int):maxD [.int i,.int j]=some (.int (max i j)):=by
 simp only [maxD,Option.some.injEq,D.int.injEq];split<;>omega
@[simp] theorem yv (i j:Int):minD [.int i,.int j]=some (.int (min i j)):=by
 simp only [minD,Option.some.injEq,D.int.injEq];split<;>omega
@[simp] theorem xu (ds:List D):seqD (.tup ds)=some ds:=Eq.trans rfl rfl
@[simp] theorem xt (ds:List D):seqD (.lst ds)=some ds:=Eq.trans rfl rfl
@[simp] theorem yq (f:M D) (r:Rho):mSeq f r=(f r).then fun d=>opt (seqD d):=aj _ _ _
@[simp] theorem wF (fl:List (M D)) (r:Rho):mRng1 fl r=(mL fl r).then fun xs=>opt (rng1 xs):=aj _ _ _
@[simp] theorem wG (fl:List (M D)) (r:Rho):mRng2 fl r=(mL fl r).then fun xs=>opt (rng2 xs):=aj _ _ _
@[simp] theorem yt (fl:List (M D)) (r:Rho):mZip fl r=(mL fl r).then fun xs=>opt (zipL xs):=aj _ _ _
def intsL (n:Nat):List D:=(List.range n).map fun (i:Nat)=>D.int i
theorem rz (j:Int) (h:-(2 ^ 62)≤j) (h2:j<2 ^ 62):rng1 [.int j]=some (intsL j.toNat):=if_pos ⟨h,h2⟩
@[simp] theorem xE:tupD []=some (.tup []):=Eq.trans rfl rfl
@[simp] theorem wm:lstD []=some (.lst []):=Eq.trans rfl rfl
@[simp] theorem zN (a:D):tupD [a]=some (.tup [a]):=Eq.trans rfl rfl
@[simp] theorem ze (a:D):lstD [a]=some (.lst [a]):=Eq.trans rfl rfl
@[simp] theorem zO (a b:D):tupD [a,b]=some (.tup [a,b]):=Eq.trans rfl rfl
theorem eR (x:D) (xs:List D) (h:xs.length<16777216):appD x (.lst xs)=some (.lst (xs++[x])):=by show (if _ then _ else _)=_;rw [if_pos h]
theorem nT (xs ys:List D) (h:xs.length+ys.length≤LIM):addA (.tup xs) (.tup ys)=some (.tup (xs++ys)):=if_pos h
theorem cZ (xs:List D) (i:Int) (d:D) (h0:0≤i) (h:xs[i.toNat]?=some d):ixD xs i=some d:=by
 have hl:=(List.getElem?_eq_some_iff.mp h).1
 unfold ixD ixP;rw [if_pos h0,if_pos (by omega)];exact h
@[simp] theorem vy (xs:List D) (i:Int):itemD (.tup xs) (.int i)=ixD xs i:=Eq.trans rfl rfl
@[simp] theorem vx (xs:List D) (i:Int):itemD (.lst xs) (.int i)=ixD xs i:=Eq.trans rfl rfl
@[simp] theorem sQ (r:Rho):mPart none r=.ok none r:=Eq.trans rfl rfl
def intOf:D→M (Option Int)
 | .int i=>ret (some i)
 | _=>stuck
@[simp] theorem vn (i:Int):intOf (.int i)=ret (some i):=Eq.trans rfl rfl
@[simp] theorem sR (f:M D) (r:Rho):mPart (some f) r=(f r).then intOf:=by
 show bnd f _ r=_
 rw [aj];cases f r with
 | ok d r'=>cases d<;>rfl
 | _=>rfl
@[simp] theorem zu (g:D→Option Int→Option Int→Option D) (f:M D) (lo hi:Option (M D)) (r:Rho):mSl g f lo hi r=(f r).then fun d r=>(mPart lo r).then fun l r=>(mPart hi r).then fun h=>opt (g d l h):=by
 unfold mSl;rw [aj];congr;funext d r;rw [aj];congr;funext l r;exact aj _ _ _
@[simp] theorem zo (g g2:D→D→Option D) (a b c:M D) (r:Rho):m3c g g2 a b c r=(a r).then fun x r=>(b r).then fun y r=>((opt (g x y) r).then boolOf).then fun k r=>if k=true then (c r).then fun z=>opt (g2 y z) else .ok (.bl false) r:=by
 unfold m3c;rw [aj];congr;funext x r;rw [aj];congr;funext y r;rw [aj]
 cases g x y with
 | none=>rfl
 | some d =>
  cases d<;>try rfl
  rename_i k
  cases k
  ·rfl
  ·exact aj _ _ _
@[simp] theorem yp (f:M D) (r:Rho):mRev f r=(f r).then fun d=>opt ((seqD d).map List.reverse):=aj _ _ _
@[simp] theorem oJ (xs:List D) (lo hi:Option Int):cutA (.tup xs) lo hi=some (.tup (cutD xs lo hi)):=Eq.trans rfl rfl
@[simp] theorem oI (xs:List D) (lo hi:Option Int):cutA (.lst xs) lo hi=some (.lst (cutD xs lo hi)):=Eq.trans rfl rfl
@[simp] theorem xB (t:List (Str×D)) (k:Str):tabD t (.str k)=t.lookup k:=Eq.trans rfl rfl
theorem bA {r:Rho} {xs:Rho} {s s':Sl}:(r++s::xs).set r.length s'=r++s'::xs:=by
 rw [List.set_append_right _ _ (Nat.le_refl _)];simp
theorem a7 {r:Rho} {xs:Rho} {s:Sl}:(r++s::xs)[r.length]?=some s:=by
 rw [List.getElem?_append_right (Nat.le_refl _)];simp
theorem iE {r:Rho} {s:Sl} {acc:List D} {x:D} (h:acc.length<16777216):mUpd (r.length+1) (appD x) (r++[s,.ow (.lst acc)])=.ok () (r++[s,.ow (.lst (acc++[x]))]):=by
 have e:r++[s,Sl.ow (.lst acc)]=(r++[s])++Sl.ow (.lst acc)::[]:=by simp
 have e2:r.length+1=(r++[s]).length:=by simp
 rw [e,e2,ml,a7]
 simp only [lB,cy,cC,aC,eR x acc h,jL,a7,jK,bA]
 simp
theorem nM {r:Rho} {s s':Sl} {acc:List D} {x:D} (h:acc.length<16777216):mUpd (r.length+2) (appD x) (r++[s,s',.ow (.lst acc)])=.ok () (r++[s,s',.ow (.lst (acc++[x]))]):=by
 have:=iE (r:=r++[s]) (s:=s') (x:=x) h
 rw [List.length_append,List.append_assoc,List.append_assoc] at this
 exact this
theorem comp2m {it:M (List D)} {elt:M D} {r:Rho} {k:Nat} {ds:List (D×D)} (f:D→D→D) (hds:it r=.ok (ds.map fun p=>.tup [p.1,p.2]) r) (hk:k=r.length) (hL:ds.length≤16777216)
  (he:∀p∈ds,∀acc,elt (r++[.sh p.1,.sh p.2,.ow acc])=.ok (f p.1 p.2) (r++[.sh p.1,.sh p.2,.ow acc])) :
  mComp 2 it (gTup [k,k+1]) (ret true) elt r=.ok (.lst (ds.map fun p=>f p.1 p.2)) r:=by
 subst hk
 have key:∀(es:List (D×D)) (acc:List D) (s s2:Sl),free (some s)=true→free (some s2)=true→(∀d∈es,d∈ds)→acc.length+es.length≤16777216 →
   ∃s' s2',turns (r.length+2) (gTup [r.length,r.length+1]) (ret true) elt (es.map fun p=>.tup [p.1,p.2]) (r++[s,s2,.ow (.lst acc)])=.ok () (r++[s',s2',.ow (.lst (acc++es.map fun p=>f p.1 p.2))]):=by
  intro es
  induction es with
  | nil=>intro acc s s2 _ _ _ _;exact ⟨s,s2,by simp⟩
  | cons d es ih =>
   intro acc s s2 hs hs2 hm hl
   have hd:=hm d List.mem_cons_self
   have hm':∀x∈es,x∈ds:=fun x hx=>hm x (List.mem_cons_of_mem _ hx)
   have e1:gTup [r.length,r.length+1] (.tup [d.1,d.2]) (r++[s,s2,.ow (.lst acc)])=.ok () (r++[.sh d.1,.sh d.2,.ow (.lst acc)]):=by
    have g2:(r++[Sl.sh d.1,s2,.ow (.lst acc)])[r.length+1]?=some s2:=by
     rw [List.getElem?_append_right (by omega)];simp
    have g3:(r++[Sl.sh d.1,s2,.ow (.lst acc)]).set (r.length+1) (.sh d.2)=r++[.sh d.1,.sh d.2,.ow (.lst acc)]:=by
     rw [List.set_append_right _ _ (by omega)];simp
    rw [ma,dX,gb,a7,if_pos hs,bA,aC,dX,gb,g2,if_pos hs2,g3]
    rfl
   obtain ⟨s',s2',z⟩:=ih (acc++[f d.1 d.2]) (.sh d.1) (.sh d.2) rfl rfl hm' (by simp at hl ⊢;omega)
   refine ⟨s',s2',?_⟩
   rw [List.map_cons,cE,e1,aC,cC,aC,if_pos rfl,he d hd,aC,nM (by simp at hl;omega),aC,z]
   simp
 obtain ⟨s',s2',z⟩:=key ds [] .no .no rfl rfl (fun _ h=>h) (by simpa using hL)
 rw [bL,hds,aC]
 unfold inner
 have e:r++List.replicate 2 Sl.no++[Sl.ow (.lst [])]=r++[.no,.no,.ow (.lst [])]:=by simp
 dsimp only
 rw [e,z]
 have e2:(r++[s',s2',Sl.ow (.lst ([]++ds.map fun p=>f p.1 p.2))])[r.length+2]?=some (.ow (.lst ([]++ds.map fun p=>f p.1 p.2))):=by
  rw [List.getElem?_append_right (by omega)];simp
 simp only [e2]
 simp
end
end VP

end
section
namespace VP
open PySem
@[simp] theorem vo (r:Rho):iosOf [] r=some []:=by cases r<;>rfl
@[simp] theorem x9 (bs:List Bool) (s:Sl) (r:Rho):iosOf (false::bs) (s::r)=iosOf bs r:=Eq.trans rfl rfl
@[simp] theorem ya (bs:List Bool) (d:D) (r:Rho):iosOf (true::bs) (.io d::r)=(iosOf bs r).map (d::·):=Eq.trans rfl rfl
def finI (d:D):Option (List D)→FR
 | some ios=>.ok d ios
 | none=>.no
def finX (x:Xn):Option (List D)→FR
 | some ios=>.exc x ios
 | none=>.no
@[simp] theorem vk (d:D) (l:List D):finI d (some l)=.ok d l:=Eq.trans rfl rfl
@[simp] theorem vm (d:Xn) (l:List D):finX d (some l)=.exc d l:=Eq.trans rfl rfl
@[simp] theorem yY (fl:List Bool) (d:D) (r:Rho):fin fl (.ok (.rt d) r)=finI d (iosOf fl r):=by unfold fin finI;first | (dsimp only;done) | (dsimp only;cases iosOf fl r<;>rfl)
@[simp] theorem yX (fl:List Bool) (r:Rho):fin fl (.ok .nx r)=finI .non (iosOf fl r):=by unfold fin finI;first | (dsimp only;done) | (dsimp only;cases iosOf fl r<;>rfl)
@[simp] theorem xU (fl:List Bool) (x:Xn) (r:Rho):fin fl (.exc x r)=finX x (iosOf fl r):=by unfold fin finX;first | (dsimp only;done) | (dsimp only;cases iosOf fl r<;>rfl)
@[simp] theorem xV (fl:List Bool) (c:Prop) [Decidable c] (a b:Res Fl):fin fl (if c then a else b)=if c then fin fl a else fin fl b:=by split<;>rfl
@[simp] theorem wZ (n:Nat):List.replicate (n+1) Sl.no=.no::List.replicate n .no:=Eq.trans rfl rfl
@[simp] theorem Ac:List.replicate 0 Sl.no=[]:=Eq.trans rfl rfl
def T (xs:List Int):D:=.tup (xs.map .int)
def Z (xs:List Int):D:=.lst (xs.map .int)
@[simp] theorem zc (xs:List Int):lenD (T xs)=some (.int xs.length):=by simp [T]
@[simp] theorem zd (xs:List Int):lenD (Z xs)=some (.int xs.length):=by simp [Z]
@[simp] theorem zF (xs:List Int):seqD (T xs)=some (xs.map .int):=Eq.trans rfl rfl
@[simp] theorem zG (xs:List Int):seqD (Z xs)=some (xs.map .int):=Eq.trans rfl rfl
@[simp] theorem yg (xs:List Int):lstOf (T xs)=some (Z xs):=Eq.trans rfl rfl
@[simp] theorem yh (xs:List Int):lstOf (Z xs)=some (Z xs):=Eq.trans rfl rfl
@[simp] theorem yQ (xs:List Int):tupOf (T xs)=some (T xs):=Eq.trans rfl rfl
@[simp] theorem yR (xs:List Int):tupOf (Z xs)=some (T xs):=Eq.trans rfl rfl
@[simp] theorem yc (xs:List Int):isNon (T xs)=false:=Eq.trans rfl rfl
@[simp] theorem za (k:String) (xs:List Int):isaD k (T xs)=some (.bl ("tuple" == k)):=by
 simp only [isaD,T,kindD,Option.map_some]
 simp
@[simp] theorem qB (i:Int):isaD "int" (.int i)=some (.bl true):=Eq.trans rfl rfl
@[simp] theorem qp (i:Int):isaD "bool" (.int i)=some (.bl false):=by simp [isaD,kindD]
@[simp] theorem yd (xs:List Int) (i:Int):itemD (T xs) (.int i)=ixD (xs.map .int) i:=Eq.trans rfl rfl
@[simp] theorem ye (xs:List Int) (i:Int):itemD (Z xs) (.int i)=ixD (xs.map .int) i:=Eq.trans rfl rfl
theorem aN (xs:List Int) (i:Int) (h0:0≤i) (h:i<xs.length):ixD (xs.map D.int) i=some (.int (xs.getD i.toNat 0)):=by
 refine cZ _ _ _ h0 ?_
 have h2:i.toNat<xs.length:=by omega
 simp [h2]
theorem fE (xs ys:List Int) (h:xs.length+ys.length≤LIM):addA (T xs) (T ys)=some (T (xs++ys)):=by
 unfold T;rw [nT]<;>simp [h]
theorem gp (xs:List Int) (x:Int) (h:xs.length<16777216):appD (.int x) (Z xs)=some (Z (xs++[x])):=by
 unfold Z;rw [eR]
 ·simp
 ·simpa using h
theorem tup1 (x:Int):D.tup [.int x]=T [x]:=Eq.trans rfl rfl
theorem tup0:D.tup []=T []:=Eq.trans rfl rfl
theorem lst0:D.lst []=Z []:=Eq.trans rfl rfl
@[simp] theorem yb (xs:List Int):isLst (some (Z xs))=true:=Eq.trans rfl rfl
theorem cL (n:Nat) (xs:List Int):plains n (xs.map .int)=true:=by
 induction xs with
 | nil=>cases n<;>rfl
 | cons x xs ih=>simp [plains,ih];cases n<;>simp [plain]
theorem dW (xs ys:List Int):eqBs (xs.map .int) (ys.map .int)=decide (xs=ys):=by
 induction xs generalizing ys with
 | nil=>cases ys<;>simp [eqBs]
 | cons x xs ih=>cases ys with
  | nil=>simp [eqBs]
  | cons y ys=>simp [eqBs,ih,eqB];rfl
@[simp] theorem vW (xs ys:List Int):eqG (T xs) (T ys)=some (.bl (decide (xs=ys))):=by
 unfold eqG T
 simp [plain,cL,eqB,dW]
@[simp] theorem Aa (xs ys:List Int):neG (T xs) (T ys)=some (.bl (!decide (xs=ys))):=by
 unfold neG T
 simp [plain,cL,eqB,dW]
@[simp] theorem zT (xs ys:List Int):eqG (Z xs) (Z ys)=some (.bl (decide (xs=ys))):=by
 unfold eqG Z
 simp [plain,cL,eqB,dW]
theorem gW (xs:List Int):intsD (xs.map .int)=some xs:=by
 induction xs with
 | nil=>rfl
 | cons x xs ih=>simp [intsD,ih]
@[simp] theorem zL (xs:List Int):sumD (Z xs)=some (.int xs.sum):=by simp [sumD,gW]
@[simp] theorem zK (xs:List Int):sumD (T xs)=some (.int xs.sum):=by simp [sumD,gW]
theorem nQ (a b:D) (xs ys:List Int) (ha:seqD a=some (xs.map .int)) (hb:seqD b=some (ys.map .int)):zipL [a,b]=some ((xs.zip ys).map fun p=>.tup [.int p.1,.int p.2]):=by
 simp only [zipL,ha,hb]
 congr 1
 clear ha hb
 induction xs generalizing ys with
 | nil=>simp
 | cons x xs ih=>cases ys with
  | nil=>simp
  | cons y ys=>simp [ih]
@[simp] theorem zz (xs:List Int):revT (T xs)=some (T xs.reverse):=by simp [revT,T]
@[simp] theorem zA (xs:List Int):revT (Z xs)=some (T xs.reverse):=by simp [revT,T]
@[simp] theorem zx (xs:List Int):revL (T xs)=some (Z xs.reverse):=by simp [revL,Z]
@[simp] theorem zy (xs:List Int):revL (Z xs)=some (Z xs.reverse):=by simp [revL,Z]
theorem ke (f:Int→D) (xs:List Int) (lo hi:Option Int):cutD (xs.map f) lo hi=((xs.drop (sIxP xs.length 0 lo)).take (sIxP xs.length xs.length hi-sIxP xs.length 0 lo)).map f:=by
 simp [cutD,List.map_take,List.map_drop]
@[simp] theorem fI (xs:List Int) (lo hi:Option Int):cutA (T xs) lo hi=some (T ((xs.drop (sIxP xs.length 0 lo)).take (sIxP xs.length xs.length hi-sIxP xs.length 0 lo))):=by
 simp only [T,oJ,ke]
@[simp] theorem yW (xs:List Int) (lo hi:Option Int):cutA (Z xs) lo hi=some (Z ((xs.drop (sIxP xs.length 0 lo)).take (sIxP xs.length xs.length hi-sIxP xs.length 0 lo))):=by
 simp only [Z,oI,ke]
theorem b4 (j:Int) (n:Nat) (h:j.toNat=n) (h2:-(2 ^ 62)≤j) (h3:j<2 ^ 62):rng1 [.int j]=some ((List.range n).map fun (k:Nat)=>.int k):=by
 subst h;exact rz j h2 h3
def turn1 (g:D→M Unit) (body:M Fl) (d:D) (r:Rho):Res Fl:=(g d r).then fun _=>body
def cont:Res Fl→Option Rho
 | .ok .nx r=>some r
 | .ok .ct r=>some r
 | _=>none
@[simp] theorem xR (r:Rho):cont (.ok .nx r)=some r:=Eq.trans rfl rfl
@[simp] theorem xQ (r:Rho):cont (.ok .ct r)=some r:=Eq.trans rfl rfl
@[simp] theorem vV (c:Prop) [Decidable c] (a b:Res Fl):cont (if c then a else b)=if c then cont a else cont b:=by split<;>rfl
theorem jb {g:D→M Unit} {body:M Fl} {d:D} {ds:List D} {r r':Rho} (h:cont (turn1 g body d r)=some r'):loop g body (d::ds) r=loop g body ds r':=by
 rw [ja]
 unfold turn1 at h
 cases q:g d r with
 | no=>rw [q] at h;cases h
 | exc x r=>rw [q] at h;cases h
 | ok u r1 =>
  rw [q,aC] at h
  rw [aC]
  cases q2:body r1 with
  | no=>rw [q2] at h;cases h
  | exc x r=>rw [q2] at h;cases h
  | ok k r2 =>
   rw [q2] at h
   cases k with
   | nx=>cases h;rfl
   | ct=>cases h;rfl
   | bk=>cases h
   | rt v=>cases h
theorem pd {g:D→M Unit} {body:M Fl} {d v:D} {ds:List D} {r r':Rho} (h:turn1 g body d r=.ok (.rt v) r'):loop g body (d::ds) r=.ok (.rt v) r':=by
 rw [ja]
 unfold turn1 at h
 cases q:g d r with
 | no=>rw [q] at h;cases h
 | exc x r=>rw [q] at h;cases h
 | ok u r1 =>
  rw [q,aC] at h
  rw [aC,h];rfl
def foldE {S E A:Type} (step:S→A→E ⊕ S):List A→S→E ⊕ S
 | [],s=>.inr s
 | a::as,s=>match step s a with
  | .inl e=>.inl e
  | .inr s'=>foldE step as s'
theorem hU {S Tm A:Type} {g:D→M Unit} {body:M Fl} (mk:A→D) (R:S→Tm→Rho) (ok:Tm→Prop) (step:S→A→D ⊕ S):∀(as:List A) (P:Nat→S→Prop) (s:S) (t:Tm),ok t→P 0 s →
  (∀(i:Nat) (a:A),as[i]?=some a→∀s t,ok t→P i s→match step s a with
   | .inr s'=>P (i+1) s'∧∃t',ok t'∧cont (turn1 g body (mk a) (R s t))=some (R s' t')
   | .inl v=>∃s' t',turn1 g body (mk a) (R s t)=.ok (.rt v) (R s' t')) →
  match foldE step as s with
  | .inr s'=>P as.length s'∧∃t',ok t'∧loop g body (as.map mk) (R s t)=.ok .nx (R s' t')
  | .inl v=>∃s' t',loop g body (as.map mk) (R s t)=.ok (.rt v) (R s' t'):=by
 intro as
 induction as with
 | nil=>intro P s t ht hs _;exact ⟨hs,t,ht,rfl⟩
 | cons a as ih =>
  intro P s t ht hs h
  have h1:=h 0 a rfl s t ht hs
  simp only [foldE,List.map_cons]
  cases q:step s a with
  | inl v =>
   rw [q] at h1
   obtain ⟨s',t',e⟩:=h1
   exact ⟨s',t',pd e⟩
  | inr s1 =>
   rw [q] at h1
   obtain ⟨p1,t1,o1,e1⟩:=h1
   have h2:=ih (fun k=>P (k+1)) s1 t1 o1 p1 fun i a' ha=>h (i+1) a' (by simpa using ha)
   have e:(a::as).length=as.length+1:=by simp
   dsimp only
   rw [e]
   cases q2:foldE step as s1 with
   | inl v=>rw [q2] at h2;obtain ⟨s',t',z⟩:=h2;exact ⟨s',t',by rw [jb e1];exact z⟩
   | inr s2=>rw [q2] at h2;obtain ⟨p2,t2,o2,z⟩:=h2;exact ⟨p2,t2,o2,by rw [jb e1];exact z⟩
theorem bt {S Tm A:Type} {g:D→M Unit} {body:M Fl} (mk:A→D) (R:S→Tm→Rho) (ok:Tm→Prop) (P:Nat→S→Prop) (step:S→A→S) (as:List A) (s:S) (t:Tm) (ht:ok t) (hs:P 0 s)
  (h:∀(i:Nat) (a:A),as[i]?=some a→∀s t,ok t→P i s→P (i+1) (step s a)∧∃t',ok t'∧cont (turn1 g body (mk a) (R s t))=some (R (step s a) t')) :
  P as.length (as.foldl step s)∧∃t',ok t'∧loop g body (as.map mk) (R s t)=.ok .nx (R (as.foldl step s) t'):=by
 have:=hU (g:=g) (body:=body) mk R ok (fun s a=>.inr (step s a)) as P s t ht hs h
 have e:∀(as:List A) (s:S),foldE (E:=D) (fun s a=>.inr (step s a)) as s=.inr (as.foldl step s):=by
  intro as
  induction as with
  | nil=>intro s;rfl
  | cons a as ih=>intro s;exact ih _
 rw [e] at this
 exact this
theorem dL {n i k:Nat} (h:(List.range n)[i]?=some k):k=i∧i<n:=by
 have h1:=(List.getElem?_eq_some_iff.mp h).1
 simp at h1
 rw [List.getElem?_range h1] at h
 exact ⟨(Option.some.inj h).symm,h1⟩
def free1 (s:Sl):Prop:=free (some s)=true
def free2 (s:Sl×Sl):Prop:=free (some s.1)=true∧free (some s.2)=true
end VP

end
section
namespace VP
open PySem
@[simp] theorem yf (j:Nat) (i:D) (r:Rho):ixAt j i r=(opt (own r[j]?) r).then fun d=>opt (itemD d i):=by
 unfold ixAt;cases own r[j]?<;>rfl
@[simp] theorem yj (j:Nat) (fb:M D) (r:Rho):mIxO j fb r=if (own r[j]?).isSome=true then (fb r).then (ixAt j) else .no:=by
 unfold mIxO;split
 ·exact aj _ _ _
 ·rfl
theorem qH (n:Nat) (i:Int) (h0:0≤i) (h:i<n):ixP n i=some i.toNat:=by
 unfold ixP;rw [if_pos h0,if_pos h]
theorem nE (xs:List D) (i:Int) (v:D) (h0:0≤i) (h:i<xs.length):setAt (.int i) v (.lst xs)=some (.lst (xs.set i.toNat v)):=by
 show (ixP xs.length i).map _=_
 rw [qH _ _ h0 h];rfl
@[simp] theorem y7 (is:List Nat) (xs:List Int):gTup is (T xs)=gAll is (xs.map .int):=Eq.trans rfl rfl
@[simp] theorem wb (k:String) (xs:List D):isaD k (.lst xs)=some (.bl ("list" == k)):=by
 simp only [isaD,kindD,Option.map_some];simp
@[simp] theorem wc (k:String) (xs:List D):isaD k (.tup xs)=some (.bl ("tuple" == k)):=by
 simp only [isaD,kindD,Option.map_some];simp
theorem eB {A B:Type} (f:A→B):∀(ks:List A) (acc:List B),ks.foldl (fun acc k=>acc++[f k]) acc=acc++ks.map f:=by
 intro ks
 induction ks with
 | nil=>intro acc;simp
 | cons k ks ih=>intro acc;rw [List.foldl_cons,ih];simp
def outs {S A B:Type} (step:S→A→S) (f:S→A→B):S→List A→List B
 | _,[]=>[]
 | s,a::as=>f s a::outs step f (step s a) as
theorem compS {S A:Type} {it:M (List D)} {elt:M D} {k:Nat} (mk:A→D) (R:S→Rho) (P:Nat→S→Prop) (step:S→A→S) (f:S→A→D) (as:List A) (s:S)
  (hlen:∀s,(R s).length=k) {r0:Rho} (hds:it r0=.ok (as.map mk) (R s)) (hL:as.length≤16777216) (hP:P 0 s)
  (he:∀(i:Nat) (a:A),as[i]?=some a→∀s acc,P i s→P (i+1) (step s a)∧elt (R s++[.sh (mk a),.ow acc])=.ok (f s a) (R (step s a)++[.sh (mk a),.ow acc])) :
  mComp 1 it (gName k) (ret true) elt r0=.ok (.lst (outs step f s as)) (R (as.foldl step s))∧P as.length (as.foldl step s):=by
 have key:∀(es:List A) (n:Nat) (acc:List D) (x:Sl) (s:S),free (some x)=true→(∀(i:Nat) (a:A),es[i]?=some a→as[n+i]?=some a)→acc.length+es.length≤16777216→P n s →
   (∃x',turns (k+1) (gName k) (ret true) elt (es.map mk) (R s++[x,.ow (.lst acc)])=.ok () (R (es.foldl step s)++[x',.ow (.lst (acc++outs step f s es))]))∧P (n+es.length) (es.foldl step s):=by
  intro es
  induction es with
  | nil=>intro n acc x s _ _ _ hp;exact ⟨⟨x,by simp [outs]⟩,hp⟩
  | cons a es ih =>
   intro n acc x s hx hm hl hp
   obtain ⟨p1,e1⟩:=he n a (hm 0 a rfl) s (.lst acc) hp
   obtain ⟨⟨x',e2⟩,p2⟩:=ih (n+1) (acc++[f s a]) (.sh (mk a)) (step s a) rfl (fun i b hb=>by rw [Nat.add_assoc,Nat.add_comm 1 i];exact hm (i+1) b hb) (by simp at hl ⊢;omega) p1
   refine ⟨⟨x',?_⟩,?_⟩
   ·have g1:gName k (mk a) (R s++[x,.ow (.lst acc)])=.ok () (R s++[.sh (mk a),.ow (.lst acc)]):=by
     have:=a7 (r:=R s) (xs:=[.ow (.lst acc)]) (s:=x)
     have:=bA (r:=R s) (xs:=[.ow (.lst acc)]) (s:=x) (s':=.sh (mk a))
     rw [hlen s] at *
     rw [km]
     simp_all
    have u1:mUpd (k+1) (appD (f s a)) (R (step s a)++[.sh (mk a),.ow (.lst acc)])=.ok () (R (step s a)++[.sh (mk a),.ow (.lst (acc++[f s a]))]):=by
     have:=iE (r:=R (step s a)) (s:=.sh (mk a)) (acc:=acc) (x:=f s a) (by simp at hl;omega)
     rw [hlen] at this
     exact this
    rw [List.map_cons,cE,g1,aC,cC,aC,if_pos rfl,e1,aC,u1,aC,e2]
    simp [outs]
   ·have e:n+(a::es).length=n+1+es.length:=by simp;omega
    rw [e];exact p2
 obtain ⟨⟨x',z⟩,p⟩:=key as 0 [] .no s rfl (fun i a h=>by rw [Nat.zero_add];exact h) (by simpa using hL) hP
 refine ⟨?_,by rw [Nat.zero_add] at p;exact p⟩
 rw [bL,hds,aC]
 unfold inner
 have e:R s++List.replicate 1 Sl.no++[Sl.ow (.lst [])]=R s++[.no,.ow (.lst [])]:=by simp
 dsimp only
 rw [e,hlen,z]
 have e2:(R (as.foldl step s)++[x',Sl.ow (.lst ([]++outs step f s as))])[k+1]?=some (.ow (.lst ([]++outs step f s as))):=by
  rw [List.getElem?_append_right (by rw [hlen];omega),hlen];simp
 simp only [e2]
 have e3:List.take k (R (as.foldl step s)++[x',Sl.ow (.lst ([]++outs step f s as))])=R (as.foldl step s):=by
  rw [←hlen (as.foldl step s)];simp
 rw [e3];simp
theorem kC {S A B:Type} (f:A→B) (s:S):∀as:List A,outs (fun (s:S) (_:A)=>s) (fun _ a=>f a) s as=as.map f
 | []=>rfl
 | a::as=>by simp [outs,kC f s as]
theorem compM {A:Type} {it:M (List D)} {elt:M D} {k:Nat} {r:Rho} {out:D} (mk:A→D) (f:A→D) (as:List A) (hds:it r=.ok (as.map mk) r) (hL:as.length≤16777216) (hout:D.lst (as.map f)=out)
  (he:∀a∈as,∀acc,elt (r++[.sh (mk a),.ow acc])=.ok (f a) (r++[.sh (mk a),.ow acc])) (hk:r.length=k:=by rfl):mComp 1 it (gName k) (ret true) elt r=.ok out r:=by
 have:=(compS (elt:=elt) mk (fun (_:Unit)=>r) (fun _ _=>True) (fun s _=>s) (fun _ a=>f a) as () (fun _=>hk) hds hL trivial fun i a ha s acc _=>⟨trivial,he a (List.mem_of_getElem? ha) acc⟩).1
 rw [kC,hout] at this
 exact this
@[simp] theorem Ab (xs ys:List Int):neG (Z xs) (Z ys)=some (.bl (!decide (xs=ys))):=by
 unfold neG Z
 simp [plain,cL,eqB,dW]
@[simp] theorem zU (a:D) (xs:List D):ixD (a::xs) 0=some a:=cZ _ _ _ (by omega) rfl
@[simp] theorem zV (a b:D) (xs:List D):ixD (a::b::xs) 1=some b:=cZ _ _ _ (by omega) rfl
@[simp] theorem zW (a b c:D) (xs:List D):ixD (a::b::c::xs) 2=some c:=cZ _ _ _ (by omega) rfl
@[simp] theorem zX (a b c d:D) (xs:List D):ixD (a::b::c::d::xs) 3=some d:=cZ _ _ _ (by omega) rfl
@[simp] theorem zY (a b c d e:D) (xs:List D):ixD (a::b::c::d::e::xs) 4=some e:=cZ _ _ _ (by omega) rfl
@[simp] theorem zZ (a b c d e f:D) (xs:List D):ixD (a::b::c::d::e::f::xs) 5=some f:=cZ _ _ _ (by omega) rfl
@[simp] theorem zP (a b c:D):tupD [a,b,c]=some (.tup [a,b,c]):=Eq.trans rfl rfl
@[simp] theorem zQ (a b c d:D):tupD [a,b,c,d]=some (.tup [a,b,c,d]):=Eq.trans rfl rfl
@[simp] theorem zR (a b c d e:D):tupD [a,b,c,d,e]=some (.tup [a,b,c,d,e]):=Eq.trans rfl rfl
@[simp] theorem zS (a b c d e f:D):tupD [a,b,c,d,e,f]=some (.tup [a,b,c,d,e,f]):=Eq.trans rfl rfl
@[simp] theorem zf (a b:D):lstD [a,b]=some (.lst [a,b]):=Eq.trans rfl rfl
@[simp] theorem zg (a b c:D):lstD [a,b,c]=some (.lst [a,b,c]):=Eq.trans rfl rfl
@[simp] theorem zh (a b c d:D):lstD [a,b,c,d]=some (.lst [a,b,c,d]):=Eq.trans rfl rfl
@[simp] theorem zi (a b c d e:D):lstD [a,b,c,d,e]=some (.lst [a,b,c,d,e]):=Eq.trans rfl rfl
@[simp] theorem zj (a b c d e f:D):lstD [a,b,c,d,e,f]=some (.lst [a,b,c,d,e,f]):=Eq.trans rfl rfl
@[simp] theorem zk (a b c d e f g:D):lstD [a,b,c,d,e,f,g]=some (.lst [a,b,c,d,e,f,g]):=Eq.trans rfl rfl
theorem compF {A:Type} {it:M (List D)} {g:D→M Unit} {test:M Bool} {elt:M D} {n k:Nat} {r:Rho} (mk:A→D) (sl:A→List Sl) (t:A→Bool) (f:A→D) (as:List A) (hk:r.length=k) (hds:it r=.ok (as.map mk) r) (hL:as.length≤16777216)
  (hsl:∀a∈as,(sl a).length=n∧∀x∈sl a,free (some x)=true)
  (hg:∀a∈as,∀(ts:List Sl) acc,ts.length=n→(∀x∈ts,free (some x)=true)→g (mk a) (r++ts++[.ow acc])=.ok () (r++sl a++[.ow acc]))
  (ht:∀a∈as,∀acc,test (r++sl a++[.ow acc])=.ok (t a) (r++sl a++[.ow acc]))
  (he:∀a∈as,t a=true→∀acc,elt (r++sl a++[.ow acc])=.ok (f a) (r++sl a++[.ow acc])) :
  mComp n it g test elt r=.ok (.lst ((as.filter t).map f)) r:=by
 subst hk
 have upd_n:∀(ts:List Sl) (acc:List D) (x:D),ts.length=n→acc.length<16777216→mUpd (r.length+n) (appD x) (r++ts++[.ow (.lst acc)])=.ok () (r++ts++[.ow (.lst (acc++[x]))]):=by
  intro ts acc x h1 h2
  have e2:r.length+n=(r++ts).length:=by simp [h1]
  rw [e2,ml]
  have:=a7 (r:=r++ts) (xs:=[]) (s:=.ow (.lst acc))
  rw [this]
  have:=bA (r:=r++ts) (xs:=[]) (s:=.ow (.lst acc)) (s':=.ow (.lst (acc++[x])))
  simp only [lB,cy,cC,aC,eR x acc h2,jL,a7,jK,this]
 have key:∀(es:List A) (acc:List D) (ts:List Sl),ts.length=n→(∀x∈ts,free (some x)=true)→(∀d∈es,d∈as)→acc.length+es.length≤16777216 →
   ∃ts',ts'.length=n∧turns (r.length+n) g test elt (es.map mk) (r++ts++[.ow (.lst acc)])=.ok () (r++ts'++[.ow (.lst (acc++(es.filter t).map f))]):=by
  intro es
  induction es with
  | nil=>intro acc ts h1 _ _ _;exact ⟨ts,h1,by simp⟩
  | cons a es ih =>
   intro acc ts h1 h2 hm hl
   have ha:=hm a List.mem_cons_self
   have hm':∀x∈es,x∈as:=fun x hx=>hm x (List.mem_cons_of_mem _ hx)
   rw [List.map_cons,cE,hg a ha ts _ h1 h2,aC,ht a ha,aC]
   cases q:t a with
   | false =>
    obtain ⟨ts',z1,z2⟩:=ih acc (sl a) (hsl a ha).1 (hsl a ha).2 hm' (by simp at hl;omega)
    refine ⟨ts',z1,?_⟩
    rw [if_neg (by simp),z2,List.filter_cons,q,if_neg (by simp)]
   | true =>
    obtain ⟨ts',z1,z2⟩:=ih (acc++[f a]) (sl a) (hsl a ha).1 (hsl a ha).2 hm' (by simp at hl ⊢;omega)
    refine ⟨ts',z1,?_⟩
    rw [if_pos rfl,he a ha q,aC,upd_n _ _ _ (hsl a ha).1 (by simp at hl;omega),aC,z2,List.filter_cons,q,if_pos rfl]
    simp
 obtain ⟨ts',z1,z2⟩:=key as [] (List.replicate n .no) (by simp) (fun x hx=>by rw [List.eq_of_mem_replicate hx];rfl) (fun _ h=>h) (by simpa using hL)
 rw [bL,hds,aC]
 unfold inner
 dsimp only
 rw [z2]
 have e2:(r++ts'++[Sl.ow (.lst ([]++(as.filter t).map f))])[r.length+n]?=some (.ow (.lst ([]++(as.filter t).map f))):=by
  rw [List.getElem?_append_right (by simp;omega)];simp [z1]
 simp only [e2]
 simp
theorem gTup2 {r:Rho} {ts:List Sl} {acc x y:D} (h1:ts.length=2) (h2:∀x∈ts,free (some x)=true):gTup [r.length,r.length+1] (.tup [x,y]) (r++ts++[.ow acc])=.ok () (r++[.sh x,.sh y]++[.ow acc]):=by
 match ts,h1,h2 with
 | [s,s2],_,h2 =>
  have hs:=h2 s List.mem_cons_self
  have hs2:=h2 s2 (List.mem_cons_of_mem _ List.mem_cons_self)
  have g2:(r++[Sl.sh x,s2,.ow acc])[r.length+1]?=some s2:=by
   rw [List.getElem?_append_right (by omega)];simp
  have g3:(r++[Sl.sh x,s2,.ow acc]).set (r.length+1) (.sh y)=r++[.sh x,.sh y,.ow acc]:=by
   rw [List.set_append_right _ _ (by omega)];simp
  simp only [List.append_assoc,List.cons_append,List.nil_append]
  rw [ma,dX,gb,a7,if_pos hs,bA,aC,dX,gb,g2,if_pos hs2,g3]
  rfl
theorem compF2 {A:Type} {it:M (List D)} {test:M Bool} {elt:M D} {k:Nat} {r:Rho} {out:D} (m1 m2:A→D) (t:A→Bool) (f:A→D) (as:List A) (hds:it r=.ok (as.map fun a=>.tup [m1 a,m2 a]) r) (hL:as.length≤16777216) (hout:D.lst ((as.filter t).map f)=out)
  (ht:∀a∈as,∀acc,test (r++[.sh (m1 a),.sh (m2 a),.ow acc])=.ok (t a) (r++[.sh (m1 a),.sh (m2 a),.ow acc]))
  (he:∀a∈as,t a=true→∀acc,elt (r++[.sh (m1 a),.sh (m2 a),.ow acc])=.ok (f a) (r++[.sh (m1 a),.sh (m2 a),.ow acc])) (hk:r.length=k:=by rfl) :
  mComp 2 it (gTup [k,k+1]) test elt r=.ok out r:=by
 rw [←hout]
 subst hk
 refine compF (fun a=>.tup [m1 a,m2 a]) (fun a=>[.sh (m1 a),.sh (m2 a)]) t f as rfl hds hL (fun a _=>⟨rfl,by intro x hx;simp at hx;rcases hx with rfl | rfl<;>rfl⟩) (fun a ha ts acc h1 h2=>gTup2 h1 h2) (fun a ha acc=>?_) fun a ha q acc=>?_
 ·have:=ht a ha acc;simpa using this
 ·have:=he a ha q acc;simpa using this
theorem compM2 {A:Type} {it:M (List D)} {elt:M D} {k:Nat} {r:Rho} {out:D} (m1 m2:A→D) (f:A→D) (as:List A) (hds:it r=.ok (as.map fun a=>.tup [m1 a,m2 a]) r) (hL:as.length≤16777216) (hout:D.lst (as.map f)=out)
  (he:∀a∈as,∀acc,elt (r++[.sh (m1 a),.sh (m2 a),.ow acc])=.ok (f a) (r++[.sh (m1 a),.sh (m2 a),.ow acc])) (hk:r.length=k:=by rfl) :
  mComp 2 it (gTup [k,k+1]) (ret true) elt r=.ok out r :=
 compF2 m1 m2 (fun _=>true) f as hds hL (by rw [List.filter_eq_self.mpr (fun _ _=>rfl)];exact hout) (fun _ _ _=>rfl) (fun a ha _ acc=>he a ha acc) hk
end VP

end
section
namespace VP
open PySem
@[simp] theorem vI (r:Rho):sNever r=.no:=Eq.trans rfl rfl
@[simp] theorem xc (i:Nat) (cs:List Str) (f:Str) (fv:M D) (r:Rho):sSetF i cs f fv r=(fv r).then fun v r=>(mUpd i (setFD cs f v) r).then fun _=>ret .nx:=by
 unfold sSetF;rw [aj];congr;funext v r;exact fQ _ _
@[simp] theorem wD (c:Str) (f:Fn) (as:List Arg) (r:Rho):mMake c f as r=(mArgs as r).then fun vs=>mNew c f vs:=aj _ _ _
@[simp] theorem wE (c m:Str) (f:Fn) (fo:M D) (as:List Arg) (r:Rho):mMeth c m f fo as r=(fo r).then fun o r=>if insOf c m o=true then (mArgs as r).then fun vs=>mApp f (.val o::vs) else .no:=by
 unfold mMeth;rw [aj];congr;funext o r;split
 ·exact aj _ _ _
 ·rfl
@[simp] theorem wA (fl:List (M D)) (r:Rho):mEnum fl r=(mL fl r).then fun xs=>opt (enumD xs):=aj _ _ _
@[simp] theorem wz (fl:List (M D)) (r:Rho):mDown fl r=(mL fl r).then fun xs=>opt (rngD xs):=aj _ _ _
@[simp] theorem vi (ds:List D):enumD [.lst ds]=some (enumL ds):=Eq.trans rfl rfl
@[simp] theorem dj (al:Bool) (ds:List D):allD al (.lst ds)=(boolsD ds).map fun bs=>.bl (if al then bs.all id else bs.any id):=Eq.trans rfl rfl
theorem gu {A:Type} (f:A→Bool):∀as:List A,boolsD (as.map fun a=>D.bl (f a))=some (as.map f)
 | []=>rfl
 | a::as=>by simp [boolsD,gu f as]
theorem kU {A:Type} (f:A→Bool) (as:List A):allD true (.lst (as.map fun a=>D.bl (f a)))=some (.bl (as.all f)):=by
 rw [dj,gu];simp [Function.comp_def]
theorem pf (c:Str) (f:Fn) (vals:List D) (d:D) (r:Rho) (h:f (.ins c [] []::vals)=.ok .non [d]):mNew c f (vals.map AV.val) r=.ok d r:=by
 have e1:∀(vs:List D) (r:Rho),avs (vs.map AV.val) r=some vs:=fun vs r=>by
  induction vs with
  | nil=>rfl
  | cons v vs ih=>simp [ih]
 have e2:∀vs:List D,ioSl (vs.map AV.val)=[]:=fun vs=>by
  induction vs with
  | nil=>rfl
  | cons v vs ih=>simp [ih]
 have g:(r++[Sl.ow (.ins c [] [])])[r.length]?=some (.ow (.ins c [] [])):=by simp
 have p:putAll [r.length] [d] (r++[Sl.ow (.ins c [] [])])=r++[.ow d]:=by
  rw [kJ,lG,jL,g,jK,bA]
 unfold mNew
 rw [qM,sg,g]
 simp only [lB,Option.bind_some,e1,Option.map_some,cy,cC,aC,qz,e2]
 rw [if_pos (by simp),h,oz,p]
 simp
theorem mNew2 (c:Str) (f:Fn) (a b d:D) (r:Rho) (h:f [.ins c [] [],a,b]=.ok .non [d]):mNew c f [.val a,.val b] r=.ok d r:=pf c f [a,b] d r h
def Tb (s c:List Int):D:=.ins "Table" ["sides", "cells"] [T s,Z c]
theorem bq (s c:List Int):fldD ["Table"] "sides" (Tb s c)=some (T s):=by
 simp [fldD,Tb]
theorem cX (s c:List Int):fldD ["Table"] "cells" (Tb s c)=some (Z c):=by
 have:(("cells" : Str) == "sides")=false:=by decide +kernel
 simp [fldD,Tb,List.lookup,this]
theorem kO (x:D):setFD ["Table"] "sides" x (.ins "Table" [] [])=some (.ins "Table" ["sides"] [x]):=by
 simp [setFD,putND]
theorem kN (x y:D):setFD ["Table"] "cells" y (.ins "Table" ["sides"] [x])=some (.ins "Table" ["sides", "cells"] [x,y]):=by
 have:¬(("sides" : Str) = "cells"):=by decide +kernel
 simp [setFD,putND,this]
theorem cj (s c:List Int):insOf "Table" "cell" (Tb s c)=true:=by
 have h1:(("cell" : Str) == "sides")=false:=by decide +kernel
 have h2:(("cell" : Str) == "cells")=false:=by decide +kernel
 simp [insOf,Tb]
 exact ⟨by simpa using h1,by simpa using h2⟩
theorem qA (s c:List Int):isaC [("Table", true)] (Tb s c)=some (.bl true):=by
 simp [isaC,Tb,List.lookup]
def outR (r:Rho):Option Sl→Res D
 | some (.ow d)=>.ok d r
 | _=>.no
def innerR (l n:Nat):Res Unit→Res D
 | .ok _ r'=>outR (r'.take l) r'[l+n]?
 | .exc x r'=>.exc x (r'.take l)
 | .no=>.no
theorem dz (n:Nat) (f:Nat→M Unit) (r:Rho):inner n f r=innerR r.length n (f (r.length+n) (r++List.replicate n .no++[.ow (.lst [])])):=by
 unfold inner innerR
 cases f (r.length+n) (r++List.replicate n .no++[.ow (.lst [])]) with
 | ok u r'=>dsimp only;unfold outR;cases r'[r.length+n]? with
  | none=>rfl
  | some s=>cases s<;>rfl
 | _=>rfl
theorem cU (l n:Nat) (u:Unit) (r':Rho):innerR l n (.ok u r')=outR (r'.take l) r'[l+n]?:=Eq.trans rfl rfl
theorem fw (r:Rho) (d:D):outR r (some (.ow d))=.ok d r:=Eq.trans rfl rfl
theorem bR (x:D) (xs:List D) (h:xs.length<1000):appD x (.lst xs)=some (.lst (xs++[x])):=eR x xs (by omega)
@[simp] theorem vJ (c:Str) (fs:List (M D)) (r:Rho):sRaise c fs r=(mL fs r).then fun ds r=>if ds.length≤1000 then .exc ⟨c,[],[]⟩ r else .no:=aj _ _ _
def tryR (subs:List (Str×Bool)) (j:Nat) (h:M Fl):Res Fl→Res Fl
 | .ok k r=>.ok k r
 | .exc x r=>sCatch subs j h x r
 | .no=>.no
@[simp] theorem yH (f:M Fl) (subs:List (Str×Bool)) (j:Nat) (h:M Fl) (r:Rho):sTry f subs j h r=tryR subs j h (f r):=by
 unfold sTry tryR;cases f r<;>rfl
@[simp] theorem yP (subs:List (Str×Bool)) (j:Nat) (h:M Fl) (k:Fl) (r:Rho):tryR subs j h (.ok k r)=.ok k r:=Eq.trans rfl rfl
@[simp] theorem xD (subs:List (Str×Bool)) (j:Nat) (h:M Fl) (x:Xn) (r:Rho):tryR subs j h (.exc x r)=sCatch subs j h x r:=Eq.trans rfl rfl
def outC (j:Nat):Res Fl→Res Fl
 | .ok f r=>.ok f (r.set j .no)
 | _=>.no
@[simp] theorem yy (j:Nat) (f:Fl) (r:Rho):outC j (.ok f r)=.ok f (r.set j .no):=Eq.trans rfl rfl
@[simp] theorem wR (j:Nat) (c:Prop) [Decidable c] (a b:Res Fl):outC j (if c then a else b)=if c then outC j a else outC j b:=by split<;>rfl
theorem nB {subs:List (Str×Bool)} {j:Nat} {h:M Fl} {x:Xn} {r:Rho} (h1:subs.lookup x.cls=some true) (h2:r[j]?=some .no):sCatch subs j h x r=outC j (h (r.set j (.sh (.exn x.cls x.ns x.vs)))):=by
 unfold sCatch outC;rw [h1,h2]
 all_goals first | (dsimp only;done) | (dsimp only;cases h (r.set j (.sh (.exn x.cls x.ns x.vs)))<;>rfl)
@[simp] theorem wd (subs:List (Str×Bool)) (c:Str) (ns:List Str) (vs:List D):isaX subs (.exn c ns vs)=(subs.lookup c).map .bl:=Eq.trans rfl rfl
@[simp] theorem vU (g:D→D→Option D) (j:Nat) (d:D) (r:Rho):cmpAt g j d r=(opt (own r[j]?) r).then fun x=>opt (g x d):=by
 unfold cmpAt;cases own r[j]?<;>rfl
@[simp] theorem wy (g:D→D→Option D) (j:Nat) (fb:M D) (r:Rho):mCmpO g j fb r=if (own r[j]?).isSome=true then (fb r).then (cmpAt g j) else .no:=by
 unfold mCmpO;split
 ·exact aj _ _ _
 ·rfl
@[simp] theorem vE (g:D→D→Option D) (i j:Nat) (r:Rho):mCmpOO g i j r=(opt (own r[i]?) r).then fun x r=>(opt (own r[j]?) r).then fun y=>opt (g x y):=by
 unfold mCmpOO;cases own r[i]? with
 | none=>rfl
 | some x=>simp only [cy,cC,aC];cases own r[j]?<;>rfl
@[simp] theorem vX (x y:D):eqN true x y=neG x y:=Eq.trans rfl rfl
@[simp] theorem vj (x y:D):eqN false x y=eqG x y:=Eq.trans rfl rfl
@[simp] theorem ul (c:Str) (ns:List Str) (fs:List (M D)) (r:Rho):sRaiseI c ns fs r=(mL fs r).then fun ds r=>if ds.length=ns.length then .exc ⟨c,ns,ds⟩ r else .no:=aj _ _ _
@[simp] theorem vZ (cs:List Str) (f c:Str) (ns:List Str) (vs:List D):fldX cs f (.exn c ns vs)=if cs.contains c=true then (ns.zip vs).lookup f else none:=Eq.trans rfl rfl
@[simp] theorem wH (f:M D) (r:Rho):mSeqL f r=(f r).then fun d=>opt (lstL d):=aj _ _ _
@[simp] theorem wn (ds:List D):lstL (.lst ds)=some ds:=Eq.trans rfl rfl
@[simp] theorem w8 (j:Nat) (it:M (List D)) (g:D→M Unit) (body:M Fl) (r:Rho):sForH j it g body r=exnR r[j]? (sFor it g body r):=Eq.trans rfl rfl
@[simp] theorem vY (c:Str) (ns:List Str) (vs:List D) (x:Res Fl):exnR (some (.sh (.exn c ns vs))) x=x:=Eq.trans rfl rfl
end VP

end
section
namespace VP
open PySem
theorem i7:∀ns:List Int,intsD (ns.map .int)=some ns
 | []=>rfl
 | n::ns=>by rw [List.map_cons,intsD,i7 ns];rfl
end VP

end
section
namespace VP
open PySem
def popR (i:Nat) (r:Rho):D→Res D
 | .lst xs=>match xs.getLast? with
  | some d=>.ok d (putS i (.lst xs.dropLast) r)
  | none=>.no
 | _=>.no
@[simp] theorem yo (i:Nat) (r:Rho):mPop i r=(opt (own r[i]?) r).then fun d r=>popR i r d:=by
 unfold mPop
 cases own r[i]? with
 | none=>rfl
 | some d=>cases d<;>rfl
@[simp] theorem wW (i:Nat) (r:Rho) (xs:List D) (d:D):popR i r (.lst (xs++[d]))=.ok d (putS i (.lst xs) r):=by
 unfold popR;simp
@[simp] theorem yB (i:Nat) (fe:M D) (r:Rho):sExt i fe r=if isLst (own r[i]?)=true then (fe r).then fun x r=>(mUpd i (extD x) r).then fun _=>ret .nx else .no:=by
 unfold sExt;split
 ·rw [aj];congr;funext k r;exact fQ _ _
 ·rfl
@[simp] theorem x8 (neg:Bool) (j:Nat) (x:D) (r:Rho):inAt neg j x r=(opt (own r[j]?) r).then fun y=>opt (inD neg x y):=by
 unfold inAt;cases own r[j]?<;>rfl
@[simp] theorem yi (neg:Bool) (fa:M D) (j:Nat) (r:Rho):mInO neg fa j r=(fa r).then (inAt neg j):=aj _ _ _
@[simp] theorem vD (f:Fn) (a:M D) (r:Rho):mCallL f a r=(a r).then (appL f):=aj _ _ _
def seqE (x:Res Fl) (g:M Fl):Res Fl:=match x with
 | .ok .nx r=>g r
 | .exc e r=>.exc e r
 | _=>.no
@[simp] theorem xb (f g:M Fl) (r:Rho):sSeqE f g r=seqE (f r) g:=by
 unfold sSeqE bnd seqE
 cases f r with
 | no=>rfl
 | exc e r=>rfl
 | ok k r=>cases k<;>rfl
@[simp] theorem yI (r:Rho) (g:M Fl):seqE (.ok .nx r) g=g r:=Eq.trans rfl rfl
@[simp] theorem xa (i:Nat) (r:Rho) (d:D) (h:r[i]?=some (.ow d)):sRetO i r=.ok (.rt d) r:=by unfold sRetO;rw [h]
def viewR (r:Rho):Res D→Res D
 | .ok (.lst ds) _=>if noLs ds then .ok (.lst ds) r else .no
 | _=>.no
@[simp] theorem wI (f:M D) (r:Rho):mView f r=viewR r (f (r.map viewS)):=by
 unfold mView
 cases f (r.map viewS) with
 | ok d r=>cases d<;>rfl
 | exc e r=>rfl
 | no=>rfl
def viewRV (r:Rho):Res D→Res D
 | .ok d _=>if noL d then .ok d r else .no
 | _=>.no
@[simp] theorem vG (f:M D) (r:Rho):mViewV f r=viewRV r (f (r.map viewS)):=by
 unfold mViewV
 cases f (r.map viewS) with
 | ok d r=>rfl
 | exc e r=>rfl
 | no=>rfl
@[simp] theorem vP (r r':Rho) (b:Bool):viewRV r (.ok (.bl b) r')=.ok (.bl b) r:=Eq.trans rfl rfl
@[simp] theorem xK (d:D):viewS (.ow d)=.sh d:=rfl
@[simp] theorem xI (d:D):viewS (.io d)=.sh d:=rfl
@[simp] theorem xL (d:D):viewS (.sh d)=.sh d:=rfl
@[simp] theorem xJ:viewS .no=.no:=rfl
end VP

end
section
namespace VP
open PySem
def viewB (r:Rho):Res Bool→Res Bool
 | .ok b _=>.ok b r
 | _=>.no
@[simp] theorem xA (f:M Bool) (r:Rho):tView f r=viewB r (f (r.map viewS)):=by
 unfold tView
 cases f (r.map viewS)<;>rfl
@[simp] theorem xH (r r':Rho) (b:Bool):viewB r (.ok b r')=.ok b r:=Eq.trans rfl rfl
@[simp] theorem xf (c:M Bool) (f:M Fl) (r:Rho):sStop c f r=(tView c r).then fun b r=>if b=true then bnd f (fun _=>stuck) r else .ok .nx r:=by
 unfold sStop;rw [ui];rfl
def setFLd (i:Nat) (cs:List Str) (f:Str):D→M Fl
 | .lst ds=>if ds.length≤16777216 then sDo (mUpd i (setFD cs f (.lst ds))) else stuck
 | _=>stuck
@[simp] theorem vK (i:Nat) (cs:List Str) (f:Str) (fv:M D) (r:Rho):sSetFL i cs f fv r=(fv r).then (setFLd i cs f):=by
 unfold sSetFL;rw [aj];congr
def viewN (fn:Str) (r:Rho):Res D→Res D
 | .ok d _=>if okN fn d then .ok d r else .no
 | _=>.no
@[simp] theorem vF (fn:Str) (f:M D) (r:Rho):mViewN fn f r=viewN fn r (f (r.map viewS)):=by
 unfold mViewN
 cases f (r.map viewS)<;>rfl
@[simp] theorem w5 (i:Nat) (fn:Str) (fc:M Bool) (fe:M D) (r:Rho):sAppV i fn fc fe r=(tView fc r).then fun b r=>if b=true then (mViewN fn fe r).then (fun d r=>sDo (mUpd i (appD d)) r) else sDo (mUpd i (appD .non)) r:=by
 unfold sAppV;rw [aj];congr;funext b r
 cases b
 ·rfl
 ·simp only [if_true];rw [aj]
@[simp] theorem w9 (j:Nat) (fi:M D) (r:Rho):sRetM j fi r=(mViewV fi r).then fun i r=>(ixAt j i r).then fun d=>if isNon d then stuck else ret (.rt d):=by
 unfold sRetM;rw [aj];congr;funext i r;rw [aj]
@[simp] theorem vd (r r':Rho) (i:Int):viewRV r (.ok (.int i) r')=.ok (.int i) r:=Eq.trans rfl rfl
def idxT (fe:M D):D→M D
 | .tup ds=>bnd fe fun y=>opt (idxI ds y)
 | _=>stuck
@[simp] theorem wC (fo fe:M D) (r:Rho):mIdxT fo fe r=(fo r).then (idxT fe):=by
 unfold mIdxT;rw [aj];congr
def idxL (fe:M D):D→M D
 | .lst ds=>bnd fe fun y=>opt (idxI ds y)
 | _=>stuck
@[simp] theorem wB (fo fe:M D) (r:Rho):mIdxL fo fe r=(fo r).then (idxL fe):=by
 unfold mIdxL;rw [aj];congr
theorem compX {A:Type} {it:M (List D)} {elt:M D} {k:Nat} {r:Rho} {x:Xn} (mk:A→D) (f:A→D) (pre:List A) (a:A) (post:List A) (hds:it r=.ok ((pre++a::post).map mk) r) (hL:pre.length≤1000000)
  (he:∀b∈pre,∀acc,elt (r++[.sh (mk b),.ow acc])=.ok (f b) (r++[.sh (mk b),.ow acc])) (hx:∀acc,elt (r++[.sh (mk a),.ow acc])=.exc x (r++[.sh (mk a),.ow acc])) (hk:r.length=k:=by rfl):mComp 1 it (gName k) (ret true) elt r=.exc x r:=by
 have g1:∀(b:A) (y:Sl) (acc:D),free (some y)=true→gName k (mk b) (r++[y,.ow acc])=.ok () (r++[.sh (mk b),.ow acc]):=fun b y acc hy=>by
  have:=a7 (r:=r) (xs:=[.ow acc]) (s:=y)
  have:=bA (r:=r) (xs:=[.ow acc]) (s:=y) (s':=.sh (mk b))
  rw [hk] at *
  rw [km]
  simp_all
 have key:∀(es:List A),(∀b∈es,b∈pre)→∀(acc:List D) (y:Sl),free (some y)=true→acc.length+es.length≤1000000→∃y' acc',turns (k+1) (gName k) (ret true) elt ((es++a::post).map mk) (r++[y,.ow (.lst acc)])=.exc x (r++[y',.ow acc']):=by
  intro es
  induction es with
  | nil =>
   intro _ acc y hy _
   refine ⟨.sh (mk a),.lst acc,?_⟩
   rw [List.nil_append,List.map_cons,cE,g1 a y _ hy,aC,cC,aC,if_pos rfl,hx,qe]
  | cons b es ih =>
   intro hm acc y hy hl
   obtain ⟨y',acc',e⟩:=ih (fun c hc=>hm c (List.mem_cons_of_mem _ hc)) (acc++[f b]) (.sh (mk b)) rfl (by simp at hl ⊢;omega)
   refine ⟨y',acc',?_⟩
   have u1:mUpd (k+1) (appD (f b)) (r++[.sh (mk b),.ow (.lst acc)])=.ok () (r++[.sh (mk b),.ow (.lst (acc++[f b]))]):=by
    have:=iE (r:=r) (s:=.sh (mk b)) (acc:=acc) (x:=f b) (by simp at hl;omega)
    rw [hk] at this
    exact this
   rw [List.cons_append,List.map_cons,cE,g1 b y _ hy,aC,cC,aC,if_pos rfl,he b (hm b List.mem_cons_self),aC,u1,aC,e]
 obtain ⟨y',acc',z⟩:=key pre (fun b h=>h) [] .no rfl (by simpa using hL)
 rw [bL,hds,aC]
 unfold inner
 have e:r++List.replicate 1 Sl.no++[Sl.ow (.lst [])]=r++[.no,.ow (.lst [])]:=by simp
 dsimp only
 rw [e,hk,z]
 dsimp only
 congr 1
 rw [←hk];simp
theorem kM (j rr:Nat) (ft:Fn) (ka kb kc:Int) (fc:M D) (g:M Fl) (r:Rho):sNest j rr ft ka kb kc fc g r=(fc r).then fun d r=>(intsM d r).then fun ns r=>(nestGet j r).then fun p r=>(nestIn rr ft ka kb kc ns (r.set j .no)).then fun ns' r=>g (r.set j (.ow (.lst [p.1,p.2,.lst (ns'.map .int)]))):=by
 unfold sNest;rw [aj];congr;funext d r;rw [aj];congr;funext ns r;rw [aj];congr;funext p r
 rw [aj];show (bnd (nestIn rr ft ka kb kc ns) _ (r.set j .no))=_
 rw [aj];congr
theorem me (xs:List Int) (r:Rho):intsM (Z xs) r=.ok xs r:=by
 show opt (intsD (xs.map .int)) r=_
 rw [i7];rfl
theorem nb (rr:Nat) (ft:Fn) (ka kb kc:Int) (ns:List Int) (r:Rho) (h:ns≠[]):nestIn rr ft ka kb kc ns r=(mApp ft [.io rr,.val (.int ka)] r).then fun x r=>(intM x r).then fun x r=>if x=kb then
  (mApp ft [.io rr,.val (.int kc)] r).then fun v r=>(intM v r).then fun v r=>(mApp ft [.io rr,.val (.int ns.length)] r).then fun i r=>(intM i r).then fun i=>opt ((ixP ns.length i).map fun k=>ns.set k v) else .ok ns r:=by
 unfold nestIn
 rw [if_neg h,aj];congr;funext x r;rw [aj];congr;funext x r
 split
 ·rw [aj];congr;funext v r;rw [aj];congr;funext v r;rw [aj];congr;funext i r;rw [aj]
 ·rfl
@[simp] theorem gV (i:Int) (r:Rho):intM (.int i) r=.ok i r:=Eq.trans rfl rfl
end VP

end
section
set_option maxRecDepth 100000
set_option linter.all false
namespace LW
open PySem VP
def names:List Str:=(["given", "even", "turn", "cut", "drop", "wide", "spread", "shape", "shift", "one", "both", "where", "fold", "run", "pick", "join", "minus", "half", "none", "add", "less", "times", "least", "most", "below", "alike", "line", "number", "numbers", "place", "sides", "many"]:List Str)++(["a number to pick by is not a place of the side"]:List Str)
def nm (i:Nat):Str:=names.getD i ""
theorem nm_0:("given" : Str)=nm 0:=rfl
theorem nm_1:("even" : Str)=nm 1:=rfl
theorem nm_2:("turn" : Str)=nm 2:=rfl
theorem nm_3:("cut" : Str)=nm 3:=rfl
theorem nm_4:("drop" : Str)=nm 4:=rfl
theorem nm_5:("wide" : Str)=nm 5:=rfl
theorem nm_6:("spread" : Str)=nm 6:=rfl
theorem nm_7:("shape" : Str)=nm 7:=rfl
theorem nm_8:("shift" : Str)=nm 8:=rfl
theorem nm_9:("one" : Str)=nm 9:=rfl
theorem rS:("both" : Str)=nm 10:=rfl
theorem rT:("where" : Str)=nm 11:=rfl
theorem rV:("fold" : Str)=nm 12:=rfl
theorem rW:("run" : Str)=nm 13:=rfl
theorem mn:("pick" : Str)=nm 14:=rfl
theorem pp:("join" : Str)=nm 15:=rfl
theorem wJ:("line" : Str)=nm 26:=rfl
theorem wK:("a number to pick by is not a place of the side" : Str)=nm 32:=rfl
def iM:List Str:=[(nm 27),(nm 28),(nm 26)]
def d8:List (Str×D):=[((nm 9),.tup [.str (nm 16),.str (nm 17),.str (nm 18)]),((nm 10),.tup [.str (nm 19),.str (nm 20),.str (nm 21),.str (nm 22),.str (nm 23),.str (nm 24),.str (nm 25)]),((nm 12),.tup [.str (nm 19),.str (nm 21),.str (nm 22),.str (nm 23)])]
def mI:List Str:=[]
def bD:List (Str×D):=[((nm 0),.tup [.str (nm 27)]),((nm 1),.tup [.str (nm 28),.str (nm 27)]),((nm 2),.tup [.str (nm 26),.str (nm 28)]),((nm 3),.tup [.str (nm 26),.str (nm 27),.str (nm 27),.str (nm 27),.str (nm 27)]),((nm 4),.tup [.str (nm 26),.str (nm 27),.str (nm 27)]),((nm 5),.tup [.str (nm 26),.str (nm 27)]),((nm 6),.tup [.str (nm 26),.str (nm 28)]),((nm 7),.tup [.str (nm 26),.str (nm 28)]),((nm 8),.tup [.str (nm 26),.str (nm 27),.str (nm 27),.str (nm 27)]),((nm 9),.tup [.str (nm 9),.str (nm 26)]),((nm 10),.tup [.str (nm 10),.str (nm 26),.str (nm 26)]),((nm 11),.tup [.str (nm 26),.str (nm 26),.str (nm 26)]),((nm 12),.tup [.str (nm 12),.str (nm 26),.str (nm 27)]),((nm 13),.tup [.str (nm 12),.str (nm 26),.str (nm 27)]),((nm 14),.tup [.str (nm 26),.str (nm 27),.str (nm 26)]),((nm 15),.tup [.str (nm 26),.str (nm 26),.str (nm 27)])]
def aT:List Str:=["Table"]
def aJ:List Str:=["Table"]
def fK:List (Str×Bool):=[("Table", true)]
def cN:List (Str×Bool):=[("NoCell", true)]
def dB:List (Str×Bool):=[("NoCell", false)]
def eD:List (Str×Bool):=[("NoCell", true)]
def dC:List (Str×Bool):=[("NoCell", false)]
def eE:List (Str×Bool):=[("NoCell", false)]
def ck:List (Str×Bool):=[("NoCell", true)]
def bx:M Fl :=
 (sSeq (sSet 1 (m2 mulI (mVar 1) (mVar 2)))
  sNx)
def b_z3:M Fl :=
 (sSeq (sSet 1 (mC (.int 1)))
  (sSeq (VP.sFor (mSeq (mVar 0)) (VP.gName 2) bx)
  (sSeq (sRet (mVar 1))
  sNx)))
def f_z3:Fn:=defn 3 [false] b_z3
def b_z8:M Fl :=
 (sSeq (sRet (m3c leI ltI (mC (.int 0)) (mVar 0) (mC (.int 1000003))))
  sNx)
def f_z8:Fn:=defn 1 [false] b_z8
def bF:M D :=
 (m3c leI leI (mC (.int 0)) (mVar 1) (mC (.int 64)))
def on:M Fl :=
 (sSeq (VP.sIf (VP.tOr (VP.tB (m2 gtI (m1 lenD (mVar 0)) (mC (.int 4)))) (VP.tNot (VP.tB (m1 (allD true) (mComp 1 (mSeq (mVar 0)) (VP.gName 1) (VP.ret true) bF))))) (sSeq (sRet (mC (.bl false)))
  sNx) sNx)
  (sSeq (sRet (m2 leI (mCall f_z3 [.val (mVar 0)]) (mC (.int 4096))))
  sNx))
def fT:Fn:=defn 1 [false] on
def b5:M D :=
 (mCall f_z8 [.val (mVar 3)])
def b_z1:M Fl :=
 (sSeq (sSetF 0 aJ "sides" (m1 tupOf (mVar 1)))
  (sSeq (sSetF 0 aT "cells" (m1 lstOf (mVar 2)))
  (sSeq (VP.sIf (VP.tNot (VP.tB (mCall fT [.val (m1 (fldD aJ "sides") (mRd 0))]))) (sSeq sNever
  sNx) sNx)
  (sSeq (VP.sIf (VP.tB (m2 neG (m1 lenD (m1 (fldD aT "cells") (mRd 0))) (mCall f_z3 [.val (m1 (fldD aJ "sides") (mRd 0))]))) (sSeq sNever
  sNx) sNx)
  (sSeq (VP.sIf (VP.tNot (VP.tB (m1 (allD true) (mComp 1 (mSeq (m1 (fldD aT "cells") (mRd 0))) (VP.gName 3) (VP.ret true) b5)))) (sSeq sNever
  sNx) sNx)
  sNx)))))
def f_z1:Fn:=defn 3 [true,false,false] b_z1
def nX:M Fl :=
 (sSeq (sRet (m2 addA (m2 addA (mSl cutA (mVar 0) none (some (mVar 1))) (mTup [(mVar 2)])) (mSl cutA (mVar 0) (some (m2 addA (mVar 1) (mC (.int 1)))) none)))
  sNx)
def dh:Fn:=defn 3 [false,false,false] nX
def oh:M Fl :=
 (sSeq (sRet (mAndV (m1 (isaD "int") (mVar 0)) (mOfT (VP.tNot (VP.tB (m1 (isaD "bool") (mVar 0)))))))
  sNx)
def gM:Fn:=defn 1 [false] oh
def cq:M Fl :=
 (sSeq (VP.sIf (VP.tNot (VP.tB (mCall gM [.val (mVar 2)]))) (sSeq (sRet (mC (.bl false)))
  sNx) sNx)
  sNx)
def n5:M Fl :=
 (sSeq (VP.sIf (VP.tOr (VP.tNot (VP.tB (m1 (isaD "tuple") (mVar 0)))) (VP.tB (m2 neG (m1 lenD (mVar 0)) (m1 lenD (mVar 1))))) (sSeq (sRet (mC (.bl false)))
  sNx) sNx)
  (sSeq (VP.sFor (mSeq (mVar 0)) (VP.gName 2) cq)
  (sSeq (sRet (m2 eqG (mVar 0) (mVar 1)))
  sNx)))
def fS:Fn:=defn 3 [false,false] n5
def nZ:M Fl :=
 (sSeq (VP.sIf (VP.tOr (VP.tNot (VP.tB (m1 (isaC fK) (mVar 0)))) (VP.tNot (VP.tB (mCall fS [.val (m1 (fldD aJ "sides") (mVar 0)),.val (mVar 1)])))) (sSeq (sRet (mC (.bl false)))
  sNx) sNx)
  (sSeq (sRet (mAndV (m1 (isaD "list") (m1 (fldD aT "cells") (mVar 0))) (mCall fS [.val (m1 tupOf (m1 (fldD aT "cells") (mVar 0))),.val (m1 tupOf (mVar 2))])))
  sNx))
def gF:Fn:=defn 3 [false,false,false] nZ
def c8:M Fl :=
 (sSeq (sSet 1 (m2 mulI (mVar 1) (mVar 2)))
  sNx)
def lT:M Fl :=
 (sSeq (sSet 1 (mC (.int 1)))
  (sSeq (VP.sFor (mSeq (mVar 0)) (VP.gName 2) c8)
  (sSeq (sRet (mVar 1))
  sNx)))
def cf:Fn:=defn 3 [false] lT
def c9:M Fl :=
 (sSeq (sSet 4 (mCall cf [.val (mSl cutA (mVar 0) (some (m2 addA (mVar 3) (mC (.int 1)))) none)]))
  (sSeq (sSet 2 (m2 addA (mVar 2) (mTup [(m2 modI (m2 fdivI (mVar 1) (mVar 4)) (m2 itemD (mVar 0) (mVar 3)))])))
  sNx))
def nY:M Fl :=
 (sSeq (sSet 2 (mTup []))
  (sSeq (VP.sFor (mRng1 [(m1 lenD (mVar 0))]) (VP.gName 3) c9)
  (sSeq (sRet (mVar 2))
  sNx)))
def eW:Fn:=defn 5 [false,false] nY
def dc:M Fl :=
 (sSeq (sSet 2 (m2 addA (mVar 2) (m2 mulI (m2 itemD (mVar 1) (mVar 3)) (mCall cf [.val (mSl cutA (mVar 0) (some (m2 addA (mVar 3) (mC (.int 1)))) none)]))))
  sNx)
def n6:M Fl :=
 (sSeq (sSet 2 (mC (.int 0)))
  (sSeq (VP.sFor (mRng1 [(m1 lenD (mVar 0))]) (VP.gName 3) dc)
  (sSeq (sRet (mVar 2))
  sNx)))
def dq:Fn:=defn 4 [false,false] n6
def og:M Fl :=
 (sSeq (sSet 2 (mIxO 0 (mC (.int 1))))
  (sSeq (sSetIx 0 (mC (.int 1)) (m2 addA (mVar 2) (mC (.int 1))))
  (sSeq (VP.sIf (VP.tB (m2 ltI (mVar 2) (m1 lenD (mIxO 0 (mC (.int 0)))))) (sSeq (sRet (m2 modI (m2 itemD (mIxO 0 (mC (.int 0))) (mVar 2)) (mVar 1)))
  sNx) sNx)
  (sSeq (sRet (mC (.int 0)))
  sNx))))
def bu:Fn:=defn 3 [true,false] og
def cH:M Fl :=
 (sSeq (sSet 9 (mCall eW [.val (mVar 7),.val (mVar 8)]))
  (sSeq (VP.sIf (VP.tB (m2 ltI (m2 itemD (mVar 9) (mVar 3)) (m2 itemD (mVar 5) (mVar 3)))) (sSeq (sApp 6 (m2 itemD (m2 itemD (mVar 2) (mVar 4)) (mCall dq [.val (mVar 5),.val (mVar 9)])))
  sNx) (sSeq (sSet 9 (mCall dh [.val (mVar 9),.val (mVar 3),.val (m2 subI (m2 itemD (mVar 9) (mVar 3)) (m2 itemD (mVar 5) (mVar 3)))]))
  (sSeq (sApp 6 (m2 itemD (m2 itemD (mVar 2) (m2 subI (mC (.int 1)) (mVar 4))) (mCall dq [.val (m2 itemD (mVar 1) (m2 subI (mC (.int 1)) (mVar 4))),.val (mVar 9)])))
  sNx)))
  sNx))
def n4:M Fl :=
 (sSeq (sSet 4 (mCall bu [.io 0,.val (mC (.int 2))]))
  (sSeq (sSet 5 (m2 itemD (mVar 1) (mVar 4)))
  (sSeq (sOwn 6 (mLst []))
  (sSeq (sSet 7 (mCall dh [.val (mVar 5),.val (mVar 3),.val (m2 addA (m2 itemD (m2 itemD (mVar 1) (mC (.int 0))) (mVar 3)) (m2 itemD (m2 itemD (mVar 1) (mC (.int 1))) (mVar 3)))]))
  (sSeq (VP.sFor (mRng1 [(mCall cf [.val (mVar 7)])]) (VP.gName 8) cH)
  (sSeq (sFz 6 (sRet (mTup [(mTup [(mC (.str (nm 15))),(mVar 4),(m2 subI (mC (.int 1)) (mVar 4)),(mVar 3)]),(mVar 7),(mVar 6)])))
  sNx))))))
def gG:Fn:=defn 10 [true,false,false,false] n4
def b7:M D :=
 (m2 modI (m2 addA (mVar 2) (m2 mulI (m2 mulI (mC (.int 48271)) (mVar 4)) (m2 addA (mVar 4) (m2 modI (mVar 2) (mC (.int 7)))))) (mC (.int 1000003)))
def b8:M D :=
 (m2 modI (mVar 4) (mC (.int 3)))
def lU:M Fl :=
 (sSeq (sSet 2 (mCall bu [.io 0,.val (mC (.int 1000003))]))
  (sSeq (sSet 3 (mComp 1 (mRng1 [(mCall cf [.val (mVar 1)])]) (VP.gName 4) (VP.ret true) b7))
  (sSeq (VP.sIf (VP.tB (m2 eqG (m2 modI (mVar 2) (mC (.int 3))) (mC (.int 1)))) (sSeq (sSet 3 (mComp 1 (mSeq (mVar 3)) (VP.gName 4) (VP.ret true) b8))
  sNx) sNx)
  (sSeq (sRet (mVar 3))
  sNx))))
def gH:Fn:=defn 4 [true,false] lU
def eu:M D :=
 (m2 itemD (mLst [(mC (.int 2)),(mC (.int 3)),(mC (.int 1)),(mC (.int 2)),(mC (.int 3)),(mC (.int 1)),(mC (.int 4)),(mC (.int 0))]) (mCall bu [.io 0,.val (mC (.int 8))]))
def lV:M Fl :=
 (sSeq (sSet 1 (mComp 1 (mRng1 [(mCall bu [.io 0,.val (mC (.int 5))])]) (VP.gName 2) (VP.ret true) eu))
  (sSeq (VP.sIf (VP.tB (m2 gtI (mCall cf [.val (mVar 1)]) (mC (.int 54)))) (sSeq (sSet 1 (mSl cutA (mVar 1) (some (mC (.int 1))) none))
  sNx) sNx)
  (sSeq (sRet (m1 tupOf (mVar 1)))
  sNx)))
def gI:Fn:=defn 2 [true] lV
def cI:M Fl :=
 (sSeq (sSet 6 (mCall eW [.val (mVar 3),.val (mVar 5)]))
  (sSeq (sSet 7 (m2 itemD (m2 itemD (mVar 1) (mC (.int 2))) (m2 itemD (mVar 6) (mVar 2))))
  (sSeq (VP.sIf (VP.tB (m2 geI (mVar 7) (m2 itemD (m2 itemD (mVar 0) (mC (.int 0))) (mVar 2)))) (sSeq (sRet (mTup [(mTup [(mC (.str (nm 14))),(mC (.int 0)),(mVar 2),(mC (.int 2))]),(mVar 3),(mC .non)]))
  sNx) sNx)
  (sSeq (sApp 4 (m2 itemD (m2 itemD (mVar 1) (mC (.int 0))) (mCall dq [.val (m2 itemD (mVar 0) (mC (.int 0))),.val (mCall dh [.val (mVar 6),.val (mVar 2),.val (mVar 7)])])))
  sNx))))
def lW:M Fl :=
 (sSeq (sSet 3 (mCall dh [.val (m2 itemD (mVar 0) (mC (.int 0))),.val (mVar 2),.val (m2 itemD (m2 itemD (mVar 0) (mC (.int 2))) (mC (.int 0)))]))
  (sSeq (sOwn 4 (mLst []))
  (sSeq (VP.sFor (mRng1 [(mCall cf [.val (mVar 3)])]) (VP.gName 5) cI)
  (sSeq (sFz 4 (sRet (mTup [(mTup [(mC (.str (nm 14))),(mC (.int 0)),(mVar 2),(mC (.int 2))]),(mVar 3),(mVar 4)])))
  sNx))))
def gJ:Fn:=defn 8 [false,false,false] lW
def et:M D :=
 (m2 (inD false) (mVar 2) (m1 (tabD d8) (mVar 1)))
def eA:M Bool :=
 (VP.tB (m1 (tabInD false d8 iM) (mVar 1)))
def b_z4:M Fl :=
 (sSeq (sRet (m1 (allD true) (mComp 2 (mZip [(m1 (tabD bD) (m2 itemD (mVar 0) (mC (.int 0)))),(mSl cutA (mVar 0) (some (mC (.int 1))) none)]) (VP.gTup [1,2]) eA et)))
  sNx)
def f_z4:Fn:=defn 1 [false] b_z4
def lX:M Fl :=
 (sSeq (VP.sIf (VP.tB (m2 eqG (m2 itemD (mVar 0) (mC (.int 0))) (mC (.str (nm 1))))) (sSeq sNever
  sNx) sNx)
  (sSeq (sRet (mOrV (m2 neG (m2 itemD (mVar 0) (mC (.int 0))) (mC (.str (nm 8)))) (mCall f_z8 [.val (m2 itemD (mVar 0) (mC (.int 4)))])))
  sNx))
def el:Fn:=defn 1 [false] lX
def bV:M D :=
 (mVar 2)
def bw:M Bool :=
 (VP.tB (m2 eqG (mVar 1) (mC (.str (nm 26)))))
def iQ:M Fl :=
 (sSeq (sRet (mComp 2 (mZip [(m1 (tabD bD) (m2 itemD (mVar 0) (mC (.int 0)))),(mSl cutA (mVar 0) (some (mC (.int 1))) none)]) (VP.gTup [1,2]) bw bV))
  sNx)
def a6:Fn:=defn 1 [false] iQ
def bh:M D :=
 (m3c leI ltI (mC (.int 0)) (mVar 3) (mVar 1))
def lZ:M Fl :=
 (sSeq (VP.sIf (VP.tB (m2 eqG (m2 itemD (mVar 0) (mC (.int 0))) (mC (.str (nm 0))))) (sSeq (sRet (m3c leI ltI (mC (.int 0)) (m2 itemD (mVar 0) (mC (.int 1))) (mVar 2)))
  sNx) sNx)
  (sSeq (sRet (m1 (allD true) (mComp 1 (mSeq (mCall a6 [.val (mVar 0)])) (VP.gName 3) (VP.ret true) bh)))
  sNx))
def eY:Fn:=defn 3 [false,false,false] lZ
def b_z5:M Fl :=
 (sSeq (sRet (m3c leI ltI (mC (.int 0)) (mVar 1) (m1 lenD (mVar 0))))
  sNx)
def f_z5:Fn:=defn 2 [false,false] b_z5
def om:M Fl :=
 (sSeq (sRet (m2 addA (m2 addA (mSl cutA (mVar 0) none (some (mVar 1))) (mTup [(mVar 2)])) (mSl cutA (mVar 0) (some (m2 addA (mVar 1) (mC (.int 1)))) none)))
  sNx)
def dr:Fn:=defn 3 [false,false,false] om
def oy:M Fl :=
 (sSeq (sRet (m2 addA (mSl cutA (mVar 0) none (some (mVar 1))) (mSl cutA (mVar 0) (some (m2 addA (mVar 1) (mC (.int 1)))) none)))
  sNx)
def fU:Fn:=defn 2 [false,false] oy
def iP:M Fl :=
 (sSeq (VP.sIf (VP.tOr (VP.tNot (VP.tB (mCall f_z5 [.val (mVar 0),.val (mVar 2)]))) (VP.tB (m2 neG (m1 lenD (mVar 0)) (m1 lenD (mVar 1))))) (sSeq (sRet (mC .non))
  sNx) sNx)
  (sSeq (VP.sIf (VP.tB (m2 neG (mCall fU [.val (mVar 0),.val (mVar 2)]) (mCall fU [.val (mVar 1),.val (mVar 2)]))) (sSeq (sRet (mC .non))
  sNx) sNx)
  (sSeq (sRet (mCall dr [.val (mVar 0),.val (mVar 2),.val (m2 addA (m2 itemD (mVar 0) (mVar 2)) (m2 itemD (mVar 1) (mVar 2)))]))
  sNx)))
def gE:Fn:=defn 3 [false,false,false] iP
def jX:M Fl :=
 (sSeq (VP.sIf (VP.tOr (VP.tNot (VP.tB (mCall f_z5 [.val (mVar 0),.val (mVar 1)]))) (VP.tB (m2 neG (m1 lenD (mVar 2)) (mC (.int 1))))) (sSeq (sRet (mC .non))
  sNx) sNx)
  (sSeq (sRet (mCall dr [.val (mVar 0),.val (mVar 1),.val (m2 itemD (mVar 2) (mC (.int 0)))]))
  sNx))
def gN:Fn:=defn 3 [false,false,false] jX
def rN:M Fl :=
 (sSeq (sSet 2 (m2 itemD (mVar 0) (mC (.int 0))))
  (sSeq (VP.sIf (VP.tB (m2 eqG (mVar 2) (mC (.str (nm 2))))) (sSeq sNever
  sNx) sNx)
  (sSeq (VP.sIf (VP.tB (m2 eqG (mVar 2) (mC (.str (nm 3))))) (sSeq sNever
  sNx) sNx)
  (sSeq (VP.sIf (VP.tB (m2 eqG (mVar 2) (mC (.str (nm 4))))) (sSeq sNever
  sNx) sNx)
  (sSeq (VP.sIf (VP.tB (m2 eqG (mVar 2) (mC (.str (nm 5))))) (sSeq sNever
  sNx) sNx)
  (sSeq (VP.sIf (VP.tB (m2 eqG (mVar 2) (mC (.str (nm 6))))) (sSeq sNever
  sNx) sNx)
  (sSeq (sRet (mIf (VP.tB (m2 eqG (mCall f_z3 [.val (mVar 1)]) (mCall f_z3 [.val (m2 itemD (mVar 0) (mC (.int 2)))]))) (m2 itemD (mVar 0) (mC (.int 2))) (mC .non)))
  sNx)))))))
def kh:Fn:=defn 3 [false,false] rN
def gr:M Fl :=
 (sSeq (sSet 3 (m2 itemD (mVar 0) (mC (.int 0))))
  (sSeq (VP.sIf (VP.tB (m2 eqG (mVar 3) (mC (.str (nm 0))))) (sSeq (sRet (m2 itemD (mVar 2) (m2 itemD (mVar 0) (mC (.int 1)))))
  sNx) sNx)
  (sSeq (VP.sIf (VP.tB (m2 eqG (mVar 3) (mC (.str (nm 1))))) (sSeq sNever
  sNx) sNx)
  (sSeq (VP.sIf (VP.tB (m2 eqG (mVar 3) (mC (.str (nm 9))))) (sSeq sNever
  sNx) sNx)
  (sSeq (VP.sIf (VP.tB (m2 eqG (mVar 3) (mC (.str (nm 10))))) (sSeq sNever
  sNx) sNx)
  (sSeq (VP.sIf (VP.tB (m2 eqG (mVar 3) (mC (.str (nm 11))))) (sSeq sNever
  sNx) sNx)
  (sSeq (VP.sIf (VP.tB (m2 eqG (mVar 3) (mC (.str (nm 12))))) (sSeq sNever
  sNx) sNx)
  (sSeq (VP.sIf (VP.tB (m2 eqG (mVar 3) (mC (.str (nm 13))))) (sSeq sNever
  sNx) sNx)
  (sSeq (VP.sIf (VP.tB (m2 eqG (mVar 3) (mC (.str (nm 14))))) (sSeq (sRet (mCall gN [.val (mIxO 1 (m2 itemD (mVar 0) (mC (.int 1)))),.val (m2 itemD (mVar 0) (mC (.int 2))),.val (mIxO 1 (m2 itemD (mVar 0) (mC (.int 3))))]))
  sNx) sNx)
  (sSeq (VP.sIf (VP.tB (m2 eqG (mVar 3) (mC (.str (nm 15))))) (sSeq (sRet (mCall gE [.val (mIxO 1 (m2 itemD (mVar 0) (mC (.int 1)))),.val (mIxO 1 (m2 itemD (mVar 0) (mC (.int 2)))),.val (m2 itemD (mVar 0) (mC (.int 3)))]))
  sNx) sNx)
  (sSeq (VP.sIf (VP.tB (m2 eqG (mVar 3) (mC (.str (nm 8))))) (sSeq (sRet (mIf (VP.tB (mCall f_z5 [.val (mIxO 1 (m2 itemD (mVar 0) (mC (.int 1)))),.val (m2 itemD (mVar 0) (mC (.int 2)))])) (mIxO 1 (m2 itemD (mVar 0) (mC (.int 1)))) (mC .non)))
  sNx) sNx)
  (sSeq (sRet (mCall kh [.val (mVar 0),.val (mIxO 1 (m2 itemD (mVar 0) (mC (.int 1))))]))
  sNx))))))))))))
def bX:Fn:=defn 4 [false,true,false] gr
def l6:M Fl :=
 (sSeq (VP.sIf (VP.tNot (VP.tB (mCall eY [.val (mVar 1),.val (m1 lenD (mRd 2)),.val (m1 lenD (mVar 3))]))) (sSeq sNever
  sNx) sNx)
  (sSeq (VP.sIf (VP.tNot (VP.tB (mCall el [.val (mVar 1)]))) (sSeq sNever
  sNx) sNx)
  (sSeq (sSet 4 (mIf (VP.tB (mCall f_z4 [.val (mVar 1)])) (mCall bX [.val (mVar 1),.io 2,.val (mVar 3)]) (mC .non)))
  (sSeq (VP.sIf (VP.tOr (VP.tB (m2 isND (mVar 4) (mC .non))) (VP.tNot (VP.tB (mCall fT [.val (mVar 4)])))) (sSeq sNever
  sNx) sNx)
  (sSeq (sRet (mVar 4))
  sNx)))))
def cS:Fn:=defn 5 [false,false,true,false] l6
def cQ:M Fl :=
 (sSeq (sApp 2 (mCall cS [.val (mVar 3),.val (mVar 4),.io 2,.val (mVar 1)]))
  sNx)
def oq:M Fl :=
 (sSeq (VP.sIf (VP.tB (m2 eqG (m1 lenD (mVar 0)) (mC (.int 0)))) (sSeq sNever
  sNx) sNx)
  (sSeq (VP.sIf (VP.tB (m2 gtI (m1 lenD (mVar 0)) (mC (.int 40)))) (sSeq sNever
  sNx) sNx)
  (sSeq (sOwn 2 (mLst []))
  (sSeq (VP.sFor (mEnum [(mVar 0)]) (VP.gTup [3,4]) cQ)
  (sSeq (sFz 2 (sRet (mVar 2)))
  sNx)))))
def eZ:Fn:=defn 5 [false,false] oq
def b9:M Fl :=
 (sSeq (sApp 1 (mVar 2))
  (sSeq (sSet 2 (m2 mulI (mVar 2) (mVar 3)))
  sNx))
def ou:M Fl :=
 (sSeq (sOwn 1 (mLst []))
  (sSeq (sSet 2 (mC (.int 1)))
  (sSeq (VP.sFor (mRev (mVar 0)) (VP.gName 3) b9)
  (sSeq (sRet (m1 revT (mRd 1)))
  sNx))))
def ff:Fn:=defn 4 [false] ou
def ej:M D :=
 (m2 mulI (mVar 2) (mVar 3))
def oj:M Fl :=
 (sSeq (sRet (m1 sumD (mComp 2 (mZip [(mCall ff [.val (mVar 0)]),(mVar 1)]) (VP.gTup [2,3]) (VP.ret true) ej)))
  sNx)
def gO:Fn:=defn 2 [false,false] oj
def b_z0:M Fl :=
 (sSeq (sRet (m2 itemD (m1 (fldD aT "cells") (mVar 0)) (mCall gO [.val (m1 (fldD aJ "sides") (mVar 0)),.val (mVar 1)])))
  sNx)
def f_z0:Fn:=defn 2 [false,false] b_z0
def b_z9:M Fl :=
 (sSeq (sSet 4 (m2 itemD (mVar 3) (mVar 2)))
  (sSeq (sSet 5 (m2 itemD (m1 (fldD aJ "sides") (mVar 0)) (mVar 2)))
  (sSeq (sRet (mIf (VP.tB (m2 ltI (mVar 4) (mVar 5))) (mMeth "Table" "cell" f_z0 (mVar 0) [.val (mVar 3)]) (mMeth "Table" "cell" f_z0 (mVar 1) [.val (mCall dr [.val (mVar 3),.val (mVar 2),.val (m2 subI (mVar 4) (mVar 5))])])))
  sNx)))
def f_z9:Fn:=defn 6 [false,false,false,false] b_z9
def lY:M Fl :=
 (sSeq (sSet 4 (mMeth "Table" "cell" f_z0 (mVar 2) [.val (mTup [(m2 itemD (mVar 3) (mVar 1))])]))
  (sSeq (VP.sIf (VP.tB (m2 geI (mVar 4) (m2 itemD (m1 (fldD aJ "sides") (mVar 0)) (mVar 1)))) (sSeq (sRaise "NoCell" [(mC (.str (nm 32)))])
  sNx) sNx)
  (sSeq (sRet (mMeth "Table" "cell" f_z0 (mVar 0) [.val (mCall dr [.val (mVar 3),.val (mVar 1),.val (mVar 4)])]))
  sNx)))
def eX:Fn:=defn 5 [false,false,false,false] lY
def jY:M Fl :=
 (sSeq (sSet 5 (m2 subI (m2 itemD (mVar 4) (mVar 1)) (mVar 2)))
  (sSeq (sRet (mIf (VP.tB (m3c leI ltI (mC (.int 0)) (mVar 5) (m2 itemD (m1 (fldD aJ "sides") (mVar 0)) (mVar 1)))) (mMeth "Table" "cell" f_z0 (mVar 0) [.val (mCall dr [.val (mVar 4),.val (mVar 1),.val (mVar 5)])]) (mVar 3)))
  sNx))
def gP:Fn:=defn 6 [false,false,false,false,false] jY
def fG:M D :=
 (mIf (VP.tB (m2 eqG (mVar 3) (mC (.int 1)))) (mC (.int 0)) (mVar 4))
def rO:M Fl :=
 (sSeq (sSet 2 (mSl cutA (mVar 1) (some (m2 subI (m1 lenD (mVar 1)) (m1 lenD (m1 (fldD aJ "sides") (mVar 0))))) none))
  (sSeq (sRet (mMeth "Table" "cell" f_z0 (mVar 0) [.val (m1 tupOf (mComp 2 (mZip [(m1 (fldD aJ "sides") (mVar 0)),(mVar 2)]) (VP.gTup [3,4]) (VP.ret true) fG))]))
  sNx))
def ki:Fn:=defn 3 [false,false] rO
def rP:M Fl :=
 (sSeq (sSet 3 (m2 itemD (mVar 0) (mC (.int 0))))
  (sSeq (VP.sIf (VP.tB (m2 eqG (mVar 3) (mC (.str (nm 2))))) (sSeq sNever
  sNx) sNx)
  (sSeq (VP.sIf (VP.tB (m2 eqG (mVar 3) (mC (.str (nm 3))))) (sSeq sNever
  sNx) sNx)
  (sSeq (VP.sIf (VP.tB (m2 eqG (mVar 3) (mC (.str (nm 4))))) (sSeq sNever
  sNx) sNx)
  (sSeq (VP.sIf (VP.tB (m2 eqG (mVar 3) (mC (.str (nm 5))))) (sSeq sNever
  sNx) sNx)
  (sSeq (sRet (mCall ki [.val (mVar 1),.val (mVar 2)]))
  sNx))))))
def kj:Fn:=defn 4 [false,false,false] rP
def b_z2:M Fl :=
 (sSeq (sSet 4 (m2 itemD (mVar 0) (mC (.int 0))))
  (sSeq (VP.sIf (VP.tB (m2 eqG (mVar 4) (mC (.str (nm 1))))) (sSeq sNever
  sNx) sNx)
  (sSeq (VP.sIf (VP.tB (m2 eqG (mVar 4) (mC (.str (nm 9))))) (sSeq sNever
  sNx) sNx)
  (sSeq (VP.sIf (VP.tB (m2 eqG (mVar 4) (mC (.str (nm 10))))) (sSeq sNever
  sNx) sNx)
  (sSeq (VP.sIf (VP.tB (m2 eqG (mVar 4) (mC (.str (nm 11))))) (sSeq sNever
  sNx) sNx)
  (sSeq (VP.sIf (VP.tB (m2 eqG (mVar 4) (mC (.str (nm 12))))) (sSeq sNever
  sNx) sNx)
  (sSeq (VP.sIf (VP.tB (m2 eqG (mVar 4) (mC (.str (nm 14))))) (sSeq (sRet (mCall eX [.val (mIxO 2 (m2 itemD (mVar 0) (mC (.int 1)))),.val (m2 itemD (mVar 0) (mC (.int 2))),.val (mIxO 2 (m2 itemD (mVar 0) (mC (.int 3)))),.val (mVar 3)]))
  sNx) sNx)
  (sSeq (VP.sIf (VP.tB (m2 eqG (mVar 4) (mC (.str (nm 15))))) (sSeq (sRet (mCall f_z9 [.val (mIxO 2 (m2 itemD (mVar 0) (mC (.int 1)))),.val (mIxO 2 (m2 itemD (mVar 0) (mC (.int 2)))),.val (m2 itemD (mVar 0) (mC (.int 3))),.val (mVar 3)]))
  sNx) sNx)
  (sSeq (VP.sIf (VP.tB (m2 eqG (mVar 4) (mC (.str (nm 8))))) (sSeq (sRet (mCall gP [.val (mIxO 2 (m2 itemD (mVar 0) (mC (.int 1)))),.val (m2 itemD (mVar 0) (mC (.int 2))),.val (m2 itemD (mVar 0) (mC (.int 3))),.val (m2 itemD (mVar 0) (mC (.int 4))),.val (mVar 3)]))
  sNx) sNx)
  (sSeq (VP.sIf (VP.tB (m2 eqG (mVar 4) (mC (.str (nm 7))))) (sSeq sNever
  sNx) sNx)
  (sSeq (sRet (mCall kj [.val (mVar 0),.val (mIxO 2 (m2 itemD (mVar 0) (mC (.int 1)))),.val (mVar 3)]))
  sNx)))))))))))
def f_z2:Fn:=defn 5 [false,false,true,false] b_z2
def cP:M Fl :=
 (sSeq (sSet 5 (mF maxD [(mVar 4),(mC (.int 1))]))
  (sSeq (sApp 2 (m2 fdivI (mVar 3) (mVar 5)))
  (sSeq (sSet 3 (m2 modI (mVar 3) (mVar 5)))
  sNx)))
def b_z6:M Fl :=
 (sSeq (sOwn 2 (mLst []))
  (sSeq (sSet 3 (mVar 1))
  (sSeq (VP.sFor (mSeq (mCall ff [.val (mVar 0)])) (VP.gName 4) cP)
  (sSeq (sRet (m1 tupOf (mRd 2)))
  sNx))))
def f_z6:Fn:=defn 6 [false,false] b_z6
def b6:M D :=
 (mCall f_z6 [.val (mVar 0),.val (mVar 1)])
def b_z7:M Fl :=
 (sSeq (sRet (mComp 1 (mRng1 [(mCall f_z3 [.val (mVar 0)])]) (VP.gName 1) (VP.ret true) b6))
  sNx)
def f_z7:Fn:=defn 1 [false] b_z7
def aV:M D :=
 (mCall f_z2 [.val (mVar 0),.val (mVar 1),.io 2,.val (mVar 4)])
def jZ:M Fl :=
 (sSeq (VP.sIf (VP.tB (m2 eqG (m2 itemD (mVar 0) (mC (.int 0))) (mC (.str (nm 0))))) (sSeq (sRet (mMake "Table" f_z1 [.val (mVar 1),.val (m1 (fldD aT "cells") (m2 itemD (mVar 3) (m2 itemD (mVar 0) (mC (.int 1)))))]))
  sNx) sNx)
  (sSeq (VP.sIf (VP.tB (m2 eqG (m2 itemD (mVar 0) (mC (.int 0))) (mC (.str (nm 13))))) (sSeq sNever
  sNx) sNx)
  (sSeq (sRet (mMake "Table" f_z1 [.val (mVar 1),.val (mComp 1 (mSeq (mCall f_z7 [.val (mVar 1)])) (VP.gName 4) (VP.ret true) aV)]))
  sNx)))
def bH:Fn:=defn 4 [false,false,true,false] jZ
def bG:M D :=
 (mC (.bl false))
def bK:M Fl :=
 (sSeq (sSetIx 1 (mVar 3) (mC (.bl true)))
  sNx)
def cJ:M Fl :=
 (sSeq (VP.sIf (VP.tB (mIxO 1 (mVar 2))) (sSeq (VP.sFor (mSeq (mCall a6 [.val (m2 itemD (mVar 0) (mVar 2))])) (VP.gName 3) bK)
  sNx) sNx)
  sNx)
def ox:M Fl :=
 (sSeq (sOwn 1 (mComp 1 (mSeq (mVar 0)) (VP.gName 4) (VP.ret true) bG))
  (sSeq (sSetIx 1 (m2 subI (m1 lenD (mVar 0)) (mC (.int 1))) (mC (.bl true)))
  (sSeq (VP.sFor (mDown [(m2 subI (m1 lenD (mVar 0)) (mC (.int 1))),(m1 negI (mC (.int 1))),(m1 negI (mC (.int 1)))]) (VP.gName 2) cJ)
  (sSeq (sFz 1 (sRet (mVar 1)))
  sNx))))
def gQ:Fn:=defn 4 [false] ox
def aW:M D :=
 (m1 (fldD aJ "sides") (mVar 7))
def bJ:M Fl :=
 (sSeq (sApp 4 (mIf (VP.tB (m2 itemD (mVar 3) (mVar 5))) (mCall bH [.val (mVar 6),.val (m2 itemD (mVar 2) (mVar 5)),.io 4,.val (mVar 1)]) (mC .non)))
  sNx)
def l5:M Fl :=
 (sSeq (sSet 2 (mCall eZ [.val (mVar 0),.val (mComp 1 (mSeq (mVar 1)) (VP.gName 7) (VP.ret true) aW)]))
  (sSeq (sSet 3 (mCall gQ [.val (mVar 0)]))
  (sSeq (sOwn 4 (mLst []))
  (sSeq (VP.sFor (mEnum [(mVar 0)]) (VP.gTup [5,6]) bJ)
  (sSeq (sRet (mIxO 4 (m1 negI (mC (.int 1)))))
  sNx)))))
def ci:Fn:=defn 7 [false,false] l5
def cD:M Fl :=
 (sSeq (sDrop (mCall ci [.val (mVar 0),.val (mVar 1)]))
  sNx)
def dO:M Fl :=
 (sSeq (VP.sIf (VP.tOr (VP.tB (m1 (isaX dC) (mVar 2))) (VP.tOr (VP.tB (m1 (isaX dB) (mVar 2))) (VP.tB (m1 (isaX eE) (mVar 2))))) (sSeq (sRet (mC (.bl false)))
  sNx) sNx)
  (sSeq (sRet (mAndV (m1 (isaX eD) (mVar 2)) (m1 (isaX ck) (mVar 2))))
  sNx))
def n8:M Fl :=
 (sSeq (sTry cD cN 2 dO)
  (sSeq (sRet (mC (.bl false)))
  sNx))
def gK:Fn:=defn 3 [false,false] n8
def bI:M Fl :=
 (sSeq (sSet 8 (mCall eW [.val (mVar 1),.val (mVar 7)]))
  (sSeq (sSet 9 (m2 subI (m2 itemD (mVar 8) (mVar 3)) (mVar 4)))
  (sSeq (VP.sIf (VP.tB (m3c leI ltI (mC (.int 0)) (mVar 9) (m2 itemD (mVar 1) (mVar 3)))) (sSeq (sApp 6 (m2 itemD (mVar 2) (mCall dq [.val (mVar 1),.val (mCall dh [.val (mVar 8),.val (mVar 3),.val (mVar 9)])])))
  sNx) (sSeq (sApp 6 (mVar 5))
  sNx))
  sNx)))
def n9:M Fl :=
 (sSeq (sSet 4 (m2 subI (mCall bu [.io 0,.val (mC (.int 11))]) (mC (.int 5))))
  (sSeq (sSet 5 (mCall bu [.io 0,.val (mC (.int 1000003))]))
  (sSeq (sOwn 6 (mLst []))
  (sSeq (VP.sFor (mRng1 [(mCall cf [.val (mVar 1)])]) (VP.gName 7) bI)
  (sSeq (sFz 6 (sRet (mTup [(mTup [(mC (.str (nm 8))),(mC (.int 0)),(mVar 3),(mVar 4),(mVar 5)]),(mVar 1),(mVar 6)])))
  sNx)))))
def gL:Fn:=defn 10 [true,false,false,false] n9
def gx:M D :=
 (mCall gH [.io 1,.val (mVar 10)])
def gy:M D :=
 (m2 modI (mVar 10) (mC (.int 4)))
def gz:M D :=
 (mMake "Table" f_z1 [.val (mVar 10),.val (mVar 11)])
def cW:M Fl :=
 (sSeq (sFz 6 (sSet 7 (mCall gJ [.val (mVar 5),.val (mVar 6),.val (mVar 4)])))
  (sSeq (VP.sIf (VP.tB (m2 eqG (mVar 2) (mC (.int 1)))) (sSeq (sSet 7 (mCall gL [.io 1,.val (mVar 3),.val (m2 itemD (mVar 6) (mC (.int 0))),.val (mVar 4)]))
  sNx) sNx)
  (sSeq (VP.sIf (VP.tB (m2 eqG (mVar 2) (mC (.int 2)))) (sSeq (sFz 6 (sSet 7 (mCall gG [.io 1,.val (mVar 5),.val (mVar 6),.val (mVar 4)])))
  sNx) sNx)
  (sSeq (sFz 6 (sSet 8 (mComp 2 (mZip [(mVar 5),(mVar 6)]) (VP.gTup [10,11]) (VP.ret true) gz)))
  (sSeq (sSet 8 (m2 addA (mSl cutA (mVar 8) (some (mC (.int 1))) none) (mSl cutA (mVar 8) none (some (mC (.int 1))))))
  (sSeq (sSet 9 (mLst [(mTup [(mC (.str (nm 0))),(mC (.int 2))]),(mTup [(mC (.str (nm 0))),(mC (.int 0))]),(mTup [(mC (.str (nm 0))),(mC (.int 1))]),(m2 itemD (mVar 7) (mC (.int 0)))]))
  (sSeq (VP.sIf (VP.tB (m2 isND (m2 itemD (mVar 7) (mC (.int 2))) (mC .non))) (sSeq (sRet (mCall gK [.val (mVar 9),.val (mVar 8)]))
  sNx) sNx)
  (sSeq (sRet (mCall gF [.val (mCall ci [.val (mVar 9),.val (mVar 8)]),.val (m2 itemD (mVar 7) (mC (.int 1))),.val (m2 itemD (mVar 7) (mC (.int 2)))]))
  sNx))))))))
def lS:M Fl :=
 (sSeq (sOwn 1 (mLst [(mVar 0),(mC (.int 0))]))
  (sSeq (sSet 2 (mCall bu [.io 1,.val (mC (.int 3))]))
  (sSeq (sSet 3 (mCall gI [.io 1]))
  (sSeq (VP.sIf (VP.tB (m2 eqG (mVar 3) (mTup []))) (sSeq (sSet 3 (mTup [(mC (.int 2))]))
  sNx) sNx)
  (sSeq (sSet 4 (mCall bu [.io 1,.val (m1 lenD (mVar 3))]))
  (sSeq (sSet 5 (mLst [(mVar 3),(mCall dh [.val (mVar 3),.val (mVar 4),.val (mCall bu [.io 1,.val (mC (.int 4))])]),(mTup [(mCall bu [.io 1,.val (mC (.int 5))])])]))
  (sSeq (sOwn 6 (mComp 1 (mSeq (mVar 5)) (VP.gName 10) (VP.ret true) gx))
  (sNest 6 1 bu 4 3 1000003 (mComp 1 (mSeq (mIxO 6 (mC (.int 2)))) (VP.gName 10) (VP.ret true) gy)
  cW))))))))
def iZ:Fn:=defn 10 [false] lS
theorem qk (i:Int):gM [.int i]=.ok (.bl true) []:=by
 rw [gM,am _ _ _ _ rfl]
 simp [oh]
theorem pq (xs:List Int) (y:D) (x:D):∀s,free (some s)=true→∃a,loop (gName 2) cq (xs.map .int) [.sh x,.sh y,s]=.ok .nx [.sh x,.sh y,a]:=by
 induction xs with
 | nil=>intro s _;exact ⟨_,rfl⟩
 | cons i xs ih =>
  intro s hs
  obtain ⟨a,ha⟩:=ih (.sh (.int i)) rfl
  refine ⟨a,?_⟩
  rw [←ha]
  simp [hs,cq,qk]
theorem ia (xs ys:List Int):fS [T xs,T ys]=.ok (.bl (decide (xs=ys))) []:=by
 rw [fS,am _ _ _ _ rfl]
 obtain ⟨a,ha⟩:=pq xs (T ys) (T xs) .no rfl
 unfold n5
 by_cases h:xs.length=ys.length
 ·have h':(xs.length:Int)=ys.length:=by omega
  simp [ha,h]
 ·have h':¬(xs.length:Int)=ys.length:=by omega
  have:xs≠ys:=fun e=>h (by rw [e])
  simp [h',this]
def cell (ns:List Int) (k:Nat):Int:=ns.getD k 0
def Row (ns:List Int) (p:Nat):D:=.lst [Z ns,.int p]
theorem aZ (ns:List Int) (p:Nat) (m:Int) (h:0<m):bu [Row ns p,.int m]=.ok (.int (cell ns p % m)) [Row ns (p+1)]:=by
 rw [bu,am _ _ _ _ rfl]
 unfold og cell Row
 have i0:∀(j:Int),ixD [Z ns,.int j] 0=some (Z ns):=fun _=>rfl
 have i1:∀(j:Int),ixD [Z ns,.int j] 1=some (.int j):=fun _=>rfl
 have st:∀(i j:Int),setAt (.int 1) (.int j) (.lst [Z ns,.int i])=some (.lst [Z ns,.int j]):=fun _ _=>rfl
 by_cases hp:p<ns.length
 ·have e:=aN ns p (by omega) (by omega)
  simp [i0,i1,st,hp,e,cr _ _ h]
 ·have hp':¬(p:Int)<ns.length:=by omega
  have g:ns[p]?=none:=List.getElem?_eq_none (by omega)
  simp [i0,i1,st,hp,g]
theorem nj {A B:Type} (c:Nat) (g:Nat→B):∀(ks:List A) (n:Nat),outs (fun (q:Nat) (_:A)=>q+c) (fun q _=>g q) n ks=(List.range ks.length).map fun k=>g (n+c*k):=by
 intro ks
 induction ks with
 | nil=>intro n;rfl
 | cons k ks ih=>intro n;simp [outs,ih,List.range_succ_eq_map,Function.comp_def,Nat.mul_add,Nat.add_assoc,Nat.add_comm c]
theorem k7 {A:Type} (c:Nat):∀(ks:List A) (n:Nat),ks.foldl (fun (q:Nat) (_:A)=>q+c) n=n+c*ks.length:=by
 intro ks
 induction ks with
 | nil=>intro n;simp
 | cons k ks ih=>intro n;simp [ih,Nat.mul_add];omega
theorem mS {it:M (List D)} {elt:M D} {k:Nat} {r0:Rho} {out:D} (R:Nat→Rho) (c n p:Nat) (g:Nat→D) (hlen:∀q,(R q).length=k) (hds:it r0=.ok ((List.range n).map fun (k:Nat)=>.int k) (R p)) (hL:n≤1000)
  (he:∀q j acc,elt (R q++[.sh (.int (j:Nat)),.ow acc])=.ok (g q) (R (q+c)++[.sh (.int (j:Nat)),.ow acc])) (hout:D.lst ((List.range n).map fun k=>g (p+c*k))=out) :
  mComp 1 it (gName k) (ret true) elt r0=.ok out (R (p+c*n)):=by
 have h:=(compS (elt:=elt) (fun (k:Nat)=>D.int k) R (fun _ _=>True) (fun q _=>q+c) (fun q _=>g q) (List.range n) p hlen hds (by simp;omega) trivial (fun i j hj q acc _=>⟨trivial,he q j acc⟩)).1
 rw [nj,k7,List.length_range,hout] at h
 exact h
theorem hW:names.all strFine=true∧names.Nodup:=⟨by decide +kernel,by decide +kernel⟩
theorem hX {i:Nat} (h:i<names.length):nm i=names[i]:=by simp [nm,h]
theorem sw (i j:Nat) (hi:i<names.length) (hj:j<names.length):eqG (.str (nm i)) (.str (nm j))=some (.bl (decide (i=j))):=by
 have f:∀k,k<names.length→strFine (nm k)=true:=fun k h=>by
  rw [hX h];exact List.all_eq_true.mp hW.1 _ (List.getElem_mem h)
 have e:(nm i == nm j)=decide (i=j):=by
  rw [hX hi,hX hj]
  by_cases h:i=j
  ·subst h;simp
  ·have:names[i]≠names[j]:=fun z=>h ((List.getElem_inj hW.2).mp z)
   simp [h,this]
 simp [eqG,VP.plain,f i hi,f j hj,eqB,e]
def prodR:List Int→Int
 | []=>1
 | x::r=>x*prodR r
def strd:List Int→List Int
 | []=>[]
 | _::r=>prodR r::strd r
def idx:List Int→Int→List Int
 | [],_=>[]
 | _::r,p=>p / max (prodR r) 1::idx r (p % max (prodR r) 1)
def lidx:List Int→Int→List Int
 | [],_=>[]
 | x::r,p=>p / prodR r % x::lidx r p
def dot:List Int→List Int→Int
 | x::xs,y::ys=>x*y+dot xs ys
 | _,_=>0
structure Sd (xs:List Int):Prop where
 len:xs.length≤4
 bd:∀x∈xs,0≤x∧x≤64
theorem my:∀(xs:List Int),(∀x∈xs,0≤x∧x≤64)→0≤prodR xs∧prodR xs≤64 ^ xs.length
 | [],_=>by simp [prodR]
 | x::r,h=>by
  have hx:=h x List.mem_cons_self
  have hr:=my r fun y hy=>h y (List.mem_cons_of_mem _ hy)
  simp only [prodR,List.length_cons]
  refine ⟨Int.mul_nonneg hx.1 hr.1,?_⟩
  have:x*prodR r≤64*64 ^ r.length:=Int.mul_le_mul hx.2 hr.2 hr.1 (by omega)
  rw [Int.pow_succ];omega
theorem kH:∀{n:Nat},n≤4→(64:Int) ^ n≤16777216
 | 0,_=>by decide
 | 1,_=>by decide
 | 2,_=>by decide
 | 3,_=>by decide
 | 4,_=>by decide
theorem Sd.prod {xs:List Int} (h:Sd xs):0≤prodR xs∧prodR xs≤16777216:=by
 have:=my xs h.bd
 have:=kH h.len
 omega
theorem Sd.tail {x:Int} {r:List Int} (h:Sd (x::r)):Sd r:=⟨by have:=h.len;simp at this;omega,fun y hy=>h.bd y (List.mem_cons_of_mem _ hy)⟩
theorem Sd.drop {xs:List Int} (h:Sd xs) (k:Nat):Sd (xs.drop k):=⟨by have:=h.len;simp;omega,fun y hy=>h.bd y (List.mem_of_mem_drop hy)⟩
theorem ii:∀(xs:List Int) (a:Int),xs.foldl (fun p x=>p*x) a=a*prodR xs
 | [],a=>by simp [prodR]
 | x::r,a=>by simp only [List.foldl_cons,prodR];rw [ii r];rw [Int.mul_assoc]
theorem ez (body:M Fl) (hb:body=bx) (xs:List Int) (h:Sd xs) (d:D):∃t,loop (gName 2) body (xs.map .int) [.sh d,.sh (.int 1),.no]=.ok .nx [.sh d,.sh (.int (prodR xs)),t]:=by
 subst hb
 obtain ⟨_,t,_,L⟩:=bt (g:=gName 2) (body:=bx) D.int (fun (s:Int) (t:Sl)=>[.sh d,.sh (.int s),t]) free1 (fun _ _=>True) (fun p x=>p*x) xs 1 .no rfl trivial (by
  intro i x hx p t ht _
  have hm:=h.bd x (List.mem_of_getElem? hx)
  have hf:free (some t)=true:=ht
  refine ⟨trivial,.sh (.int x),rfl,?_⟩
  simp [turn1,bx,hf,eJ p x (by omega) (by omega)])
 rw [ii,Int.one_mul] at L
 exact ⟨t,L⟩
theorem dk (xs:List Int) (h:Sd xs):f_z3 [T xs]=.ok (.int (prodR xs)) []:=by
 rw [f_z3,am _ _ _ _ rfl]
 obtain ⟨t,L⟩:=ez bx rfl xs h (T xs)
 simp [b_z3,L]
theorem kf (xs:List Int) (k:Nat) (h:k<xs.length):cutA (T xs) (some ((k:Int)+1)) none=some (T (xs.drop (k+1))):=by
 have e:sIxP xs.length 0 (some ((k:Int)+1))=k+1:=by
  unfold sIxP;simp only [];rw [if_neg (by omega)];omega
 rw [fI,e]
 simp only [sIxP]
 rw [List.take_of_length_le (by simp)]
theorem bT (xs:List Int) (h:Sd xs):cf [T xs]=.ok (.int (prodR xs)) []:=by
 rw [cf,am _ _ _ _ rfl]
 obtain ⟨t,L⟩:=ez c8 rfl xs h (T xs)
 simp [lT,L]
theorem jm:∀(xs:List Int),(xs.reverse.foldl (fun (s:List Int×Int) y=>(s.1++[s.2],s.2*y)) ([],1))=((strd xs).reverse,prodR xs)
 | []=>rfl
 | x::r=>by
  rw [List.reverse_cons,List.foldl_append,jm r]
  simp [strd,prodR,Int.mul_comm]
theorem iD (xs:List Int) (h:Sd xs):ff [T xs]=.ok (T (strd xs)) []:=by
 rw [ff,am _ _ _ _ rfl]
 obtain ⟨_,t,_,L⟩:=bt (g:=gName 3) (body:=b9) D.int (fun (s:List Int×Int) (t:Sl)=>[.sh (T xs),.ow (Z s.1),.sh (.int s.2),t]) free1 (fun k s=>s.1.length=k)
  (fun s y=>(s.1++[s.2],s.2*y)) xs.reverse ([],1) .no rfl rfl (by
  intro i y hy s t ht hP
  have hm:=h.bd y (List.mem_reverse.mp (List.mem_of_getElem? hy))
  have hi:=(List.getElem?_eq_some_iff.mp hy).1
  have hl:=h.len
  have hf:free (some t)=true:=ht
  refine ⟨by simp [hP],.sh (.int y),rfl,?_⟩
  simp at hi
  simp [turn1,b9,hf,gp s.1 s.2 (by omega),eJ s.2 y (by omega) (by omega)])
 rw [jm] at L
 simp only [List.map_reverse] at L
 simp [ou,lst0,L]
theorem jT:∀(xs:List Int),Sd xs→∀y∈strd xs,0≤y∧y≤16777216
 | [],_,y,hy=>by cases hy
 | x::r,h,y,hy=>by
  rcases List.mem_cons.mp hy with e | hy
  ·subst e;exact h.tail.prod
  ·exact jT r h.tail y hy
theorem iC:∀(xs:List Int),(strd xs).length=xs.length
 | []=>rfl
 | x::r=>by simp [strd,iC r]
theorem ny {α:Type} (n:Nat) (f:Nat→α):(List.range (n+1)).map f=f 0::(List.range n).map fun k=>f (k+1):=by
 rw [List.range_succ_eq_map];simp
theorem kv:∀(xs:List Int) (p:Int),(List.range xs.length).map (fun k=>p / prodR (xs.drop (k+1)) % xs.getD k 0)=lidx xs p
 | [],p=>rfl
 | x::r,p=>by
  rw [List.length_cons,ny]
  simp only [lidx,List.drop_succ_cons,List.drop_zero,List.getD_cons_zero,List.getD_cons_succ]
  rw [←kv r p]
structure Ps (xs:List Int):Prop where
 sd:Sd xs
 pos:∀x∈xs,1≤x
theorem Ps.prod {xs:List Int} (h:Ps xs):1≤prodR xs:=by
 have:∀(xs:List Int),(∀x∈xs,1≤x)→1≤prodR xs:=by
  intro xs
  induction xs with
  | nil=>intro _;simp [prodR]
  | cons x r ih =>
   intro h
   have hx:=h x List.mem_cons_self
   have hr:=ih fun y hy=>h y (List.mem_cons_of_mem _ hy)
   simp only [prodR]
   exact Int.le_trans hx (by have:=Int.mul_le_mul_of_nonneg_left hr (show 0≤x by omega);rwa [Int.mul_one] at this)
 exact this xs h.pos
theorem Ps.drop {xs:List Int} (h:Ps xs) (k:Nat):Ps (xs.drop k):=⟨h.sd.drop k,fun y hy=>h.pos y (List.mem_of_mem_drop hy)⟩
theorem Ps.tail {x:Int} {r:List Int} (h:Ps (x::r)):Ps r:=⟨h.sd.tail,fun y hy=>h.pos y (List.mem_cons_of_mem _ hy)⟩
theorem dH {xs:List Int} (h:Sd xs) (hp:prodR xs≠0):Ps xs:=⟨h,fun x hx=>by
 have h0:=(h.bd x hx).1
 have:x≠0:=fun e=>by
  subst e
  apply hp
  clear hp h h0
  induction xs with
  | nil=>cases hx
  | cons y r ih =>
   simp only [prodR]
   rcases List.mem_cons.mp hx with e | hx
   ·subst e;simp
   ·rw [ih hx];simp
 omega⟩
theorem eG (xs:List Int) (h:Ps xs) (p:Int):eW [T xs,.int p]=.ok (T (lidx xs p)) []:=by
 rw [eW,am _ _ _ _ rfl]
 have hl:=h.sd.len
 obtain ⟨_,t,_,L⟩:=bt (g:=gName 3) (body:=c9) (fun (k:Nat)=>D.int k) (fun (s:List Int) (t:Sl×Sl)=>[.sh (T xs),.sh (.int p),.sh (T s),t.1,t.2]) free2 (fun k s=>s.length=k)
  (fun s k=>s++[p / prodR (xs.drop (k+1)) % xs.getD k 0]) (List.range xs.length) [] (.no,.no) ⟨rfl,rfl⟩ rfl (by
  intro i k hk s t ht hP
  obtain ⟨rfl,hk⟩:=dL hk
  obtain ⟨h3,h4⟩:=ht
  have hc:=bT _ (h.sd.drop (k+1))
  have hp:=(h.drop (k+1)).prod
  have hp2:=(h.sd.drop (k+1)).prod.2
  have hx:1≤xs.getD k 0:=by
   have:xs.getD k 0∈xs:=by simp [hk]
   exact h.pos _ this
  refine ⟨by simp [hP],(.sh (.int k),.sh (.int (prodR (xs.drop (k+1))))),⟨rfl,rfl⟩,?_⟩
  have ix:=aN xs k (by omega) (by omega)
  rw [Int.toNat_natCast] at ix
  simp only [turn1,c9]
  have q1:fdivI (.int p) (.int (prodR (xs.drop (k+1))))=some (.int (p / prodR (xs.drop (k+1)))):=i5 _ _ (by omega) (by omega)
  have q2:∀j:Int,modI (.int j) (.int (xs.getD k 0))=some (.int (j % xs.getD k 0)):=fun j=>cr _ _ (by omega)
  have q3:∀j:Int,addA (T s) (T [j])=some (T (s++[j])):=fun j=>fE _ _ (by simp [LIM];omega)
  simp [-fI,h3,h4,kf xs k hk,hc,q1,ix,-List.getD_eq_getElem?_getD,q2,tup1,q3])
 rw [eB,kv] at L
 have er:rng1 [.int (xs.length:Int)]=some ((List.range xs.length).map fun (k:Nat)=>.int k):=b4 _ _ (by omega) (by omega) (by omega)
 simp only [List.nil_append] at L
 simp [nY,tup0,er,L]
theorem ky:∀(xs:List Int) (p c:Int),Ps xs→1≤c→lidx xs (p % (prodR xs*c))=lidx xs p
 | [],p,c,_,_=>rfl
 | x::r,p,c,h,hc=>by
  have hr:=h.tail.prod
  have hx:=h.pos x List.mem_cons_self
  simp only [lidx,prodR]
  have e1:p % (x*prodR r*c) / prodR r % x=p / prodR r % x:=by
   have e:x*prodR r*c=prodR r*(x*c):=by
    rw [Int.mul_comm x,Int.mul_assoc]
   rw [e]
   have:p % (prodR r*(x*c)) / prodR r=p / prodR r % (x*c):=by
    have hq:p % (prodR r*(x*c))=p-prodR r*(x*c)*(p / (prodR r*(x*c))):=by rw [Int.emod_def]
    have h2:p / (prodR r*(x*c))=p / prodR r / (x*c):=by rw [Int.ediv_ediv_of_nonneg (by omega)]
    rw [hq,h2,Int.emod_def]
    have:p-prodR r*(x*c)*(p / prodR r / (x*c))=p+prodR r*(-((x*c)*(p / prodR r / (x*c)))):=by
     rw [Int.mul_neg,Int.mul_assoc];omega
    rw [this,Int.add_mul_ediv_left _ _ (by omega)]
    omega
   rw [this,Int.emod_emod_of_dvd _ (Int.dvd_mul_right x c)]
  have e2:lidx r (p % (x*prodR r*c))=lidx r p:=by
   have:x*prodR r*c=prodR r*(x*c):=by rw [Int.mul_comm x,Int.mul_assoc]
   rw [this]
   refine ky r p (x*c) h.tail ?_
   have:=Int.mul_le_mul_of_nonneg_left hc (show 0≤x by omega)
   rw [Int.mul_one] at this;omega
  rw [e1,e2]
theorem cT:∀(xs:List Int) (p:Int),Ps xs→0≤p→p<prodR xs→idx xs p=lidx xs p
 | [],p,_,_,_=>rfl
 | x::r,p,h,h0,h1=>by
  have hr:=h.tail.prod
  have hx:=h.pos x List.mem_cons_self
  have em:max (prodR r) 1=prodR r:=by omega
  simp only [idx,lidx,em]
  simp only [prodR] at h1
  have hq:p / prodR r<x:=Int.ediv_lt_of_lt_mul (by omega) h1
  have hq0:0≤p / prodR r:=Int.ediv_nonneg h0 (by omega)
  rw [Int.emod_eq_of_lt hq0 hq,cT r _ h.tail (Int.emod_nonneg _ (by omega)) (Int.emod_lt_of_pos _ (by omega))]
  have:=ky r p 1 h.tail (by omega)
  rw [Int.mul_one] at this
  rw [this]
theorem l9:∀(xs ys:List Int),((xs.zip ys).map fun p=>p.1*p.2).sum=dot xs ys
 | [],ys=>by simp [dot]
 | _::_,[]=>by simp [dot]
 | x::xs,y::ys=>by simp [dot,l9 xs ys]
theorem kg:∀(xs ys:List Int),dot xs ys=dot ys xs
 | [],[]=>rfl
 | [],_::_=>rfl
 | _::_,[]=>rfl
 | x::xs,y::ys=>by simp only [dot];rw [kg xs ys,Int.mul_comm]
theorem qb (r:Rho) (k:Nat) (it:M (List D)) (elt:M D) (xs ys:List Int) (hx:∀x∈xs,-(2 ^ 64)<x∧x<2 ^ 64) (hl:xs.length≤1000) (hk:k=r.length) (he:elt=m2 mulI (mVar k) (mVar (k+1)))
  (hit:it r=.ok ((xs.zip ys).map fun p=>.tup [.int p.1,.int p.2]) r):mComp 2 it (gTup [k,k+1]) (VP.ret true) elt r=.ok (Z ((xs.zip ys).map fun p=>p.1*p.2)) r:=by
 subst he
 rw [comp2m (ds:=(xs.zip ys).map fun p=>(D.int p.1,D.int p.2)) (fun a b=>match a,b with | .int i,.int j=>.int (i*j) | _,_=>.non)]
 ·congr 1;simp [Z,Function.comp_def]
 ·rw [hit];simp [Function.comp_def]
 ·exact hk
 ·simp;omega
 ·intro p hp acc
  obtain ⟨⟨a,b⟩,hm,rfl⟩:=List.mem_map.mp hp
  have ha:=hx a (List.of_mem_zip hm).1
  subst hk
  have g1:(r++[Sl.sh (.int a),.sh (.int b),.ow acc])[r.length]?=some (.sh (.int a)):=a7
  have g2:(r++[Sl.sh (.int a),.sh (.int b),.ow acc])[r.length+1]?=some (.sh (.int b)):=by
   rw [List.getElem?_append_right (by omega)];simp
  simp only [wp,qN,g1,g2,rB,cy,cC,aC,fM a b ha.1 ha.2]
theorem kG (xs ys:List Int) (h:Sd xs):gO [T xs,T ys]=.ok (.int (dot ys (strd xs))) []:=by
 rw [gO,am _ _ _ _ rfl]
 have hl:=h.len
 have hb:=jT xs h
 have hc:=qb [.sh (T xs),.sh (T ys)] 2 (mZip [mCall ff [.val (mVar 0)],mVar 1]) ej (strd xs) ys (fun x hx=>by have:=hb x hx;omega) (by rw [iC];omega) rfl rfl (by
  simp [iD xs h,nQ (T (strd xs)) (T ys) (strd xs) ys rfl rfl])
 simp [oj,hc,l9,kg (strd xs) ys]
theorem nr:∀(xs ys:List Int),ys.length=xs.length→∀a,(List.range xs.length).foldl (fun s k=>s+ys.getD k 0*prodR (xs.drop (k+1))) a=a+dot ys (strd xs):=by
 intro xs
 induction xs with
 | nil=>intro ys h a;cases ys<;>simp [strd,dot] at h ⊢
 | cons x r ih =>
  intro ys h a
  cases ys with
  | nil=>simp at h
  | cons y ys =>
   rw [List.length_cons,List.range_succ_eq_map,List.foldl_cons,List.foldl_map]
   simp only [List.getD_cons_zero,List.getD_cons_succ,List.drop_succ_cons,List.drop_zero,strd,dot,Nat.succ_eq_add_one]
   rw [ih ys (by simpa using h)]
   omega
theorem kq:∀(xs:List Int) (a:List Int) (p:Int),(strd xs).foldl (fun (s:List Int×Int) y=>(s.1++[s.2 / max y 1],s.2 % max y 1)) (a,p)=(a++idx xs p,((strd xs).foldl (fun (s:List Int×Int) y=>(s.1++[s.2 / max y 1],s.2 % max y 1)) (a,p)).2)
 | [],a,p=>by simp [strd,idx]
 | x::r,a,p=>by
  simp only [strd,List.foldl_cons]
  rw [kq r]
  simp [idx]
theorem oU (xs:List Int) (h:Sd xs) (p:Int):f_z6 [T xs,.int p]=.ok (T (idx xs p)) []:=by
 rw [f_z6,am _ _ _ _ rfl]
 obtain ⟨_,t,_,L⟩:=bt (g:=gName 4) (body:=cP) D.int (fun (s:List Int×Int) (t:Sl×Sl)=>[.sh (T xs),.sh (.int p),.ow (Z s.1),.sh (.int s.2),t.1,t.2]) free2 (fun k s=>s.1.length=k)
  (fun s y=>(s.1++[s.2 / max y 1],s.2 % max y 1)) (strd xs) ([],p) (.no,.no) ⟨rfl,rfl⟩ rfl (by
  intro i y hy s t ht hP
  have hm:=jT xs h y (List.mem_of_getElem? hy)
  have hi:=(List.getElem?_eq_some_iff.mp hy).1
  have hl:=h.len
  rw [iC] at hi
  obtain ⟨h4,h5⟩:=ht
  refine ⟨by simp [hP],(.sh (.int y),.sh (.int (max y 1))),⟨rfl,rfl⟩,?_⟩
  simp [turn1,cP,h4,h5,gp s.1 _ (show s.1.length<16777216 by omega),i5 s.2 (max y 1) (by omega) (by omega),cr s.2 (max y 1) (by omega)])
 rw [kq] at L
 simp only [List.nil_append] at L
 simp [b_z6,lst0,L,iD xs h]
theorem wf (xs ys:List Int) (h:Sd xs) (hy:ys.length=xs.length):dq [T xs,T ys]=.ok (.int (dot ys (strd xs))) []:=by
 rw [dq,am _ _ _ _ rfl]
 have hl:=h.len
 obtain ⟨_,t,_,L⟩:=bt (g:=gName 3) (body:=dc) (fun (k:Nat)=>D.int k) (fun (s:Int) (t:Sl)=>[.sh (T xs),.sh (T ys),.sh (.int s),t]) free1 (fun _ _=>True)
  (fun s k=>s+ys.getD k 0*prodR (xs.drop (k+1))) (List.range xs.length) 0 .no rfl trivial (by
  intro i k hk s t ht hP
  obtain ⟨rfl,hk⟩:=dL hk
  have h3:free (some t)=true:=ht
  have hc:=bT _ (h.drop (k+1))
  have hp:=(h.drop (k+1)).prod
  refine ⟨trivial,.sh (.int k),rfl,?_⟩
  have ix:=aN ys k (by omega) (by omega)
  rw [Int.toNat_natCast] at ix
  simp only [turn1,dc]
  simp [-fI,h3,kf xs k hk,hc,ix,-List.getD_eq_getElem?_getD,eJ (ys.getD k 0) (prodR (xs.drop (k+1))) (by omega) (by omega)])
 rw [nr xs ys hy] at L
 have er:rng1 [.int (xs.length:Int)]=some ((List.range xs.length).map fun (k:Nat)=>.int k):=b4 _ _ (by omega) (by omega) (by omega)
 simp only [Int.zero_add] at L
 simp [n6,er,L]
theorem n32:32≤names.length:=by decide
theorem eqS (i j:Nat) (hi:i<32) (hj:j<32):eqG (.str (nm i)) (.str (nm j))=some (.bl (decide (i=j))):=sw i j (Nat.lt_of_lt_of_le hi n32) (Nat.lt_of_lt_of_le hj n32)
theorem jq (i j:Nat) (hi:i<32) (hj:j<32):(nm i == nm j)=decide (i=j):=by
 have h1:=Nat.lt_of_lt_of_le hi n32
 have h2:=Nat.lt_of_lt_of_le hj n32
 rw [hX h1,hX h2]
 by_cases h:i=j
 ·subst h;simp
 ·have:names[i]≠names[j]:=fun z=>h ((List.getElem_inj hW.2).mp z)
  simp [h,this]
theorem neS (i j:Nat) (hi:i<32) (hj:j<32):neG (.str (nm i)) (.str (nm j))=some (.bl (!decide (i=j))):=by
 have e:=eqS i j hi hj
 unfold eqG at e
 unfold neG
 split at e
 ·rename_i hp
  rw [if_pos hp]
  have e':eqB (D.str (nm i)) (.str (nm j))=decide (i=j):=by simpa using e
  rw [e']
 ·cases e
theorem mR_ (i:Int):modI (.int i) (.int 1000003)=some (.int (i % 1000003)):=cr _ _ (by omega)
def Rt (a:Int):Prop:=0≤a∧a<1000003
def Rts (cs:List Int):Prop:=∀c∈cs,Rt c
structure Sc (xs:List Int):Prop where
 sd:Sd xs
 few:prodR xs≤4096
theorem gZ (x:Int):f_z8 [.int x]=.ok (.bl (decide (0≤x)&&decide (x<1000003))) []:=by
 rw [f_z8,am _ _ _ _ rfl]
 by_cases h:0≤x<;>simp [b_z8,h]
theorem gn (xs:List Int) (hl:xs.length≤1000):mComp 1 (mSeq (mVar 0)) (VP.gName 1) (VP.ret true) bF [.sh (T xs)]=.ok (.lst (xs.map fun x=>D.bl (decide (0≤x)&&decide (x≤64)))) [.sh (T xs)]:=by
 refine compM D.int (fun x=>D.bl (decide (0≤x)&&decide (x≤64))) xs (by simp) (by omega) rfl fun x hx acc=>?_
 by_cases h:0≤x<;>simp [bF,h]
theorem fF (xs:List Int) (h:Sc xs):fT [T xs]=.ok (.bl true) []:=by
 rw [fT,am _ _ _ _ rfl]
 have hl:=h.sd.len
 have c:=gn xs (by omega)
 have ha:xs.all (fun x=>decide (0≤x)&&decide (x≤64))=true:=List.all_eq_true.mpr fun x hx=>by
  have:=h.sd.bd x hx
  simp [this]
 have e:=kU (fun x:Int=>decide (0≤x)&&decide (x≤64)) xs
 rw [ha] at e
 have hl':¬(4:Int)<xs.length:=by omega
 have hf:=h.few
 simp only [on]
 simp [hl',c,e,dk xs h.sd,hf,-dj]
theorem qc (S C:D) (s c:List Int) (hS:tupOf S=some (T s)) (hC:lstOf C=some (Z c)) (h:Sc s) (hl:(c.length:Int)=prodR s) (hc:Rts c):f_z1 [.ins "Table" [] [],S,C]=.ok .non [Tb s c]:=by
 rw [f_z1,am _ _ _ _ rfl]
 have lim:c.length≤4096:=by have:=h.few;omega
 have e0:D.ins "Table" ["sides", "cells"] [T s,Z c]=Tb s c:=rfl
 have f1:=bq s c
 have f2:=cX s c
 have cc:mComp 1 (mSeq (m1 (fldD aT "cells") (mRd 0))) (VP.gName 3) (VP.ret true) b5 [.io (Tb s c),.sh S,.sh C]=.ok (.lst (c.map fun x=>D.bl (decide (0≤x)&&decide (x<1000003)))) [.io (Tb s c),.sh S,.sh C]:=by
  refine compM D.int (fun x=>D.bl (decide (0≤x)&&decide (x<1000003))) c (by simp [aT,f2]) (by omega) rfl fun x hx acc=>?_
  simp [b5,gZ]
 have ha:c.all (fun x=>decide (0≤x)&&decide (x<1000003))=true:=List.all_eq_true.mpr fun x hx=>by
  have:=hc x hx
  simp [this.1,this.2]
 have e:=kU (fun x:Int=>decide (0≤x)&&decide (x<1000003)) c
 rw [ha] at e
 simp only [b_z1]
 simp [hS,hC,aJ,aT,kO,kN,e0,f1,f2,fF s h,dk s h.sd,hl,-dj]
 rw [aT] at cc
 simp [cc,e,-dj]
theorem fR (S C:D) (s c:List Int) (hS:tupOf S=some (T s)) (hC:lstOf C=some (Z c)) (h:Sc s) (hl:(c.length:Int)=prodR s) (hc:Rts c) (r:Rho):mNew "Table" f_z1 [.val S,.val C] r=.ok (Tb s c) r :=
 mNew2 _ _ _ _ _ _ (qc S C s c hS hC h hl hc)
def cellAt (s c:List Int) (at_:List Int):Int:=c.getD (dot at_ (strd s)).toNat 0
def Ix:List Int→List Int→Prop
 | [],[]=>True
 | s::ss,i::is=>0≤i∧i<s∧Ix ss is
 | _,_=>False
theorem Ix.len:∀{s i:List Int},Ix s i→i.length=s.length
 | [],[],_=>rfl
 | _::_,_::_,h=>by simp [Ix.len h.2.2]
theorem Ix.place:∀{s i:List Int},Sd s→Ix s i→0≤dot i (strd s)∧dot i (strd s)<prodR s
 | [],[],_,_=>by simp [dot,prodR]
 | x::s,j::i,h,⟨h1,h2,h3⟩=>by
  obtain ⟨a,b⟩:=Ix.place h.tail h3
  have hp:=h.tail.prod
  simp only [strd,dot,prodR]
  have e1:0≤j*prodR s:=Int.mul_nonneg h1 hp.1
  have e2:(j+1)*prodR s≤x*prodR s:=Int.mul_le_mul_of_nonneg_right (by omega) hp.1
  rw [Int.add_mul,Int.one_mul] at e2
  omega
theorem eT (s c at_:List Int) (h:Sd s) (hl:(c.length:Int)=prodR s) (hi:Ix s at_):f_z0 [Tb s c,T at_]=.ok (.int (cellAt s c at_)) []:=by
 rw [f_z0,am _ _ _ _ rfl]
 obtain ⟨a,b⟩:=hi.place h
 have ix:=aN c (dot at_ (strd s)) a (by omega)
 have f1:=bq s c
 have f2:=cX s c
 simp [b_z0,aJ,aT,f1,f2,kG s at_ h,ix,cellAt]
theorem kt (k:Int):f_z4 [.tup [.str (nm 0),.int k]]=.ok (.bl true) []:=by
 kernel_rfl!
theorem dD (k:Int):a6 [.tup [.str (nm 0),.int k]]=.ok (.lst []) []:=by
 rw [a6,am _ _ _ _ rfl]
 simp [iQ,bD,List.lookup,jq,bL,dz,cU,fw,zipL,cutD,sIxP,bw,eqS]
theorem dw (s:List Int) (k:Int):f_z5 [T s,.int k]=.ok (.bl (decide (0≤k)&&decide (k<s.length))) []:=by
 rw [f_z5,am _ _ _ _ rfl]
 by_cases h:0≤k<;>simp [b_z5,h]
theorem gl (n k:Nat) (d:Nat) (h:k≤n):sIxP n d (some (k:Int))=k:=by
 unfold sIxP;dsimp only;rw [if_neg (by omega)];omega
theorem ir (n k:Nat) (d:Nat) (h:k+1≤n):sIxP n d (some ((k:Int)+1))=k+1:=by
 unfold sIxP;dsimp only;rw [if_neg (by omega)];omega
@[simp] theorem qa (n d:Nat):sIxP n d none=d:=Eq.trans rfl rfl
def wo (s:List Int) (k:Nat):List Int:=s.take k++s.drop (k+1)
def pin (s:List Int) (k:Nat) (x:Int):List Int:=s.take k++x::s.drop k
def rep (s:List Int) (k:Nat) (x:Int):List Int:=s.take k++x::s.drop (k+1)
theorem iH (s:List Int) (k:Nat) (hk:k<s.length) (hl:s.length≤100):fU [T s,.int k]=.ok (T (wo s k)) []:=by
 rw [fU,am _ _ _ _ rfl]
 have a1:=fE (s.take k) (s.drop (k+1)) (by simp [LIM];omega)
 have e:List.take (s.length-(k+1)) (s.drop (k+1))=s.drop (k+1):=List.take_of_length_le (by simp)
 simp [oy,gl _ _ _ (Nat.le_of_lt hk),ir _ _ _ hk,e,a1,wo]
theorem fO (k:Nat) (hk:k<32) (h1:k≠1) (h8:k≠8) (ds:List D):el [.tup (.str (nm k)::ds)]=.ok (.bl true) []:=by
 rw [el,am _ _ _ _ rfl]
 simp [lX,eqS,neS,hk,h1,h8]
theorem kQ (k n m:Int) (h0:0≤k) (h:k<m):eY [.tup [.str (nm 0),.int k],.int n,.int m]=.ok (.bl true) []:=by
 rw [eY,am _ _ _ _ rfl]
 simp [lZ,eqS,h0,h]
def Sl_ (ss:List (List Int)):D:=.lst (ss.map T)
theorem we (ss:List (List Int)) (i:Nat) (s:List Int) (h:ss[i]?=some s):ixD (ss.map T) (i:Int)=some (T s):=by
 refine cZ _ _ _ (by omega) ?_
 simp [h]
theorem mj (ss:List (List Int)):lenD (Sl_ ss)=some (.int ss.length):=by simp [Sl_]
theorem cY (ss:List (List Int)) (i:Nat) (s:List Int) (h:ss[i]?=some s):itemD (Sl_ ss) (.int i)=some (T s):=we ss i s h
theorem lM (k:Nat) (ss gs:List (List Int)) (g:List Int) (hk:gs[k]?=some g):bX [.tup [.str (nm 0),.int k],Sl_ ss,Sl_ gs]=.ok (T g) [Sl_ ss]:=by
 rw [bX,am _ _ _ _ rfl]
 simp [gr,eqS,cY gs k g hk]
theorem bU (at_:Int) (k:Nat) (ss gs:List (List Int)) (g:List Int) (hk:gs[k]?=some g) (hg:Sc g):cS [.int at_,.tup [.str (nm 0),.int k],Sl_ ss,Sl_ gs]=.ok (T g) [Sl_ ss]:=by
 rw [cS,am _ _ _ _ rfl]
 have hlt:k<gs.length:=(List.getElem?_eq_some_iff.mp hk).1
 have t:=kQ k ss.length gs.length (by omega) (by omega)
 have n:=fO 0 (by omega) (by omega) (by omega) [.int k]
 simp [l6,mj,t,n,kt,lM k ss gs g hk,fF g hg]
theorem fZ (prog:List D) (gs ss:List (List Int)) (hp:0<prog.length) (h40:prog.length≤40) (hl:ss.length=prog.length)
  (h:∀(i:Nat) (l:D) (s:List Int),prog[i]?=some l→ss[i]?=some s→cS [.int i,l,Sl_ (ss.take i),Sl_ gs]=.ok (T s) [Sl_ (ss.take i)]) :
  eZ [.lst prog,Sl_ gs]=.ok (Sl_ ss) []:=by
 rw [eZ,am _ _ _ _ rfl]
 have L:=bt (g:=gTup [3,4]) (body:=cQ) (fun (q:Nat×D)=>D.tup [.int q.1,q.2]) (fun (s:List (List Int)) (t:Sl×Sl)=>[.sh (.lst prog),.sh (Sl_ gs),.ow (Sl_ s),t.1,t.2]) free2
  (fun k s=>s=ss.take k) (fun acc q=>acc++[ss.getD q.1 []]) ((List.range prog.length).zip prog) [] (.no,.no) ⟨rfl,rfl⟩ rfl ?_
 ·obtain ⟨hP,t,_,L⟩:=L
  rw [hP] at L
  have e1:ss.take ((List.range prog.length).zip prog).length=ss:=List.take_of_length_le (by simp;omega)
  rw [e1] at L
  have en:enumL prog=((List.range prog.length).zip prog).map fun q=>D.tup [.int q.1,q.2]:=by
   unfold enumL;rw [←List.map_uncurry_zip_eq_zipWith];rfl
  have l0:D.lst []=Sl_ []:=rfl
  have h1:¬(prog.length:Int)=0:=by omega
  have h2:¬(40:Int)<prog.length:=by omega
  have h3:prog≠[]:=List.length_pos_iff.mp hp
  simp [oq,h3,h2,en,l0,L]
 ·intro i q hq acc t ht hP
  obtain ⟨t3,t4⟩:=t
  obtain ⟨h3,h4⟩:=ht
  dsimp only at h3 h4
  obtain ⟨qi,ql⟩:=q
  have hi:i<prog.length:=by have:=(List.getElem?_eq_some_iff.mp hq).1;simp at this;exact this
  rw [List.getElem?_zip_eq_some] at hq
  obtain ⟨q1,q2⟩:=hq
  rw [List.getElem?_range hi] at q1
  obtain rfl:i=qi:=Option.some.inj q1
  have hs:i<ss.length:=by omega
  have lk:=h i ql ss[i] q2 (by simp [hs])
  have hP':acc=ss.take i:=hP
  subst hP'
  have ap:appD (T ss[i]) (Sl_ (ss.take i))=some (Sl_ (ss.take i++[ss[i]])):=by
   unfold Sl_;rw [eR _ _ (by simp;omega),List.map_append];rfl
  have il:isLst (some (Sl_ (ss.take i)))=true:=rfl
  have gd:ss.getD i []=ss[i]:=by simp [hs]
  refine ⟨by rw [gd,List.take_succ];simp [hs],(.sh (.int i),.sh ql),⟨rfl,rfl⟩,?_⟩
  dsimp only
  rw [gd]
  simp [turn1,cQ,h3,h4,il,lk,ap]
theorem cF:∀(s:List Int) (p:Int),Ps s→Ix s (lidx s p)
 | [],_,_=>trivial
 | x::s,p,h=>by
  have hx:0<x:=h.pos x List.mem_cons_self
  exact ⟨Int.emod_nonneg _ (by omega),Int.emod_lt_of_pos _ hx,cF s p h.tail⟩
theorem lf (s:List Int) (p:Nat) (h:Sd s) (hp:(p:Int)<prodR s):Ix s (idx s p):=by
 have ps:=dH h (by omega)
 rw [cT s p ps (by omega) hp]
 exact cF s p ps
theorem gU (s:List Int) (h:Sc s):f_z7 [T s]=.ok (.lst ((List.range (prodR s).toNat).map fun (p:Nat)=>T (idx s p))) []:=by
 rw [f_z7,am _ _ _ _ rfl]
 have hp:=h.sd.prod
 have hf:=h.few
 have er:rng1 [.int (prodR s)]=some ((List.range (prodR s).toNat).map fun (k:Nat)=>.int k):=b4 _ _ rfl (by omega) (by omega)
 have c:mComp 1 (mRng1 [(mCall f_z3 [.val (mVar 0)])]) (VP.gName 1) (VP.ret true) b6 [.sh (T s)]=.ok (.lst ((List.range (prodR s).toNat).map fun (p:Nat)=>T (idx s p))) [.sh (T s)] :=
  compM (fun (k:Nat)=>D.int k) (fun k=>T (idx s k)) (List.range (prodR s).toNat) (by simp [dk s h.sd,er]) (by simp;omega) rfl (fun k hk acc=>by simp [b6,oU s h.sd])
 simp [b_z7,c]
theorem dR (s c at_:List Int) (h:Sd s) (hl:(c.length:Int)=prodR s) (hc:Rts c) (hi:Ix s at_):Rt (cellAt s c at_):=by
 obtain ⟨a,b⟩:=hi.place h
 unfold cellAt
 have:(dot at_ (strd s)).toNat<c.length:=by omega
 simp only [List.getD_eq_getElem?_getD,List.getElem?_eq_getElem this,Option.getD_some]
 exact hc _ (List.getElem_mem _)
def back (xs:List Int) (k:Nat):Int:=if k<xs.length then xs.getD (xs.length-1-k) 1 else 1
def optT:Option (List Int)→D
 | some xs=>T xs
 | none=>.non
def ahead (xs:List Int) (n:Nat):List Int:=List.replicate (n-xs.length) 1++xs
theorem mW (xs:List Int) (h:Sd xs):cf [Z xs]=.ok (.int (prodR xs)) []:=by
 rw [cf,am _ _ _ _ rfl]
 obtain ⟨t,L⟩:=ez c8 rfl xs h (Z xs)
 simp [lT,L]
def ownTab:List Int:=[2,3,1,2,3,1,4,0]
def own0 (ns:List Int) (p:Nat):List Int:=(List.range (cell ns p % 5).toNat).map fun k=>ownTab.getD (cell ns (p+1+k) % 8).toNat 0
def ownS (ns:List Int) (p:Nat):List Int:=if prodR (own0 ns p) > 54 then (own0 ns p).tail else own0 ns p
def ownE (ns:List Int) (p:Nat):Nat:=p+1+(cell ns p % 5).toNat
theorem u6 (i:Int) (h0:0≤i) (h:i<8):ixD [.int 2,.int 3,.int 1,.int 2,.int 3,.int 1,.int 4,.int 0] i=some (.int (ownTab.getD i.toNat 0)):=aN ownTab i h0 (by simp [ownTab];omega)
theorem u7 (k:Nat):0≤ownTab.getD k 0∧ownTab.getD k 0≤4:=by
 have:∀x∈ownTab,0≤x∧x≤4:=by decide
 by_cases h:k<ownTab.length
 ·exact this _ (by simp [h])
 ·have:ownTab.getD k 0=0:=by rw [List.getD_eq_getElem?_getD,List.getElem?_eq_none (by omega)];rfl
  omega
theorem gc (ns:List Int) (p:Nat):∀x∈own0 ns p,0≤x∧x≤4:=fun x hx=>by
 simp only [own0,List.mem_map] at hx
 obtain ⟨k,_,rfl⟩:=hx
 exact u7 _
theorem qV (ns:List Int) (p:Nat):Sd (own0 ns p):=⟨by simp [own0];omega,fun x hx=>by have:=gc ns p x hx;omega⟩
theorem pL (ns:List Int) (p:Nat):∀x∈ownS ns p,0≤x∧x≤4:=fun x hx=>by
 unfold ownS at hx
 split at hx
 ·exact gc ns p x (List.mem_of_mem_tail hx)
 ·exact gc ns p x hx
theorem prod4:∀(xs:List Int),(∀x∈xs,0≤x∧x≤4)→0≤prodR xs∧prodR xs≤4 ^ xs.length
 | [],_=>by simp [prodR]
 | x::r,h=>by
  have hx:=h x List.mem_cons_self
  have hr:=prod4 r fun y hy=>h y (List.mem_cons_of_mem _ hy)
  simp only [prodR,List.length_cons]
  refine ⟨Int.mul_nonneg hx.1 hr.1,?_⟩
  have:x*prodR r≤4*4 ^ r.length:=Int.mul_le_mul hx.2 hr.2 hr.1 (by omega)
  rw [Int.pow_succ];omega
theorem pM (ns:List Int) (p:Nat):Sc (ownS ns p)∧prodR (ownS ns p)≤64:=by
 have b:=pL ns p
 have l0:(own0 ns p).length≤4:=by simp [own0];omega
 have hl:(ownS ns p).length≤4:=by
  unfold ownS
  split
  ·simp;omega
  ·exact l0
 have sd:Sd (ownS ns p):=⟨hl,fun x hx=>by have:=b x hx;omega⟩
 have pr:prodR (ownS ns p)≤64:=by
  unfold ownS
  split
  ·have:=prod4 ((own0 ns p).tail) fun x hx=>gc ns p x (List.mem_of_mem_tail hx)
   have l3:((own0 ns p).tail).length≤3:=by simp;omega
   have:(4:Int) ^ ((own0 ns p).tail).length≤64:=by
    generalize ((own0 ns p).tail).length=n at *
    match n,l3 with
    | 0,_=>decide
    | 1,_=>decide
    | 2,_=>decide
    | 3,_=>decide
   omega
  ·omega
 exact ⟨⟨sd,by omega⟩,pr⟩
theorem tM (ns:List Int) (p:Nat):gI [Row ns p]=.ok (T (ownS ns p)) [Row ns (ownE ns p)]:=by
 rw [gI,am _ _ _ _ rfl]
 have t5:=aZ ns p 5 (by omega)
 have er:rng1 [.int (cell ns p % 5)]=some ((List.range (cell ns p % 5).toNat).map fun (k:Nat)=>.int k):=b4 _ _ rfl (by omega) (by omega)
 have cc:mComp 1 (mRng1 [(mCall bu [.io 0,.val (mC (.int 5))])]) (VP.gName 2) (VP.ret true) eu [.io (Row ns p),.no]=.ok (Z (own0 ns p)) [.io (Row ns (p+1+1*(cell ns p % 5).toNat)),.no]:=by
  refine mS (fun q=>[.io (Row ns q),.no]) 1 (cell ns p % 5).toNat (p+1) (fun q=>D.int (ownTab.getD (cell ns q % 8).toNat 0)) (fun _=>rfl) (by simp [t5,er]) (by omega) (fun q j acc=>?_) (by simp [Z,own0,Function.comp_def])
  have t8:=aZ ns q 8 (by omega)
  have l8:lstD [.int 2,.int 3,.int 1,.int 2,.int 3,.int 1,.int 4,.int 0]=some (.lst [.int 2,.int 3,.int 1,.int 2,.int 3,.int 1,.int 4,.int 0]):=rfl
  have tb:=u6 (cell ns q % 8) (by omega) (by omega)
  simp [eu,l8,t8,tb]
 rw [Nat.one_mul] at cc
 have lc:=mW (own0 ns p) (qV ns p)
 unfold ownS ownE
 by_cases h:prodR (own0 ns p) > 54
 ·have hne:1≤(own0 ns p).length:=by
   cases e:own0 ns p with
   | nil=>rw [e] at h;simp [prodR] at h
   | cons x r=>simp
  have c1:sIxP (own0 ns p).length 0 (some 1)=1:=by unfold sIxP;simp;omega
  have tk:List.take ((own0 ns p).length-1) ((own0 ns p).tail)=(own0 ns p).tail:=List.take_of_length_le (by simp)
  have h':54<prodR (own0 ns p):=h
  simp [lV,cc,lc,h',c1,tk]
 ·have h':¬54<prodR (own0 ns p):=h
  simp [lV,cc,lc,h']
def seedN (ns:List Int) (p:Nat):Int:=cell ns p % 1000003
def num0 (ns:List Int) (p:Nat) (q:Nat):Int:=(seedN ns p+48271*(q:Int)*((q:Int)+seedN ns p % 7)) % 1000003
def numS (ns:List Int) (p n:Nat):List Int:=(List.range n).map fun q=>if seedN ns p % 3=1 then num0 ns p q % 3 else num0 ns p q
theorem mq (ns:List Int) (p n:Nat):Rts (numS ns p n):=fun x hx=>by
 simp only [numS,List.mem_map] at hx
 obtain ⟨q,_,rfl⟩:=hx
 unfold Rt
 split
 ·omega
 ·exact ⟨Int.emod_nonneg _ (by decide),Int.emod_lt_of_pos _ (by decide)⟩
theorem dE (ns:List Int) (p:Nat) (s:List Int) (h:Sc s):gH [Row ns p,T s]=.ok (Z (numS ns p (prodR s).toNat)) [Row ns (p+1)]:=by
 rw [gH,am _ _ _ _ rfl]
 have hp:=h.sd.prod
 have hf:=h.few
 have t:=aZ ns p 1000003 (by omega)
 have er:rng1 [.int (prodR s)]=some ((List.range (prodR s).toNat).map fun (k:Nat)=>.int k):=b4 _ _ rfl (by omega) (by omega)
 have m7:∀i:Int,modI (.int i) (.int 7)=some (.int (i % 7)):=fun i=>cr _ _ (by omega)
 have m3:∀i:Int,modI (.int i) (.int 3)=some (.int (i % 3)):=fun i=>cr _ _ (by omega)
 have c1:mComp 1 (mRng1 [(mCall cf [.val (mVar 1)])]) (VP.gName 4) (VP.ret true) b7 [.io (Row ns (p+1)),.sh (T s),.sh (.int (seedN ns p)),.no]=.ok (Z ((List.range (prodR s).toNat).map (num0 ns p))) [.io (Row ns (p+1)),.sh (T s),.sh (.int (seedN ns p)),.no]:=by
  refine compM (fun (k:Nat)=>D.int k) (fun q=>D.int (num0 ns p q)) (List.range (prodR s).toNat) (by simp [bT s h.sd,er]) (by simp;omega) (by simp [Z,Function.comp_def]) fun q hq acc=>?_
  have hq':=List.mem_range.mp hq
  have u1:mulI (.int 48271) (.int q)=some (.int (48271*q)):=fM _ _ (by omega) (by omega)
  have u2:∀y:Int,mulI (.int (48271*q)) (.int y)=some (.int (48271*q*y)):=fun y=>fM _ _ (by omega) (by omega)
  simp [b7,u1,u2,m7,mR_,num0]
 have c2:mComp 1 (mSeq (mVar 3)) (VP.gName 4) (VP.ret true) b8 [.io (Row ns (p+1)),.sh (T s),.sh (.int (seedN ns p)),.sh (Z ((List.range (prodR s).toNat).map (num0 ns p)))]=.ok (Z ((List.range (prodR s).toNat).map fun q=>num0 ns p q % 3)) [.io (Row ns (p+1)),.sh (T s),.sh (.int (seedN ns p)),.sh (Z ((List.range (prodR s).toNat).map (num0 ns p)))]:=by
  refine compM (fun (q:Nat)=>D.int (num0 ns p q)) (fun q=>D.int (num0 ns p q % 3)) (List.range (prodR s).toNat) (by simp [Function.comp_def]) (by simp;omega) (by simp [Z,Function.comp_def]) fun q hq acc=>?_
  simp [b8,m3]
 have e:cell ns p % 1000003=seedN ns p:=rfl
 by_cases h3:seedN ns p % 3=1
 ·simp [lU,t,e,c1,m3,h3,c2,numS]
 ·simp [lU,t,e,c1,m3,h3,numS]
theorem dA (s c:List Int):gF [Tb s c,T s,Z c]=.ok (.bl true) []:=by
 rw [gF,am _ _ _ _ rfl]
 have f1:=bq s c
 have f2:=cX s c
 have n1:=ia s s
 have n2:=ia c c
 have iz:isaD "list" (Z c)=some (.bl true):=by unfold Z;simp
 simp [nZ,aJ,aT,fK,qA,f1,f2,n1,n2,iz]
theorem qf (k:Nat) (hk:k<32) (h0:k≠0) (ds:List D) (as:List Nat) (n m:Nat) (hn:a6 [.tup (.str (nm k)::ds)]=.ok (.lst (as.map fun a=>D.int (a:Nat))) []) (hl:as.length≤1000) (ha:∀a∈as,a<n) :
  eY [.tup (.str (nm k)::ds),.int n,.int m]=.ok (.bl true) []:=by
 rw [eY,am _ _ _ _ rfl]
 have c:mComp 1 (mSeq (mCall a6 [.val (mVar 0)])) (VP.gName 3) (VP.ret true) bh [.sh (.tup (.str (nm k)::ds)),.sh (.int n),.sh (.int m)]=.ok (.lst (as.map fun a=>D.bl (decide (a<n)))) [.sh (.tup (.str (nm k)::ds)),.sh (.int n),.sh (.int m)] :=
  compM (fun (a:Nat)=>D.int a) (fun a=>D.bl (decide (a<n))) as (by simp [hn]) (by omega) rfl (fun a h acc=>by
   simp [bh])
 have e:=kU (fun a:Nat=>decide (a<n)) as
 have ha':as.all (fun a=>decide (a<n))=true:=List.all_eq_true.mpr fun a h=>by simp [ha a h]
 rw [ha'] at e
 simp [lZ,eqS,hk,h0,c,e,-dj]
theorem jB (at_:Int) (k:Nat) (hk:k<32) (h0:k≠0) (ds:List D) (as:List Nat) (ss gs:List (List Int)) (s:List Int) (hn:a6 [.tup (.str (nm k)::ds)]=.ok (.lst (as.map fun a=>D.int (a:Nat))) []) (hl:as.length≤1000) (ha:∀a∈as,a<ss.length)
  (hc:el [.tup (.str (nm k)::ds)]=.ok (.bl true) []) (hd:f_z4 [.tup (.str (nm k)::ds)]=.ok (.bl true) []) (ht:bX [.tup (.str (nm k)::ds),Sl_ ss,Sl_ gs]=.ok (T s) [Sl_ ss]) (hs:Sc s) :
  cS [.int at_,.tup (.str (nm k)::ds),Sl_ ss,Sl_ gs]=.ok (T s) [Sl_ ss]:=by
 rw [cS,am _ _ _ _ rfl]
 have t:=qf k hk h0 ds as ss.length gs.length hn hl ha
 simp [l6,mj,t,hc,hd,ht,fF s hs]
theorem nR:∀(s i:List Int),Ix s i↔i.length=s.length∧∀k:Nat,k<s.length→0≤i.getD k 0∧i.getD k 0<s.getD k 0
 | [],[]=>by simp [Ix]
 | [],_::_=>by simp [Ix]
 | _::_,[]=>by simp [Ix]
 | x::s,j::i=>by
  simp only [Ix,nR s i,List.length_cons]
  constructor
  ·rintro ⟨h1,h2,h3,h4⟩
   refine ⟨by omega,fun k hk=>?_⟩
   cases k with
   | zero=>exact ⟨h1,h2⟩
   | succ k=>simpa using h4 k (by omega)
  ·rintro ⟨h1,h2⟩
   have h0:=h2 0 (by omega)
   exact ⟨h0.1,h0.2,by omega,fun k hk=>by simpa using h2 (k+1) (by omega)⟩
def Fits (s m:List Int):Prop:=s.length≤m.length∧∀k:Nat,k<s.length→s.getD k 0=1∨s.getD k 0=m.getD (m.length-s.length+k) 0
theorem Fits.trans {s m w:List Int} (h:Fits s m) (g:Fits m w):Fits s w:=⟨Nat.le_trans h.1 g.1,fun k hk=>by
 rcases h.2 k hk with e | e
 ·exact .inl e
 ·have h1:=h.1
  have g1:=g.1
  rcases g.2 (m.length-s.length+k) (by omega) with e2 | e2
  ·exact .inl (e.trans e2)
  ·refine .inr (e.trans (e2.trans ?_))
   congr 1
   omega⟩
def bc (s at_:List Int):List Int:=(s.zip (at_.drop (at_.length-s.length))).map fun p=>if p.1=1 then 0 else p.2
theorem su (s at_:List Int) (h:s.length≤at_.length):(bc s at_).length=s.length:=by simp [bc];omega
theorem sr (s at_:List Int) (h:s.length≤at_.length) (k:Nat) (hk:k<s.length):(bc s at_).getD k 0=if s.getD k 0=1 then 0 else at_.getD (at_.length-s.length+k) 0:=by
 have h1:k<at_.length-(at_.length-s.length):=by omega
 have h2:at_.length-s.length+k<at_.length:=by omega
 have z:(s.zip (at_.drop (at_.length-s.length)))[k]?=some (s[k],at_[at_.length-s.length+k]):=List.getElem?_zip_eq_some.mpr ⟨by simp [hk],by simp [h2]⟩
 have e1:s.getD k 0=s[k]:=by simp [hk]
 have e2:at_.getD (at_.length-s.length+k) 0=at_[at_.length-s.length+k]:=by simp [h2]
 rw [e1,e2]
 unfold bc
 rw [List.getD_eq_getElem?_getD,List.getElem?_map,z]
 rfl
theorem Fits.ix {s m at_:List Int} (h:Fits s m) (hi:Ix m at_):Ix s (bc s at_):=by
 have hl:=hi.len
 have h1:=h.1
 rw [nR] at hi ⊢
 refine ⟨su s at_ (by omega),fun k hk=>?_⟩
 rw [sr s at_ (by omega) k hk,hl]
 have:=hi.2 (m.length-s.length+k) (by omega)
 split
 ·omega
 ·rename_i hn
  rcases h.2 k hk with e | e
  ·exact absurd e hn
  ·rw [e];exact this
structure Q4 (s:List Int):Prop where
 len:s.length≤4
 bd:∀x∈s,0≤x∧x≤4
theorem Q4.sc {s:List Int} (h:Q4 s):Sc s:=by
 have l:=h.len
 refine ⟨⟨l,fun x hx=>by have:=h.bd x hx;omega⟩,?_⟩
 have:=prod4 s h.bd
 have:(4:Int) ^ s.length≤4096:=by
  generalize s.length=n at *
  match n,l with
  | 0,_=>decide
  | 1,_=>decide
  | 2,_=>decide
  | 3,_=>decide
  | 4,_=>decide
 omega
theorem Q4.ahead {s:List Int} (h:Q4 s) (n:Nat):∀x∈ahead s n,0≤x∧x≤4:=fun x hx=>by
 rcases List.mem_append.mp hx with hx | hx
 ·have:=List.eq_of_mem_replicate hx;omega
 ·exact h.bd x hx
def Sm (xs:List Int):Prop:=∀x∈xs,-100000≤x∧x≤100000
def okS (x:Int):Bool:=decide (0≤x)&&decide (x≤64)
def canB (xs:List Int):Bool:=decide (xs.length≤4)&&xs.all okS&&decide (prodR xs≤4096)
def BL (at_:Int):Xn:=⟨"BadLine", ["at", "why"],[.int at_,.str (nm 30)]⟩
def fitsO:Option (List Int)→Bool
 | none=>false
 | some s=>canB s
structure Ln (ss gs:List (List Int)) (ln:D) (o:Option (List Int)):Prop where
 lk:∀at_:Int,cS [.int at_,ln,Sl_ ss,Sl_ gs]=if fitsO o then .ok (optT o) [Sl_ ss] else .exc (BL at_) [Sl_ ss]
 sm:∀s,o=some s→Sm s∧s.length≤1000
def hasB (s:List Int) (k:Int):Bool:=decide (0≤k)&&decide (k<s.length)
theorem ku (a k n x:Int):f_z4 [.tup [.str (nm 8),.int a,.int k,.int n,.int x]]=.ok (.bl true) []:=by
 kernel_rfl!
theorem ll (a k b:Int):f_z4 [.tup [.str (nm 14),.int a,.int k,.int b]]=.ok (.bl true) []:=by
 kernel_rfl!
theorem lh (a b k:Int):f_z4 [.tup [.str (nm 15),.int a,.int b,.int k]]=.ok (.bl true) []:=by
 kernel_rfl!
theorem kz (a k n x:Int):a6 [.tup [.str (nm 8),.int a,.int k,.int n,.int x]]=.ok (.lst [.int a]) []:=by
 rw [a6,am _ _ _ _ rfl]
 simp [iQ,bD,List.lookup,jq,bL,dz,cU,fw,zipL,cutD,sIxP,bw,bV,eqS,bR]
theorem lz (a k b:Int):a6 [.tup [.str (nm 14),.int a,.int k,.int b]]=.ok (.lst [.int a,.int b]) []:=by
 rw [a6,am _ _ _ _ rfl]
 simp [iQ,bD,List.lookup,jq,bL,dz,cU,fw,zipL,cutD,sIxP,bw,bV,eqS,bR]
theorem ly (a b k:Int):a6 [.tup [.str (nm 15),.int a,.int b,.int k]]=.ok (.lst [.int a,.int b]) []:=by
 rw [a6,am _ _ _ _ rfl]
 simp [iQ,bD,List.lookup,jq,bL,dz,cU,fw,zipL,cutD,sIxP,bw,bV,eqS,bR]
theorem jG (a k n x:Int) (h:Rt x):el [.tup [.str (nm 8),.int a,.int k,.int n,.int x]]=.ok (.bl true) []:=by
 rw [el,am _ _ _ _ rfl]
 simp [lX,eqS,neS,gZ,h.1,h.2]
def ifB (b:Bool) (s:List Int):Option (List Int):=if b=true then some s else none
theorem lN (a:Nat) (k n x:Int) (ss gs:List (List Int)) (s:List Int) (ha:ss[a]?=some s):bX [.tup [.str (nm 8),.int a,.int k,.int n,.int x],Sl_ ss,Sl_ gs]=.ok (optT (ifB (hasB s k) s)) [Sl_ ss]:=by
 rw [bX,am _ _ _ _ rfl]
 have hs:=dw s k
 cases q:hasB s k with
 | true=>unfold hasB at q;rw [q] at hs;simp [gr,eqS,cY ss a s ha,hs,ifB,optT]
 | false=>unfold hasB at q;rw [q] at hs;simp [gr,eqS,cY ss a s ha,hs,ifB,optT]
theorem ko {s:List Int} {k:Int} (h:hasB s k=true):∃j:Nat,k=j∧j<s.length:=by
 simp only [hasB,Bool.and_eq_true,decide_eq_true_eq] at h
 exact ⟨k.toNat,by omega,by omega⟩
theorem bZ (s:List Int) (k:Nat) (x:Int) (hk:k<s.length) (hl:s.length≤100):dr [T s,.int k,.int x]=.ok (T (rep s k x)) []:=by
 rw [dr,am _ _ _ _ rfl]
 have a1:=fE (s.take k) [x] (by simp [LIM];omega)
 have a2:=fE (s.take k++[x]) (s.drop (k+1)) (by simp [LIM];omega)
 have e:List.take (s.length-(k+1)) (s.drop (k+1))=s.drop (k+1):=List.take_of_length_le (by simp)
 simp [om,gl _ _ _ (Nat.le_of_lt hk),ir _ _ _ hk,e,tup1,a1,a2,rep]
def pickO (s:List Int) (k:Int) (t:List Int):Option (List Int):=if hasB s k=true∧t.length=1 then some (rep s k.toNat (t.getD 0 0)) else none
theorem nI (a b:Nat) (k:Int) (ss gs:List (List Int)) (s t:List Int) (ha:ss[a]?=some s) (hb:ss[b]?=some t) (hl:s.length≤4) :
  bX [.tup [.str (nm 14),.int a,.int k,.int b],Sl_ ss,Sl_ gs]=.ok (optT (pickO s k t)) [Sl_ ss]:=by
 have tm:gN [T s,.int k,T t]=.ok (optT (pickO s k t)) []:=by
  rw [gN,am _ _ _ _ rfl]
  have hs:=dw s k
  cases q:hasB s k with
  | false=>have q':=q;unfold hasB at q;rw [q] at hs;simp [jX,hs,pickO,q',optT]
  | true =>
   obtain ⟨j,rfl,hj⟩:=ko q
   have q':=q
   unfold hasB at q;rw [q] at hs
   by_cases h1:t.length=1
   ·have ix:=aN t 0 (by omega) (by omega)
    have h1':(t.length:Int)=1:=by omega
    have w:=bZ s j (t.getD 0 0) hj (by omega)
    simp only [Int.toNat_zero] at ix
    unfold pickO
    rw [if_pos ⟨q',h1⟩,Int.toNat_natCast]
    generalize t.getD 0 0=v at ix w ⊢
    simp [jX,hs,h1',ix,w,optT]
   ·have h1':¬(t.length:Int)=1:=by omega
    unfold pickO
    rw [if_neg (fun z=>h1 z.2)]
    simp [jX,hs,h1',optT]
 rw [bX,am _ _ _ _ rfl]
 simp [gr,eqS,cY ss a s ha,cY ss b t hb,tm]
def joinO (s t:List Int) (k:Int):Option (List Int):=if hasB s k=true∧s.length=t.length∧wo s k.toNat=wo t k.toNat then some (rep s k.toNat (s.getD k.toNat 0+t.getD k.toNat 0)) else none
theorem nH (a b:Nat) (k:Int) (ss gs:List (List Int)) (s t:List Int) (ha:ss[a]?=some s) (hb:ss[b]?=some t) (hl:s.length≤4) :
  bX [.tup [.str (nm 15),.int a,.int b,.int k],Sl_ ss,Sl_ gs]=.ok (optT (joinO s t k)) [Sl_ ss]:=by
 have tm:gE [T s,T t,.int k]=.ok (optT (joinO s t k)) []:=by
  rw [gE,am _ _ _ _ rfl]
  have hs:=dw s k
  cases q:hasB s k with
  | false=>have q':=q;unfold hasB at q;rw [q] at hs;simp [iP,hs,joinO,q',optT]
  | true =>
   obtain ⟨j,rfl,hj⟩:=ko q
   have q':=q
   unfold hasB at q;rw [q] at hs
   by_cases h1:s.length=t.length
   ·have i1:=aN s j (by omega) (by omega)
    have i2:=aN t j (by omega) (by omega)
    have w1:=iH s j hj (by omega)
    have w2:=iH t j (by omega) (by omega)
    have w:=bZ s j (s.getD j 0+t.getD j 0) hj (by omega)
    simp only [Int.toNat_natCast] at i1 i2
    by_cases h2:wo s j=wo t j
    ·unfold joinO
     rw [if_pos ⟨q',h1,h2⟩,Int.toNat_natCast]
     generalize s.getD j 0=v at i1 w ⊢
     generalize t.getD j 0=u at i2 w ⊢
     simp [iP,hs,h1,w1,w2,h2,i1,i2,w,optT]
    ·unfold joinO
     rw [if_neg (fun z=>h2 z.2.2)]
     simp [iP,hs,h1,w1,w2,h2,optT]
   ·have h1':¬(s.length:Int)=t.length:=by omega
    unfold joinO
    rw [if_neg (fun z=>h1 z.2.1)]
    simp [iP,hs,h1',optT]
 rw [bX,am _ _ _ _ rfl]
 simp [gr,eqS,cY ss a s ha,cY ss b t hb,tm]
theorem ss3 (S:Nat→List Int) (a:Nat) (h:a<3):[S 0,S 1,S 2][a]?=some (S a):=by
 match a,h with
 | 0,_=>rfl
 | 1,_=>rfl
 | 2,_=>rfl
theorem ix3 (f:Nat→D) (a:Nat) (h:a<3):ixD [f 0,f 1,f 2] (a:Int)=some (f a):=by
 match a,h with
 | 0,_=>rfl
 | 1,_=>rfl
 | 2,_=>rfl
structure G3 (S C:Nat→List Int):Prop where
 q:∀k,k<3→Q4 (S k)
 l:∀k,k<3→((C k).length:Int)=prodR (S k)
 r:∀k,k<3→Rts (C k)
theorem aS (k:Nat) (s c:List Int) (mk:D) (tbs:List D) (hk:tbs[k]?=some (Tb s c)) (h:Sc s) (hl:(c.length:Int)=prodR s) (hc:Rts c):bH [.tup [.str (nm 0),.int k],T s,mk,.lst tbs]=.ok (Tb s c) [mk]:=by
 rw [bH,am _ _ _ _ rfl]
 have ix:ixD tbs (k:Int)=some (Tb s c):=cZ _ _ _ (by omega) (by simpa using hk)
 have f2:=cX s c
 have nw:=fun r=>fR (T s) (Z c) s c (by simp) (by simp) h hl hc r
 simp [jZ,eqS,ix,aT,f2,nw]
def bl4 (w:List Bool):D:=.lst (w.map D.bl)
theorem nN (as:List Nat) (ha:∀a∈as,a<4):∀(w:List Bool),w.length=4→∀(x y t:Sl),free (some t)=true→∃t',free (some t')=true∧loop (gName 3) bK (as.map fun a=>D.int (a:Nat)) [x,.ow (bl4 w),y,t]=.ok .nx [x,.ow (bl4 (as.foldl (fun w a=>w.set a true) w)),y,t']:=by
 induction as with
 | nil=>intro w _ x y t ht;exact ⟨t,ht,rfl⟩
 | cons a as ih =>
  intro w hw x y t ht
  have h4:=ha a List.mem_cons_self
  obtain ⟨t',ht',e⟩:=ih (fun b hb=>ha b (List.mem_cons_of_mem _ hb)) (w.set a true) (by simpa using hw) x y (.sh (.int a)) rfl
  refine ⟨t',ht',?_⟩
  have st:setAt (.int (a:Nat)) (.bl true) (bl4 w)=some (bl4 (w.set a true)):=by
   unfold bl4
   rw [nE _ _ _ (by omega) (by simp;omega)]
   simp [List.map_set]
  have il:isLst (some (bl4 w))=true:=rfl
  simp only [List.foldl_cons,List.map_cons]
  rw [←e]
  simp [ht,bK,il,st]
def wnt (as:List Nat):List Bool:=as.foldl (fun w a=>w.set a true) [false,false,false,true]
theorem jW (as:List Nat):(wnt as).length=4:=by
 have:∀(as:List Nat) (w:List Bool),(as.foldl (fun w a=>w.set a true) w).length=w.length:=by
  intro as
  induction as with
  | nil=>intro w;rfl
  | cons a as ih=>intro w;rw [List.foldl_cons,ih,List.length_set]
 exact this as _
theorem jV (as:List Nat) (ha:∀a∈as,a<3):(∀a∈as,(wnt as)[a]?=some true)∧(wnt as)[3]?=some true:=by
 have:∀(as:List Nat),(∀a∈as,a<3)→∀(w:List Bool),w.length=4→(∀k,k<4→(k∈as∨w[k]?=some true)→(as.foldl (fun w a=>w.set a true) w)[k]?=some true):=by
  intro as
  induction as with
  | nil=>intro _ w _ k _ h;rcases h with h | h;exact (List.not_mem_nil h).elim;exact h
  | cons a as ih =>
   intro ha w hw k hk h
   rw [List.foldl_cons]
   refine ih (fun b hb=>ha b (List.mem_cons_of_mem _ hb)) (w.set a true) (by simpa using hw) k hk ?_
   by_cases e:a=k
   ·subst e;right;simp [List.getElem?_set,hw];omega
   ·rcases h with h | h
    ·rcases List.mem_cons.mp h with h | h
     ·exact absurd h.symm e
     ·exact .inl h
    ·right;simp [List.getElem?_set,e,h]
 exact ⟨fun a h=>this as ha _ rfl a (by have:=ha a h;omega) (.inl h),this as ha _ rfl 3 (by omega) (.inr rfl)⟩
def gv (k:Int):D:=.tup [.str (nm 0),.int k]
theorem wanted4 (l:D) (as:List Nat) (hn:a6 [l]=.ok (.lst (as.map fun a=>D.int (a:Nat))) []) (ha:∀a∈as,a<3):gQ [.lst [gv 2,gv 0,gv 1,l]]=.ok (bl4 (wnt as)) []:=by
 rw [gQ,am _ _ _ _ rfl]
 have c:mComp 1 (mSeq (mVar 0)) (VP.gName 4) (VP.ret true) bG [.sh (.lst [gv 2,gv 0,gv 1,l]),.no,.no,.no]=.ok (bl4 [false,false,false,false]) [.sh (.lst [gv 2,gv 0,gv 1,l]),.no,.no,.no] :=
  compM (fun (d:D)=>d) (fun _=>D.bl false) [gv 2,gv 0,gv 1,l] (by simp) (by simp) rfl (fun d hd acc=>by simp [bG])
 have s3:setAt (.int 3) (.bl true) (bl4 [false,false,false,false])=some (bl4 [false,false,false,true]):=rfl
 have dn:rngD [.int 3,.int (-1),.int (-1)]=some [.int 3,.int 2,.int 1,.int 0]:=rfl
 have il:∀w,isLst (some (bl4 w))=true:=fun _=>rfl
 have n2:a6 [gv 2]=.ok (.lst []) []:=dD 2
 have n1:a6 [gv 1]=.ok (.lst []) []:=dD 1
 have n0:a6 [gv 0]=.ok (.lst []) []:=dD 0
 obtain ⟨t,ht,L⟩:=nN as (fun a h=>by have:=ha a h;omega) [false,false,false,true] rfl (.sh (.lst [gv 2,gv 0,gv 1,l])) (.sh (.int 3)) .no rfl
 have e:as.foldl (fun w a=>w.set a true) [false,false,false,true]=wnt as:=rfl
 rw [e] at L
 have wl:=jW as
 have w3:=(jV as ha).2
 match hw:wnt as,wl with
 | [w0,w1,w2,w3'],_ =>
  rw [hw] at L
  have b3:itemD (bl4 [false,false,false,true]) (.int 3)=some (.bl true):=rfl
  have b2:itemD (bl4 [w0,w1,w2,w3']) (.int 2)=some (.bl w2):=rfl
  have b1:itemD (bl4 [w0,w1,w2,w3']) (.int 1)=some (.bl w1):=rfl
  have b0:itemD (bl4 [w0,w1,w2,w3']) (.int 0)=some (.bl w0):=rfl
  cases w0<;>cases w1<;>cases w2<;>simp [ox,c,il,s3,dn,cJ,b3,b2,b1,b0,hn,n0,n1,n2,L]
theorem plain4 (l:D) (as:List Nat) (S C:Nat→List Int) (g:G3 S C) (s' c':List Int) (hn:a6 [l]=.ok (.lst (as.map fun a=>D.int (a:Nat))) []) (ha:∀a∈as,a<3) (hlook:cS [.int 3,l,Sl_ [S 0,S 1,S 2],Sl_ [S 1,S 2,S 0]]=.ok (T s') [Sl_ [S 0,S 1,S 2]])
  (hmade:∀(ms:List D) (tbs:D),(∀a∈as,ixD ms (a:Int)=some (Tb (S a) (C a)))→bH [l,T s',.lst ms,tbs]=.ok (Tb s' c') [.lst ms]) :
  ci [.lst [gv 2,gv 0,gv 1,l],.lst [Tb (S 1) (C 1),Tb (S 2) (C 2),Tb (S 0) (C 0)]]=.ok (Tb s' c') []:=by
 rw [ci,am _ _ _ _ rfl]
 obtain ⟨tbs,htb⟩:∃t,t=[Tb (S 1) (C 1),Tb (S 2) (C 2),Tb (S 0) (C 0)]:=⟨_,rfl⟩
 obtain ⟨pr,hpr⟩:∃t,t=[gv 2,gv 0,gv 1,l]:=⟨_,rfl⟩
 have cc:mComp 1 (mSeq (mVar 1)) (VP.gName 7) (VP.ret true) aW [.sh (.lst pr),.sh (.lst tbs),.no,.no,.no,.no,.no]=.ok (Sl_ [S 1,S 2,S 0]) [.sh (.lst pr),.sh (.lst tbs),.no,.no,.no,.no,.no] :=
  compM (fun (k:Nat)=>Tb (S k) (C k)) (fun k=>T (S k)) [1,2,0] (by simp [htb]) (by simp) rfl (fun k hk acc=>by
   have f1:=bq (S k) (C k)
   simp [aW,aJ,f1])
 have q0:=(g.q 0 (by omega)).sc
 have q1:=(g.q 1 (by omega)).sc
 have q2:=(g.q 2 (by omega)).sc
 have so:eZ [.lst pr,Sl_ [S 1,S 2,S 0]]=.ok (Sl_ [S 0,S 1,S 2,s']) []:=fZ pr [S 1,S 2,S 0] [S 0,S 1,S 2,s'] (by simp [hpr]) (by simp [hpr]) (by simp [hpr]) (fun i l t hi ht=>by
  rw [hpr] at hi
  match i,hi,ht with
  | 0,hi,ht =>
   simp at hi ht
   subst hi ht
   exact bU 0 2 [] [S 1,S 2,S 0] (S 0) rfl q0
  | 1,hi,ht =>
   simp at hi ht
   subst hi ht
   exact bU 1 0 [S 0] [S 1,S 2,S 0] (S 1) rfl q1
  | 2,hi,ht =>
   simp at hi ht
   subst hi ht
   exact bU 2 1 [S 0,S 1] [S 1,S 2,S 0] (S 2) rfl q2
  | 3,hi,ht =>
   simp at hi ht
   subst hi ht
   exact hlook
  | n+4,hi,ht=>simp at hi)
 have wt:=wanted4 l as hn ha
 rw [←hpr] at wt
 have tg0:=fun mk=>aS 2 (S 0) (C 0) mk tbs (by rw [htb];rfl) q0 (g.l 0 (by omega)) (g.r 0 (by omega))
 have tg1:=fun mk=>aS 0 (S 1) (C 1) mk tbs (by rw [htb];rfl) q1 (g.l 1 (by omega)) (g.r 1 (by omega))
 have tg2:=fun mk=>aS 1 (S 2) (C 2) mk tbs (by rw [htb];rfl) q2 (g.l 2 (by omega)) (g.r 2 (by omega))
 have tg0':∀mk,bH [gv 2,T (S 0),mk,.lst tbs]=.ok (Tb (S 0) (C 0)) [mk]:=tg0
 have tg1':∀mk,bH [gv 0,T (S 1),mk,.lst tbs]=.ok (Tb (S 1) (C 1)) [mk]:=tg1
 have tg2':∀mk,bH [gv 1,T (S 2),mk,.lst tbs]=.ok (Tb (S 2) (C 2)) [mk]:=tg2
 have en:enumL pr=[.tup [.int 0,gv 2],.tup [.int 1,gv 0],.tup [.int 2,gv 1],.tup [.int 3,l]]:=by rw [hpr];rfl
 have j0:itemD (Sl_ [S 0,S 1,S 2,s']) (.int 0)=some (T (S 0)):=rfl
 have j1:itemD (Sl_ [S 0,S 1,S 2,s']) (.int 1)=some (T (S 1)):=rfl
 have j2:itemD (Sl_ [S 0,S 1,S 2,s']) (.int 2)=some (T (S 2)):=rfl
 have j3:itemD (Sl_ [S 0,S 1,S 2,s']) (.int 3)=some (T s'):=rfl
 have im:∀a b c d:D,ixD [a,b,c,d] (-1)=some d:=fun _ _ _ _=>rfl
 obtain ⟨wa,w3⟩:=jV as ha
 have wl:=jW as
 rw [←htb,←hpr]
 match hw:wnt as,wl with
 | [w0,w1,w2,w3'],_ =>
  rw [hw] at wt wa w3
  have:w3'=true:=by simpa using w3
  subst this
  have b3:itemD (bl4 [w0,w1,w2,true]) (.int 3)=some (.bl true):=rfl
  have b2:itemD (bl4 [w0,w1,w2,true]) (.int 2)=some (.bl w2):=rfl
  have b1:itemD (bl4 [w0,w1,w2,true]) (.int 1)=some (.bl w1):=rfl
  have b0:itemD (bl4 [w0,w1,w2,true]) (.int 0)=some (.bl w0):=rfl
  have hm:=fun tb=>hmade [if w0 then Tb (S 0) (C 0) else .non,if w1 then Tb (S 1) (C 1) else .non,if w2 then Tb (S 2) (C 2) else .non] tb (fun a h=>by
   have h3:=ha a h
   have wv:=wa a h
   match a,h3,wv with
   | 0,_,wv =>
    have:w0=true:=by simpa using wv
    subst this;rfl
   | 1,_,wv =>
    have:w1=true:=by simpa using wv
    subst this;rfl
   | 2,_,wv =>
    have:w2=true:=by simpa using wv
    subst this;rfl)
  cases w0<;>cases w1<;>cases w2<;>simp only [if_true,Bool.false_eq_true,if_false] at hm<;>simp [l5,cc,so,wt,en,bJ,j0,j1,j2,j3,b0,b1,b2,b3,tg0',tg1',tg2',hm,bR,im]
theorem f9:∀{s i:List Int} (k:Nat),Ix s i→k<s.length→0≤i.getD k 0∧i.getD k 0<s.getD k 0
 | [],[],_,_,h=>by simp at h
 | x::s,j::i,0,h,_=>by simpa using ⟨h.1,h.2.1⟩
 | x::s,j::i,k+1,h,hk=>by simpa using f9 k h.2.2 (by simpa using hk)
theorem di:∀{s i:List Int} (k:Nat) (m x:Int),k<s.length→Ix (rep s k m) i→0≤x→x<s.getD k 0→Ix s (rep i k x)
 | [],_,k,_,_,hk,_,_,_=>by simp at hk
 | y::s,[],0,m,x,_,h,_,_=>by simp [rep,Ix] at h
 | y::s,j::i,0,m,x,_,h,h0,h1=>by
  simp only [rep,List.take_zero,List.nil_append,Nat.zero_add,List.drop_succ_cons,List.drop_zero,Ix] at h ⊢
  exact ⟨h0,by simpa using h1,h.2.2⟩
 | y::s,[],k+1,m,x,_,h,_,_=>by simp [rep,Ix] at h
 | y::s,j::i,k+1,m,x,hk,h,h0,h1=>by
  have e1:rep (y::s) (k+1) m=y::rep s k m:=by simp [rep]
  have e2:rep (j::i) (k+1) x=j::rep i k x:=by simp [rep]
  rw [e1] at h
  rw [e2]
  exact ⟨h.1,h.2.1,di k m x (by simpa using hk) h.2.2 h0 (by simpa using h1)⟩
theorem dM:∀(s:List Int) (k:Nat),k<s.length→rep s k (s.getD k 0)=s
 | [],k,h=>by simp at h
 | y::s,0,_=>by simp [rep]
 | y::s,k+1,h=>by
  have e1:rep (y::s) (k+1) ((y::s).getD (k+1) 0)=y::rep s k (s.getD k 0):=by simp [rep]
  rw [e1,dM s k (by simpa using h)]
theorem jQ:∀(s:List Int) (k:Nat) (x y:Int),k<s.length→rep (rep s k x) k y=rep s k y
 | [],k,_,_,h=>by simp at h
 | z::s,0,_,_,_=>by simp [rep]
 | z::s,k+1,x,y,h=>by
  have e1:rep (z::s) (k+1) x=z::rep s k x:=by simp [rep]
  have e2:rep (z::s) (k+1) y=z::rep s k y:=by simp [rep]
  have e3:rep (z::rep s k x) (k+1) y=z::rep (rep s k x) k y:=by simp [rep]
  rw [e1,e2,e3,jQ s k x y (by simpa using h)]
theorem bO (s:List Int) (k:Nat) (x:Int) (h:k<s.length):(rep s k x).length=s.length:=by simp [rep];omega
theorem gk (s:List Int) (k:Nat) (m:Int) (hk:k<s.length):(rep s k m).getD k 0=m:=by
 unfold rep
 rw [List.getD_eq_getElem?_getD,List.getElem?_append_right (by simp;omega)]
 simp [Nat.min_eq_left (Nat.le_of_lt hk)]
theorem qm:∀(s:List Int) (k:Nat) (x:Int),k<s.length→wo (rep s k x) k=wo s k
 | [],k,_,h=>by simp at h
 | z::s,0,_,_=>by simp [rep,wo]
 | z::s,k+1,x,h=>by
  have e1:rep (z::s) (k+1) x=z::rep s k x:=by simp [rep]
  have e2:wo (z::rep s k x) (k+1)=z::wo (rep s k x) k:=by simp [wo]
  have e3:wo (z::s) (k+1)=z::wo s k:=by simp [wo]
  rw [e1,e2,e3,qm s k x (by simpa using h)]
theorem mE {s:List Int} {k:Nat} {x y:Int} (h:y∈rep s k x):y=x∨y∈s:=by
 rcases List.mem_append.mp h with h | h
 ·exact .inr (List.mem_of_mem_take h)
 ·rcases List.mem_cons.mp h with h | h
  ·exact .inl h
  ·exact .inr (List.mem_of_mem_drop h)
theorem qt (a:List Int) (k:Nat) (h:k≤a.length):cutA (T a) none (some (k:Int))=some (T (a.take k)):=by
 rw [fI,gl _ _ _ h];simp
theorem oH (a:List Int) (k:Nat) (h:k<a.length):cutA (T a) (some ((k:Int)+1)) none=some (T (a.drop (k+1))):=by
 rw [fI,ir _ _ _ h];simp [List.take_of_length_le]
theorem bS (a:List Int) (k:Nat) (x:Int) (hk:k<a.length) (ha:a.length≤100):dh [T a,.int k,.int x]=.ok (T (rep a k x)) []:=by
 rw [dh,am _ _ _ _ rfl]
 have c1:=qt a k (by omega)
 have c2:=oH a k (by omega)
 have a1:=fE (a.take k) [x] (by simp [LIM];omega)
 have a2:=fE (a.take k++[x]) (a.drop (k+1)) (by simp [LIM];omega)
 simp [nX,c1,c2,tup1,a1,a2,-fI,rep]
theorem fg (s c a:List Int) (h:Sd s) (hl:(c.length:Int)=prodR s) (hi:Ix s a):dq [T s,T a]=.ok (.int (dot a (strd s))) []∧ixD (c.map .int) (dot a (strd s))=some (.int (cellAt s c a)):=by
 obtain ⟨p0,p1⟩:=hi.place h
 exact ⟨wf s a h hi.len,aN c (dot a (strd s)) p0 (by omega)⟩
def shV (s c:List Int) (k:Nat) (b x:Int) (a:List Int):Int:=if 0≤a.getD k 0-b∧a.getD k 0-b<s.getD k 0 then cellAt s c (rep a k (a.getD k 0-b)) else x
theorem iI (s c a:List Int) (k:Nat) (b x:Int) (hk:k<s.length) (h:Sd s) (hl:(c.length:Int)=prodR s) (hi:Ix s a):gP [Tb s c,.int k,.int b,.int x,T a]=.ok (.int (shV s c k b x a)) []:=by
 rw [gP,am _ _ _ _ rfl]
 have h4:=h.len
 have la:=hi.len
 have ix1:=aN a k (by omega) (by omega)
 have ix2:=aN s k (by omega) (by omega)
 simp only [Int.toNat_natCast] at ix1 ix2
 have f1:=bq s c
 have im:=cj s c
 unfold shV
 have rp:=di (s:=s) (i:=a) k (s.getD k 0) (a.getD k 0-b) hk (by rw [dM s k hk];exact hi)
 have w:=bZ a k (a.getD k 0-b) (by omega) (by omega)
 generalize a.getD k 0=ak at *
 generalize s.getD k 0=sk at *
 by_cases h0:0≤ak-b
 ·by_cases h1:ak-b<sk
  ·have ce:=eT s c _ h hl (rp h0 h1)
   rw [if_pos ⟨h0,h1⟩]
   have h0':0≤ak-b:=h0
   simp [jY,ix1,ix2,aJ,f1,h1,w,im,ce]
   omega
  ·rw [if_neg (fun z=>h1 z.2)]
   simp [jY,ix1,ix2,aJ,f1,h1]
 ·rw [if_neg (fun z=>h0 z.1)]
  simp [jY,ix1]
  omega
def jnV (u cu v cv:List Int) (k:Nat) (a:List Int):Int:=if a.getD k 0<u.getD k 0 then cellAt u cu a else cellAt v cv (rep a k (a.getD k 0-u.getD k 0))
theorem jA (u v a:List Int) (k:Nat) (hk:k<u.length) (hv:∀m,rep v k m=rep u k m) (hkv:k<v.length) (hi:Ix (rep u k (u.getD k 0+v.getD k 0)) a):(a.getD k 0<u.getD k 0→Ix u a)∧(¬a.getD k 0<u.getD k 0→Ix v (rep a k (a.getD k 0-u.getD k 0))):=by
 have g:=f9 k hi (by rw [bO u k _ hk];exact hk)
 rw [gk u k _ hk] at g
 have la:=hi.len
 rw [bO u k _ hk] at la
 refine ⟨fun h=>?_,fun h=>?_⟩
 ·have:=di k _ (a.getD k 0) hk hi g.1 h
  rwa [dM a k (by omega)] at this
 ·rw [←hv] at hi
  exact di k _ _ hkv hi (by omega) (by omega)
theorem jz (u cu v cv a:List Int) (k:Nat) (hk:k<u.length) (hv:∀m,rep v k m=rep u k m) (hkv:k<v.length) (hu:Sd u) (hsv:Sd v) (hlu:(cu.length:Int)=prodR u) (hlv:(cv.length:Int)=prodR v) (hi:Ix (rep u k (u.getD k 0+v.getD k 0)) a) :
  f_z9 [Tb u cu,Tb v cv,.int k,T a]=.ok (.int (jnV u cu v cv k a)) []:=by
 rw [f_z9,am _ _ _ _ rfl]
 obtain ⟨j1,j2⟩:=jA u v a k hk hv hkv hi
 have h4:=hu.len
 have la:=hi.len
 rw [bO u k _ hk] at la
 have ix1:=aN a k (by omega) (by omega)
 have ix2:=aN u k (by omega) (by omega)
 simp only [Int.toNat_natCast] at ix1 ix2
 have f1:=bq u cu
 have im:=cj u cu
 have im2:=cj v cv
 have w:=bZ a k (a.getD k 0-u.getD k 0) (by omega) (by omega)
 unfold jnV
 by_cases h:a.getD k 0<u.getD k 0
 ·rw [if_pos h]
  have ce:=eT u cu _ hu hlu (j1 h)
  generalize a.getD k 0=ak at *
  generalize u.getD k 0=uk at *
  simp [b_z9,ix1,ix2,aJ,f1,h,im,ce]
 ·rw [if_neg h]
  have ce:=eT v cv _ hsv hlv (j2 h)
  generalize a.getD k 0=ak at *
  generalize u.getD k 0=uk at *
  simp [b_z9,ix1,ix2,aJ,f1,h,w,im2,ce]
def NC:Xn:=⟨"NoCell", [],[]⟩
def pkN (cn:List Int) (k:Nat) (a:List Int):Int:=cn.getD (a.getD k 0).toNat 0
def pkV (s c cn:List Int) (k:Nat) (a:List Int):Int:=cellAt s c (rep a k (pkN cn k a))
theorem fC (s c cn a:List Int) (k:Nat) (m:Int) (hk:k<s.length) (h:Sd s) (hl:(c.length:Int)=prodR s) (hm:0≤m∧m≤64) (hn:(cn.length:Int)=m) (hr:Rts cn) (hi:Ix (rep s k m) a) :
  (s.getD k 0≤pkN cn k a→eX [Tb s c,.int k,Tb [m] cn,T a]=.exc NC [])∧(pkN cn k a<s.getD k 0→Ix s (rep a k (pkN cn k a))∧eX [Tb s c,.int k,Tb [m] cn,T a]=.ok (.int (pkV s c cn k a)) []):=by
 have h4:=h.len
 have la:=hi.len
 rw [bO s k _ hk] at la
 have g:=f9 k hi (by rw [bO s k _ hk];exact hk)
 rw [gk s k _ hk] at g
 have ix1:=aN a k (by omega) (by omega)
 have ix2:=aN s k (by omega) (by omega)
 simp only [Int.toNat_natCast] at ix1 ix2
 have f1:=bq s c
 have im:=cj s c
 have im2:=cj [m] cn
 have n0:0≤pkN cn k a:=by
  have:pkN cn k a∈cn:=by
   unfold pkN
   have:(a.getD k 0).toNat<cn.length:=by omega
   rw [List.getD_eq_getElem?_getD,List.getElem?_eq_getElem this]
   exact List.getElem_mem _
  exact (hr _ this).1
 have cn1:f_z0 [Tb [m] cn,T [a.getD k 0]]=.ok (.int (pkN cn k a)) []:=by
  have:=eT [m] cn [a.getD k 0] ⟨by simp,fun x hx=>by simp at hx;omega⟩ (by simp [prodR];exact hn) ⟨g.1,g.2,trivial⟩
  rw [this]
  simp [cellAt,pkN,dot,strd,prodR]
 have w:=bZ a k (pkN cn k a) (by omega) (by omega)
 have mr:=di k m (pkN cn k a) hk hi n0
 unfold pkV
 refine ⟨fun hb=>?_,fun hb=>⟨mr hb,?_⟩⟩
 ·rw [eX,am _ _ _ _ rfl]
  generalize pkN cn k a=nk at *
  generalize a.getD k 0=ak at *
  generalize s.getD k 0=sk at *
  simp [lY,ix1,ix2,tup1,im2,cn1,aJ,f1,hb,NC]
 ·rw [eX,am _ _ _ _ rfl]
  have ce:=eT s c _ h hl (mr hb)
  generalize pkN cn k a=nk at *
  generalize a.getD k 0=ak at *
  generalize s.getD k 0=sk at *
  have hb':¬sk≤nk:=by omega
  simp [lY,ix1,ix2,tup1,im2,cn1,aJ,f1,hb',w,im,ce]
theorem lm (s c a:List Int) (k:Nat) (b x:Int) (hk:k<s.length) (h:Sd s) (hl:(c.length:Int)=prodR s) (hi:Ix s a) (ms:List D) (h0:ixD ms 0=some (Tb s c)) (X:D) :
  f_z2 [.tup [.str (nm 8),.int 0,.int k,.int b,.int x],X,.lst ms,T a]=.ok (.int (shV s c k b x a)) [.lst ms]:=by
 rw [f_z2,am _ _ _ _ rfl]
 simp [b_z2,eqS,h0,iI s c a k b x hk h hl hi]
theorem mZ (w w':Int) (u cu v cv a:List Int) (k:Nat) (hk:k<u.length) (hv:∀m,rep v k m=rep u k m) (hkv:k<v.length) (hu:Sd u) (hsv:Sd v) (hlu:(cu.length:Int)=prodR u) (hlv:(cv.length:Int)=prodR v) (hi:Ix (rep u k (u.getD k 0+v.getD k 0)) a)
  (ms:List D) (h0:ixD ms w=some (Tb u cu)) (h1:ixD ms w'=some (Tb v cv)) (X:D) :
  f_z2 [.tup [.str (nm 15),.int w,.int w',.int k],X,.lst ms,T a]=.ok (.int (jnV u cu v cv k a)) [.lst ms]:=by
 rw [f_z2,am _ _ _ _ rfl]
 simp [b_z2,eqS,h0,h1,jz u cu v cv a k hk hv hkv hu hsv hlu hlv hi]
theorem m6 (s c cn a:List Int) (k:Nat) (m:Int) (hk:k<s.length) (h:Sd s) (hl:(c.length:Int)=prodR s) (hm:0≤m∧m≤64) (hn:(cn.length:Int)=m) (hr:Rts cn) (hi:Ix (rep s k m) a) (ms:List D) (h0:ixD ms 0=some (Tb s c)) (h2:ixD ms 2=some (Tb [m] cn)) (X:D) :
  (s.getD k 0≤pkN cn k a→f_z2 [.tup [.str (nm 14),.int 0,.int k,.int 2],X,.lst ms,T a]=.exc NC [.lst ms])∧(pkN cn k a<s.getD k 0→f_z2 [.tup [.str (nm 14),.int 0,.int k,.int 2],X,.lst ms,T a]=.ok (.int (pkV s c cn k a)) [.lst ms]):=by
 obtain ⟨p1,p2⟩:=fC s c cn a k m hk h hl hm hn hr hi
 refine ⟨fun hb=>?_,fun hb=>?_⟩
 ·rw [f_z2,am _ _ _ _ rfl]
  simp [b_z2,eqS,h0,h2,p1 hb]
 ·rw [f_z2,am _ _ _ _ rfl]
  simp [b_z2,eqS,h0,h2,(p2 hb).2]
theorem jD (k:Nat) (hk:k<32) (n0:k≠0) (n13:k≠13) (ds:List D) (t cs:List Int) (ms:List D) (tbs:D) (ht:Sc t) (hcl:(cs.length:Int)=prodR t) (hcr:Rts cs) (g:Nat→Int) (hg:cs=(List.range (prodR t).toNat).map g)
  (hcell:∀p:Nat,(p:Int)<prodR t→f_z2 [.tup (.str (nm k)::ds),T t,.lst ms,T (idx t p)]=.ok (.int (g p)) [.lst ms]) :
  bH [.tup (.str (nm k)::ds),T t,.lst ms,tbs]=.ok (Tb t cs) [.lst ms]:=by
 rw [bH,am _ _ _ _ rfl]
 have hp:=ht.sd.prod
 have hf:=ht.few
 have ixs:=gU t ht
 have cc:mComp 1 (mSeq (mCall f_z7 [.val (mVar 1)])) (VP.gName 4) (VP.ret true) aV [.sh (.tup (.str (nm k)::ds)),.sh (T t),.io (.lst ms),.sh tbs]=.ok (Z cs) [.sh (.tup (.str (nm k)::ds)),.sh (T t),.io (.lst ms),.sh tbs]:=by
  refine compM (fun (p:Nat)=>T (idx t p)) (fun p=>D.int (g p)) (List.range (prodR t).toNat) (by simp [ixs]) (by simp;omega) (by rw [hg];simp [Z,Function.comp_def]) fun p hp' acc=>?_
  have hq:=List.mem_range.mp hp'
  have hc:=hcell p (by omega)
  simp [aV,hc]
 have nw:=fun r=>fR (T t) (Z cs) t cs (by simp) (by simp) ht hcl hcr r
 simp [jZ,eqS,hk,n0,n13,cc,nw]
theorem nv (n p:Nat) (h:p<n):List.range n=List.range p++p::(List.range (n-p-1)).map fun i=>p+1+i:=by
 obtain ⟨m,rfl⟩:∃m,n=p+(m+1):=⟨n-p-1,by omega⟩
 have e:p+(m+1)-p-1=m:=by omega
 rw [List.range_add,List.range_succ_eq_map,e]
 simp only [List.map_cons,List.map_map,Nat.add_zero]
 congr 2
 refine List.map_congr_left fun i _=>?_
 show p+(i+1)=p+1+i
 omega
theorem ph (k:Nat) (hk:k<32) (n0:k≠0) (n13:k≠13) (ds:List D) (t:List Int) (ms:List D) (tbs:D) (ht:Sc t) (g:Nat→Int) (p0:Nat) (hp0:(p0:Int)<prodR t)
  (hcell:∀p:Nat,p<p0→f_z2 [.tup (.str (nm k)::ds),T t,.lst ms,T (idx t p)]=.ok (.int (g p)) [.lst ms]) (hx:f_z2 [.tup (.str (nm k)::ds),T t,.lst ms,T (idx t p0)]=.exc NC [.lst ms]) :
  bH [.tup (.str (nm k)::ds),T t,.lst ms,tbs]=.exc NC [.lst ms]:=by
 rw [bH,am _ _ _ _ rfl]
 have hp:=ht.sd.prod
 have hf:=ht.few
 have ixs:=gU t ht
 have cc:mComp 1 (mSeq (mCall f_z7 [.val (mVar 1)])) (VP.gName 4) (VP.ret true) aV [.sh (.tup (.str (nm k)::ds)),.sh (T t),.io (.lst ms),.sh tbs]=.exc NC [.sh (.tup (.str (nm k)::ds)),.sh (T t),.io (.lst ms),.sh tbs]:=by
  refine compX (fun (p:Nat)=>T (idx t p)) (fun p=>D.int (g p)) (List.range p0) p0 ((List.range ((prodR t).toNat-p0-1)).map fun i=>p0+1+i) (by rw [←nv _ _ (by omega)];simp [ixs]) (by simp;omega) (fun p hp' acc=>?_) (fun acc=>?_)
  ·have hc:=hcell p (List.mem_range.mp hp')
   simp [aV,hc]
  ·simp [aV,hx]
 simp [jZ,eqS,hk,n0,n13,cc]
theorem plain4x (l:D) (as:List Nat) (S C:Nat→List Int) (g:G3 S C) (s':List Int) (hn:a6 [l]=.ok (.lst (as.map fun a=>D.int (a:Nat))) []) (ha:∀a∈as,a<3) (hlook:cS [.int 3,l,Sl_ [S 0,S 1,S 2],Sl_ [S 1,S 2,S 0]]=.ok (T s') [Sl_ [S 0,S 1,S 2]])
  (hmade:∀(ms:List D) (tbs:D),(∀a∈as,ixD ms (a:Int)=some (Tb (S a) (C a)))→bH [l,T s',.lst ms,tbs]=.exc NC [.lst ms]) :
  ci [.lst [gv 2,gv 0,gv 1,l],.lst [Tb (S 1) (C 1),Tb (S 2) (C 2),Tb (S 0) (C 0)]]=.exc NC []:=by
 rw [ci,am _ _ _ _ rfl]
 obtain ⟨tbs,htb⟩:∃t,t=[Tb (S 1) (C 1),Tb (S 2) (C 2),Tb (S 0) (C 0)]:=⟨_,rfl⟩
 obtain ⟨pr,hpr⟩:∃t,t=[gv 2,gv 0,gv 1,l]:=⟨_,rfl⟩
 have cc:mComp 1 (mSeq (mVar 1)) (VP.gName 7) (VP.ret true) aW [.sh (.lst pr),.sh (.lst tbs),.no,.no,.no,.no,.no]=.ok (Sl_ [S 1,S 2,S 0]) [.sh (.lst pr),.sh (.lst tbs),.no,.no,.no,.no,.no] :=
  compM (fun (k:Nat)=>Tb (S k) (C k)) (fun k=>T (S k)) [1,2,0] (by simp [htb]) (by simp) rfl (fun k hk acc=>by
   have f1:=bq (S k) (C k)
   simp [aW,aJ,f1])
 have q0:=(g.q 0 (by omega)).sc
 have q1:=(g.q 1 (by omega)).sc
 have q2:=(g.q 2 (by omega)).sc
 have so:eZ [.lst pr,Sl_ [S 1,S 2,S 0]]=.ok (Sl_ [S 0,S 1,S 2,s']) []:=fZ pr [S 1,S 2,S 0] [S 0,S 1,S 2,s'] (by simp [hpr]) (by simp [hpr]) (by simp [hpr]) (fun i l t hi ht=>by
  rw [hpr] at hi
  match i,hi,ht with
  | 0,hi,ht =>
   simp at hi ht
   subst hi ht
   exact bU 0 2 [] [S 1,S 2,S 0] (S 0) rfl q0
  | 1,hi,ht =>
   simp at hi ht
   subst hi ht
   exact bU 1 0 [S 0] [S 1,S 2,S 0] (S 1) rfl q1
  | 2,hi,ht =>
   simp at hi ht
   subst hi ht
   exact bU 2 1 [S 0,S 1] [S 1,S 2,S 0] (S 2) rfl q2
  | 3,hi,ht =>
   simp at hi ht
   subst hi ht
   exact hlook
  | n+4,hi,ht=>simp at hi)
 have wt:=wanted4 l as hn ha
 rw [←hpr] at wt
 have tg0:∀mk,bH [gv 2,T (S 0),mk,.lst tbs]=.ok (Tb (S 0) (C 0)) [mk]:=fun mk=>aS 2 (S 0) (C 0) mk tbs (by rw [htb];rfl) q0 (g.l 0 (by omega)) (g.r 0 (by omega))
 have tg1:∀mk,bH [gv 0,T (S 1),mk,.lst tbs]=.ok (Tb (S 1) (C 1)) [mk]:=fun mk=>aS 0 (S 1) (C 1) mk tbs (by rw [htb];rfl) q1 (g.l 1 (by omega)) (g.r 1 (by omega))
 have tg2:∀mk,bH [gv 1,T (S 2),mk,.lst tbs]=.ok (Tb (S 2) (C 2)) [mk]:=fun mk=>aS 1 (S 2) (C 2) mk tbs (by rw [htb];rfl) q2 (g.l 2 (by omega)) (g.r 2 (by omega))
 have en:enumL pr=[.tup [.int 0,gv 2],.tup [.int 1,gv 0],.tup [.int 2,gv 1],.tup [.int 3,l]]:=by rw [hpr];rfl
 have j0:itemD (Sl_ [S 0,S 1,S 2,s']) (.int 0)=some (T (S 0)):=rfl
 have j1:itemD (Sl_ [S 0,S 1,S 2,s']) (.int 1)=some (T (S 1)):=rfl
 have j2:itemD (Sl_ [S 0,S 1,S 2,s']) (.int 2)=some (T (S 2)):=rfl
 have j3:itemD (Sl_ [S 0,S 1,S 2,s']) (.int 3)=some (T s'):=rfl
 obtain ⟨wa,w3⟩:=jV as ha
 have wl:=jW as
 rw [←htb,←hpr]
 match hw:wnt as,wl with
 | [w0,w1,w2,w3'],_ =>
  rw [hw] at wt wa w3
  have:w3'=true:=by simpa using w3
  subst this
  have b3:itemD (bl4 [w0,w1,w2,true]) (.int 3)=some (.bl true):=rfl
  have b2:itemD (bl4 [w0,w1,w2,true]) (.int 2)=some (.bl w2):=rfl
  have b1:itemD (bl4 [w0,w1,w2,true]) (.int 1)=some (.bl w1):=rfl
  have b0:itemD (bl4 [w0,w1,w2,true]) (.int 0)=some (.bl w0):=rfl
  have hm:=fun tb=>hmade [if w0 then Tb (S 0) (C 0) else .non,if w1 then Tb (S 1) (C 1) else .non,if w2 then Tb (S 2) (C 2) else .non] tb (fun a h=>by
   have h3:=ha a h
   have wv:=wa a h
   match a,h3,wv with
   | 0,_,wv =>
    have:w0=true:=by simpa using wv
    subst this;rfl
   | 1,_,wv =>
    have:w1=true:=by simpa using wv
    subst this;rfl
   | 2,_,wv =>
    have:w2=true:=by simpa using wv
    subst this;rfl)
  cases w0<;>cases w1<;>cases w2<;>simp only [if_true,Bool.false_eq_true,if_false] at hm<;>simp [l5,cc,so,wt,en,bJ,j0,j1,j2,j3,b0,b1,b2,b3,tg0,tg1,tg2,hm,bR]
theorem lI (P B:D) (h:ci [P,B]=.exc NC []):gK [P,B]=.ok (.bl true) []:=by
 rw [gK,am _ _ _ _ rfl]
 have hb:cD [.sh P,.sh B,.no]=.exc NC [.sh P,.sh B,.no]:=by simp [cD,h]
 have l1:cN.lookup NC.cls=some true:=rfl
 have x1:∀ns vs,isaX dC (.exn "NoCell" ns vs)=some (.bl false):=fun _ _=>rfl
 have x2:∀ns vs,isaX dB (.exn "NoCell" ns vs)=some (.bl false):=fun _ _=>rfl
 have x3:∀ns vs,isaX eE (.exn "NoCell" ns vs)=some (.bl false):=fun _ _=>rfl
 have x4:∀ns vs,isaX eD (.exn "NoCell" ns vs)=some (.bl true):=fun _ _=>rfl
 have x5:∀ns vs,isaX ck (.exn "NoCell" ns vs)=some (.bl true):=fun _ _=>rfl
 simp [n8,hb]
 rw [nB l1 rfl]
 simp only [NC]
 simp [dO,x1,x2,x3,x4,x5]
theorem mY (ns:List Int) (p:Nat) (s c:List Int) (k:Nat) (hk:k<s.length) (hs:Sc s) (hl:(c.length:Int)=prodR s):∃b x,Rt x∧gL [Row ns p,T s,Z c,.int k]=.ok (.tup [.tup [.str (nm 8),.int 0,.int k,.int b,.int x],T s,Z ((List.range (prodR s).toNat).map fun (p:Nat)=>shV s c k b x (lidx s p))]) [Row ns (p+2)]:=by
 have h4:=hs.sd.len
 have hp:=hs.sd.prod
 have hf:=hs.few
 have t0:=aZ ns p 11 (by omega)
 have t1:=aZ ns (p+1) 1000003 (by omega)
 obtain ⟨x,hx⟩:∃x,cell ns (p+1) % 1000003=x:=⟨_,rfl⟩
 obtain ⟨b,hb⟩:∃b,cell ns p % 11-5=b:=⟨_,rfl⟩
 rw [hx] at t1
 refine ⟨b,x,⟨by omega,by omega⟩,?_⟩
 rw [gL,am _ _ _ _ rfl]
 have lc:=bT s hs.sd
 have er:rng1 [.int (prodR s)]=some ((List.range (prodR s).toNat).map fun (k:Nat)=>.int k):=b4 _ _ rfl (by omega) (by omega)
 have L:=bt (g:=gName 7) (body:=bI) (fun (p:Nat)=>D.int p) (fun (a:List Int) (t:Sl×Sl×Sl)=>[.io (Row ns (p+2)),.sh (T s),.sh (Z c),.sh (.int k),.sh (.int b),.sh (.int x),.ow (Z a),t.1,t.2.1,t.2.2]) (fun t=>free1 t.1∧free1 t.2.1∧free1 t.2.2)
  (fun n a=>a.length=n) (fun a p=>a++[shV s c k b x (lidx s p)]) (List.range (prodR s).toNat) [] (.no,.no,.no) ⟨rfl,rfl,rfl⟩ rfl ?_
 ·obtain ⟨_,⟨t7,t8,t9⟩,_,L⟩:=L
  rw [eB,List.nil_append] at L
  have z0:D.lst []=Z []:=rfl
  simp [n9,t0,hb,t1,z0,lc,er,L]
 ·intro i q hq a t ht ha
  obtain ⟨rfl,hq⟩:=dL hq
  obtain ⟨t7,t8,t9⟩:=t
  obtain ⟨h7,h8,h9⟩:=ht
  dsimp only [free1] at h7 h8 h9
  have ps:=dH hs.sd (by omega)
  have li:=eG s ps q
  have hi:=cF s q ps
  have ap:∀y:Int,appD (.int y) (Z a)=some (Z (a++[y])):=fun y=>gp _ _ (by omega)
  generalize lidx s q=at_ at *
  have la:=hi.len
  have ix1:=aN at_ k (by omega) (by omega)
  have ix2:=aN s k (by omega) (by omega)
  simp only [Int.toNat_natCast] at ix1 ix2
  have rp:=di (s:=s) (i:=at_) k (s.getD k 0) (at_.getD k 0-b) hk (by rw [dM s k hk];exact hi)
  have ch:=bS at_ k (at_.getD k 0-b) (by omega) (by omega)
  unfold shV
  refine ⟨by simp [ha],(.sh (.int q),.sh (T at_),.sh (.int (at_.getD k 0-b))),⟨rfl,rfl,rfl⟩,?_⟩
  generalize at_.getD k 0=ak at *
  generalize s.getD k 0=sk at *
  by_cases h0:0≤ak-b
  ·by_cases h1:ak-b<sk
   ·obtain ⟨c1,c2⟩:=fg s c _ hs.sd hl (rp h0 h1)
    rw [if_pos ⟨h0,h1⟩]
    have e0:b≤ak:=by omega
    simp [turn1,bI,h7,h8,h9,li,ix1,ix2,e0,h1,ch,c1,c2,ap]
   ·rw [if_neg (fun z=>h1 z.2)]
    have e0:b≤ak:=by omega
    simp [turn1,bI,h7,h8,h9,li,ix1,ix2,e0,h1,ap]
  ·rw [if_neg (fun z=>h0 z.1)]
   have e0:¬b≤ak:=by omega
   simp [turn1,bI,h7,h8,h9,li,ix1,ix2,e0,ap]
theorem o0 (R R':D) (w:Nat) (hw:w<2) (ht:bu [R,.int 2]=.ok (.int w) [R']) (S C:Nat→List Int) (k:Nat) (hk:∀j,j<2→k<(S j).length) (hv:∀i j,i<2→j<2→∀m,rep (S i) k m=rep (S j) k m) (sd:∀j,j<2→Sd (S j)) (hl:∀j,j<2→((C j).length:Int)=prodR (S j)) (hsc:Sc (rep (S w) k ((S 0).getD k 0+(S 1).getD k 0))) :
  gG [R,.lst [T (S 0),T (S 1),T (S 2)],.lst [Z (C 0),Z (C 1),Z (C 2)],.int k]=.ok (.tup [.tup [.str (nm 15),.int w,.int (1-w:Nat),.int k],T (rep (S w) k ((S 0).getD k 0+(S 1).getD k 0)),Z ((List.range (prodR (rep (S w) k ((S 0).getD k 0+(S 1).getD k 0))).toNat).map fun (p:Nat)=>jnV (S w) (C w) (S (1-w)) (C (1-w)) k (lidx (rep (S w) k ((S 0).getD k 0+(S 1).getD k 0)) p))]) [R']:=by
 have sum:(S w).getD k 0+(S (1-w)).getD k 0=(S 0).getD k 0+(S 1).getD k 0:=by
  have:w=0∨w=1:=by omega
  rcases this with rfl | rfl<;>simp<;>omega
 have e1w:(1:Int)-w=((1-w:Nat):Int):=by omega
 have i1:ixD [T (S 0),T (S 1),T (S 2)] (w:Int)=some (T (S w)):=ix3 (fun j=>T (S j)) w (by omega)
 have i2:ixD [T (S 0),T (S 1),T (S 2)] ((1-w:Nat):Int)=some (T (S (1-w))):=ix3 (fun j=>T (S j)) (1-w) (by omega)
 have i3:ixD [Z (C 0),Z (C 1),Z (C 2)] (w:Int)=some (Z (C w)):=ix3 (fun j=>Z (C j)) w (by omega)
 have i4:ixD [Z (C 0),Z (C 1),Z (C 2)] ((1-w:Nat):Int)=some (Z (C (1-w))):=ix3 (fun j=>Z (C j)) (1-w) (by omega)
 have x0:=aN (S 0) k (by omega) (by have:=hk 0 (by omega);omega)
 have x1:=aN (S 1) k (by omega) (by have:=hk 1 (by omega);omega)
 have xw:=aN (S w) k (by omega) (by have:=hk w hw;omega)
 simp only [Int.toNat_natCast] at x0 x1 xw
 obtain ⟨m,hm⟩:∃m,(S 0).getD k 0+(S 1).getD k 0=m:=⟨_,rfl⟩
 have ch0:=bS (S w) k m (hk w hw) (by have:=(sd w hw).len;omega)
 have adm:addA (.int ((S 0).getD k 0)) (.int ((S 1).getD k 0))=some (.int m):=by rw [←hm];rfl
 rw [hm] at hsc sum ⊢
 generalize (S 0).getD k 0=y0 at *
 generalize (S 1).getD k 0=y1 at *
 obtain ⟨t,htt⟩:∃t,rep (S w) k m=t:=⟨_,rfl⟩
 rw [htt] at hsc ch0 ⊢
 have h4:=hsc.sd.len
 have hp:=hsc.sd.prod
 have hf:=hsc.few
 rw [gG,am _ _ _ _ rfl]
 have lc:=bT t hsc.sd
 have er:rng1 [.int (prodR t)]=some ((List.range (prodR t).toNat).map fun (k:Nat)=>.int k):=b4 _ _ rfl (by omega) (by omega)
 have L:=bt (g:=gName 8) (body:=cH) (fun (p:Nat)=>D.int p) (fun (a:List Int) (t_:Sl×Sl)=>[.io R',.sh (.lst [T (S 0),T (S 1),T (S 2)]),.sh (.lst [Z (C 0),Z (C 1),Z (C 2)]),.sh (.int k),.sh (.int w),.sh (T (S w)),.ow (Z a),.sh (T t),t_.1,t_.2]) free2
  (fun n a=>a.length=n) (fun a p=>a++[jnV (S w) (C w) (S (1-w)) (C (1-w)) k (lidx t p)]) (List.range (prodR t).toNat) [] (.no,.no) ⟨rfl,rfl⟩ rfl ?_
 ·obtain ⟨_,⟨t8,t9⟩,_,L⟩:=L
  rw [eB,List.nil_append] at L
  have z0:D.lst []=Z []:=rfl
  simp [n4,ht,i1,x0,x1,adm,ch0,z0,lc,er,L,e1w]
 ·intro i q hq a t_ ht_ ha
  obtain ⟨rfl,hq⟩:=dL hq
  obtain ⟨t8,t9⟩:=t_
  obtain ⟨h8,h9⟩:=ht_
  dsimp only at h8 h9
  have ps:=dH hsc.sd (by omega)
  have li:=eG t ps q
  have hi:=cF t q ps
  have ap:∀y:Int,appD (.int y) (Z a)=some (Z (a++[y])):=fun y=>gp _ _ (by omega)
  generalize lidx t q=at_ at *
  have tl:t.length=(S w).length:=by rw [←htt,bO _ _ _ (hk w hw)]
  have la:=hi.len
  have hkw:=hk w hw
  have ix1:=aN at_ k (by omega) (by omega)
  simp only [Int.toNat_natCast] at ix1
  obtain ⟨j1,j2⟩:=jA (S w) (S (1-w)) at_ k (hk w hw) (fun m=>hv _ _ (by omega) hw m) (hk _ (by omega)) (by rw [sum,htt];exact hi)
  have ch:=bS at_ k (at_.getD k 0-(S w).getD k 0) (by omega) (by omega)
  unfold jnV
  by_cases h:at_.getD k 0<(S w).getD k 0
  ·obtain ⟨c1,c2⟩:=fg (S w) (C w) _ (sd w hw) (hl w hw) (j1 h)
   refine ⟨by simp [ha],(.sh (.int q),.sh (T at_)),⟨rfl,rfl⟩,?_⟩
   rw [if_pos h]
   generalize at_.getD k 0=ak at *
   generalize (S w).getD k 0=sk at *
   simp [turn1,cH,h8,h9,li,ix1,xw,h,i3,c1,c2,ap]
  ·obtain ⟨c1,c2⟩:=fg (S (1-w)) (C (1-w)) _ (sd _ (by omega)) (hl _ (by omega)) (j2 h)
   refine ⟨by simp [ha],(.sh (.int q),.sh (T (rep at_ k (at_.getD k 0-(S w).getD k 0)))),⟨rfl,rfl⟩,?_⟩
   rw [if_neg h]
   generalize at_.getD k 0=ak at *
   generalize (S w).getD k 0=sk at *
   simp [turn1,cH,h8,h9,li,ix1,xw,h,ch,e1w,i2,i4,c1,c2,ap]
def pkB (s cn:List Int) (k:Nat) (t:List Int) (p:Nat):Bool:=decide (pkN cn k (lidx t p)<s.getD k 0)
def pkR (s c cn:List Int) (k:Nat) (t:List Int):D:=if (List.range (prodR t).toNat).all (pkB s cn k t) then Z ((List.range (prodR t).toNat).map fun (p:Nat)=>pkV s c cn k (lidx t p)) else .non
theorem gS {A:Type} (okf:A→Bool) (g:A→Int) (v:D):∀(ps:List A) (acc:List Int),foldE (fun (a:List Int) p=>if okf p then Sum.inr (a++[g p]) else Sum.inl v) ps acc=if ps.all okf then .inr (acc++ps.map g) else .inl v
 | [],acc=>by simp [foldE]
 | p::ps,acc=>by
  by_cases h:okf p=true
  ·simp [foldE,h,gS okf g v ps]
  ·simp [foldE,h]
theorem pe (s c cn s1 c1:List Int) (k:Nat) (m:Int) (hk:k<s.length) (hs:Sc s) (hl:(c.length:Int)=prodR s) (hm:0≤m∧m≤64) (hn:(cn.length:Int)=m) (hr:Rts cn) (hsc:Sc (rep s k m)) :
  gJ [.lst [T s,T s1,T [m]],.lst [Z c,Z c1,Z cn],.int k]=.ok (.tup [.tup [.str (nm 14),.int 0,.int k,.int 2],T (rep s k m),pkR s c cn k (rep s k m)]) []:=by
 have ch0:=bS s k m hk (by have:=hs.sd.len;omega)
 have ixs:=aN s k (by omega) (by omega)
 simp only [Int.toNat_natCast] at ixs
 obtain ⟨t,htt⟩:∃t,rep s k m=t:=⟨_,rfl⟩
 have h4:=hsc.sd.len
 have hp:=hsc.sd.prod
 have hf:=hsc.few
 rw [htt] at ch0 hsc h4 hp hf ⊢
 rw [gJ,am _ _ _ _ rfl]
 have lc:=bT t hsc.sd
 have er:rng1 [.int (prodR t)]=some ((List.range (prodR t).toNat).map fun (k:Nat)=>.int k):=b4 _ _ rfl (by omega) (by omega)
 have iT:∀x:Int,itemD (T [x]) (.int 0)=some (.int x):=fun _=>rfl
 have L:=hU (g:=gName 5) (body:=cI) (fun (p:Nat)=>D.int p) (fun (a:List Int) (t_:Sl×Sl×Sl)=>[.sh (.lst [T s,T s1,T [m]]),.sh (.lst [Z c,Z c1,Z cn]),.sh (.int k),.sh (T t),.ow (Z a),t_.1,t_.2.1,t_.2.2]) (fun t=>free1 t.1∧free1 t.2.1∧free1 t.2.2)
  (fun (a:List Int) p=>if pkB s cn k t p then Sum.inr (a++[pkV s c cn k (lidx t p)]) else Sum.inl (.tup [.tup [.str (nm 14),.int 0,.int k,.int 2],T t,.non])) (List.range (prodR t).toNat) (fun n a=>a.length=n) [] (.no,.no,.no) ⟨rfl,rfl,rfl⟩ rfl ?_
 ·rw [gS] at L
  have z0:D.lst []=Z []:=rfl
  unfold pkR
  by_cases q:(List.range (prodR t).toNat).all (pkB s cn k t)=true
  ·rw [if_pos q] at L ⊢
   obtain ⟨_,⟨t5,t6,t7⟩,_,L⟩:=L
   rw [List.nil_append] at L
   simp [lW,iT,ch0,z0,lc,er,L]
  ·rw [if_neg q] at L ⊢
   obtain ⟨s',⟨t5,t6,t7⟩,L⟩:=L
   simp [lW,iT,ch0,z0,lc,er,L]
 ·intro i q hq a t_ ht_ ha
  obtain ⟨rfl,hq⟩:=dL hq
  obtain ⟨t5,t6,t7⟩:=t_
  obtain ⟨h5,h6,h7⟩:=ht_
  dsimp only [free1] at h5 h6 h7
  have ps:=dH hsc.sd (by omega)
  have li:=eG t ps q
  have hi:=cF t q ps
  have ap:∀y:Int,appD (.int y) (Z a)=some (Z (a++[y])):=fun y=>gp _ _ (by omega)
  unfold pkB pkV
  generalize lidx t q=at_ at *
  have tl:t.length=s.length:=by rw [←htt,bO _ _ _ hk]
  have la:=hi.len
  have ix1:=aN at_ k (by omega) (by omega)
  simp only [Int.toNat_natCast] at ix1
  have g:=f9 k hi (by omega)
  have eg:t.getD k 0=m:=by rw [←htt];exact gk s k m hk
  rw [eg] at g
  have ixn:=aN cn (at_.getD k 0) g.1 (by omega)
  have en:cn.getD (at_.getD k 0).toNat 0=pkN cn k at_:=rfl
  rw [en] at ixn
  have n0:0≤pkN cn k at_:=by
   have:pkN cn k at_∈cn:=by
    unfold pkN
    have:(at_.getD k 0).toNat<cn.length:=by omega
    rw [List.getD_eq_getElem?_getD,List.getElem?_eq_getElem this]
    exact List.getElem_mem _
   exact (hr _ this).1
  have ch:=bS at_ k (pkN cn k at_) (by omega) (by omega)
  have mr:=di k m (pkN cn k at_) hk (by rw [htt];exact hi) n0
  by_cases h:pkN cn k at_<s.getD k 0
  ·obtain ⟨c1',c2'⟩:=fg s c _ hs.sd hl (mr h)
   simp only [h,decide_true,if_true]
   refine ⟨by simp [ha],(.sh (.int q),.sh (T at_),.sh (.int (pkN cn k at_))),⟨rfl,rfl,rfl⟩,?_⟩
   generalize at_.getD k 0=ak at *
   generalize pkN cn k at_=nk at *
   generalize s.getD k 0=sk at *
   have h':¬sk≤nk:=by omega
   simp [turn1,cI,h5,h6,h7,li,ix1,ixn,ixs,h',ch,c1',c2',ap]
  ·simp only [h,decide_false,Bool.false_eq_true,if_false]
   refine ⟨a,(.sh (.int q),.sh (T at_),.sh (.int (pkN cn k at_))),?_⟩
   generalize at_.getD k 0=ak at *
   generalize pkN cn k at_=nk at *
   generalize s.getD k 0=sk at *
   have h':sk≤nk:=by omega
   simp [turn1,cI,h5,h6,h7,li,ix1,ixn,ixs,h']
section
variable {S C:Nat→List Int} {k:Nat} {m:Int} (g:G3 S C) (hk:k<(S 0).length) (h1:∃x,S 1=rep (S 0) k x) (h2:S 2=[m])
include g hk
theorem mJ (b x:Int) (hx:Rt x):ci [.lst [gv 2,gv 0,gv 1,.tup [.str (nm 8),.int 0,.int k,.int b,.int x]],.lst [Tb (S 1) (C 1),Tb (S 2) (C 2),Tb (S 0) (C 0)]]=.ok (Tb (S 0) ((List.range (prodR (S 0)).toNat).map fun (p:Nat)=>shV (S 0) (C 0) k b x (lidx (S 0) p))) []:=by
 have q0:=(g.q 0 (by omega)).sc
 have l0:=g.l 0 (by omega)
 have hp:=q0.sd.prod
 have hn:a6 [.tup [.str (nm 8),.int 0,.int k,.int b,.int x]]=.ok (.lst ([0].map fun (a:Nat)=>D.int (a:Nat))) []:=kz 0 k b x
 have ht:bX [.tup [.str (nm 8),.int 0,.int k,.int b,.int x],Sl_ [S 0,S 1,S 2],Sl_ [S 1,S 2,S 0]]=.ok (T (S 0)) [Sl_ [S 0,S 1,S 2]]:=by
  have:=lN 0 k b x [S 0,S 1,S 2] [S 1,S 2,S 0] (S 0) rfl
  have e:ifB (hasB (S 0) k) (S 0)=some (S 0):=by simp [ifB,hasB,hk]
  rw [e] at this
  exact this
 have lk:=jB 3 8 (by omega) (by omega) [.int 0,.int k,.int b,.int x] [0] [S 0,S 1,S 2] [S 1,S 2,S 0] (S 0) hn (by simp) (by simp) (jG 0 k b x hx) (ku 0 k b x) ht q0
 have gd:∀p:Nat,(p:Int)<prodR (S 0)→shV (S 0) (C 0) k b x (idx (S 0) p)=shV (S 0) (C 0) k b x (lidx (S 0) p):=fun p hp=>by
  rw [cT (S 0) p (dH q0.sd (by omega)) (by omega) hp]
 have rt:∀a,Ix (S 0) a→Rt (shV (S 0) (C 0) k b x a):=fun a ha=>by
  unfold shV
  split
  ·rename_i h
   exact dR _ _ _ q0.sd l0 (g.r 0 (by omega)) (di k ((S 0).getD k 0) _ hk (by rw [dM _ _ hk];exact ha) h.1 h.2)
  ·exact hx
 refine plain4 _ [0] S C g (S 0) _ hn (by simp) lk fun ms tbs hms=>jD 8 (by omega) (by omega) (by omega) _ (S 0) _ ms tbs q0 (by simp;omega) (fun y hy=>?_) _ rfl fun p hp=>?_
 ·obtain ⟨p,hp',rfl⟩:=List.mem_map.mp hy
  have hq:=List.mem_range.mp hp'
  exact rt _ (cF _ _ (dH q0.sd (by omega)))
 ·have:=lm (S 0) (C 0) (idx (S 0) p) k b x hk q0.sd l0 (lf _ p q0.sd hp) ms (by simpa using hms 0 (by simp)) (T (S 0))
  rw [gd p hp] at this
  exact this
include h1
theorem nU (w:Nat) (hw:w<2) (hsc:Sc (rep (S w) k ((S 0).getD k 0+(S 1).getD k 0))):ci [.lst [gv 2,gv 0,gv 1,.tup [.str (nm 15),.int w,.int (1-w:Nat),.int k]],.lst [Tb (S 1) (C 1),Tb (S 2) (C 2),Tb (S 0) (C 0)]] =
  .ok (Tb (rep (S w) k ((S 0).getD k 0+(S 1).getD k 0)) ((List.range (prodR (rep (S w) k ((S 0).getD k 0+(S 1).getD k 0))).toNat).map fun (p:Nat)=>jnV (S w) (C w) (S (1-w)) (C (1-w)) k (lidx (rep (S w) k ((S 0).getD k 0+(S 1).getD k 0)) p))) []:=by
 obtain ⟨x1,hx1⟩:=h1
 have len1:(S 1).length=(S 0).length:=by rw [hx1,bO _ _ _ hk]
 have hw01:w=0∨w=1:=by omega
 have kw:∀j,j<2→k<(S j).length:=fun j hj=>by
  have:j=0∨j=1:=by omega
  rcases this with rfl | rfl<;>omega
 have rr:∀j,j<2→∀y,rep (S j) k y=rep (S 0) k y:=fun j hj y=>by
  have:j=0∨j=1:=by omega
  rcases this with rfl | rfl
  ·rfl
  ·rw [hx1,jQ _ _ _ _ hk]
 have ww:∀j,j<2→wo (S j) k=wo (S 0) k:=fun j hj=>by
  have:j=0∨j=1:=by omega
  rcases this with rfl | rfl
  ·rfl
  ·rw [hx1,qm _ _ _ hk]
 have sum:(S w).getD k 0+(S (1-w)).getD k 0=(S 0).getD k 0+(S 1).getD k 0:=by
  rcases hw01 with rfl | rfl<;>simp<;>omega
 have qw:=(g.q w (by omega)).sc
 have qv:=(g.q (1-w) (by omega)).sc
 have lw:=g.l w (by omega)
 have lv:=g.l (1-w) (by omega)
 have lenw:(S w).length=(S (1-w)).length:=by rcases hw01 with rfl | rfl<;>simp<;>omega
 have hn:a6 [.tup [.str (nm 15),.int w,.int (1-w:Nat),.int k]]=.ok (.lst ([w,1-w].map fun (a:Nat)=>D.int (a:Nat))) []:=ly w (1-w:Nat) k
 have ht:bX [.tup [.str (nm 15),.int w,.int (1-w:Nat),.int k],Sl_ [S 0,S 1,S 2],Sl_ [S 1,S 2,S 0]]=.ok (T (rep (S w) k ((S 0).getD k 0+(S 1).getD k 0))) [Sl_ [S 0,S 1,S 2]]:=by
  have:=nH w (1-w) k [S 0,S 1,S 2] [S 1,S 2,S 0] (S w) (S (1-w)) (ss3 S w (by omega)) (ss3 S (1-w) (by omega)) qw.sd.len
  have e:joinO (S w) (S (1-w)) k=some (rep (S w) k ((S 0).getD k 0+(S 1).getD k 0)):=by
   unfold joinO
   rw [if_pos ⟨by simp [hasB,kw w hw],lenw,by simp only [Int.toNat_natCast];rw [ww w hw,ww (1-w) (by omega)]⟩]
   simp only [Int.toNat_natCast]
   rw [sum]
  rw [e] at this
  exact this
 obtain ⟨t,htt⟩:∃t,rep (S w) k ((S 0).getD k 0+(S 1).getD k 0)=t:=⟨_,rfl⟩
 have hu:rep (S w) k ((S w).getD k 0+(S (1-w)).getD k 0)=t:=by rw [sum];exact htt
 rw [htt] at hsc ht ⊢
 have hp:=hsc.sd.prod
 have lk:=jB 3 15 (by omega) (by omega) [.int w,.int (1-w:Nat),.int k] [w,1-w] [S 0,S 1,S 2] [S 1,S 2,S 0] t hn (by simp) (fun a ha=>by simp at ha;simp;omega) (fO 15 (by omega) (by omega) (by omega) _) (lh w (1-w:Nat) k) ht hsc
 have rt:∀a,Ix t a→Rt (jnV (S w) (C w) (S (1-w)) (C (1-w)) k a):=fun a ha=>by
  obtain ⟨j1,j2⟩:=jA (S w) (S (1-w)) a k (kw w hw) (fun y=>(rr _ (by omega) y).trans (rr w hw y).symm) (kw _ (by omega)) (by rw [hu];exact ha)
  unfold jnV
  split
  ·rename_i h;exact dR _ _ _ qw.sd lw (g.r w (by omega)) (j1 h)
  ·rename_i h;exact dR _ _ _ qv.sd lv (g.r (1-w) (by omega)) (j2 h)
 refine plain4 _ [w,1-w] S C g t _ hn (fun a ha=>by simp at ha;omega) lk fun ms tbs hms=>jD 15 (by omega) (by omega) (by omega) _ t _ ms tbs hsc (by simp;omega) (fun y hy=>?_) _ rfl fun p hp=>?_
 ·obtain ⟨p,hp',rfl⟩:=List.mem_map.mp hy
  have hq:=List.mem_range.mp hp'
  exact rt _ (cF _ _ (dH hsc.sd (by omega)))
 ·have:=mZ w (1-w:Nat) (S w) (C w) (S (1-w)) (C (1-w)) (idx t p) k (kw w hw) (fun y=>(rr _ (by omega) y).trans (rr w hw y).symm) (kw _ (by omega)) qw.sd qv.sd lw lv (by rw [hu];exact lf _ p hsc.sd hp) ms (hms w (by simp)) (hms (1-w) (by simp)) (T t)
  rw [cT t p (dH hsc.sd (by omega)) (by omega) hp] at this
  rw [cT t p (dH hsc.sd (by omega)) (by omega) hp]
  exact this
omit h1 in
include h2 in
theorem nV (hm:0≤m∧m≤64) (hsc:Sc (rep (S 0) k m)):(pkR (S 0) (C 0) (C 2) k (rep (S 0) k m)=.non∧ci [.lst [gv 2,gv 0,gv 1,.tup [.str (nm 14),.int 0,.int k,.int 2]],.lst [Tb (S 1) (C 1),Tb (S 2) (C 2),Tb (S 0) (C 0)]]=.exc NC []) ∨
  ∃cs,pkR (S 0) (C 0) (C 2) k (rep (S 0) k m)=Z cs∧ci [.lst [gv 2,gv 0,gv 1,.tup [.str (nm 14),.int 0,.int k,.int 2]],.lst [Tb (S 1) (C 1),Tb (S 2) (C 2),Tb (S 0) (C 0)]]=.ok (Tb (rep (S 0) k m) cs) []:=by
 have q0:=(g.q 0 (by omega)).sc
 have l0:=g.l 0 (by omega)
 have l2:((C 2).length:Int)=m:=by have:=g.l 2 (by omega);rw [h2] at this;simpa [prodR] using this
 have r2:=g.r 2 (by omega)
 have hn:a6 [.tup [.str (nm 14),.int 0,.int k,.int 2]]=.ok (.lst ([0,2].map fun (a:Nat)=>D.int (a:Nat))) []:=lz 0 k 2
 have ht:bX [.tup [.str (nm 14),.int 0,.int k,.int 2],Sl_ [S 0,S 1,S 2],Sl_ [S 1,S 2,S 0]]=.ok (T (rep (S 0) k m)) [Sl_ [S 0,S 1,S 2]]:=by
  have:=nI 0 2 k [S 0,S 1,S 2] [S 1,S 2,S 0] (S 0) (S 2) rfl rfl q0.sd.len
  have e:pickO (S 0) k (S 2)=some (rep (S 0) k m):=by
   unfold pickO
   rw [h2,if_pos ⟨by simp [hasB,hk],rfl⟩]
   simp
  rw [e] at this
  exact this
 obtain ⟨t,htt⟩:∃t,rep (S 0) k m=t:=⟨_,rfl⟩
 have mp:=fun (p:Nat) (hp:(p:Int)<prodR t) (ms:List D) (hms:∀a∈[0,2],ixD ms ((a:Nat):Int)=some (Tb (S a) (C a)))=>m6 (S 0) (C 0) (C 2) (idx t p) k m hk q0.sd l0 hm l2 r2 (by rw [htt];exact lf t p (by rw [←htt];exact hsc.sd) hp) ms (by simpa using hms 0 (by simp)) (by have:=hms 2 (by simp);rw [h2] at this;simpa using this) (T t)
 rw [htt] at hsc ht ⊢
 have hp:=hsc.sd.prod
 have lk:=jB 3 14 (by omega) (by omega) [.int 0,.int k,.int 2] [0,2] [S 0,S 1,S 2] [S 1,S 2,S 0] t hn (by simp) (by simp) (fO 14 (by omega) (by omega) (by omega) _) (ll 0 k 2) ht hsc
 have li:∀p:Nat,(p:Int)<prodR t→idx t p=lidx t p:=fun p hp=>cT t p (dH hsc.sd (by omega)) (by omega) hp
 unfold pkR
 by_cases q:(List.range (prodR t).toNat).all (pkB (S 0) (C 2) k t)=true
 ·rw [if_pos q]
  rw [List.all_eq_true] at q
  have ok:∀p:Nat,(p:Int)<prodR t→pkN (C 2) k (lidx t p)<(S 0).getD k 0:=fun p hp=>by
   have:=q p (by simp;omega)
   simpa [pkB] using this
  refine .inr ⟨_,rfl,plain4 _ [0,2] S C g t _ hn (by simp) lk fun ms tbs hms=>jD 14 (by omega) (by omega) (by omega) _ t _ ms tbs hsc (by simp;omega) (fun y hy=>?_) _ rfl fun p hp=>?_⟩
  ·obtain ⟨p,hp',rfl⟩:=List.mem_map.mp hy
   have hq:=List.mem_range.mp hp'
   have hp2:(p:Int)<prodR t:=by omega
   have pc:=(fC (S 0) (C 0) (C 2) (lidx t p) k m hk q0.sd l0 hm l2 r2 (by rw [htt];exact cF _ _ (dH hsc.sd (by omega)))).2 (ok p hp2)
   exact dR _ _ _ q0.sd l0 (g.r 0 (by omega)) pc.1
  ·have:=(mp p hp ms hms).2 (by rw [li p hp];exact ok p hp)
   rw [li p hp] at this ⊢
   exact this
 ·rw [if_neg q]
  refine .inl ⟨rfl,?_⟩
  have ex:∃p0:Nat,(p0:Int)<prodR t∧(S 0).getD k 0≤pkN (C 2) k (lidx t p0)∧∀p:Nat,p<p0→pkN (C 2) k (lidx t p)<(S 0).getD k 0:=by
   have:∀n:Nat,(∀p:Nat,p<n→pkN (C 2) k (lidx t p)<(S 0).getD k 0)∨∃p0:Nat,p0<n∧(S 0).getD k 0≤pkN (C 2) k (lidx t p0)∧∀p:Nat,p<p0→pkN (C 2) k (lidx t p)<(S 0).getD k 0:=by
    intro n
    induction n with
    | zero=>exact .inl fun p hp=>by omega
    | succ n ih =>
     rcases ih with h | ⟨p0,a,b,c⟩
     ·by_cases z:pkN (C 2) k (lidx t n)<(S 0).getD k 0
      ·refine .inl fun p hp=>?_
       by_cases e:p=n
       ·subst e;exact z
       ·exact h p (by omega)
      ·exact .inr ⟨n,by omega,by omega,h⟩
     ·exact .inr ⟨p0,by omega,b,c⟩
   rcases this (prodR t).toNat with h | ⟨p0,a,b,c⟩
   ·exfalso
    apply q
    rw [List.all_eq_true]
    intro p hp'
    have:=h p (by simpa using hp')
    simpa [pkB] using this
   ·exact ⟨p0,by omega,b,c⟩
  obtain ⟨p0,a1,a2,a3⟩:=ex
  refine plain4x _ [0,2] S C g t hn (by simp) lk fun ms tbs hms=>ph 14 (by omega) (by omega) (by omega) _ t ms tbs hsc (fun p=>pkV (S 0) (C 0) (C 2) k (lidx t p)) p0 a1 (fun p hp=>?_) ?_
  ·have hp2:(p:Int)<prodR t:=by omega
   have:=(mp p hp2 ms hms).2 (by rw [li p hp2];exact a3 p hp)
   rw [li p hp2] at this ⊢
   exact this
  ·exact (mp p0 a1 ms hms).1 (by rw [li p0 a1];exact a2)
end
def sid15 (ns:List Int):List Int:=if ownS ns 1=[] then [2] else ownS ns 1
theorem u0 (ns:List Int):Q4 (sid15 ns)∧0<(sid15 ns).length∧prodR (sid15 ns)≤64:=by
 unfold sid15
 split
 ·exact ⟨⟨by simp,fun x hx=>by simp at hx;omega⟩,by simp,by simp [prodR]⟩
 ·rename_i h
  exact ⟨⟨(pM ns 1).1.sd.len,pL ns 1⟩,List.length_pos_iff.mpr h,(pM ns 1).2⟩
theorem gB (x:Int) (n:Nat) (h:0<n):∃k:Nat,x % (n:Int)=k∧k<n:=by
 have a:=Int.emod_nonneg x (show (n:Int)≠0 by omega)
 have b:=Int.emod_lt_of_pos x (show (0:Int)<n by omega)
 exact ⟨(x % (n:Int)).toNat,by omega,by omega⟩
theorem uh {s:List Int} (h:Q4 s) (k:Nat) (hk:k<s.length) (x:Int) (hx:0≤x∧x≤4):Q4 (rep s k x):=⟨by rw [bO _ _ _ hk];exact h.len,fun y hy=>by
 rcases mE hy with e | e
 ·omega
 ·exact h.bd y e⟩
theorem kI:∀(s:List Int) (k:Nat) (x:Int),k<s.length→prodR (rep s k x)=x*prodR (wo s k)
 | [],k,_,h=>by simp at h
 | y::s,0,x,_=>by simp [rep,wo,prodR]
 | y::s,k+1,x,h=>by
  have e1:rep (y::s) (k+1) x=y::rep s k x:=by simp [rep]
  have e2:wo (y::s) (k+1)=y::wo s k:=by simp [wo]
  rw [e1,e2]
  simp only [prodR]
  rw [kI s k x (by simpa using h),←Int.mul_assoc,Int.mul_comm y x,Int.mul_assoc]
theorem p8 {s:List Int} (h:Q4 s) (k:Nat) (hk:k<s.length) (x:Int) (hx:0≤x∧x≤8):Sc (rep s k x):=by
 have l:=h.len
 refine ⟨⟨by rw [bO _ _ _ hk];exact l,fun y hy=>?_⟩,?_⟩
 ·rcases mE hy with e | e
  ·omega
  ·have:=h.bd y e;omega
 ·rw [kI s k x hk]
  have w4:=prod4 (wo s k) fun y hy=>by
   rcases List.mem_append.mp hy with hy | hy
   ·exact h.bd y (List.mem_of_mem_take hy)
   ·exact h.bd y (List.mem_of_mem_drop hy)
  have l3:(wo s k).length≤3:=by simp [wo];omega
  have:(4:Int) ^ (wo s k).length≤64:=by
   generalize (wo s k).length=n at *
   match n,l3 with
   | 0,_=>decide
   | 1,_=>decide
   | 2,_=>decide
   | 3,_=>decide
  have:x*prodR (wo s k)≤8*64:=Int.mul_le_mul hx.2 (by omega) w4.1 (by omega)
  omega
theorem qO (ns:List Int) (q:Nat) (cs:List Int) (hr:Rts cs) (hl:cs.length≤4) (rest:List Sl) (x0:Sl):∃cn q',nestIn 1 bu 4 3 1000003 cs (x0::.ow (Row ns q)::rest)=.ok cn (x0::.ow (Row ns q')::rest)∧cn.length=cs.length∧Rts cn:=by
 by_cases h0:cs=[]
 ·refine ⟨cs,q,?_,rfl,hr⟩
  unfold nestIn
  rw [if_pos h0];rfl
 ·have hp:0<cs.length:=List.length_pos_iff.mpr h0
  have t0:=aZ ns q 4 (by omega)
  have t1:=aZ ns (q+1) 1000003 (by omega)
  obtain ⟨k,hk,hkl⟩:=gB (cell ns (q+2)) cs.length hp
  have t2:=aZ ns (q+2) (cs.length:Int) (by omega)
  rw [hk] at t2
  have ap:∀(q:Nat) (n v:Int),bu [Row ns q,.int n]=.ok (.int v) [Row ns (q+1)]→mApp bu [.io 1,.val (.int n)] (x0::.ow (Row ns q)::rest)=.ok (.int v) (x0::.ow (Row ns (q+1))::rest):=fun q n v h=>by
   simp [mApp,avs,own,ioSl,h,putAll,putS]
  rw [nb _ _ _ _ _ _ _ h0,ap q 4 _ t0]
  simp only [aC,gV]
  by_cases h3:cell ns q % 4=3
  ·rw [if_pos h3,ap (q+1) 1000003 _ t1]
   simp only [aC,gV]
   rw [ap (q+1+1) _ _ t2]
   simp only [aC,gV]
   have ix:ixP cs.length (k:Int)=some k:=by unfold ixP;rw [if_pos (by omega),if_pos (by omega)];simp
   rw [ix]
   refine ⟨cs.set k (cell ns (q+1) % 1000003),q+3,rfl,by simp,fun y hy=>?_⟩
   rcases List.mem_or_eq_of_mem_set hy with h | rfl
   ·exact hr y h
   ·exact ⟨by omega,by omega⟩
  ·rw [if_neg h3]
   exact ⟨cs,q+1,rfl,rfl,hr⟩
theorem rD {S C:Nat→List Int} {k:Nat} {m:Int} (g:G3 S C) (hk:k<(S 0).length) (h1:∃x,(0≤x∧x≤4)∧S 1=rep (S 0) k x) (h2:S 2=[m]) (hm:0≤m∧m≤4) (ns:List Int) (q:Nat) (w:Int) (hw:0≤w∧w<3) (x0:Sl) :
  fin [false] (cW [x0,.ow (Row ns q),.sh (.int w),.sh (T (S 0)),.sh (.int k),.sh (.lst [T (S 0),T (S 1),T (S 2)]),.ow (.lst [Z (C 0),Z (C 1),Z (C 2)]),.no,.no,.no])=.ok (.bl true) []:=by
 have q0:=g.q 0 (by omega)
 have l0:=g.l 0 (by omega)
 have l2:((C 2).length:Int)=m:=by have:=g.l 2 (by omega);rw [h2] at this;simpa [prodR] using this
 obtain ⟨x1,hx1,hS1⟩:=h1
 have pscA:=p8 q0 k hk m (by omega)
 have lp:=pe (S 0) (C 0) (C 2) (S 1) (C 1) k m hk q0.sc l0 (by omega) l2 (g.r 2 (by omega)) pscA
 rw [←h2] at lp
 have tabs:∀(r1:Sl) (r7:Sl),mComp 2 (mZip [(mVar 5),(mVar 6)]) (VP.gTup [10,11]) (VP.ret true) gz [x0,r1,.sh (.int w),.sh (T (S 0)),.sh (.int k),.sh (.lst [T (S 0),T (S 1),T (S 2)]),.sh (.lst [Z (C 0),Z (C 1),Z (C 2)]),r7,.no,.no]
   = .ok (.lst [Tb (S 0) (C 0),Tb (S 1) (C 1),Tb (S 2) (C 2)]) [x0,r1,.sh (.int w),.sh (T (S 0)),.sh (.int k),.sh (.lst [T (S 0),T (S 1),T (S 2)]),.sh (.lst [Z (C 0),Z (C 1),Z (C 2)]),r7,.no,.no]:=fun r1 r7 =>
  compM2 (fun (j:Nat)=>T (S j)) (fun j=>Z (C j)) (fun j=>Tb (S j) (C j)) [0,1,2] (by simp [zipL]) (by simp) rfl (fun j hj acc=>by
   have j3:j<3:=by simp at hj;omega
   have nw:=fun r=>fR (T (S j)) (Z (C j)) (S j) (C j) (by simp) (by simp) (g.q j j3).sc (g.l j j3) (g.r j j3) r
   simp [gz,nw])
 have c1:∀a b c:D,cutA (.lst [a,b,c]) (some 1) none=some (.lst [b,c]):=fun _ _ _=>rfl
 have c2:∀a b c:D,cutA (.lst [a,b,c]) none (some 1)=some (.lst [a]):=fun _ _ _=>rfl
 have ad:∀a b c:D,addA (.lst [b,c]) (.lst [a])=some (.lst [b,c,a]):=fun _ _ _=>rfl
 have l4:∀a b c d:D,lstD [a,b,c,d]=some (.lst [a,b,c,d]):=fun _ _ _ _=>rfl
 have nz:∀cs:List Int,isNon (Z cs)=false:=fun _=>rfl
 have ndN:isNon .non=true:=rfl
 have hw3:w=0∨w=1∨w=2:=by omega
 rcases hw3 with rfl | rfl | rfl
 ·rcases nV g hk h2 (by omega) pscA with ⟨e,pa⟩ | ⟨cs,e,pa⟩
  ·rw [e] at lp
   have rf:=lI _ _ pa
   simp only [gv] at rf
   simp [cW,lp,tabs,c1,c2,ad,l4,ndN,rf]
  ·rw [e] at lp
   simp only [gv] at pa
   have it:=dA (rep (S 0) k m) cs
   simp [cW,lp,tabs,c1,c2,ad,l4,nz,pa,it]
 ·obtain ⟨b,x,hx,ls⟩:=mY ns q (S 0) (C 0) k hk q0.sc l0
  have pa:=mJ g hk b x hx
  simp only [gv] at pa
  have it:=dA (S 0) ((List.range (prodR (S 0)).toNat).map fun (p:Nat)=>shV (S 0) (C 0) k b x (lidx (S 0) p))
  generalize ((List.range (prodR (S 0)).toNat).map fun (p:Nat)=>shV (S 0) (C 0) k b x (lidx (S 0) p))=cs at *
  simp [cW,lp,ls,tabs,c1,c2,ad,l4,nz,pa,it]
 ·obtain ⟨w,hw,hwl⟩:=gB (cell ns q) 2 (by omega)
  have t0:=aZ ns q 2 (by omega)
  have e2:((2:Nat):Int)=2:=rfl
  rw [e2] at hw
  rw [hw] at t0
  have len1:(S 1).length=(S 0).length:=by rw [hS1,bO _ _ _ hk]
  have j01:∀j,j<2→j=0∨j=1:=fun j hj=>by omega
  have kk:∀j,j<2→k<(S j).length:=fun j hj=>by rcases j01 j hj with rfl | rfl<;>omega
  have rr:∀j,j<2→∀y,rep (S j) k y=rep (S 0) k y:=fun j hj y=>by
   rcases j01 j hj with rfl | rfl
   ·rfl
   ·rw [hS1,jQ _ _ _ _ hk]
  have b0:=q0.bd ((S 0).getD k 0) (by simp [hk])
  have b1:(S 1).getD k 0=x1:=by rw [hS1,gk _ _ _ hk]
  have hsc:Sc (rep (S w) k ((S 0).getD k 0+(S 1).getD k 0)):=by
   rw [rr w hwl]
   exact p8 q0 k hk _ (by omega)
  have lj:=o0 (Row ns q) (Row ns (q+1)) w hwl t0 S C k kk (fun i j hi hj y=>(rr i hi y).trans (rr j hj y).symm) (fun j hj=>(g.q j (by omega)).sc.sd) (fun j hj=>g.l j (by omega)) hsc
  have pa:=nU g hk ⟨x1,hS1⟩ w hwl hsc
  simp only [gv] at pa
  have it:=dA (rep (S w) k ((S 0).getD k 0+(S 1).getD k 0)) ((List.range (prodR (rep (S w) k ((S 0).getD k 0+(S 1).getD k 0))).toNat).map fun (p:Nat)=>jnV (S w) (C w) (S (1-w)) (C (1-w)) k (lidx (rep (S w) k ((S 0).getD k 0+(S 1).getD k 0)) p))
  generalize ((List.range (prodR (rep (S w) k ((S 0).getD k 0+(S 1).getD k 0))).toNat).map fun (p:Nat)=>jnV (S w) (C w) (S (1-w)) (C (1-w)) k (lidx (rep (S w) k ((S 0).getD k 0+(S 1).getD k 0)) p))=cs at *
  generalize rep (S w) k ((S 0).getD k 0+(S 1).getD k 0)=t at *
  simp [cW,lp,lj,tabs,c1,c2,ad,l4,nz,pa,it]
theorem law_at (ns:List Int):iZ [Z ns]=.ok (.bl true) []:=by
 rw [iZ,am _ _ _ _ rfl]
 have r0:D.lst [Z ns,.int 0]=Row ns 0:=rfl
 have t0:=aZ ns 0 3 (by omega)
 have oa:=tM ns 1
 have e1:eqG (T (ownS ns 1)) (.tup [])=some (.bl (decide (ownS ns 1=[]))):=vW (ownS ns 1) []
 obtain ⟨q4,spos,s64⟩:=u0 ns
 generalize hq:ownE ns 1=q at *
 obtain ⟨s,hs⟩:∃s,sid15 ns=s:=⟨_,rfl⟩
 rw [hs] at q4 spos s64
 obtain ⟨k,hk,hkl⟩:=gB (cell ns q) s.length spos
 have t1:=aZ ns q (s.length:Int) (by omega)
 rw [hk] at t1
 have t2:=aZ ns (q+1) 4 (by omega)
 have t3:=aZ ns (q+2) 5 (by omega)
 obtain ⟨x1,hx1,x10⟩:∃x1,cell ns (q+1) % 4=x1∧0≤x1∧x1≤4:=⟨_,rfl,by omega,by omega⟩
 obtain ⟨m,hm,hm0⟩:∃m,cell ns (q+2) % 5=m∧0≤m∧m≤4:=⟨_,rfl,by omega,by omega⟩
 rw [hx1] at t2
 rw [hm] at t3
 have ch:=bS s k x1 hkl (by have:=q4.len;omega)
 obtain ⟨s1,hs1⟩:∃s1,rep s k x1=s1:=⟨_,rfl⟩
 have q41:Q4 s1:=by rw [←hs1];exact uh q4 k hkl x1 x10
 have q42:Q4 [m]:=⟨by simp,fun y hy=>by simp at hy;omega⟩
 rw [hs1] at ch
 have n0:=dE ns (q+3) s q4.sc
 have n1:=dE ns (q+4) s1 q41.sc
 have n2:=dE ns (q+5) [m] q42.sc
 have ln:∀(q:Nat) (s:List Int),Sc s→((numS ns q (prodR s).toNat).length:Int)=prodR s:=fun q s sc=>by
  have:=sc.sd.prod
  simp [numS];omega
 have ln0:=ln (q+3) s q4.sc
 have ln1:=ln (q+4) s1 q41.sc
 have ln2:=ln (q+5) [m] q42.sc
 have nr0:=mq ns (q+3) (prodR s).toNat
 have nr1:=mq ns (q+4) (prodR s1).toNat
 generalize numS ns (q+3) (prodR s).toNat=c0 at *
 generalize numS ns (q+4) (prodR s1).toNat=c1 at *
 generalize numS ns (q+5) (prodR [m]).toNat=c2 at *
 have lm2:(c2.length:Int)=m:=by simpa [prodR] using ln2
 have cc:∀(w:Int),mComp 1 (mSeq (mVar 5)) (VP.gName 10) (VP.ret true) gx [.sh (Z ns),.ow (Row ns (q+3)),.sh (.int w),.sh (T s),.sh (.int k),.sh (.lst [T s,T s1,T [m]]),.no,.no,.no,.no]=.ok (.lst [Z c0,Z c1,Z c2]) [.sh (Z ns),.ow (Row ns (q+6)),.sh (.int w),.sh (T s),.sh (.int k),.sh (.lst [T s,T s1,T [m]]),.no,.no,.no,.no]:=fun w=>by
  simp [bL,dz,cU,fw,gx,n0,n1,n2,bR]
 have m4:∀i:Int,modI (.int i) (.int 4)=some (.int (i % 4)):=fun i=>cr _ _ (by omega)
 have c4:∀(w:Int),mComp 1 (mSeq (mIxO 6 (mC (.int 2)))) (VP.gName 10) (VP.ret true) gy [.sh (Z ns),.ow (Row ns (q+6)),.sh (.int w),.sh (T s),.sh (.int k),.sh (.lst [T s,T s1,T [m]]),.ow (.lst [Z c0,Z c1,Z c2]),.no,.no,.no]=.ok (Z (c2.map (· % 4))) [.sh (Z ns),.ow (Row ns (q+6)),.sh (.int w),.sh (T s),.sh (.int k),.sh (.lst [T s,T s1,T [m]]),.ow (.lst [Z c0,Z c1,Z c2]),.no,.no,.no]:=fun w =>
  compM D.int (fun i=>D.int (i % 4)) c2 (by simp) (by omega) (by simp [Z,Function.comp_def]) fun i hi acc=>by simp [gy,m4]
 have rt4:Rts (c2.map (· % 4)):=fun y hy=>by
  obtain ⟨i,_,rfl⟩:=List.mem_map.mp hy
  exact ⟨by omega,by omega⟩
 obtain ⟨cn,q',ne,cnl,cnr⟩:=qO ns (q+6) (c2.map (· % 4)) rt4 (by simp;omega) [.sh (.int (cell ns 0 % 3)),.sh (T s),.sh (.int k),.sh (.lst [T s,T s1,T [m]]),.no,.no,.no,.no] (.sh (Z ns))
 rw [List.length_map] at cnl
 have G:G3 (fun j=>if j=0 then s else if j=1 then s1 else [m]) (fun j=>if j=0 then c0 else if j=1 then c1 else cn):=⟨fun j hj=>?_,fun j hj=>?_,fun j hj=>?_⟩
 ·have tl:=rD G (k:=k) (m:=m) (by simpa using hkl) ⟨x1,x10,by simp [hs1]⟩ (by simp) hm0 ns q' (cell ns 0 % 3) (by omega) (.sh (Z ns))
  simp only [if_true,if_false,reduceIte,show ¬(1:Nat)=0 by decide,show ¬(2:Nat)=0 by decide,show ¬(2:Nat)=1 by decide] at tl
  have t1':D.tup [.int m]=T [m]:=rfl
  have l3:∀a b c:D,lstD [a,b,c]=some (.lst [a,b,c]):=fun _ _ _=>rfl
  have zn:D.lst (cn.map .int)=Z cn:=rfl
  by_cases ho:ownS ns 1=[]
  ·have e3:D.tup [.int 2]=T s:=by rw [←hs];unfold sid15;rw [if_pos ho];rfl
   have e1':eqG (T (ownS ns 1)) (.tup [])=some (.bl true):=by rw [e1];simp [ho]
   simp [lS,r0,t0,oa,e1',e3,t1,t2,t3,ch,t1',l3,cc,kM,c4,me,nestGet,ne,zn,tl]
  ·have e3:T (ownS ns 1)=T s:=by rw [←hs];unfold sid15;rw [if_neg ho]
   have e1':eqG (T s) (.tup [])=some (.bl false):=by rw [←e3,e1];simp [ho]
   rw [e3] at oa
   simp [lS,r0,t0,oa,e1',t1,t2,t3,ch,t1',l3,cc,kM,c4,me,nestGet,ne,zn,tl]
 all_goals
  have:j=0∨j=1∨j=2:=by omega
  rcases this with rfl | rfl | rfl
 all_goals simp
 all_goals first | assumption | skip
 all_goals (rw [cnl];simpa [prodR] using lm2)
end LW

end
section
set_option Elab.async false
set_option maxRecDepth 100000
set_option maxHeartbeats 4000000
set_option linter.all false
namespace LW
open PySem PySem.Spec PyProof.Rows L2 VP VS
seal PVSs PVS PV PB PBW PF PLs PAs PR PVG PVI PVGs PTs PVSs0 PVS0 PVSN PVSN1 PVSK PVSJ PVSM PVN PFN
def top (i:Nat):Stmt:=PySem.Challenge.pw_loomarrays_k15_shifts_joins_picks.main.body.getD i (.Pass ⟨0,0,0,0⟩)
set_option genInjectivity false in
set_option genSizeOf false in
structure Adr where
 a_z3:Addr
 fd_z3:FuncData
 a_z8:Addr
 fd_z8:FuncData
 a_z35:Addr
 fd_z35:FuncData
 a_z1:Addr
 fd_z1:FuncData
 a_z12:Addr
 fd_z12:FuncData
 a_z24:Addr
 fd_z24:FuncData
 a_z17:Addr
 fd_z17:FuncData
 a_z14:Addr
 fd_z14:FuncData
 a_z11:Addr
 fd_z11:FuncData
 a_z13:Addr
 fd_z13:FuncData
 a_z20:Addr
 fd_z20:FuncData
 a_z23:Addr
 fd_z23:FuncData
 a_z15:Addr
 fd_z15:FuncData
 a_z16:Addr
 fd_z16:FuncData
 a_z18:Addr
 fd_z18:FuncData
 a_z19:Addr
 fd_z19:FuncData
 a_z4:Addr
 fd_z4:FuncData
 a_z27:Addr
 fd_z27:FuncData
 a_z26:Addr
 fd_z26:FuncData
 a_z31:Addr
 fd_z31:FuncData
 a_z5:Addr
 fd_z5:FuncData
 a_z33:Addr
 fd_z33:FuncData
 a_z45:Addr
 fd_z45:FuncData
 a_z10:Addr
 fd_z10:FuncData
 a_z29:Addr
 fd_z29:FuncData
 a_z39:Addr
 fd_z39:FuncData
 a_z38:Addr
 fd_z38:FuncData
 a_z36:Addr
 fd_z36:FuncData
 a_z37:Addr
 fd_z37:FuncData
 a_z41:Addr
 fd_z41:FuncData
 a_z30:Addr
 fd_z30:FuncData
 a_z0:Addr
 fd_z0:FuncData
 a_z9:Addr
 fd_z9:FuncData
 a_z28:Addr
 fd_z28:FuncData
 a_z34:Addr
 fd_z34:FuncData
 a_z40:Addr
 fd_z40:FuncData
 a_z43:Addr
 fd_z43:FuncData
 a_z2:Addr
 fd_z2:FuncData
 a_z6:Addr
 fd_z6:FuncData
 a_z7:Addr
 fd_z7:FuncData
 a_z42:Addr
 fd_z42:FuncData
 a_z44:Addr
 fd_z44:FuncData
 a_z32:Addr
 fd_z32:FuncData
 a_z21:Addr
 fd_z21:FuncData
 a_z22:Addr
 fd_z22:FuncData
 a_law:Addr
 fd_law:FuncData
 c_Table:Addr
 c_BadLine:Addr
 c_LoomError:Addr
 c_NoCell:Addr
 c_NoTable:Addr
 c_NoText:Addr
structure Txt (w:World) (K:Frag) (mg:MG) (a:Adr):Prop where
 b_ValueError:mg "ValueError" = none
 b_all:mg "all" = none
 b_bool:mg "bool" = none
 b_enumerate:mg "enumerate" = none
 b_int:mg "int" = none
 b_isinstance:mg "isinstance" = none
 b_len:mg "len" = none
 b_list:mg "list" = none
 b_max:mg "max" = none
 b_range:mg "range" = none
 b_reversed:mg "reversed" = none
 b_sum:mg "sum" = none
 b_tuple:mg "tuple" = none
 b_zip:mg "zip" = none
 g_DEEDS:TabT w K mg "DEEDS" d8 iM
 g_FORMS:TabT w K mg "FORMS" bD mI
 g_LONGEST_SIDE:GlF mg "LONGEST_SIDE" (.int 64)
 g_MOST_CELLS:GlF mg "MOST_CELLS" (.int 4096)
 g_MOST_LINES:GlF mg "MOST_LINES" (.int 40)
 g_MOST_SIDES:GlF mg "MOST_SIDES" (.int 4)
 g_REST:GlF mg "REST" (.int 1000003)
 d_z3:DefF K mg "cells_in" (top 27) ["sides"] a.a_z3 a.fd_z3
 d_z8:DefF K mg "is_rest" (top 3) ["number"] a.a_z8 a.fd_z8
 d_z35:DefF K mg "sides_can_be" (top 26) ["sides"] a.a_z35 a.fd_z35
 d_z12:DefF K mg "_law_changed" (top 76) ["_law_sides", "_law_side", "_law_size"] a.a_z12 a.fd_z12
 d_z24:DefF K mg "_law_whole" (top 70) ["_law_found"] a.a_z24 a.fd_z24
 d_z17:DefF K mg "_law_numbers" (top 71) ["_law_found", "_law_due"] a.a_z17 a.fd_z17
 d_z14:DefF K mg "_law_is_table" (top 75) ["_law_found", "_law_sides", "_law_cells_here"] a.a_z14 a.fd_z14
 d_z11:DefF K mg "_law_cells" (top 72) ["_law_sides"] a.a_z11 a.fd_z11
 d_z13:DefF K mg "_law_index" (top 73) ["_law_sides", "_law_place_here"] a.a_z13 a.fd_z13
 d_z20:DefF K mg "_law_place" (top 74) ["_law_sides", "_law_at"] a.a_z20 a.fd_z20
 d_z23:DefF K mg "_law_taken" (top 69) ["_law_row", "_law_many"] a.a_z23 a.fd_z23
 d_z15:DefF K mg "_law_join" (top 80) ["_law_row", "_law_some", "_law_cells_here", "_law_side"] a.a_z15 a.fd_z15
 d_z16:DefF K mg "_law_numbered" (top 78) ["_law_row", "_law_sides"] a.a_z16 a.fd_z16
 d_z18:DefF K mg "_law_own" (top 77) ["_law_row"] a.a_z18 a.fd_z18
 d_z19:DefF K mg "_law_pick" (top 81) ["_law_some", "_law_cells_here", "_law_side"] a.a_z19 a.fd_z19
 d_z4:DefF K mg "deed_is_known" (top 19) ["line"] a.a_z4 a.fd_z4
 d_z27:DefF K mg "number_is_cell" (top 42) ["line"] a.a_z27 a.fd_z27
 d_z26:DefF K mg "named_by" (top 18) ["line"] a.a_z26 a.fd_z26
 d_z31:DefF K mg "places_are_there" (top 41) ["line", "lines_ahead", "tables"] a.a_z31 a.fd_z31
 d_z5:DefF K mg "has_side" (top 45) ["sides", "side"] a.a_z5 a.fd_z5
 d_z33:DefF K mg "replaced" (top 36) ["row", "side", "number"] a.a_z33 a.fd_z33
 d_z45:DefF K mg "without" (top 34) ["row", "side"] a.a_z45 a.fd_z45
 d_z10:DefF K mg "joined_sides" (top 53) ["one", "other", "side"] a.a_z10 a.fd_z10
 d_z29:DefF K mg "picked_sides" (top 52) ["sides", "side", "places"] a.a_z29 a.fd_z29
 d_z39:DefF K mg "sides_viewed" (top 44) ["line", "sides"] a.a_z39 a.fd_z39
 d_z38:DefF K mg "sides_told" (top 43) ["line", "ahead", "given"] a.a_z38 a.fd_z38
 d_z36:DefF K mg "sides_looked_over" (top 40) ["at", "line", "ahead", "given"] a.a_z36 a.fd_z36
 d_z37:DefF K mg "sides_of" (top 39) ["program", "given"] a.a_z37 a.fd_z37
 d_z41:DefF K mg "strides_of" (top 28) ["sides"] a.a_z41 a.fd_z41
 d_z30:DefF K mg "place_at" (top 29) ["sides", "at"] a.a_z30 a.fd_z30
 d_z9:DefF K mg "join_cell" (top 66) ["ahead", "behind", "side", "at"] a.a_z9 a.fd_z9
 d_z28:DefF K mg "pick_cell" (top 65) ["source", "side", "numbers", "at"] a.a_z28 a.fd_z28
 d_z34:DefF K mg "shift_cell" (top 67) ["source", "side", "by", "number", "at"] a.a_z34 a.fd_z34
 d_z40:DefF K mg "spread_cell" (top 62) ["source", "at"] a.a_z40 a.fd_z40
 d_z43:DefF K mg "view_cell" (top 61) ["line", "source", "at"] a.a_z43 a.fd_z43
 d_z2:DefF K mg "cell_made" (top 60) ["line", "sides", "made", "at"] a.a_z2 a.fd_z2
 d_z6:DefF K mg "index_of" (top 30) ["sides", "place"] a.a_z6 a.fd_z6
 d_z7:DefF K mg "indexes_of" (top 31) ["sides"] a.a_z7 a.fd_z7
 d_z42:DefF K mg "table_made" (top 58) ["line", "sides", "made", "tables"] a.a_z42 a.fd_z42
 d_z44:DefF K mg "wanted_lines" (top 21) ["program"] a.a_z44 a.fd_z44
 d_z32:DefF K mg "plain_answer" (top 57) ["program", "tables"] a.a_z32 a.fd_z32
 d_z21:DefF K mg "_law_refused" (top 82) ["_law_program", "_law_tables"] a.a_z21 a.fd_z21
 d_z22:DefF K mg "_law_shift" (top 79) ["_law_row", "_law_own_here", "_law_cells_here", "_law_side"] a.a_z22 a.fd_z22
 d_law:DefF K mg "law" (top 83) ["_law_script"] a.a_law a.fd_law
 d_z1:MetF K "__init__" "Table.__init__" (inClass (top 55) 0) ["self", "sides", "cells"] a.a_z1 a.fd_z1
 d_z0:MetF K "cell" "Table.cell" (inClass (top 55) 1) ["self", "at"] a.a_z0 a.fd_z0
 k_Table:ClsK K mg "Table" a.c_Table
 mk_Table:Mk K a.c_Table a.a_z1
 me_z0:Meth K a.c_Table "cell" a.a_z0
 fk_cells:FldK K mg aT "cells"
 fk_sides:FldK K mg aJ "sides"
 ia_Table:IsaK K mg "Table" fK
 kx_BadLine:mg "BadLine" = some (.ref a.c_BadLine)
 kx_LoomError:mg "LoomError" = some (.ref a.c_LoomError)
 kx_NoCell:mg "NoCell" = some (.ref a.c_NoCell)
 kx_NoTable:mg "NoTable" = some (.ref a.c_NoTable)
 kx_NoText:mg "NoText" = some (.ref a.c_NoText)
 x_NoCell:PySem.W.excIn K a.c_NoCell vmro "ValueError.__new__" = true
 ct_LoomError:CatK K a.c_LoomError
 ts_LoomError:∀p∈cN,p.2=true→∃C,mg p.1=some (.ref C)∧PySem.W.mroIn K C (.ref a.c_LoomError)=some true
 ix_BadLine:IsaX K mg (.ref a.c_BadLine) dB
 ix_NoCell:IsaX K mg (.ref a.c_NoCell) eD
 ix_NoTable:IsaX K mg (.ref a.c_NoTable) dC
 ix_NoText:IsaX K mg (.ref a.c_NoText) eE
 ix_ValueError:IsaX K mg (.type "ValueError") ck
section
variable {P:Program} {w:World} {K:Frag} {mg:MG} {base:Heap} {a:Adr} (T:Txt w K mg a)
theorem xj:FnScope ["sides", "many", "side"] ["sides"] (defScope (top 27)):=scs
include T in
theorem kB:FnOk P w K mg base CX0 1 a.a_z3 a.fd_z3 ["sides"] (spV K mg [false] f_z3):=by
 have S:=xj
 refine aP (N:=["sides", "many", "side"]) (ps:=["sides"]) (body:=b_z3) T.d_z3.fu S rfl fun cdv A outer s H E hr=>?_
 exact (ac (aA 1 S.nd rfl (Or.inl rfl) ag)
  (ac (bQ PassesOwn.never rfl (bP (aa 0)) (aO 2 S.nd rfl (Or.inl rfl)) (ac (aA 1 S.nd rfl (Or.inl rfl) (aK eL gT (aa 1) (aa 2)))
  ae) aM)
  (ac (ar (aa 1))
  ae)))
theorem xp:FnScope ["number"] ["number"] (defScope (top 3)):=scs
include T in
theorem rX:FnOk P w K mg base CX0 1 a.a_z8 a.fd_z8 ["number"] (spV K mg [false] f_z8):=by
 have S:=xp
 refine aP (N:=["number"]) (ps:=["number"]) (body:=b_z8) T.d_z8.fu S rfl fun cdv A outer s H E hr=>?_
 exact (ac (ar (dI cK fq g_le g_lt ag (aa 0) (dJ T.g_REST rfl)))
  ae)
theorem uO:FnScope ["sides"] ["sides"] (defScope (top 26)):=scs
include T in
theorem pE:FnOk P w K mg base CX0 2 a.a_z35 a.fd_z35 ["sides"] (spV K mg [false] fT):=by
 have S:=uO
 refine aP (N:=["sides"]) (ps:=["sides"]) (body:=on) T.d_z35.fu S rfl fun cdv A outer s H E hr=>?_
 exact (ac (aE (PBW.pb (fY (aw pI g_gt (aF ay bC rfl T.b_len PySem.boot_len (PV.rd (aa 0))) (dJ T.g_MOST_SIDES rfl) (nomark _)) (eN (cb (a8 (aF (dQ rfl) (jw true) rfl T.b_all VS.eS (PV.rd (PF.pv (bW 1 rfl (N':=["sides", "side", "?acc1"]) ⟨rfl,by kernel_rfl⟩ rfl (bP (aa 0)) aM (br (by kernel_rfl)) (fun C s H ex=>(aO 1 (ndk ["sides", "side", "?acc1"]) rfl (Or.inl rfl))) (fun C s H ex _=>a9) (fun C s H ex _=>(dI cK cK g_le g_le ag (aa 1) (dJ T.g_LONGEST_SIDE rfl)))))))))))) (ac (ar fD)
  ae) ae)
  (ac (ar (jM cK g_le (pc T.d_z3 (kB T) hr rfl (af (aa 0) ah)) (dJ T.g_MOST_CELLS rfl) (nomark _)))
  ae))
theorem xh:FnScope ["self", "sides", "cells"] ["self", "sides", "cells"] (defScope (inClass (top 55) 0)):=scs
include T in
theorem pw:FnOk P w K mg base CX0 3 a.a_z1 a.fd_z1 ["self", "sides", "cells"] (spV K mg [true,false,false] f_z1):=by
 have S:=xh
 refine aP (N:=["self", "sides", "cells"]) (ps:=["self", "sides", "cells"]) (body:=b_z1) T.d_z1.fu S rfl fun cdv A outer s H E hr=>?_
 exact (ac (qh 0 T.fk_sides (cg bf dY rfl T.b_tuple boot_tuple (PV.rd (aa 1))))
  (ac (qh 0 T.fk_cells (PF.pv (qY rfl T.b_list boot_list (PV.rd (aa 2)))))
  (ac (aE (cb (a8 (pc T.d_z35 (pE T) hr rfl (af (bv T.fk_sides (eP 0)) ah)))) (ac aD
  ae) ae)
  (ac (aE (aw (eM hr.units) i6 (aF ay bC rfl T.b_len PySem.boot_len (PV.rd (bv T.fk_cells (eP 0)))) (pc T.d_z3 (kB T) hr rfl (af (bv T.fk_sides (eP 0)) ah)) (nomark _)) (ac aD
  ae) ae)
  (ac (aE (cb (a8 (aF (dQ rfl) (jw true) rfl T.b_all VS.eS (PV.rd (PF.pv (bW 1 rfl (N':=["self", "sides", "cells", "number", "?acc3"]) ⟨rfl,by kernel_rfl⟩ rfl (bP (bv T.fk_cells (eP 0))) aM (br (by kernel_rfl)) (fun C s H ex=>(aO 3 (ndk ["self", "sides", "cells", "number", "?acc3"]) rfl (Or.inl rfl))) (fun C s H ex _=>a9) (fun C s H ex _=>(pc T.d_z8 (rX T) hr rfl (af (aa 3) ah))))))))) (ac aD
  ae) ae)
  ae)))))
theorem ur:FnScope ["_law_sides", "_law_side", "_law_size"] ["_law_sides", "_law_side", "_law_size"] (defScope (top 76)):=scs
include T in
theorem fP:FnOk P w K mg base CX0 1 a.a_z12 a.fd_z12 ["_law_sides", "_law_side", "_law_size"] (spV K mg [false,false,false] dh):=by
 have S:=ur
 refine aP (N:=["_law_sides", "_law_side", "_law_size"]) (ps:=["_law_sides", "_law_side", "_law_size"]) (body:=nX) T.d_z12.fu S rfl fun cdv A outer s H E hr=>?_
 exact (ac (ar (aK aU bj (aK aU bj (cM (aa 0) bo (bp (aa 1))) (be (ai (aa 2) aB))) (cM (aa 0) (bp (aK aU bj (aa 1) ag)) bo)))
  ae)
theorem uE:FnScope ["_law_found"] ["_law_found"] (defScope (top 70)):=scs
include T in
theorem tf:FnOk P w K mg base CX0 1 a.a_z24 a.fd_z24 ["_law_found"] (spV K mg [false] gM):=by
 have S:=uE
 refine aP (N:=["_law_found"]) (ps:=["_law_found"]) (body:=oh) T.d_z24.fu S rfl fun cdv A outer s H E hr=>?_
 exact (ac (ar (lH (jN "int" (by simp) rfl T.b_isinstance rfl T.b_int (by decide +kernel) (PV.rd (aa 0))) (jO (ud (jN "bool" (by simp) rfl T.b_isinstance rfl T.b_bool (by decide +kernel) (PV.rd (aa 0)))))))
  ae)
theorem ux:FnScope ["_law_found", "_law_due", "_law_number"] ["_law_found", "_law_due"] (defScope (top 71)):=scs
include T in
theorem pz:FnOk P w K mg base CX0 2 a.a_z17 a.fd_z17 ["_law_found", "_law_due"] (spV K mg [false,false] fS):=by
 have S:=ux
 refine aP (N:=["_law_found", "_law_due", "_law_number"]) (ps:=["_law_found", "_law_due"]) (body:=n5) T.d_z17.fu S rfl fun cdv A outer s H E hr=>?_
 exact (ac (aE (PBW.pb (fY (cb (a8 (jN "tuple" (by simp) rfl T.b_isinstance rfl T.b_tuple (by decide +kernel) (PV.rd (aa 0))))) (eN (aw (eM hr.units) i6 (aF ay bC rfl T.b_len PySem.boot_len (PV.rd (aa 0))) (aF ay bC rfl T.b_len PySem.boot_len (PV.rd (aa 1))) (nomark _))))) (ac (ar fD)
  ae) ae)
  (ac (bQ PassesOwn.never rfl (bP (aa 0)) (aO 2 S.nd rfl (Or.inl rfl)) (ac (aE (cb (a8 (pc T.d_z24 (tf T) hr rfl (af (aa 2) ah)))) (ac (ar fD)
  ae) ae)
  ae) aM)
  (ac (ar (jM (aG hr.units) aL (aa 0) (aa 1) (nomark _)))
  ae)))
theorem uu:FnScope ["_law_found", "_law_sides", "_law_cells_here"] ["_law_found", "_law_sides", "_law_cells_here"] (defScope (top 75)):=scs
include T in
theorem sU:FnOk P w K mg base CX0 3 a.a_z14 a.fd_z14 ["_law_found", "_law_sides", "_law_cells_here"] (spV K mg [false,false,false] gF):=by
 have S:=uu
 refine aP (N:=["_law_found", "_law_sides", "_law_cells_here"]) (ps:=["_law_found", "_law_sides", "_law_cells_here"]) (body:=nZ) T.d_z14.fu S rfl fun cdv A outer s H E hr=>?_
 exact (ac (aE (PBW.pb (fY (cb (a8 (rl T.ia_Table rfl T.b_isinstance rfl (PV.rd (aa 0))))) (eN (cb (a8 (pc T.d_z17 (pz T) hr rfl (af (bv T.fk_sides (PV.rd (aa 0))) (af (aa 1) ah)))))))) (ac (ar fD)
  ae) ae)
  (ac (ar (lH (jN "list" (by simp) rfl T.b_isinstance rfl T.b_list (by decide +kernel) (PV.rd (bv T.fk_cells (PV.rd (aa 0))))) (jO (pc T.d_z17 (pz T) hr rfl (af (cg bf dY rfl T.b_tuple boot_tuple (PV.rd (bv T.fk_cells (PV.rd (aa 0))))) (af (cg bf dY rfl T.b_tuple boot_tuple (PV.rd (aa 2))) ah))))))
  ae))
theorem uq:FnScope ["_law_sides", "_law_found", "_law_size"] ["_law_sides"] (defScope (top 72)):=scs
include T in
theorem eK:FnOk P w K mg base CX0 1 a.a_z11 a.fd_z11 ["_law_sides"] (spV K mg [false] cf):=by
 have S:=uq
 refine aP (N:=["_law_sides", "_law_found", "_law_size"]) (ps:=["_law_sides"]) (body:=lT) T.d_z11.fu S rfl fun cdv A outer s H E hr=>?_
 exact (ac (aA 1 S.nd rfl (Or.inl rfl) ag)
  (ac (bQ PassesOwn.never rfl (bP (aa 0)) (aO 2 S.nd rfl (Or.inl rfl)) (ac (aA 1 S.nd rfl (Or.inl rfl) (aK eL gT (aa 1) (aa 2)))
  ae) aM)
  (ac (ar (aa 1))
  ae)))
theorem ut:FnScope ["_law_sides", "_law_place_here", "_law_found", "_law_k", "_law_behind"] ["_law_sides", "_law_place_here"] (defScope (top 73)):=scs
include T in
theorem lA:FnOk P w K mg base CX0 2 a.a_z13 a.fd_z13 ["_law_sides", "_law_place_here"] (spV K mg [false,false] eW):=by
 have S:=ut
 refine aP (N:=["_law_sides", "_law_place_here", "_law_found", "_law_k", "_law_behind"]) (ps:=["_law_sides", "_law_place_here"]) (body:=nY) T.d_z13.fu S rfl fun cdv A outer s H E hr=>?_
 exact (ac (aA 2 S.nd rfl (Or.inl rfl) (be aB))
  (ac (bQ PassesOwn.never rfl (bE rfl T.b_range (ai (aF ay bC rfl T.b_len PySem.boot_len (PV.rd (aa 0))) aB)) (aO 3 S.nd rfl (Or.inl rfl)) (ac (aA 4 S.nd rfl (Or.inl rfl) (pc T.d_z11 (eK T) hr rfl (af (cM (aa 0) (bp (aK aU bj (aa 3) ag)) bo) ah)))
  (ac (aA 2 S.nd rfl (Or.inl rfl) (aK aU bj (aa 2) (be (ai (aK dF fV (aK mt oO (aa 1) (aa 4)) (ao (aa 0) (aa 3))) aB))))
  ae)) aM)
  (ac (ar (aa 2))
  ae)))
theorem uA:FnScope ["_law_sides", "_law_at", "_law_found", "_law_k"] ["_law_sides", "_law_at"] (defScope (top 74)):=scs
include T in
theorem jH:FnOk P w K mg base CX0 2 a.a_z20 a.fd_z20 ["_law_sides", "_law_at"] (spV K mg [false,false] dq):=by
 have S:=uA
 refine aP (N:=["_law_sides", "_law_at", "_law_found", "_law_k"]) (ps:=["_law_sides", "_law_at"]) (body:=n6) T.d_z20.fu S rfl fun cdv A outer s H E hr=>?_
 exact (ac (aA 2 S.nd rfl (Or.inl rfl) ag)
  (ac (bQ PassesOwn.never rfl (bE rfl T.b_range (ai (aF ay bC rfl T.b_len PySem.boot_len (PV.rd (aa 0))) aB)) (aO 3 S.nd rfl (Or.inl rfl)) (ac (aA 2 S.nd rfl (Or.inl rfl) (aK aU bj (aa 2) (aK eL gT (ao (aa 1) (aa 3)) (pc T.d_z11 (eK T) hr rfl (af (cM (aa 0) (bp (aK aU bj (aa 3) ag)) bo) ah)))))
  ae) aM)
  (ac (ar (aa 2))
  ae)))
theorem uD:FnScope ["_law_row", "_law_many", "_law_at"] ["_law_row", "_law_many"] (defScope (top 69)):=scs
include T in
theorem cw:FnOk P w K mg base CX0 1 a.a_z23 a.fd_z23 ["_law_row", "_law_many"] (spV K mg [true,false] bu):=by
 have S:=uD
 refine aP (N:=["_law_row", "_law_many", "_law_at"]) (ps:=["_law_row", "_law_many"]) (body:=og) T.d_z23.fu S rfl fun cdv A outer s H E hr=>?_
 exact (ac (aA 2 S.nd rfl (Or.inl rfl) (ba 0 ag))
  (ac (iG 0 ag (aK aU bj (aa 2) ag))
  (ac (aE (aw fq g_lt (aa 2) (aF ay bC rfl T.b_len PySem.boot_len (PV.rd (ba 0 ag))) (nomark _)) (ac (ar (aK dF fV (ao (ba 0 ag) (aa 2)) (aa 1)))
  ae) ae)
  (ac (ar ag)
  ae))))
theorem uv:FnScope ["_law_row", "_law_some", "_law_cells_here", "_law_side", "_law_way", "_law_one", "_law_due", "_law_sides", "_law_place_here", "_law_at"] ["_law_row", "_law_some", "_law_cells_here", "_law_side"] (defScope (top 80)):=scs
include T in
theorem sV:FnOk P w K mg base CX0 3 a.a_z15 a.fd_z15 ["_law_row", "_law_some", "_law_cells_here", "_law_side"] (spV K mg [true,false,false,false] gG):=by
 have S:=uv
 refine aP (N:=["_law_row", "_law_some", "_law_cells_here", "_law_side", "_law_way", "_law_one", "_law_due", "_law_sides", "_law_place_here", "_law_at"]) (ps:=["_law_row", "_law_some", "_law_cells_here", "_law_side"]) (body:=n4) T.d_z15.fu S rfl fun cdv A outer s H E hr=>?_
 exact (ac (aA 4 S.nd rfl (Or.inl rfl) (pc T.d_z23 (cw T) hr rfl (bn 0 (af ag ah))))
  (ac (aA 5 S.nd rfl (Or.inl rfl) (ao (aa 1) (aa 4)))
  (ac (dP 6 S.nd rfl (Or.inl rfl) (cA aB))
  (ac (aA 7 S.nd rfl (Or.inl rfl) (pc T.d_z12 (fP T) hr rfl (af (aa 5) (af (aa 3) (af (aK aU bj (ao (ao (aa 1) ag) (aa 3)) (ao (ao (aa 1) ag) (aa 3))) ah)))))
  (ac (bQ PassesOwn.never rfl (bE rfl T.b_range (ai (pc T.d_z11 (eK T) hr rfl (af (aa 7) ah)) aB)) (aO 8 S.nd rfl (Or.inl rfl)) (ac (aA 9 S.nd rfl (Or.inl rfl) (pc T.d_z13 (lA T) hr rfl (af (aa 7) (af (aa 8) ah))))
  (ac (aE (aw fq g_lt (ao (aa 9) (aa 3)) (ao (aa 5) (aa 3)) (nomark _)) (ac (dg 6 (ao (ao (aa 2) (aa 4)) (pc T.d_z20 (jH T) hr rfl (af (aa 5) (af (aa 9) ah)))) (hpe:=fun ho ha=>fB PySem.F.plainAttrs_list PySem.F.slot_list_append PySem.F.type_list_append bg ho ha))
  ae) (ac (aA 9 S.nd rfl (Or.inl rfl) (pc T.d_z12 (fP T) hr rfl (af (aa 9) (af (aa 3) (af (aK cx du (ao (aa 9) (aa 3)) (ao (aa 5) (aa 3))) ah)))))
  (ac (dg 6 (ao (ao (aa 2) (aK cx du ag (aa 4))) (pc T.d_z20 (jH T) hr rfl (af (ao (aa 1) (aK cx du ag (aa 4))) (af (aa 9) ah)))) (hpe:=fun ho ha=>fB PySem.F.plainAttrs_list PySem.F.slot_list_append PySem.F.type_list_append bg ho ha))
  ae)))
  ae)) aM)
  (ac (f6 (i:=6) (ar (be (ai (be (ai (az pp) (ai (aa 4) (ai (aK cx du ag (aa 4)) (ai (aa 3) aB))))) (ai (aa 7) (ai (aa 6) aB))))))
  ae))))))
theorem uw:FnScope ["_law_row", "_law_sides", "_law_seed", "_law_found"] ["_law_row", "_law_sides"] (defScope (top 78)):=scs
include T in
theorem sW:FnOk P w K mg base CX0 2 a.a_z16 a.fd_z16 ["_law_row", "_law_sides"] (spV K mg [true,false] gH):=by
 have S:=uw
 refine aP (N:=["_law_row", "_law_sides", "_law_seed", "_law_found"]) (ps:=["_law_row", "_law_sides"]) (body:=lU) T.d_z16.fu S rfl fun cdv A outer s H E hr=>?_
 exact (ac (aA 2 S.nd rfl (Or.inr rfl) (pc T.d_z23 (cw T) hr rfl (bn 0 (af ag ah))))
  (ac (gm 1 3 S.nd rfl (Or.inl rfl) rfl (N':=["_law_row", "_law_sides", "_law_seed", "_law_found", "_law_p", "?acc4"]) ⟨rfl,by kernel_rfl⟩ rfl (bE rfl T.b_range (ai (pc T.d_z11 (eK T) hr rfl (af (aa 1) ah)) aB)) aM (br (by kernel_rfl)) (fun C s H ex=>(aO 4 (ndk ["_law_row", "_law_sides", "_law_seed", "_law_found", "_law_p", "?acc4"]) rfl (Or.inl rfl))) (fun C s H ex _=>a9) (fun C s H ex _=>(aK dF fV (aK aU bj (aa 2) (aK eL gT (aK eL gT ag (aa 4)) (aK aU bj (aa 4) (aK dF fV (aa 2) ag)))) ag)))
  (ac (aE (aw (aG hr.units) aL (aK dF fV (aa 2) ag) ag (nomark _)) (ac (gm 1 3 S.nd rfl (Or.inl rfl) rfl (N':=["_law_row", "_law_sides", "_law_seed", "_law_found", "_law_number", "?acc4"]) ⟨rfl,by kernel_rfl⟩ rfl (bP (aa 3)) aM (br (by kernel_rfl)) (fun C s H ex=>(aO 4 (ndk ["_law_row", "_law_sides", "_law_seed", "_law_found", "_law_number", "?acc4"]) rfl (Or.inl rfl))) (fun C s H ex _=>a9) (fun C s H ex _=>(aK dF fV (aa 4) ag)))
  ae) ae)
  (ac (ar (aa 3))
  ae))))
theorem uy:FnScope ["_law_row", "_law_sides"] ["_law_row"] (defScope (top 77)):=scs
include T in
theorem sX:FnOk P w K mg base CX0 2 a.a_z18 a.fd_z18 ["_law_row"] (spV K mg [true] gI):=by
 have S:=uy
 refine aP (N:=["_law_row", "_law_sides"]) (ps:=["_law_row"]) (body:=lV) T.d_z18.fu S rfl fun cdv A outer s H E hr=>?_
 exact (ac (gm 1 1 S.nd rfl (Or.inl rfl) rfl (N':=["_law_row", "_law_sides", "_law_k", "?acc2"]) ⟨rfl,by kernel_rfl⟩ rfl (bE rfl T.b_range (ai (pc T.d_z23 (cw T) hr rfl (bn 0 (af ag ah))) aB)) aM (br (by kernel_rfl)) (fun C s H ex=>(aO 2 (ndk ["_law_row", "_law_sides", "_law_k", "?acc2"]) rfl (Or.inl rfl))) (fun C s H ex _=>a9) (fun C s H ex _=>(ao (PF.pv (cA (ai ag (ai ag (ai ag (ai ag (ai ag (ai ag (ai ag (ai ag aB)))))))))) (pc T.d_z23 (cw T) hr rfl (bn 0 (af ag ah))))))
  (ac (aE (aw pI g_gt (pc T.d_z11 (eK T) hr rfl (af (aa 1) ah)) ag (nomark _)) (ac (aA 1 S.nd rfl (Or.inl rfl) (cM (aa 1) (bp ag) bo))
  ae) ae)
  (ac (ar (cg bf dY rfl T.b_tuple boot_tuple (PV.rd (aa 1))))
  ae)))
theorem uz:FnScope ["_law_some", "_law_cells_here", "_law_side", "_law_sides", "_law_due", "_law_place_here", "_law_at", "_law_where"] ["_law_some", "_law_cells_here", "_law_side"] (defScope (top 81)):=scs
include T in
theorem sY:FnOk P w K mg base CX0 3 a.a_z19 a.fd_z19 ["_law_some", "_law_cells_here", "_law_side"] (spV K mg [false,false,false] gJ):=by
 have S:=uz
 refine aP (N:=["_law_some", "_law_cells_here", "_law_side", "_law_sides", "_law_due", "_law_place_here", "_law_at", "_law_where"]) (ps:=["_law_some", "_law_cells_here", "_law_side"]) (body:=lW) T.d_z19.fu S rfl fun cdv A outer s H E hr=>?_
 exact (ac (aA 3 S.nd rfl (Or.inl rfl) (pc T.d_z12 (fP T) hr rfl (af (ao (aa 0) ag) (af (aa 2) (af (ao (ao (aa 0) ag) ag) ah)))))
  (ac (dP 4 S.nd rfl (Or.inl rfl) (cA aB))
  (ac (bQ PassesOwn.never rfl (bE rfl T.b_range (ai (pc T.d_z11 (eK T) hr rfl (af (aa 3) ah)) aB)) (aO 5 S.nd rfl (Or.inl rfl)) (ac (aA 6 S.nd rfl (Or.inl rfl) (pc T.d_z13 (lA T) hr rfl (af (aa 3) (af (aa 5) ah))))
  (ac (aA 7 S.nd rfl (Or.inl rfl) (ao (ao (aa 1) ag) (ao (aa 6) (aa 2))))
  (ac (aE (aw rY g_ge (aa 7) (ao (ao (aa 0) ag) (aa 2)) (nomark _)) (ac (ar (be (ai (be (ai (az mn) (ai ag (ai (aa 2) (ai ag aB))))) (ai (aa 3) (ai cR aB)))))
  ae) ae)
  (ac (dg 4 (ao (ao (aa 1) ag) (pc T.d_z20 (jH T) hr rfl (af (ao (aa 0) ag) (af (pc T.d_z12 (fP T) hr rfl (af (aa 6) (af (aa 2) (af (aa 7) ah)))) ah)))) (hpe:=fun ho ha=>fB PySem.F.plainAttrs_list PySem.F.slot_list_append PySem.F.type_list_append bg ho ha))
  ae)))) aM)
  (ac (f6 (i:=4) (ar (be (ai (be (ai (az mn) (ai ag (ai (aa 2) (ai ag aB))))) (ai (aa 3) (ai (aa 4) aB))))))
  ae))))
theorem xk:FnScope ["line"] ["line"] (defScope (top 19)):=scs
include T in
theorem wM:FnOk P w K mg base CX0 1 a.a_z4 a.fd_z4 ["line"] (spV K mg [false] f_z4):=by
 have S:=xk
 refine aP (N:=["line"]) (ps:=["line"]) (body:=b_z4) T.d_z4.fu S rfl fun cdv A outer s H E hr=>?_
 exact (ac (ar (aF (dQ rfl) (jw true) rfl T.b_all VS.eS (PV.rd (PF.pv (bW 2 rfl (N':=["line", "part", "value", "?acc1"]) ⟨rfl,by kernel_rfl⟩ rfl (iF rfl T.b_zip (ai (jP T.g_FORMS rfl (ao (aa 0) ag)) (ai (cM (aa 0) (bp ag) bo) aB))) eC (br (by kernel_rfl)) (fun C s H ex=>(eQ rfl (aY 1 (ndk ["line", "part", "value", "?acc1"]) rfl (Or.inl rfl) (aY 2 (ndk ["line", "part", "value", "?acc1"]) rfl (Or.inl rfl) df)))) (fun C s H ex _=>(mD (pN T.g_DEEDS rfl (aa 1) (by with_unfolding_all rfl)))) (fun C s H ex _=>(jM nh (g_in false) (aa 2) (jP T.g_DEEDS rfl (aa 1)) (by with_unfolding_all rfl))))))))
  ae)
theorem uG:FnScope ["line"] ["line"] (defScope (top 42)):=scs
include T in
theorem tj:FnOk P w K mg base CX0 2 a.a_z27 a.fd_z27 ["line"] (spV K mg [false] el):=by
 have S:=uG
 refine aP (N:=["line"]) (ps:=["line"]) (body:=lX) T.d_z27.fu S rfl fun cdv A outer s H E hr=>?_
 exact (ac (aE (aw (aG hr.units) aL (ao (aa 0) ag) (az nm_1) (nomark _)) (ac aD
  ae) ae)
  (ac (ar (wX (jM (eM hr.units) i6 (ao (aa 0) ag) (az nm_8) (nomark _)) (jO (pc T.d_z8 (rX T) hr rfl (af (ao (aa 0) ag) ah)))))
  ae))
theorem uF:FnScope ["line"] ["line"] (defScope (top 18)):=scs
include T in
theorem pC:FnOk P w K mg base CX0 1 a.a_z26 a.fd_z26 ["line"] (spV K mg [false] a6):=by
 have S:=uF
 refine aP (N:=["line"]) (ps:=["line"]) (body:=iQ) T.d_z26.fu S rfl fun cdv A outer s H E hr=>?_
 exact (ac (ar (PF.pv (bW 2 rfl (N':=["line", "part", "value", "?acc1"]) ⟨rfl,by kernel_rfl⟩ rfl (iF rfl T.b_zip (ai (jP T.g_FORMS rfl (ao (aa 0) ag)) (ai (cM (aa 0) (bp ag) bo) aB))) eC (br (by kernel_rfl)) (fun C s H ex=>(eQ rfl (aY 1 (ndk ["line", "part", "value", "?acc1"]) rfl (Or.inl rfl) (aY 2 (ndk ["line", "part", "value", "?acc1"]) rfl (Or.inl rfl) df)))) (fun C s H ex _=>(mD (aw (aG hr.units) aL (aa 1) (az wJ) (nomark _)))) (fun C s H ex _=>(aa 2)))))
  ae)
theorem uK:FnScope ["line", "lines_ahead", "tables"] ["line", "lines_ahead", "tables"] (defScope (top 41)):=scs
include T in
theorem tx:FnOk P w K mg base CX0 2 a.a_z31 a.fd_z31 ["line", "lines_ahead", "tables"] (spV K mg [false,false,false] eY):=by
 have S:=uK
 refine aP (N:=["line", "lines_ahead", "tables"]) (ps:=["line", "lines_ahead", "tables"]) (body:=lZ) T.d_z31.fu S rfl fun cdv A outer s H E hr=>?_
 exact (ac (aE (aw (aG hr.units) aL (ao (aa 0) ag) (az nm_0) (nomark _)) (ac (ar (dI cK fq g_le g_lt ag (ao (aa 0) ag) (aa 2)))
  ae) ae)
  (ac (ar (aF (dQ rfl) (jw true) rfl T.b_all VS.eS (PV.rd (PF.pv (bW 1 rfl (N':=["line", "lines_ahead", "tables", "named", "?acc3"]) ⟨rfl,by kernel_rfl⟩ rfl (bP (pc T.d_z26 (pC T) hr rfl (af (aa 0) ah))) aM (br (by kernel_rfl)) (fun C s H ex=>(aO 3 (ndk ["line", "lines_ahead", "tables", "named", "?acc3"]) rfl (Or.inl rfl))) (fun C s H ex _=>a9) (fun C s H ex _=>(dI cK fq g_le g_lt ag (aa 3) (aa 1))))))))
  ae))
theorem xl:FnScope ["sides", "side"] ["sides", "side"] (defScope (top 45)):=scs
include T in
theorem pH:FnOk P w K mg base CX0 1 a.a_z5 a.fd_z5 ["sides", "side"] (spV K mg [false,false] f_z5):=by
 have S:=xl
 refine aP (N:=["sides", "side"]) (ps:=["sides", "side"]) (body:=b_z5) T.d_z5.fu S rfl fun cdv A outer s H E hr=>?_
 exact (ac (ar (dI cK fq g_le g_lt ag (aa 1) (aF ay bC rfl T.b_len PySem.boot_len (PV.rd (aa 0)))))
  ae)
theorem uM:FnScope ["row", "side", "number"] ["row", "side", "number"] (defScope (top 36)):=scs
include T in
theorem ib:FnOk P w K mg base CX0 1 a.a_z33 a.fd_z33 ["row", "side", "number"] (spV K mg [false,false,false] dr):=by
 have S:=uM
 refine aP (N:=["row", "side", "number"]) (ps:=["row", "side", "number"]) (body:=om) T.d_z33.fu S rfl fun cdv A outer s H E hr=>?_
 exact (ac (ar (aK aU bj (aK aU bj (cM (aa 0) bo (bp (aa 1))) (be (ai (aa 2) aB))) (cM (aa 0) (bp (aK aU bj (aa 1) ag)) bo)))
  ae)
theorem uY:FnScope ["row", "side"] ["row", "side"] (defScope (top 34)):=scs
include T in
theorem pG:FnOk P w K mg base CX0 1 a.a_z45 a.fd_z45 ["row", "side"] (spV K mg [false,false] fU):=by
 have S:=uY
 refine aP (N:=["row", "side"]) (ps:=["row", "side"]) (body:=oy) T.d_z45.fu S rfl fun cdv A outer s H E hr=>?_
 exact (ac (ar (aK aU bj (cM (aa 0) bo (bp (aa 1))) (cM (aa 0) (bp (aK aU bj (aa 1) ag)) bo)))
  ae)
theorem uo:FnScope ["one", "other", "side"] ["one", "other", "side"] (defScope (top 53)):=scs
include T in
theorem sT:FnOk P w K mg base CX0 2 a.a_z10 a.fd_z10 ["one", "other", "side"] (spV K mg [false,false,false] gE):=by
 have S:=uo
 refine aP (N:=["one", "other", "side"]) (ps:=["one", "other", "side"]) (body:=iP) T.d_z10.fu S rfl fun cdv A outer s H E hr=>?_
 exact (ac (aE (PBW.pb (fY (cb (a8 (pc T.d_z5 (pH T) hr rfl (af (aa 0) (af (aa 2) ah))))) (eN (aw (eM hr.units) i6 (aF ay bC rfl T.b_len PySem.boot_len (PV.rd (aa 0))) (aF ay bC rfl T.b_len PySem.boot_len (PV.rd (aa 1))) (nomark _))))) (ac (ar cR)
  ae) ae)
  (ac (aE (aw (eM hr.units) i6 (pc T.d_z45 (pG T) hr rfl (af (aa 0) (af (aa 2) ah))) (pc T.d_z45 (pG T) hr rfl (af (aa 1) (af (aa 2) ah))) (nomark _)) (ac (ar cR)
  ae) ae)
  (ac (ar (pc T.d_z33 (ib T) hr rfl (af (aa 0) (af (aa 2) (af (aK aU bj (ao (aa 0) (aa 2)) (ao (aa 1) (aa 2))) ah)))))
  ae)))
theorem uI:FnScope ["sides", "side", "places"] ["sides", "side", "places"] (defScope (top 52)):=scs
include T in
theorem tu:FnOk P w K mg base CX0 2 a.a_z29 a.fd_z29 ["sides", "side", "places"] (spV K mg [false,false,false] gN):=by
 have S:=uI
 refine aP (N:=["sides", "side", "places"]) (ps:=["sides", "side", "places"]) (body:=jX) T.d_z29.fu S rfl fun cdv A outer s H E hr=>?_
 exact (ac (aE (PBW.pb (fY (cb (a8 (pc T.d_z5 (pH T) hr rfl (af (aa 0) (af (aa 1) ah))))) (eN (aw (eM hr.units) i6 (aF ay bC rfl T.b_len PySem.boot_len (PV.rd (aa 2))) ag (nomark _))))) (ac (ar cR)
  ae) ae)
  (ac (ar (pc T.d_z33 (ib T) hr rfl (af (aa 0) (af (aa 1) (af (ao (aa 2) ag) ah)))))
  ae))
theorem uS:FnScope ["line", "sides", "kind"] ["line", "sides"] (defScope (top 44)):=scs
include T in
theorem tG:FnOk P w K mg base CX0 2 a.a_z39 a.fd_z39 ["line", "sides"] (spV K mg [false,false] kh):=by
 have S:=uS
 refine aP (N:=["line", "sides", "kind"]) (ps:=["line", "sides"]) (body:=rN) T.d_z39.fu S rfl fun cdv A outer s H E hr=>?_
 exact (ac (aA 2 S.nd rfl (Or.inl rfl) (ao (aa 0) ag))
  (ac (aE (aw (aG hr.units) aL (aa 2) (az nm_2) (nomark _)) (ac aD
  ae) ae)
  (ac (aE (aw (aG hr.units) aL (aa 2) (az nm_3) (nomark _)) (ac aD
  ae) ae)
  (ac (aE (aw (aG hr.units) aL (aa 2) (az nm_4) (nomark _)) (ac aD
  ae) ae)
  (ac (aE (aw (aG hr.units) aL (aa 2) (az nm_5) (nomark _)) (ac aD
  ae) ae)
  (ac (aE (aw (aG hr.units) aL (aa 2) (az nm_6) (nomark _)) (ac aD
  ae) ae)
  (ac (ar (iq (aw (aG hr.units) aL (pc T.d_z3 (kB T) hr rfl (af (aa 1) ah)) (pc T.d_z3 (kB T) hr rfl (af (ao (aa 0) ag) ah)) (nomark _)) (ao (aa 0) ag) cR))
  ae)))))))
theorem uR:FnScope ["line", "ahead", "given", "kind"] ["line", "ahead", "given"] (defScope (top 43)):=scs
include T in
theorem tF:FnOk P w K mg base CX0 3 a.a_z38 a.fd_z38 ["line", "ahead", "given"] (spV K mg [false,true,false] bX):=by
 have S:=uR
 refine aP (N:=["line", "ahead", "given", "kind"]) (ps:=["line", "ahead", "given"]) (body:=gr) T.d_z38.fu S rfl fun cdv A outer s H E hr=>?_
 exact (ac (aA 3 S.nd rfl (Or.inl rfl) (ao (aa 0) ag))
  (ac (aE (aw (aG hr.units) aL (aa 3) (az nm_0) (nomark _)) (ac (ar (ao (aa 2) (ao (aa 0) ag)))
  ae) ae)
  (ac (aE (aw (aG hr.units) aL (aa 3) (az nm_1) (nomark _)) (ac aD
  ae) ae)
  (ac (aE (aw (aG hr.units) aL (aa 3) (az nm_9) (nomark _)) (ac aD
  ae) ae)
  (ac (aE (aw (aG hr.units) aL (aa 3) (az rS) (nomark _)) (ac aD
  ae) ae)
  (ac (aE (aw (aG hr.units) aL (aa 3) (az rT) (nomark _)) (ac aD
  ae) ae)
  (ac (aE (aw (aG hr.units) aL (aa 3) (az rV) (nomark _)) (ac aD
  ae) ae)
  (ac (aE (aw (aG hr.units) aL (aa 3) (az rW) (nomark _)) (ac aD
  ae) ae)
  (ac (aE (aw (aG hr.units) aL (aa 3) (az mn) (nomark _)) (ac (ar (pc T.d_z29 (tu T) hr rfl (af (ba 1 (ao (aa 0) ag)) (af (ao (aa 0) ag) (af (ba 1 (ao (aa 0) ag)) ah)))))
  ae) ae)
  (ac (aE (aw (aG hr.units) aL (aa 3) (az pp) (nomark _)) (ac (ar (pc T.d_z10 (sT T) hr rfl (af (ba 1 (ao (aa 0) ag)) (af (ba 1 (ao (aa 0) ag)) (af (ao (aa 0) ag) ah)))))
  ae) ae)
  (ac (aE (aw (aG hr.units) aL (aa 3) (az nm_8) (nomark _)) (ac (ar (iq (a8 (pc T.d_z5 (pH T) hr rfl (af (ba 1 (ao (aa 0) ag)) (af (ao (aa 0) ag) ah)))) (ba 1 (ao (aa 0) ag)) cR))
  ae) ae)
  (ac (ar (pc T.d_z39 (tG T) hr rfl (af (aa 0) (af (ba 1 (ao (aa 0) ag)) ah))))
  ae))))))))))))
theorem uP:FnScope ["at", "line", "ahead", "given", "sides"] ["at", "line", "ahead", "given"] (defScope (top 40)):=scs
include T in
theorem tD:FnOk P w K mg base CX0 4 a.a_z36 a.fd_z36 ["at", "line", "ahead", "given"] (spV K mg [false,false,true,false] cS):=by
 have S:=uP
 refine aP (N:=["at", "line", "ahead", "given", "sides"]) (ps:=["at", "line", "ahead", "given"]) (body:=l6) T.d_z36.fu S rfl fun cdv A outer s H E hr=>?_
 exact (ac (aE (cb (a8 (pc T.d_z31 (tx T) hr rfl (af (aa 1) (af (aF ay bC rfl T.b_len PySem.boot_len (eP 2)) (af (aF ay bC rfl T.b_len PySem.boot_len (PV.rd (aa 3))) ah)))))) (ac aD
  ae) ae)
  (ac (aE (cb (a8 (pc T.d_z27 (tj T) hr rfl (af (aa 1) ah)))) (ac aD
  ae) ae)
  (ac (aA 4 S.nd rfl (Or.inl rfl) (iq (a8 (pc T.d_z4 (wM T) hr rfl (af (aa 1) ah))) (pc T.d_z38 (tF T) hr rfl (af (aa 1) (bn 2 (af (aa 3) ah)))) cR))
  (ac (aE (PBW.pb (fY (aw pK rR (aa 4) cR (nomark _)) (eN (cb (a8 (pc T.d_z35 (pE T) hr rfl (af (aa 4) ah))))))) (ac aD
  ae) ae)
  (ac (ar (aa 4))
  ae)))))
theorem uQ:FnScope ["program", "given", "ahead", "at", "line"] ["program", "given"] (defScope (top 39)):=scs
include T in
theorem tE:FnOk P w K mg base CX0 5 a.a_z37 a.fd_z37 ["program", "given"] (spV K mg [false,false] eZ):=by
 have S:=uQ
 refine aP (N:=["program", "given", "ahead", "at", "line"]) (ps:=["program", "given"]) (body:=oq) T.d_z37.fu S rfl fun cdv A outer s H E hr=>?_
 exact (ac (aE (aw (aG hr.units) aL (aF ay bC rfl T.b_len PySem.boot_len (PV.rd (aa 0))) ag (nomark _)) (ac aD
  ae) ae)
  (ac (aE (aw pI g_gt (aF ay bC rfl T.b_len PySem.boot_len (PV.rd (aa 0))) (dJ T.g_MOST_LINES rfl) (nomark _)) (ac aD
  ae) ae)
  (ac (dP 2 S.nd rfl (Or.inl rfl) (cA aB))
  (ac (bQ PassesOwn.never rfl (mG rfl T.b_enumerate (ai (aa 0) aB)) (eQ rfl (aY 3 S.nd rfl (Or.inl rfl) (aY 4 S.nd rfl (Or.inl rfl) df))) (ac (dg 2 (pc T.d_z36 (tD T) hr rfl (af (aa 3) (af (aa 4) (bn 2 (af (aa 1) ah))))) (hpe:=fun ho ha=>fB PySem.F.plainAttrs_list PySem.F.slot_list_append PySem.F.type_list_append bg ho ha))
  ae) eC)
  (ac (f6 (i:=2) (ar (aa 2)))
  ae)))))
theorem uU:FnScope ["sides", "backwards", "stride", "side"] ["sides"] (defScope (top 28)):=scs
include T in
theorem pF:FnOk P w K mg base CX0 1 a.a_z41 a.fd_z41 ["sides"] (spV K mg [false] ff):=by
 have S:=uU
 refine aP (N:=["sides", "backwards", "stride", "side"]) (ps:=["sides"]) (body:=ou) T.d_z41.fu S rfl fun cdv A outer s H E hr=>?_
 exact (ac (dP 1 S.nd rfl (Or.inl rfl) (cA aB))
  (ac (aA 2 S.nd rfl (Or.inl rfl) ag)
  (ac (bQ PassesOwn.never rfl (u9 rfl T.b_reversed (aa 0)) (aO 3 S.nd rfl (Or.inl rfl)) (ac (dg 1 (aa 2) (hpe:=fun ho ha=>fB PySem.F.plainAttrs_list PySem.F.slot_list_append PySem.F.type_list_append bg ho ha))
  (ac (aA 2 S.nd rfl (Or.inl rfl) (aK eL gT (aa 2) (aa 3)))
  ae)) aM)
  (ac (ar (rm rfl T.b_reversed rfl T.b_tuple (eP 1)))
  ae))))
theorem uJ:FnScope ["sides", "at"] ["sides", "at"] (defScope (top 29)):=scs
include T in
theorem tw:FnOk P w K mg base CX0 2 a.a_z30 a.fd_z30 ["sides", "at"] (spV K mg [false,false] gO):=by
 have S:=uJ
 refine aP (N:=["sides", "at"]) (ps:=["sides", "at"]) (body:=oj) T.d_z30.fu S rfl fun cdv A outer s H E hr=>?_
 exact (ac (ar (aF (oC rfl) v6 rfl T.b_sum boot_sum (PV.rd (PF.pv (bW 2 rfl (N':=["sides", "at", "stride", "number", "?acc2"]) ⟨rfl,by kernel_rfl⟩ rfl (iF rfl T.b_zip (ai (pc T.d_z41 (pF T) hr rfl (af (aa 0) ah)) (ai (aa 1) aB))) eC (br (by kernel_rfl)) (fun C s H ex=>(eQ rfl (aY 2 (ndk ["sides", "at", "stride", "number", "?acc2"]) rfl (Or.inl rfl) (aY 3 (ndk ["sides", "at", "stride", "number", "?acc2"]) rfl (Or.inl rfl) df)))) (fun C s H ex _=>a9) (fun C s H ex _=>(aK eL gT (aa 2) (aa 3))))))))
  ae)
theorem xg:FnScope ["self", "at"] ["self", "at"] (defScope (inClass (top 55) 1)):=scs
include T in
theorem jc:FnOk P w K mg base CX0 3 a.a_z0 a.fd_z0 ["self", "at"] (spV K mg [false,false] f_z0):=by
 have S:=xg
 refine aP (N:=["self", "at"]) (ps:=["self", "at"]) (body:=b_z0) T.d_z0.fu S rfl fun cdv A outer s H E hr=>?_
 exact (ac (ar (ao (bv T.fk_cells (PV.rd (aa 0))) (pc T.d_z30 (tw T) hr rfl (af (bv T.fk_sides (PV.rd (aa 0))) (af (aa 1) ah)))))
  ae)
theorem xq:FnScope ["ahead", "behind", "side", "at", "place", "size"] ["ahead", "behind", "side", "at"] (defScope (top 66)):=scs
include T in
theorem wP:FnOk P w K mg base CX0 4 a.a_z9 a.fd_z9 ["ahead", "behind", "side", "at"] (spV K mg [false,false,false,false] f_z9):=by
 have S:=xq
 refine aP (N:=["ahead", "behind", "side", "at", "place", "size"]) (ps:=["ahead", "behind", "side", "at"]) (body:=b_z9) T.d_z9.fu S rfl fun cdv A outer s H E hr=>?_
 exact (ac (aA 4 S.nd rfl (Or.inl rfl) (ao (aa 3) (aa 2)))
  (ac (aA 5 S.nd rfl (Or.inl rfl) (ao (bv T.fk_sides (PV.rd (aa 0))) (aa 2)))
  (ac (ar (iq (aw fq g_lt (aa 4) (aa 5) (nomark _)) (d6 T.k_Table.mg T.k_Table.cls T.me_z0 (jc T) (hr.mono (by decide)) T.d_z0.bi pass0V (aa 0) (af (aa 3) ah)) (d6 T.k_Table.mg T.k_Table.cls T.me_z0 (jc T) (hr.mono (by decide)) T.d_z0.bi pass0V (aa 1) (af (pc T.d_z33 (ib T) hr rfl (af (aa 3) (af (aa 2) (af (aK cx du (aa 4) (aa 5)) ah)))) ah))))
  ae)))
theorem uH:FnScope ["source", "side", "numbers", "at", "place"] ["source", "side", "numbers", "at"] (defScope (top 65)):=scs
include T in
theorem tq:FnOk P w K mg base (CX1 P w) 4 a.a_z28 a.fd_z28 ["source", "side", "numbers", "at"] (spV K mg [false,false,false,false] eX):=by
 have S:=uH
 refine gR (N:=["source", "side", "numbers", "at", "place"]) (ps:=["source", "side", "numbers", "at"]) (body:=lY) T.d_z28.fu S rfl fun cdv A outer s H E hr hx hp=>?_
 exact (ac (aA 4 S.nd rfl (Or.inl rfl) (d6 T.k_Table.mg T.k_Table.cls T.me_z0 (jc T) (hr.mono (by decide)) T.d_z0.bi pass0V (aa 2) (af (be (ai (ao (aa 3) (aa 1)) aB)) ah)))
  (ac (aE (aw rY g_ge (aa 4) (ao (bv T.fk_sides (PV.rd (aa 0))) (aa 1)) (nomark _)) (ac (qj T.x_NoCell rfl T.kx_NoCell rfl rfl rfl rfl (ai (az wK) aB))
  ae) ae)
  (ac (ar (d6 T.k_Table.mg T.k_Table.cls T.me_z0 (jc T) (hr.mono (by decide)) T.d_z0.bi pass0V (aa 0) (af (pc T.d_z33 (ib T) hr rfl (af (aa 3) (af (aa 1) (af (aa 4) ah)))) ah)))
  ae)))
theorem uN:FnScope ["source", "side", "by", "number", "at", "place"] ["source", "side", "by", "number", "at"] (defScope (top 67)):=scs
include T in
theorem tz:FnOk P w K mg base CX0 4 a.a_z34 a.fd_z34 ["source", "side", "by", "number", "at"] (spV K mg [false,false,false,false,false] gP):=by
 have S:=uN
 refine aP (N:=["source", "side", "by", "number", "at", "place"]) (ps:=["source", "side", "by", "number", "at"]) (body:=jY) T.d_z34.fu S rfl fun cdv A outer s H E hr=>?_
 exact (ac (aA 5 S.nd rfl (Or.inl rfl) (aK cx du (ao (aa 4) (aa 1)) (aa 2)))
  (ac (ar (iq (kE cK fq g_le g_lt ag (aa 5) (ao (bv T.fk_sides (PV.rd (aa 0))) (aa 1))) (d6 T.k_Table.mg T.k_Table.cls T.me_z0 (jc T) (hr.mono (by decide)) T.d_z0.bi pass0V (aa 0) (af (pc T.d_z33 (ib T) hr rfl (af (aa 4) (af (aa 1) (af (aa 5) ah)))) ah)) (aa 3)))
  ae))
theorem uT:FnScope ["source", "at", "last"] ["source", "at"] (defScope (top 62)):=scs
include T in
theorem tH:FnOk P w K mg base CX0 4 a.a_z40 a.fd_z40 ["source", "at"] (spV K mg [false,false] ki):=by
 have S:=uT
 refine aP (N:=["source", "at", "last"]) (ps:=["source", "at"]) (body:=rO) T.d_z40.fu S rfl fun cdv A outer s H E hr=>?_
 exact (ac (aA 2 S.nd rfl (Or.inl rfl) (cM (aa 1) (bp (aK cx du (aF ay bC rfl T.b_len PySem.boot_len (PV.rd (aa 1))) (aF ay bC rfl T.b_len PySem.boot_len (PV.rd (bv T.fk_sides (PV.rd (aa 0))))))) bo))
  (ac (ar (d6 T.k_Table.mg T.k_Table.cls T.me_z0 (jc T) (hr.mono (by decide)) T.d_z0.bi pass0V (aa 0) (af (cg bf dY rfl T.b_tuple boot_tuple (PV.rd (PF.pv (bW 2 rfl (N':=["source", "at", "last", "side", "number", "?acc3"]) ⟨rfl,by kernel_rfl⟩ rfl (iF rfl T.b_zip (ai (bv T.fk_sides (PV.rd (aa 0))) (ai (aa 2) aB))) eC (br (by kernel_rfl)) (fun C s H ex=>(eQ rfl (aY 3 (ndk ["source", "at", "last", "side", "number", "?acc3"]) rfl (Or.inl rfl) (aY 4 (ndk ["source", "at", "last", "side", "number", "?acc3"]) rfl (Or.inl rfl) df)))) (fun C s H ex _=>a9) (fun C s H ex _=>(iq (aw (aG hr.units) aL (aa 3) ag (nomark _)) ag (aa 4))))))) ah)))
  ae))
theorem uW:FnScope ["line", "source", "at", "kind"] ["line", "source", "at"] (defScope (top 61)):=scs
include T in
theorem tJ:FnOk P w K mg base CX0 5 a.a_z43 a.fd_z43 ["line", "source", "at"] (spV K mg [false,false,false] kj):=by
 have S:=uW
 refine aP (N:=["line", "source", "at", "kind"]) (ps:=["line", "source", "at"]) (body:=rP) T.d_z43.fu S rfl fun cdv A outer s H E hr=>?_
 exact (ac (aA 3 S.nd rfl (Or.inl rfl) (ao (aa 0) ag))
  (ac (aE (aw (aG hr.units) aL (aa 3) (az nm_2) (nomark _)) (ac aD
  ae) ae)
  (ac (aE (aw (aG hr.units) aL (aa 3) (az nm_3) (nomark _)) (ac aD
  ae) ae)
  (ac (aE (aw (aG hr.units) aL (aa 3) (az nm_4) (nomark _)) (ac aD
  ae) ae)
  (ac (aE (aw (aG hr.units) aL (aa 3) (az nm_5) (nomark _)) (ac aD
  ae) ae)
  (ac (ar (pc T.d_z40 (tH T) hr rfl (af (aa 1) (af (aa 2) ah))))
  ae))))))
theorem xi:FnScope ["line", "sides", "made", "at", "kind"] ["line", "sides", "made", "at"] (defScope (top 60)):=scs
include T in
theorem wL:FnOk P w K mg base (CX1 P w) 6 a.a_z2 a.fd_z2 ["line", "sides", "made", "at"] (spV K mg [false,false,true,false] f_z2):=by
 have S:=xi
 refine gR (N:=["line", "sides", "made", "at", "kind"]) (ps:=["line", "sides", "made", "at"]) (body:=b_z2) T.d_z2.fu S rfl fun cdv A outer s H E hr hx hp=>?_
 exact (ac (aA 4 S.nd rfl (Or.inl rfl) (ao (aa 0) ag))
  (ac (aE (aw (aG hr.units) aL (aa 4) (az nm_1) (nomark _)) (ac aD
  ae) ae)
  (ac (aE (aw (aG hr.units) aL (aa 4) (az nm_9) (nomark _)) (ac aD
  ae) ae)
  (ac (aE (aw (aG hr.units) aL (aa 4) (az rS) (nomark _)) (ac aD
  ae) ae)
  (ac (aE (aw (aG hr.units) aL (aa 4) (az rT) (nomark _)) (ac aD
  ae) ae)
  (ac (aE (aw (aG hr.units) aL (aa 4) (az rV) (nomark _)) (ac aD
  ae) ae)
  (ac (aE (aw (aG hr.units) aL (aa 4) (az mn) (nomark _)) (ac (ar (dZ (tq T) (hr.mono (by decide)) rfl T.d_z28.mg T.d_z28.fu.kp T.d_z28.bi hx (af (ba 2 (ao (aa 0) ag)) (af (ao (aa 0) ag) (af (ba 2 (ao (aa 0) ag)) (af (aa 3) ah))))))
  ae) ae)
  (ac (aE (aw (aG hr.units) aL (aa 4) (az pp) (nomark _)) (ac (ar (pc T.d_z9 (wP T) hr rfl (af (ba 2 (ao (aa 0) ag)) (af (ba 2 (ao (aa 0) ag)) (af (ao (aa 0) ag) (af (aa 3) ah))))))
  ae) ae)
  (ac (aE (aw (aG hr.units) aL (aa 4) (az nm_8) (nomark _)) (ac (ar (pc T.d_z34 (tz T) hr rfl (af (ba 2 (ao (aa 0) ag)) (af (ao (aa 0) ag) (af (ao (aa 0) ag) (af (ao (aa 0) ag) (af (aa 3) ah)))))))
  ae) ae)
  (ac (aE (aw (aG hr.units) aL (aa 4) (az nm_7) (nomark _)) (ac aD
  ae) ae)
  (ac (ar (pc T.d_z43 (tJ T) hr rfl (af (aa 0) (af (ba 2 (ao (aa 0) ag)) (af (aa 3) ah)))))
  ae)))))))))))
theorem xm:FnScope ["sides", "place", "at", "rest", "stride", "step"] ["sides", "place"] (defScope (top 30)):=scs
include T in
theorem wN:FnOk P w K mg base CX0 2 a.a_z6 a.fd_z6 ["sides", "place"] (spV K mg [false,false] f_z6):=by
 have S:=xm
 refine aP (N:=["sides", "place", "at", "rest", "stride", "step"]) (ps:=["sides", "place"]) (body:=b_z6) T.d_z6.fu S rfl fun cdv A outer s H E hr=>?_
 exact (ac (dP 2 S.nd rfl (Or.inl rfl) (cA aB))
  (ac (aA 3 S.nd rfl (Or.inl rfl) (aa 1))
  (ac (bQ PassesOwn.never rfl (bP (pc T.d_z41 (pF T) hr rfl (af (aa 0) ah))) (aO 4 S.nd rfl (Or.inl rfl)) (ac (aA 5 S.nd rfl (Or.inl rfl) (pZ (mQ rfl) v5 rfl T.b_max boot_max (ai (aa 4) (ai ag aB))))
  (ac (dg 2 (aK mt oO (aa 3) (aa 5)) (hpe:=fun ho ha=>fB PySem.F.plainAttrs_list PySem.F.slot_list_append PySem.F.type_list_append bg ho ha))
  (ac (aA 3 S.nd rfl (Or.inl rfl) (aK dF fV (aa 3) (aa 5)))
  ae))) aM)
  (ac (ar (cg bf dY rfl T.b_tuple boot_tuple (eP 2)))
  ae))))
theorem xo:FnScope ["sides"] ["sides"] (defScope (top 31)):=scs
include T in
theorem wO:FnOk P w K mg base CX0 3 a.a_z7 a.fd_z7 ["sides"] (spV K mg [false] f_z7):=by
 have S:=xo
 refine aP (N:=["sides"]) (ps:=["sides"]) (body:=b_z7) T.d_z7.fu S rfl fun cdv A outer s H E hr=>?_
 exact (ac (ar (PF.pv (bW 1 rfl (N':=["sides", "place", "?acc1"]) ⟨rfl,by kernel_rfl⟩ rfl (bE rfl T.b_range (ai (pc T.d_z3 (kB T) hr rfl (af (aa 0) ah)) aB)) aM (br (by kernel_rfl)) (fun C s H ex=>(aO 1 (ndk ["sides", "place", "?acc1"]) rfl (Or.inl rfl))) (fun C s H ex _=>a9) (fun C s H ex _=>(pc T.d_z6 (wN T) hr rfl (af (aa 0) (af (aa 1) ah)))))))
  ae)
theorem uV:FnScope ["line", "sides", "made", "tables"] ["line", "sides", "made", "tables"] (defScope (top 58)):=scs
include T in
theorem tI:FnOk P w K mg base (CX1 P w) 7 a.a_z42 a.fd_z42 ["line", "sides", "made", "tables"] (spV K mg [false,false,true,false] bH):=by
 have S:=uV
 refine gR (N:=["line", "sides", "made", "tables"]) (ps:=["line", "sides", "made", "tables"]) (body:=jZ) T.d_z42.fu S rfl fun cdv A outer s H E hr hx hp=>?_
 exact (ac (aE (aw (aG hr.units) aL (ao (aa 0) ag) (az nm_0) (nomark _)) (ac (ar (PF.pv (jJ T.mk_Table (pw T) (hr.mono (by decide)) rfl T.k_Table.mg T.d_z1.bi pass0V (af (aa 1) (af (bv T.fk_cells (PV.rd (ao (aa 3) (ao (aa 0) ag)))) ah)))))
  ae) ae)
  (ac (aE (aw (aG hr.units) aL (ao (aa 0) ag) (az rW) (nomark _)) (ac aD
  ae) ae)
  (ac (ar (PF.pv (jJ T.mk_Table (pw T) (hr.mono (by decide)) rfl T.k_Table.mg T.d_z1.bi pass0V (af (aa 1) (af (PF.pv (pS 1 rfl rfl rfl rfl rfl rfl (N':=["line", "sides", "made", "tables", "at", "?acc4"]) ⟨rfl,by kernel_rfl⟩ rfl (bP (pc T.d_z7 (wO T) hr rfl (af (aa 1) ah))) aM (br (by kernel_rfl)) (fun C s H ex=>(aO 4 (ndk ["line", "sides", "made", "tables", "at", "?acc4"]) rfl (Or.inl rfl))) (fun C s H ex _=>a9) (fun C s H ex E hx=>(dZ (wL T) (hr.mono (by decide)) rfl T.d_z2.mg T.d_z2.fu.kp T.d_z2.bi hx (af (aa 0) (af (aa 1) (bn 2 (af (aa 4) ah)))))))) ah)))))
  ae)))
theorem uX:FnScope ["program", "wanted", "at", "named"] ["program"] (defScope (top 21)):=scs
include T in
theorem tK:FnOk P w K mg base CX0 2 a.a_z44 a.fd_z44 ["program"] (spV K mg [false] gQ):=by
 have S:=uX
 refine aP (N:=["program", "wanted", "at", "named"]) (ps:=["program"]) (body:=ox) T.d_z44.fu S rfl fun cdv A outer s H E hr=>?_
 exact (ac (mH 1 1 S.nd rfl (Or.inl rfl) rfl (N':=["program", "wanted", "at", "named", "line", "?acc4"]) ⟨rfl,by kernel_rfl⟩ rfl (bP (aa 0)) aM (br (by kernel_rfl)) (fun C s H ex=>(aO 4 (ndk ["program", "wanted", "at", "named", "line", "?acc4"]) rfl (Or.inl rfl))) (fun C s H ex _=>a9) (fun C s H ex _=>fD))
  (ac (iG 1 (aK cx du (aF ay bC rfl T.b_len PySem.boot_len (PV.rd (aa 0))) ag) fD)
  (ac (bQ PassesOwn.never rfl (rF rfl T.b_range (ai (aK cx du (aF ay bC rfl T.b_len PySem.boot_len (PV.rd (aa 0))) ag) (ai (p6 lQ jU ag) (ai (p6 lQ jU ag) aB)))) (aO 2 S.nd rfl (Or.inl rfl)) (ac (aE (a8 (ba 1 (aa 2))) (ac (bQ PassesOwn.never rfl (bP (pc T.d_z26 (pC T) hr rfl (af (ao (aa 0) (aa 2)) ah))) (aO 3 S.nd rfl (Or.inl rfl)) (ac (iG 1 (aa 3) fD)
  ae) aM)
  ae) ae)
  ae) aM)
  (ac (f6 (i:=1) (ar (aa 1)))
  ae))))
theorem uL:FnScope ["program", "tables", "sides", "wanted", "made", "at", "line"] ["program", "tables"] (defScope (top 57)):=scs
include T in
theorem pD:FnOk P w K mg base (CX1 P w) 8 a.a_z32 a.fd_z32 ["program", "tables"] (spV K mg [false,false] ci):=by
 have S:=uL
 refine gR (N:=["program", "tables", "sides", "wanted", "made", "at", "line"]) (ps:=["program", "tables"]) (body:=l5) T.d_z32.fu S rfl fun cdv A outer s H E hr hx hp=>?_
 exact (ac (aA 2 S.nd rfl (Or.inl rfl) (pc T.d_z37 (tE T) hr rfl (af (aa 0) (af (PF.pv (bW 1 rfl (N':=["program", "tables", "sides", "wanted", "made", "at", "line", "table", "?acc7"]) ⟨rfl,by kernel_rfl⟩ rfl (bP (aa 1)) aM (br (by kernel_rfl)) (fun C s H ex=>(aO 7 (ndk ["program", "tables", "sides", "wanted", "made", "at", "line", "table", "?acc7"]) rfl (Or.inl rfl))) (fun C s H ex _=>a9) (fun C s H ex _=>(bv T.fk_sides (PV.rd (aa 7)))))) ah))))
  (ac (aA 3 S.nd rfl (Or.inl rfl) (pc T.d_z44 (tK T) hr rfl (af (aa 0) ah)))
  (ac (dP 4 S.nd rfl (Or.inl rfl) (cA aB))
  (ac (bQ hp rfl (mG rfl T.b_enumerate (ai (aa 0) aB)) (eQ rfl (aY 5 S.nd rfl (Or.inl rfl) (aY 6 S.nd rfl (Or.inl rfl) df))) (ac (dg 4 (iq (a8 (ao (aa 3) (aa 5))) (dZ (tI T) (hr.mono (by decide)) rfl T.d_z42.mg T.d_z42.fu.kp T.d_z42.bi hx (af (aa 6) (af (ao (aa 2) (aa 5)) (bn 4 (af (aa 1) ah))))) cR) (hpe:=fun ho ha=>fB PySem.F.plainAttrs_list PySem.F.slot_list_append PySem.F.type_list_append bg ho ha))
  ae) eC)
  (ac (ar (ba 4 (p6 lQ jU ag)))
  ae)))))
theorem uB:FnScope ["_law_program", "_law_tables", "e"] ["_law_program", "_law_tables"] (defScope (top 82)):=scs
include T in
theorem sZ:FnOk P w K mg base CX0 9 a.a_z21 a.fd_z21 ["_law_program", "_law_tables"] (spV K mg [false,false] gK):=by
 have S:=uB
 refine sB (N:=["_law_program", "_law_tables", "e"]) (ps:=["_law_program", "_law_tables"]) (body:=n8) T.d_z21.fu S rfl fun cdv A outer s H E hr=>?_
 exact (jn (ve T.ct_LoomError (by rfl) T.kx_LoomError T.ts_LoomError 2 rfl S.nd rfl rfl rfl rfl rfl (fun EXb hx hp=>(ac (rG (dZ (pD T) (hr.mono (by decide)) rfl T.d_z32.mg T.d_z32.fu.kp T.d_z32.bi hx (af (aa 0) (af (aa 1) ah))))
  ae)) (fun e=>(ac (aE (PBW.pb (fY (a8 (gj T.kx_NoTable T.ix_NoTable rfl T.b_isinstance rfl (aa 2))) (fY (a8 (gj T.kx_BadLine T.ix_BadLine rfl T.b_isinstance rfl (aa 2))) (eN (a8 (gj T.kx_NoText T.ix_NoText rfl T.b_isinstance rfl (aa 2))))))) (ac (ar fD)
  ae) ae)
  (ac (ar (lH (gj T.kx_NoCell T.ix_NoCell rfl T.b_isinstance rfl (aa 2)) (jO (p5 "ValueError" T.ix_ValueError rfl T.b_isinstance rfl T.b_ValueError (by decide +kernel) (aa 2)))))
  ae))))
  (jn (vs_0 (ar fD))
  (xM ae)))
theorem uC:FnScope ["_law_row", "_law_own_here", "_law_cells_here", "_law_side", "_law_by", "_law_number", "_law_due", "_law_place_here", "_law_at", "_law_where"] ["_law_row", "_law_own_here", "_law_cells_here", "_law_side"] (defScope (top 79)):=scs
include T in
theorem td:FnOk P w K mg base CX0 3 a.a_z22 a.fd_z22 ["_law_row", "_law_own_here", "_law_cells_here", "_law_side"] (spV K mg [true,false,false,false] gL):=by
 have S:=uC
 refine aP (N:=["_law_row", "_law_own_here", "_law_cells_here", "_law_side", "_law_by", "_law_number", "_law_due", "_law_place_here", "_law_at", "_law_where"]) (ps:=["_law_row", "_law_own_here", "_law_cells_here", "_law_side"]) (body:=n9) T.d_z22.fu S rfl fun cdv A outer s H E hr=>?_
 exact (ac (aA 4 S.nd rfl (Or.inl rfl) (aK cx du (pc T.d_z23 (cw T) hr rfl (bn 0 (af ag ah))) ag))
  (ac (aA 5 S.nd rfl (Or.inl rfl) (pc T.d_z23 (cw T) hr rfl (bn 0 (af ag ah))))
  (ac (dP 6 S.nd rfl (Or.inl rfl) (cA aB))
  (ac (bQ PassesOwn.never rfl (bE rfl T.b_range (ai (pc T.d_z11 (eK T) hr rfl (af (aa 1) ah)) aB)) (aO 7 S.nd rfl (Or.inl rfl)) (ac (aA 8 S.nd rfl (Or.inl rfl) (pc T.d_z13 (lA T) hr rfl (af (aa 1) (af (aa 7) ah))))
  (ac (aA 9 S.nd rfl (Or.inl rfl) (aK cx du (ao (aa 8) (aa 3)) (aa 4)))
  (ac (aE (kE cK fq g_le g_lt ag (aa 9) (ao (aa 1) (aa 3))) (ac (dg 6 (ao (aa 2) (pc T.d_z20 (jH T) hr rfl (af (aa 1) (af (pc T.d_z12 (fP T) hr rfl (af (aa 8) (af (aa 3) (af (aa 9) ah)))) ah)))) (hpe:=fun ho ha=>fB PySem.F.plainAttrs_list PySem.F.slot_list_append PySem.F.type_list_append bg ho ha))
  ae) (ac (dg 6 (aa 5) (hpe:=fun ho ha=>fB PySem.F.plainAttrs_list PySem.F.slot_list_append PySem.F.type_list_append bg ho ha))
  ae))
  ae))) aM)
  (ac (f6 (i:=6) (ar (be (ai (be (ai (az nm_8) (ai ag (ai (aa 3) (ai (aa 4) (ai (aa 5) aB)))))) (ai (aa 1) (ai (aa 6) aB))))))
  ae)))))
theorem um:FnScope ["_law_script", "_law_row", "_law_way", "_law_own_here", "_law_side", "_law_some", "_law_cells_here", "_law_found", "_law_tables", "_law_program"] ["_law_script"] (defScope (top 83)):=scs
include T in
theorem sS:FnOk P w K mg base (CX1 P w) 10 a.a_law a.fd_law ["_law_script"] (spV K mg [false] iZ):=by
 have S:=um
 refine gR (N:=["_law_script", "_law_row", "_law_way", "_law_own_here", "_law_side", "_law_some", "_law_cells_here", "_law_found", "_law_tables", "_law_program"]) (ps:=["_law_script"]) (body:=lS) T.d_law.fu S rfl fun cdv A outer s H E hr hx hp=>?_
 exact (ac (dP 1 S.nd rfl (Or.inr rfl) (cA (ai (aa 0) (ai ag aB))))
  (ac (aA 2 S.nd rfl (Or.inl rfl) (pc T.d_z23 (cw T) hr rfl (bn 1 (af ag ah))))
  (ac (aA 3 S.nd rfl (Or.inl rfl) (pc T.d_z18 (sX T) hr rfl (bn 1 ah)))
  (ac (aE (aw (aG hr.units) aL (aa 3) (be aB) (nomark _)) (ac (aA 3 S.nd rfl (Or.inl rfl) (be (ai ag aB)))
  ae) ae)
  (ac (aA 4 S.nd rfl (Or.inl rfl) (pc T.d_z23 (cw T) hr rfl (bn 1 (af (aF ay bC rfl T.b_len PySem.boot_len (PV.rd (aa 3))) ah))))
  (ac (aA 5 S.nd rfl (Or.inl rfl) (PF.pv (cA (ai (aa 3) (ai (pc T.d_z12 (fP T) hr rfl (af (aa 3) (af (aa 4) (af (pc T.d_z23 (cw T) hr rfl (bn 1 (af ag ah))) ah)))) (ai (be (ai (pc T.d_z23 (cw T) hr rfl (bn 1 (af ag ah))) aB)) aB))))))
  (ac (mH 1 6 S.nd rfl (Or.inl rfl) rfl (N':=["_law_script", "_law_row", "_law_way", "_law_own_here", "_law_side", "_law_some", "_law_cells_here", "_law_found", "_law_tables", "_law_program", "_law_sides", "?acc10"]) ⟨rfl,by kernel_rfl⟩ rfl (bP (aa 5)) aM (br (by kernel_rfl)) (fun C s H ex=>(aO 10 (ndk ["_law_script", "_law_row", "_law_way", "_law_own_here", "_law_side", "_law_some", "_law_cells_here", "_law_found", "_law_tables", "_law_program", "_law_sides", "?acc10"]) rfl (Or.inl rfl))) (fun C s H ex _=>a9) (fun C s H ex _=>(pc T.d_z16 (sW T) hr rfl (bn 1 (af (aa 10) ah)))))
  (rH (bW 1 rfl (N':=["_law_script", "_law_row", "_law_way", "_law_own_here", "_law_side", "_law_some", "_law_cells_here", "_law_found", "_law_tables", "_law_program", "_law_number", "?acc10"]) ⟨rfl,by kernel_rfl⟩ rfl (bP (ba 6 ag)) aM (br (by kernel_rfl)) (fun C s H ex=>(aO 10 (ndk ["_law_script", "_law_row", "_law_way", "_law_own_here", "_law_side", "_law_some", "_law_cells_here", "_law_found", "_law_tables", "_law_program", "_law_number", "?acc10"]) rfl (Or.inl rfl))) (fun C s H ex _=>a9) (fun C s H ex _=>(aK dF fV (aa 10) ag))) (rh (by decide) (cw T) (hr.mono (by decide)) rfl T.d_z23.mg T.d_z23.fu.kp T.d_z23.bi pass0V hr.units rfl T.b_len)
  (ac (f6 (i:=6) (aA 7 S.nd rfl (Or.inl rfl) (pc T.d_z19 (sY T) hr rfl (af (aa 5) (af (aa 6) (af (aa 4) ah))))))
  (ac (aE (aw (aG hr.units) aL (aa 2) ag (nomark _)) (ac (aA 7 S.nd rfl (Or.inl rfl) (pc T.d_z22 (td T) hr rfl (bn 1 (af (aa 3) (af (ao (aa 6) ag) (af (aa 4) ah))))))
  ae) ae)
  (ac (aE (aw (aG hr.units) aL (aa 2) ag (nomark _)) (ac (f6 (i:=6) (aA 7 S.nd rfl (Or.inl rfl) (pc T.d_z15 (sV T) hr rfl (bn 1 (af (aa 5) (af (aa 6) (af (aa 4) ah)))))))
  ae) ae)
  (ac (f6 (i:=6) (gm 2 8 S.nd rfl (Or.inl rfl) rfl (N':=["_law_script", "_law_row", "_law_way", "_law_own_here", "_law_side", "_law_some", "_law_cells_here", "_law_found", "_law_tables", "_law_program", "_law_sides", "_law_numbers_here", "?acc10"]) ⟨rfl,by kernel_rfl⟩ rfl (iF rfl T.b_zip (ai (aa 5) (ai (aa 6) aB))) eC (br (by kernel_rfl)) (fun C s H ex=>(eQ rfl (aY 10 (ndk ["_law_script", "_law_row", "_law_way", "_law_own_here", "_law_side", "_law_some", "_law_cells_here", "_law_found", "_law_tables", "_law_program", "_law_sides", "_law_numbers_here", "?acc10"]) rfl (Or.inl rfl) (aY 11 (ndk ["_law_script", "_law_row", "_law_way", "_law_own_here", "_law_side", "_law_some", "_law_cells_here", "_law_found", "_law_tables", "_law_program", "_law_sides", "_law_numbers_here", "?acc10"]) rfl (Or.inl rfl) df)))) (fun C s H ex _=>a9) (fun C s H ex _=>(PF.pv (jJ T.mk_Table (pw T) (hr.mono (by decide)) rfl T.k_Table.mg T.d_z1.bi pass0V (af (aa 10) (af (aa 11) ah)))))))
  (ac (aA 8 S.nd rfl (Or.inl rfl) (aK aU bj (cM (aa 8) (bp ag) bo) (cM (aa 8) bo (bp ag))))
  (ac (aA 9 S.nd rfl (Or.inl rfl) (PF.pv (cA (ai (be (ai (az nm_0) (ai ag aB))) (ai (be (ai (az nm_0) (ai ag aB))) (ai (be (ai (az nm_0) (ai ag aB))) (ai (ao (aa 7) ag) aB)))))))
  (ac (aE (aw pK rR (ao (aa 7) ag) cR (nomark _)) (ac (ar (pc T.d_z21 (sZ T) hr rfl (af (aa 9) (af (aa 8) ah))))
  ae) ae)
  (ac (ar (pc T.d_z14 (sU T) hr rfl (af (dZ (pD T) (hr.mono (by decide)) rfl T.d_z32.mg T.d_z32.fu.kp T.d_z32.bi hx (af (aa 9) (af (aa 8) ah))) (af (ao (aa 7) ag) (af (ao (aa 7) ag) ah)))))
  ae))))))))))))))))
end
end LW

end
section
set_option Elab.async false
set_option maxRecDepth 100000
set_option maxHeartbeats 4000000
namespace LW
open PySem PySem.Spec PyProof.Rows L2 VP VS
theorem txt_mk {w:World} {K:Frag} {mg:MG} {h:Heap} (X:K.In h) (G:h.Ns mainGlobals mg)
  {f_z3 f_z8 fT f_z1 dh gM fS gF cf eW dq bu gG gH gI gJ f_z4 el a6 eY f_z5 dr fU gE gN kh bX cS eZ ff gO f_z0 f_z9 eX gP ki kj f_z2 f_z6 f_z7 bH gQ ci gK gL iZ:Addr}
  {C_Table:Addr} (n_Table:PySem.W.nsIn K mainGlobals "Table" = some (some (.ref C_Table))) (pg_Table:PySem.W.plainGet K C_Table Str.empty=true) (hd_Table:PySem.W.hasDictIn K C_Table=true) (po_Table:PySem.W.plainOver K C_Table=true) (sa_Table:PySem.W.findIn K (.ref C_Table) "__setattr__" = some (some (.builtin "object.__setattr__")))
  (i_z1:PySem.W.findIn K (.ref C_Table) "__init__" = some (some (.ref f_z1))) (fn_z1:PySem.W.isFn K (.ref f_z1)=true)
  (mk_Table:PySem.W.makesIn K C_Table=true) (kc_Table:PySem.W.keepIn K (.ref C_Table)=true)
  (i_z0:PySem.W.findIn K (.ref C_Table) "cell" = some (some (.ref f_z0))) (fn_z0:PySem.W.isFn K (.ref f_z0)=true)
  (h_z3:DH K "cells_in" (top 27) f_z3)
  (h_z8:DH K "is_rest" (top 3) f_z8)
  (h_z35:DH K "sides_can_be" (top 26) fT)
  (h_z1:DM K "__init__" "Table.__init__" (inClass (top 55) 0) f_z1)
  (h_z12:DH K "_law_changed" (top 76) dh)
  (h_z24:DH K "_law_whole" (top 70) gM)
  (h_z17:DH K "_law_numbers" (top 71) fS)
  (h_z14:DH K "_law_is_table" (top 75) gF)
  (h_z11:DH K "_law_cells" (top 72) cf)
  (h_z13:DH K "_law_index" (top 73) eW)
  (h_z20:DH K "_law_place" (top 74) dq)
  (h_z23:DH K "_law_taken" (top 69) bu)
  (h_z15:DH K "_law_join" (top 80) gG)
  (h_z16:DH K "_law_numbered" (top 78) gH)
  (h_z18:DH K "_law_own" (top 77) gI)
  (h_z19:DH K "_law_pick" (top 81) gJ)
  (h_z4:DH K "deed_is_known" (top 19) f_z4)
  (h_z27:DH K "number_is_cell" (top 42) el)
  (h_z26:DH K "named_by" (top 18) a6)
  (h_z31:DH K "places_are_there" (top 41) eY)
  (h_z5:DH K "has_side" (top 45) f_z5)
  (h_z33:DH K "replaced" (top 36) dr)
  (h_z45:DH K "without" (top 34) fU)
  (h_z10:DH K "joined_sides" (top 53) gE)
  (h_z29:DH K "picked_sides" (top 52) gN)
  (h_z39:DH K "sides_viewed" (top 44) kh)
  (h_z38:DH K "sides_told" (top 43) bX)
  (h_z36:DH K "sides_looked_over" (top 40) cS)
  (h_z37:DH K "sides_of" (top 39) eZ)
  (h_z41:DH K "strides_of" (top 28) ff)
  (h_z30:DH K "place_at" (top 29) gO)
  (h_z0:DM K "cell" "Table.cell" (inClass (top 55) 1) f_z0)
  (h_z9:DH K "join_cell" (top 66) f_z9)
  (h_z28:DH K "pick_cell" (top 65) eX)
  (h_z34:DH K "shift_cell" (top 67) gP)
  (h_z40:DH K "spread_cell" (top 62) ki)
  (h_z43:DH K "view_cell" (top 61) kj)
  (h_z2:DH K "cell_made" (top 60) f_z2)
  (h_z6:DH K "index_of" (top 30) f_z6)
  (h_z7:DH K "indexes_of" (top 31) f_z7)
  (h_z42:DH K "table_made" (top 58) bH)
  (h_z44:DH K "wanted_lines" (top 21) gQ)
  (h_z32:DH K "plain_answer" (top 57) ci)
  (h_z21:DH K "_law_refused" (top 82) gK)
  (h_z22:DH K "_law_shift" (top 79) gL)
  (h_law:DH K "law" (top 83) iZ)
  (na_cells_Table:PySem.W.findIn K (.ref C_Table) "cells" = some none)
  (na_sides_Table:PySem.W.findIn K (.ref C_Table) "sides" = some none)
  {C_BadLine:Addr} (n_BadLine:PySem.W.nsIn K mainGlobals "BadLine" = some (some (.ref C_BadLine)))
  {C_LoomError:Addr} (n_LoomError:PySem.W.nsIn K mainGlobals "LoomError" = some (some (.ref C_LoomError)))
  {C_NoCell:Addr} (n_NoCell:PySem.W.nsIn K mainGlobals "NoCell" = some (some (.ref C_NoCell)))
  {C_NoTable:Addr} (n_NoTable:PySem.W.nsIn K mainGlobals "NoTable" = some (some (.ref C_NoTable)))
  {C_NoText:Addr} (n_NoText:PySem.W.nsIn K mainGlobals "NoText" = some (some (.ref C_NoText)))
  (x_NoCell:PySem.W.excIn K C_NoCell vmro "ValueError.__new__" = true)
  (ct_LoomError:CatK K C_LoomError) (em_LoomError_NoCell:PySem.W.mroIn K C_NoCell (.ref C_LoomError)=some true)
  (ec_NoCell:ErrC K C_NoCell)
  (ei_BadLine_NoCell:PySem.W.kitOne K (.ref C_NoCell) (.ref C_BadLine)=some false)
  (ei_NoCell_NoCell:PySem.W.kitOne K (.ref C_NoCell) (.ref C_NoCell)=some true)
  (ei_NoTable_NoCell:PySem.W.kitOne K (.ref C_NoCell) (.ref C_NoTable)=some false)
  (ei_NoText_NoCell:PySem.W.kitOne K (.ref C_NoCell) (.ref C_NoText)=some false)
  (ei_ValueError_NoCell:PySem.W.kitOne K (.ref C_NoCell) (.type "ValueError")=some true)
  (sp_:PySem.W.specialIn K (.builtin "object.__class__") "__get__" = some (some (.builtin "getset_descriptor.__get__"))) (tk_:PySem.W.takesIn K (.builtin "object.__class__")=some true)
  (ig_Table:PySem.W.plainGet K C_Table "__class__" = true) (if_Table:PySem.W.findIn K (.ref C_Table) "__class__" = some (some (.builtin "object.__class__"))) (im_Table:PySem.W.mroIn K C_Table (.type "object")=some true)
  (ik_Table_Table:PySem.W.kitOne K (.ref C_Table) (.ref C_Table)=some true)
  {q_DEEDS:Addr}
  {es_DEEDS:Array DictEntry} {n_DEEDS:Nat} (g_DEEDS:PySem.W.nsIn K mainGlobals "DEEDS" = some (some (.ref q_DEEDS))) (o_DEEDS:K.lookup q_DEEDS=some ⟨.type "dict", none,.dict es_DEEDS n_DEEDS,#[]⟩) (h_DEEDS:PySem.W.KeysLit w.params es_DEEDS.toList)
  (sm_DEEDS:(q_DEEDS == sysModules)=false)
  {t_DEEDS_0:Addr} (e_DEEDS_0:PySem.W.nsIn K q_DEEDS "one" = some (some (.ref t_DEEDS_0)))
  {m_DEEDS_0:Nat} {w_DEEDS_0_0:Tok} {w_DEEDS_0_1:Tok} {w_DEEDS_0_2:Tok} (u_DEEDS_0:K.lookup t_DEEDS_0=some ⟨.type "tuple", none,.seq #[.str "minus" w_DEEDS_0_0,.str "half" w_DEEDS_0_1,.str "none" w_DEEDS_0_2] m_DEEDS_0,#[]⟩)
  {t_DEEDS_1:Addr} (e_DEEDS_1:PySem.W.nsIn K q_DEEDS "both" = some (some (.ref t_DEEDS_1)))
  {m_DEEDS_1:Nat} {w_DEEDS_1_0:Tok} {w_DEEDS_1_1:Tok} {w_DEEDS_1_2:Tok} {w_DEEDS_1_3:Tok} {w_DEEDS_1_4:Tok} {w_DEEDS_1_5:Tok} {w_DEEDS_1_6:Tok} (u_DEEDS_1:K.lookup t_DEEDS_1=some ⟨.type "tuple", none,.seq #[.str "add" w_DEEDS_1_0,.str "less" w_DEEDS_1_1,.str "times" w_DEEDS_1_2,.str "least" w_DEEDS_1_3,.str "most" w_DEEDS_1_4,.str "below" w_DEEDS_1_5,.str "alike" w_DEEDS_1_6] m_DEEDS_1,#[]⟩)
  {t_DEEDS_2:Addr} (e_DEEDS_2:PySem.W.nsIn K q_DEEDS "fold" = some (some (.ref t_DEEDS_2)))
  {m_DEEDS_2:Nat} {w_DEEDS_2_0:Tok} {w_DEEDS_2_1:Tok} {w_DEEDS_2_2:Tok} {w_DEEDS_2_3:Tok} (u_DEEDS_2:K.lookup t_DEEDS_2=some ⟨.type "tuple", none,.seq #[.str "add" w_DEEDS_2_0,.str "times" w_DEEDS_2_1,.str "least" w_DEEDS_2_2,.str "most" w_DEEDS_2_3] m_DEEDS_2,#[]⟩)
  (ab_DEEDS_0:PySem.W.nsIn K q_DEEDS "number" = some none)
  (ab_DEEDS_1:PySem.W.nsIn K q_DEEDS "numbers" = some none)
  (ab_DEEDS_2:PySem.W.nsIn K q_DEEDS "line" = some none)
  {q_FORMS:Addr}
  {es_FORMS:Array DictEntry} {n_FORMS:Nat} (g_FORMS:PySem.W.nsIn K mainGlobals "FORMS" = some (some (.ref q_FORMS))) (o_FORMS:K.lookup q_FORMS=some ⟨.type "dict", none,.dict es_FORMS n_FORMS,#[]⟩) (h_FORMS:PySem.W.KeysLit w.params es_FORMS.toList)
  (sm_FORMS:(q_FORMS == sysModules)=false)
  {t_FORMS_0:Addr} (e_FORMS_0:PySem.W.nsIn K q_FORMS "given" = some (some (.ref t_FORMS_0)))
  {m_FORMS_0:Nat} {w_FORMS_0_0:Tok} (u_FORMS_0:K.lookup t_FORMS_0=some ⟨.type "tuple", none,.seq #[.str "number" w_FORMS_0_0] m_FORMS_0,#[]⟩)
  {t_FORMS_1:Addr} (e_FORMS_1:PySem.W.nsIn K q_FORMS "even" = some (some (.ref t_FORMS_1)))
  {m_FORMS_1:Nat} {w_FORMS_1_0:Tok} {w_FORMS_1_1:Tok} (u_FORMS_1:K.lookup t_FORMS_1=some ⟨.type "tuple", none,.seq #[.str "numbers" w_FORMS_1_0,.str "number" w_FORMS_1_1] m_FORMS_1,#[]⟩)
  {t_FORMS_2:Addr} (e_FORMS_2:PySem.W.nsIn K q_FORMS "turn" = some (some (.ref t_FORMS_2)))
  {m_FORMS_2:Nat} {w_FORMS_2_0:Tok} {w_FORMS_2_1:Tok} (u_FORMS_2:K.lookup t_FORMS_2=some ⟨.type "tuple", none,.seq #[.str "line" w_FORMS_2_0,.str "numbers" w_FORMS_2_1] m_FORMS_2,#[]⟩)
  {t_FORMS_3:Addr} (e_FORMS_3:PySem.W.nsIn K q_FORMS "cut" = some (some (.ref t_FORMS_3)))
  {m_FORMS_3:Nat} {w_FORMS_3_0:Tok} {w_FORMS_3_1:Tok} {w_FORMS_3_2:Tok} {w_FORMS_3_3:Tok} {w_FORMS_3_4:Tok} (u_FORMS_3:K.lookup t_FORMS_3=some ⟨.type "tuple", none,.seq #[.str "line" w_FORMS_3_0,.str "number" w_FORMS_3_1,.str "number" w_FORMS_3_2,.str "number" w_FORMS_3_3,.str "number" w_FORMS_3_4] m_FORMS_3,#[]⟩)
  {t_FORMS_4:Addr} (e_FORMS_4:PySem.W.nsIn K q_FORMS "drop" = some (some (.ref t_FORMS_4)))
  {m_FORMS_4:Nat} {w_FORMS_4_0:Tok} {w_FORMS_4_1:Tok} {w_FORMS_4_2:Tok} (u_FORMS_4:K.lookup t_FORMS_4=some ⟨.type "tuple", none,.seq #[.str "line" w_FORMS_4_0,.str "number" w_FORMS_4_1,.str "number" w_FORMS_4_2] m_FORMS_4,#[]⟩)
  {t_FORMS_5:Addr} (e_FORMS_5:PySem.W.nsIn K q_FORMS "wide" = some (some (.ref t_FORMS_5)))
  {m_FORMS_5:Nat} {w_FORMS_5_0:Tok} {w_FORMS_5_1:Tok} (u_FORMS_5:K.lookup t_FORMS_5=some ⟨.type "tuple", none,.seq #[.str "line" w_FORMS_5_0,.str "number" w_FORMS_5_1] m_FORMS_5,#[]⟩)
  {t_FORMS_6:Addr} (e_FORMS_6:PySem.W.nsIn K q_FORMS "spread" = some (some (.ref t_FORMS_6)))
  {m_FORMS_6:Nat} {w_FORMS_6_0:Tok} {w_FORMS_6_1:Tok} (u_FORMS_6:K.lookup t_FORMS_6=some ⟨.type "tuple", none,.seq #[.str "line" w_FORMS_6_0,.str "numbers" w_FORMS_6_1] m_FORMS_6,#[]⟩)
  {t_FORMS_7:Addr} (e_FORMS_7:PySem.W.nsIn K q_FORMS "shape" = some (some (.ref t_FORMS_7)))
  {m_FORMS_7:Nat} {w_FORMS_7_0:Tok} {w_FORMS_7_1:Tok} (u_FORMS_7:K.lookup t_FORMS_7=some ⟨.type "tuple", none,.seq #[.str "line" w_FORMS_7_0,.str "numbers" w_FORMS_7_1] m_FORMS_7,#[]⟩)
  {t_FORMS_8:Addr} (e_FORMS_8:PySem.W.nsIn K q_FORMS "shift" = some (some (.ref t_FORMS_8)))
  {m_FORMS_8:Nat} {w_FORMS_8_0:Tok} {w_FORMS_8_1:Tok} {w_FORMS_8_2:Tok} {w_FORMS_8_3:Tok} (u_FORMS_8:K.lookup t_FORMS_8=some ⟨.type "tuple", none,.seq #[.str "line" w_FORMS_8_0,.str "number" w_FORMS_8_1,.str "number" w_FORMS_8_2,.str "number" w_FORMS_8_3] m_FORMS_8,#[]⟩)
  {t_FORMS_9:Addr} (e_FORMS_9:PySem.W.nsIn K q_FORMS "one" = some (some (.ref t_FORMS_9)))
  {m_FORMS_9:Nat} {w_FORMS_9_0:Tok} {w_FORMS_9_1:Tok} (u_FORMS_9:K.lookup t_FORMS_9=some ⟨.type "tuple", none,.seq #[.str "one" w_FORMS_9_0,.str "line" w_FORMS_9_1] m_FORMS_9,#[]⟩)
  {t_FORMS_10:Addr} (e_FORMS_10:PySem.W.nsIn K q_FORMS "both" = some (some (.ref t_FORMS_10)))
  {m_FORMS_10:Nat} {w_FORMS_10_0:Tok} {w_FORMS_10_1:Tok} {w_FORMS_10_2:Tok} (u_FORMS_10:K.lookup t_FORMS_10=some ⟨.type "tuple", none,.seq #[.str "both" w_FORMS_10_0,.str "line" w_FORMS_10_1,.str "line" w_FORMS_10_2] m_FORMS_10,#[]⟩)
  {t_FORMS_11:Addr} (e_FORMS_11:PySem.W.nsIn K q_FORMS "where" = some (some (.ref t_FORMS_11)))
  {m_FORMS_11:Nat} {w_FORMS_11_0:Tok} {w_FORMS_11_1:Tok} {w_FORMS_11_2:Tok} (u_FORMS_11:K.lookup t_FORMS_11=some ⟨.type "tuple", none,.seq #[.str "line" w_FORMS_11_0,.str "line" w_FORMS_11_1,.str "line" w_FORMS_11_2] m_FORMS_11,#[]⟩)
  {t_FORMS_12:Addr} (e_FORMS_12:PySem.W.nsIn K q_FORMS "fold" = some (some (.ref t_FORMS_12)))
  {m_FORMS_12:Nat} {w_FORMS_12_0:Tok} {w_FORMS_12_1:Tok} {w_FORMS_12_2:Tok} (u_FORMS_12:K.lookup t_FORMS_12=some ⟨.type "tuple", none,.seq #[.str "fold" w_FORMS_12_0,.str "line" w_FORMS_12_1,.str "number" w_FORMS_12_2] m_FORMS_12,#[]⟩)
  {t_FORMS_13:Addr} (e_FORMS_13:PySem.W.nsIn K q_FORMS "run" = some (some (.ref t_FORMS_13)))
  {m_FORMS_13:Nat} {w_FORMS_13_0:Tok} {w_FORMS_13_1:Tok} {w_FORMS_13_2:Tok} (u_FORMS_13:K.lookup t_FORMS_13=some ⟨.type "tuple", none,.seq #[.str "fold" w_FORMS_13_0,.str "line" w_FORMS_13_1,.str "number" w_FORMS_13_2] m_FORMS_13,#[]⟩)
  {t_FORMS_14:Addr} (e_FORMS_14:PySem.W.nsIn K q_FORMS "pick" = some (some (.ref t_FORMS_14)))
  {m_FORMS_14:Nat} {w_FORMS_14_0:Tok} {w_FORMS_14_1:Tok} {w_FORMS_14_2:Tok} (u_FORMS_14:K.lookup t_FORMS_14=some ⟨.type "tuple", none,.seq #[.str "line" w_FORMS_14_0,.str "number" w_FORMS_14_1,.str "line" w_FORMS_14_2] m_FORMS_14,#[]⟩)
  {t_FORMS_15:Addr} (e_FORMS_15:PySem.W.nsIn K q_FORMS "join" = some (some (.ref t_FORMS_15)))
  {m_FORMS_15:Nat} {w_FORMS_15_0:Tok} {w_FORMS_15_1:Tok} {w_FORMS_15_2:Tok} (u_FORMS_15:K.lookup t_FORMS_15=some ⟨.type "tuple", none,.seq #[.str "line" w_FORMS_15_0,.str "line" w_FORMS_15_1,.str "number" w_FORMS_15_2] m_FORMS_15,#[]⟩)
  {t_LONGEST_SIDE:Tok} (g_LONGEST_SIDE:PySem.W.nsIn K mainGlobals "LONGEST_SIDE" = some (some (.int 64 t_LONGEST_SIDE)))
  {t_MOST_CELLS:Tok} (g_MOST_CELLS:PySem.W.nsIn K mainGlobals "MOST_CELLS" = some (some (.int 4096 t_MOST_CELLS)))
  {t_MOST_LINES:Tok} (g_MOST_LINES:PySem.W.nsIn K mainGlobals "MOST_LINES" = some (some (.int 40 t_MOST_LINES)))
  {t_MOST_SIDES:Tok} (g_MOST_SIDES:PySem.W.nsIn K mainGlobals "MOST_SIDES" = some (some (.int 4 t_MOST_SIDES)))
  {t_REST:Tok} (g_REST:PySem.W.nsIn K mainGlobals "REST" = some (some (.int 1000003 t_REST)))
  (z_ValueError:PySem.W.nsIn K mainGlobals "ValueError" = some none)
  (z_all:PySem.W.nsIn K mainGlobals "all" = some none)
  (z_bool:PySem.W.nsIn K mainGlobals "bool" = some none)
  (z_enumerate:PySem.W.nsIn K mainGlobals "enumerate" = some none)
  (z_int:PySem.W.nsIn K mainGlobals "int" = some none)
  (z_isinstance:PySem.W.nsIn K mainGlobals "isinstance" = some none)
  (z_len:PySem.W.nsIn K mainGlobals "len" = some none)
  (z_list:PySem.W.nsIn K mainGlobals "list" = some none)
  (z_max:PySem.W.nsIn K mainGlobals "max" = some none)
  (z_range:PySem.W.nsIn K mainGlobals "range" = some none)
  (z_reversed:PySem.W.nsIn K mainGlobals "reversed" = some none)
  (z_sum:PySem.W.nsIn K mainGlobals "sum" = some none)
  (z_tuple:PySem.W.nsIn K mainGlobals "tuple" = some none)
  (z_zip:PySem.W.nsIn K mainGlobals "zip" = some none)
  : ∃a:Adr,Txt w K mg a∧∀(s:Shared) (v:Value),BindsTo s a.fd_law ⟨[v],[]⟩ [("_law_script", v)]:=by
 obtain ⟨d_z3,D_z3⟩:=h_z3.is X G (ps:=["sides"]) bi1
 obtain ⟨d_z8,D_z8⟩:=h_z8.is X G (ps:=["number"]) bi1
 obtain ⟨d_z35,D_z35⟩:=h_z35.is X G (ps:=["sides"]) bi1
 obtain ⟨d_z1,D_z1⟩:=h_z1.is (ps:=["self", "sides", "cells"]) bi3
 obtain ⟨d_z12,D_z12⟩:=h_z12.is X G (ps:=["_law_sides", "_law_side", "_law_size"]) bi3
 obtain ⟨d_z24,D_z24⟩:=h_z24.is X G (ps:=["_law_found"]) bi1
 obtain ⟨d_z17,D_z17⟩:=h_z17.is X G (ps:=["_law_found", "_law_due"]) bi2
 obtain ⟨d_z14,D_z14⟩:=h_z14.is X G (ps:=["_law_found", "_law_sides", "_law_cells_here"]) bi3
 obtain ⟨d_z11,D_z11⟩:=h_z11.is X G (ps:=["_law_sides"]) bi1
 obtain ⟨d_z13,D_z13⟩:=h_z13.is X G (ps:=["_law_sides", "_law_place_here"]) bi2
 obtain ⟨d_z20,D_z20⟩:=h_z20.is X G (ps:=["_law_sides", "_law_at"]) bi2
 obtain ⟨d_z23,D_z23⟩:=h_z23.is X G (ps:=["_law_row", "_law_many"]) bi2
 obtain ⟨d_z15,D_z15⟩:=h_z15.is X G (ps:=["_law_row", "_law_some", "_law_cells_here", "_law_side"]) bi4
 obtain ⟨d_z16,D_z16⟩:=h_z16.is X G (ps:=["_law_row", "_law_sides"]) bi2
 obtain ⟨d_z18,D_z18⟩:=h_z18.is X G (ps:=["_law_row"]) bi1
 obtain ⟨d_z19,D_z19⟩:=h_z19.is X G (ps:=["_law_some", "_law_cells_here", "_law_side"]) bi3
 obtain ⟨d_z4,D_z4⟩:=h_z4.is X G (ps:=["line"]) bi1
 obtain ⟨d_z27,D_z27⟩:=h_z27.is X G (ps:=["line"]) bi1
 obtain ⟨d_z26,D_z26⟩:=h_z26.is X G (ps:=["line"]) bi1
 obtain ⟨d_z31,D_z31⟩:=h_z31.is X G (ps:=["line", "lines_ahead", "tables"]) bi3
 obtain ⟨d_z5,D_z5⟩:=h_z5.is X G (ps:=["sides", "side"]) bi2
 obtain ⟨d_z33,D_z33⟩:=h_z33.is X G (ps:=["row", "side", "number"]) bi3
 obtain ⟨d_z45,D_z45⟩:=h_z45.is X G (ps:=["row", "side"]) bi2
 obtain ⟨d_z10,D_z10⟩:=h_z10.is X G (ps:=["one", "other", "side"]) bi3
 obtain ⟨d_z29,D_z29⟩:=h_z29.is X G (ps:=["sides", "side", "places"]) bi3
 obtain ⟨d_z39,D_z39⟩:=h_z39.is X G (ps:=["line", "sides"]) bi2
 obtain ⟨d_z38,D_z38⟩:=h_z38.is X G (ps:=["line", "ahead", "given"]) bi3
 obtain ⟨d_z36,D_z36⟩:=h_z36.is X G (ps:=["at", "line", "ahead", "given"]) bi4
 obtain ⟨d_z37,D_z37⟩:=h_z37.is X G (ps:=["program", "given"]) bi2
 obtain ⟨d_z41,D_z41⟩:=h_z41.is X G (ps:=["sides"]) bi1
 obtain ⟨d_z30,D_z30⟩:=h_z30.is X G (ps:=["sides", "at"]) bi2
 obtain ⟨d_z0,D_z0⟩:=h_z0.is (ps:=["self", "at"]) bi2
 obtain ⟨d_z9,D_z9⟩:=h_z9.is X G (ps:=["ahead", "behind", "side", "at"]) bi4
 obtain ⟨d_z28,D_z28⟩:=h_z28.is X G (ps:=["source", "side", "numbers", "at"]) bi4
 obtain ⟨d_z34,D_z34⟩:=h_z34.is X G (ps:=["source", "side", "by", "number", "at"]) bi5
 obtain ⟨d_z40,D_z40⟩:=h_z40.is X G (ps:=["source", "at"]) bi2
 obtain ⟨d_z43,D_z43⟩:=h_z43.is X G (ps:=["line", "source", "at"]) bi3
 obtain ⟨d_z2,D_z2⟩:=h_z2.is X G (ps:=["line", "sides", "made", "at"]) bi4
 obtain ⟨d_z6,D_z6⟩:=h_z6.is X G (ps:=["sides", "place"]) bi2
 obtain ⟨d_z7,D_z7⟩:=h_z7.is X G (ps:=["sides"]) bi1
 obtain ⟨d_z42,D_z42⟩:=h_z42.is X G (ps:=["line", "sides", "made", "tables"]) bi4
 obtain ⟨d_z44,D_z44⟩:=h_z44.is X G (ps:=["program"]) bi1
 obtain ⟨d_z32,D_z32⟩:=h_z32.is X G (ps:=["program", "tables"]) bi2
 obtain ⟨d_z21,D_z21⟩:=h_z21.is X G (ps:=["_law_program", "_law_tables"]) bi2
 obtain ⟨d_z22,D_z22⟩:=h_z22.is X G (ps:=["_law_row", "_law_own_here", "_law_cells_here", "_law_side"]) bi4
 obtain ⟨d_law,D_law,B_law⟩:=h_law.law X G bi1 (fun _ _ _ _ _ _ _ _=>.of_eq rfl) (p := "_law_script")
 refine ⟨⟨f_z3,d_z3,f_z8,d_z8,fT,d_z35,f_z1,d_z1,dh,d_z12,gM,d_z24,fS,d_z17,gF,d_z14,cf,d_z11,eW,d_z13,dq,d_z20,bu,d_z23,gG,d_z15,gH,d_z16,gI,d_z18,gJ,d_z19,f_z4,d_z4,el,d_z27,a6,d_z26,eY,d_z31,f_z5,d_z5,dr,d_z33,fU,d_z45,gE,d_z10,gN,d_z29,kh,d_z39,bX,d_z38,cS,d_z36,eZ,d_z37,ff,d_z41,gO,d_z30,f_z0,d_z0,f_z9,d_z9,eX,d_z28,gP,d_z34,ki,d_z40,kj,d_z43,f_z2,d_z2,f_z6,d_z6,f_z7,d_z7,bH,d_z42,gQ,d_z44,ci,d_z32,gK,d_z21,gL,d_z22,iZ,d_law,C_Table,C_BadLine,C_LoomError,C_NoCell,C_NoTable,C_NoText⟩,⟨PySem.W.mg_none_of X G z_ValueError,PySem.W.mg_none_of X G z_all,PySem.W.mg_none_of X G z_bool,PySem.W.mg_none_of X G z_enumerate,PySem.W.mg_none_of X G z_int,PySem.W.mg_none_of X G z_isinstance,PySem.W.mg_none_of X G z_len,PySem.W.mg_none_of X G z_list,PySem.W.mg_none_of X G z_max,PySem.W.mg_none_of X G z_range,PySem.W.mg_none_of X G z_reversed,PySem.W.mg_none_of X G z_sum,PySem.W.mg_none_of X G z_tuple,PySem.W.mg_none_of X G z_zip,⟨⟨_,_,_,PySem.W.mg_of X G g_DEEDS,sm_DEEDS,o_DEEDS,h_DEEDS,kP (t:=d8) (List.forall_mem_cons.mpr ⟨⟨_,e_DEEDS_0,(valT u_DEEDS_0 (show (3:Nat)≤sizeLine by decide) (.cons ⟨_,rfl⟩ (.cons ⟨_,rfl⟩ (.cons ⟨_,rfl⟩ .nil))))⟩,(List.forall_mem_cons.mpr ⟨⟨_,e_DEEDS_1,(valT u_DEEDS_1 (show (7:Nat)≤sizeLine by decide) (.cons ⟨_,rfl⟩ (.cons ⟨_,rfl⟩ (.cons ⟨_,rfl⟩ (.cons ⟨_,rfl⟩ (.cons ⟨_,rfl⟩ (.cons ⟨_,rfl⟩ (.cons ⟨_,rfl⟩ .nil))))))))⟩,(List.forall_mem_cons.mpr ⟨⟨_,e_DEEDS_2,(valT u_DEEDS_2 (show (4:Nat)≤sizeLine by decide) (.cons ⟨_,rfl⟩ (.cons ⟨_,rfl⟩ (.cons ⟨_,rfl⟩ (.cons ⟨_,rfl⟩ .nil)))))⟩,(List.forall_mem_nil _)⟩)⟩)⟩),(List.forall_mem_cons.mpr ⟨ab_DEEDS_0,(List.forall_mem_cons.mpr ⟨ab_DEEDS_1,(List.forall_mem_cons.mpr ⟨ab_DEEDS_2,(List.forall_mem_nil _)⟩)⟩)⟩)⟩⟩,⟨⟨_,_,_,PySem.W.mg_of X G g_FORMS,sm_FORMS,o_FORMS,h_FORMS,kP (t:=bD) (List.forall_mem_cons.mpr ⟨⟨_,e_FORMS_0,(valT u_FORMS_0 (show (1:Nat)≤sizeLine by decide) (.cons ⟨_,rfl⟩ .nil))⟩,(List.forall_mem_cons.mpr ⟨⟨_,e_FORMS_1,(valT u_FORMS_1 (show (2:Nat)≤sizeLine by decide) (.cons ⟨_,rfl⟩ (.cons ⟨_,rfl⟩ .nil)))⟩,(List.forall_mem_cons.mpr ⟨⟨_,e_FORMS_2,(valT u_FORMS_2 (show (2:Nat)≤sizeLine by decide) (.cons ⟨_,rfl⟩ (.cons ⟨_,rfl⟩ .nil)))⟩,(List.forall_mem_cons.mpr ⟨⟨_,e_FORMS_3,(valT u_FORMS_3 (show (5:Nat)≤sizeLine by decide) (.cons ⟨_,rfl⟩ (.cons ⟨_,rfl⟩ (.cons ⟨_,rfl⟩ (.cons ⟨_,rfl⟩ (.cons ⟨_,rfl⟩ .nil))))))⟩,(List.forall_mem_cons.mpr ⟨⟨_,e_FORMS_4,(valT u_FORMS_4 (show (3:Nat)≤sizeLine by decide) (.cons ⟨_,rfl⟩ (.cons ⟨_,rfl⟩ (.cons ⟨_,rfl⟩ .nil))))⟩,(List.forall_mem_cons.mpr ⟨⟨_,e_FORMS_5,(valT u_FORMS_5 (show (2:Nat)≤sizeLine by decide) (.cons ⟨_,rfl⟩ (.cons ⟨_,rfl⟩ .nil)))⟩,(List.forall_mem_cons.mpr ⟨⟨_,e_FORMS_6,(valT u_FORMS_6 (show (2:Nat)≤sizeLine by decide) (.cons ⟨_,rfl⟩ (.cons ⟨_,rfl⟩ .nil)))⟩,(List.forall_mem_cons.mpr ⟨⟨_,e_FORMS_7,(valT u_FORMS_7 (show (2:Nat)≤sizeLine by decide) (.cons ⟨_,rfl⟩ (.cons ⟨_,rfl⟩ .nil)))⟩,(List.forall_mem_cons.mpr ⟨⟨_,e_FORMS_8,(valT u_FORMS_8 (show (4:Nat)≤sizeLine by decide) (.cons ⟨_,rfl⟩ (.cons ⟨_,rfl⟩ (.cons ⟨_,rfl⟩ (.cons ⟨_,rfl⟩ .nil)))))⟩,(List.forall_mem_cons.mpr ⟨⟨_,e_FORMS_9,(valT u_FORMS_9 (show (2:Nat)≤sizeLine by decide) (.cons ⟨_,rfl⟩ (.cons ⟨_,rfl⟩ .nil)))⟩,(List.forall_mem_cons.mpr ⟨⟨_,e_FORMS_10,(valT u_FORMS_10 (show (3:Nat)≤sizeLine by decide) (.cons ⟨_,rfl⟩ (.cons ⟨_,rfl⟩ (.cons ⟨_,rfl⟩ .nil))))⟩,(List.forall_mem_cons.mpr ⟨⟨_,e_FORMS_11,(valT u_FORMS_11 (show (3:Nat)≤sizeLine by decide) (.cons ⟨_,rfl⟩ (.cons ⟨_,rfl⟩ (.cons ⟨_,rfl⟩ .nil))))⟩,(List.forall_mem_cons.mpr ⟨⟨_,e_FORMS_12,(valT u_FORMS_12 (show (3:Nat)≤sizeLine by decide) (.cons ⟨_,rfl⟩ (.cons ⟨_,rfl⟩ (.cons ⟨_,rfl⟩ .nil))))⟩,(List.forall_mem_cons.mpr ⟨⟨_,e_FORMS_13,(valT u_FORMS_13 (show (3:Nat)≤sizeLine by decide) (.cons ⟨_,rfl⟩ (.cons ⟨_,rfl⟩ (.cons ⟨_,rfl⟩ .nil))))⟩,(List.forall_mem_cons.mpr ⟨⟨_,e_FORMS_14,(valT u_FORMS_14 (show (3:Nat)≤sizeLine by decide) (.cons ⟨_,rfl⟩ (.cons ⟨_,rfl⟩ (.cons ⟨_,rfl⟩ .nil))))⟩,(List.forall_mem_cons.mpr ⟨⟨_,e_FORMS_15,(valT u_FORMS_15 (show (3:Nat)≤sizeLine by decide) (.cons ⟨_,rfl⟩ (.cons ⟨_,rfl⟩ (.cons ⟨_,rfl⟩ .nil))))⟩,(List.forall_mem_nil _)⟩)⟩)⟩)⟩)⟩)⟩)⟩)⟩)⟩)⟩)⟩)⟩)⟩)⟩)⟩)⟩),(List.forall_mem_nil _)⟩⟩,⟨_,PySem.W.mg_of X G g_LONGEST_SIDE,⟨_,rfl⟩⟩,⟨_,PySem.W.mg_of X G g_MOST_CELLS,⟨_,rfl⟩⟩,⟨_,PySem.W.mg_of X G g_MOST_LINES,⟨_,rfl⟩⟩,⟨_,PySem.W.mg_of X G g_MOST_SIDES,⟨_,rfl⟩⟩,⟨_,PySem.W.mg_of X G g_REST,⟨_,rfl⟩⟩,D_z3,D_z8,D_z35,D_z12,D_z24,D_z17,D_z14,D_z11,D_z13,D_z20,D_z23,D_z15,D_z16,D_z18,D_z19,D_z4,D_z27,D_z26,D_z31,D_z5,D_z33,D_z45,D_z10,D_z29,D_z39,D_z38,D_z36,D_z37,D_z41,D_z30,D_z9,D_z28,D_z34,D_z40,D_z43,D_z2,D_z6,D_z7,D_z42,D_z44,D_z32,D_z21,D_z22,D_law,⟨D_z1.1,D_z1.2⟩,⟨D_z0.1,D_z0.2⟩,⟨PySem.W.mg_of X G n_Table,⟨pg_Table,hd_Table,po_Table,sa_Table⟩⟩,⟨mk_Table,i_z1,fn_z1,kc_Table⟩,⟨i_z0,fn_z0,h_z0.k⟩,(show FldK K mg ["Table"] "cells" from (List.forall_mem_cons.mpr ⟨⟨_,PySem.W.mg_of X G n_Table,⟨pg_Table,hd_Table,po_Table,sa_Table⟩,na_cells_Table⟩,(List.forall_mem_nil _)⟩)),(show FldK K mg ["Table"] "sides" from (List.forall_mem_cons.mpr ⟨⟨_,PySem.W.mg_of X G n_Table,⟨pg_Table,hd_Table,po_Table,sa_Table⟩,na_sides_Table⟩,(List.forall_mem_nil _)⟩)),⟨sp_,tk_,_,PySem.W.mg_of X G n_Table,(List.forall_mem_cons.mpr ⟨⟨_,PySem.W.mg_of X G n_Table,⟨ig_Table,hd_Table,if_Table,im_Table⟩,ik_Table_Table⟩,(List.forall_mem_nil _)⟩)⟩,PySem.W.mg_of X G n_BadLine,PySem.W.mg_of X G n_LoomError,PySem.W.mg_of X G n_NoCell,PySem.W.mg_of X G n_NoTable,PySem.W.mg_of X G n_NoText,x_NoCell,ct_LoomError,(List.forall_mem_cons.mpr ⟨fun _=>⟨_,PySem.W.mg_of X G n_NoCell,em_LoomError_NoCell⟩,(List.forall_mem_nil _)⟩),⟨sp_,tk_,(List.forall_mem_cons.mpr ⟨⟨_,PySem.W.mg_of X G n_NoCell,ec_NoCell,ei_BadLine_NoCell⟩,(List.forall_mem_nil _)⟩)⟩,⟨sp_,tk_,(List.forall_mem_cons.mpr ⟨⟨_,PySem.W.mg_of X G n_NoCell,ec_NoCell,ei_NoCell_NoCell⟩,(List.forall_mem_nil _)⟩)⟩,⟨sp_,tk_,(List.forall_mem_cons.mpr ⟨⟨_,PySem.W.mg_of X G n_NoCell,ec_NoCell,ei_NoTable_NoCell⟩,(List.forall_mem_nil _)⟩)⟩,⟨sp_,tk_,(List.forall_mem_cons.mpr ⟨⟨_,PySem.W.mg_of X G n_NoCell,ec_NoCell,ei_NoText_NoCell⟩,(List.forall_mem_nil _)⟩)⟩,⟨sp_,tk_,(List.forall_mem_cons.mpr ⟨⟨_,PySem.W.mg_of X G n_NoCell,ec_NoCell,ei_ValueError_NoCell⟩,(List.forall_mem_nil _)⟩)⟩⟩,B_law⟩
def spL (K:Frag):Sp:=fun vs H Q _=>∃(a:Addr) (ns:List Int),vs=[.ref a]∧SqL K H a (ns.map V.int)∧ns.length≤63∧∀H',Q (.bl true) H'
theorem sP {P:Program} {w:World} {K:Frag} {mg:MG} {base:Heap} {a:Adr} (T:Txt w K mg a):FnOk P w K mg base CX0 10 a.a_law a.fd_law ["_law_script"] (spL K):=FnOk.no (sS T) fun vs H Q E ⟨p,ns,e,hs,hl,q⟩=>by
 subst e
 refine ⟨rfl,H,[Z ns],Same.refl _,⟨.lst hs (DenL.ints ns),trivial⟩,by simp [ioAd,ioAs],?_⟩
 rw [law_at]
 exact fun F' H' v _ hv=>by cases hv;exact q H'
theorem walk {l:PySem.W.OpenLaw} {q:Program} {loose:List Str} {XP:(Str→Option Value)→Heap→Prop} {YP:World→Heap→Prop} {d:DefRec} {K:Params→PySem.W.Frag} (hn:l.most=some 63) (hdf:d.params.defaults=[])
  (hY:∀(w:World) (h:Heap),YP w h→(K w.params).In h)
  (F:∀(w:World) (mg:Str→Option Value) (fa:Addr) (h:Heap),(K w.params).In h→h.Ns mainGlobals mg→mg d.name=some (.ref fa) →
   ∃fd:FuncData,(∀(s:Shared) (u:Value),BindsTo s fd ⟨[u],[]⟩ [("_law_script", u)])∧∀base:Heap,(K w.params).In base→base.Ns mainGlobals mg→FnOk l.prog w (K w.params) mg base CX0 10 fa fd ["_law_script"] (spL (K w.params))) :
  PySem.W.WalkO q loose XP YP l.row.toRowW d [] (fun f vs=>PySem.call f vs) :=
 L2.rK (n:=63) (k:=10) (x := "_law_script") (CX:=fun _=>CX0) (sp:=fun w=>spL (K w.params)) hn (by decide) hdf ⟨rfl,by decide,by decide⟩ hY F (fun _ _ a ns hl _ hS=>⟨a,ns,rfl,hS,hl,fun _=>rfl⟩) fun _ _ _ _ _ z=>z
theorem all_mk {l:PySem.W.OpenLaw} {w:World} {K:Frag} {mg:MG} {h:Heap} {fa:Addr} (X:K.In h) (G:h.Ns mainGlobals mg) (hfa:mg "law" = some (.ref fa)) (E:∃a:Adr,Txt w K mg a∧∀(s:Shared) (v:Value),BindsTo s a.fd_law ⟨[v],[]⟩ [("_law_script", v)]) :
  ∃fd:FuncData,(∀(s:Shared) (v:Value),BindsTo s fd ⟨[v],[]⟩ [("_law_script", v)])∧∀base:Heap,K.In base→base.Ns mainGlobals mg→FnOk l.prog w K mg base CX0 10 fa fd ["_law_script"] (spL K):=by
 obtain ⟨a,T,hb⟩:=E
 have e:=hfa.symm.trans T.d_law.mg
 cases e
 exact ⟨_,hb,fun base _ _=>sP T⟩
end LW
def PySem.W.Fast.tw10624964241510813140:Nat:=0
def PySem.W.Fast.tw4507445494066094921:Nat:=0
def PySem.W.Fast.tw12645035146991694783:Nat:=0
def PySem.W.Fast.tw9319025006382610476:Nat:=0
def PySem.W.Fast.tw8702714683636180229:Nat:=0
def PySem.W.Fast.tw12705175922156961888:Nat:=0
def PySem.W.Fast.tw18285508789950468166:Nat:=0
def PySem.W.Fast.tw14637865714483309294:Nat:=0
def PySem.W.Fast.tw6889351000072889138:Nat:=0
def PySem.W.Fast.tw13077964339764638068:Nat:=0
def PySem.W.Fast.tw8241954871522077753:Nat:=0
def PySem.W.Fast.tw1728275171828888945:Nat:=0
def PySem.W.Fast.tw14523055981506949581:Nat:=0
def PySem.W.Fast.tw2183200442834986263:Nat:=0
def PySem.W.Fast.tw10511992273312897047:Nat:=0
def PySem.W.Fast.tw7296175123784579453:Nat:=0
def PySem.W.Fast.tw17616264815248439974:Nat:=0
def PySem.W.Fast.tw14269953941793331642:Nat:=0
def PySem.W.Fast.tw14578209054300404567:Nat:=0
def PySem.W.Fast.tw9373471726305509527:Nat:=0
def PySem.W.Fast.tw10398467869883851459:Nat:=0
def PySem.W.Fast.tw13303637673706887055:Nat:=0
def PySem.W.Fast.tw14578791712054788287:Nat:=0
def PySem.W.Fast.tw2309877981199430865:Nat:=0
def PySem.W.Fast.tw9256750790059441187:Nat:=0
def PySem.W.Fast.tw4636237235988492129:Nat:=0
def PySem.W.Fast.tw7026615682698017273:Nat:=0
def PySem.W.Fast.tw4621295308616872693:Nat:=0
def PySem.W.Fast.tw5746310101568388315:Nat:=0
def PySem.W.Fast.tw6795217921778994042:Nat:=0
def PySem.W.Fast.tw14738362547448332831:Nat:=0
def PySem.W.Fast.tw13620268441054985821:Nat:=0
def PySem.W.Fast.tw14374168434201278171:Nat:=0
def PySem.W.Fast.tw4033504837815355191:Nat:=0
def PySem.W.Fast.tw12994580141348980796:Nat:=0
def PySem.W.Fast.tw3271060161900919304:Nat:=0
def PySem.W.Fast.tw10651773627913526911:Nat:=0
def PySem.W.Fast.tw5105511373145550697:Nat:=0
def PySem.W.Fast.tw7102066430328729158:Nat:=0
def PySem.W.Fast.tw17024352637068949245:Nat:=0
def PySem.W.Fast.tw12293991096596558852:Nat:=0
def PySem.W.Fast.tw14925876677441372329:Nat:=0
def PySem.W.Fast.tw5881669012799437494:Nat:=0
def PySem.W.Fast.tw312973163169873871:Nat:=0
def PySem.W.Fast.tw3209883540029096601:Nat:=0
def PySem.W.Fast.tw4613967479146608366:Nat:=0
def PySem.W.Fast.tw4612993739611452664:Nat:=0
def PySem.W.Fast.tw11892018666462104814:Nat:=0
def PySem.W.Fast.tw8252891760633246649:Nat:=0
def PySem.W.Fast.tw6075997417336457969:Nat:=0
def PySem.W.Fast.tw15212360216029750164:Nat:=0
def PySem.W.Fast.tw4752259609123832002:Nat:=0
def PySem.W.Fast.tw4698729866153245762:Nat:=0
def PySem.W.Fast.tw13762798857198647002:Nat:=0
def PySem.W.Fast.tw15000599240062466786:Nat:=0
def PySem.W.Fast.tw11895218293665720334:Nat:=0
def PySem.W.Fast.tw16996910165857842583:Nat:=0
def PySem.W.Fast.tw18071615832547387694:Nat:=0
def PySem.W.Fast.tw13196305572449862606:Nat:=0
def PySem.W.Fast.tw15032642153859710588:Nat:=0
def PySem.W.Fast.tw968434145929211161:Nat:=0
def PySem.W.Fast.tw2262675517128600301:Nat:=0
def PySem.W.Fast.tw17562148605538292053:Nat:=0
def PySem.W.Fast.tw16518890731740856448:Nat:=0
def PySem.W.Fast.tw3949778290381145809:Nat:=0
def PySem.W.Fast.tw13663325064914512640:Nat:=0
def PySem.W.Fast.tw6658793910150962664:Nat:=0
def PySem.W.Fast.tw4747486347145601659:Nat:=0
def PySem.W.Fast.tw8364700495563376013:Nat:=0
def PySem.W.Fast.tw3584770794014699556:Nat:=0
def PySem.W.Fast.tw923223052026445054:Nat:=0
def PySem.W.Fast.tw11157258527165864346:Nat:=0
def PySem.W.Fast.tw15966557627684063344:Nat:=0
def PySem.W.Fast.tw11816913548371218242:Nat:=0
def PySem.W.Fast.tw16358401029001884862:Nat:=0
def PySem.W.Fast.tw1775708860178100734:Nat:=0
def PySem.W.Fast.tw7122749114172082811:Nat:=0
def PySem.W.Fast.tw1579039226008058791:Nat:=0
def PySem.W.Fast.tw4960377193242465751:Nat:=0
def PySem.W.Fast.tw16098426889808464015:Nat:=0
def PySem.W.Fast.tw15490183996687620907:Nat:=0
def PySem.W.Fast.tw12760035197605322640:Nat:=0
def PySem.W.Fast.tw13002719433555877672:Nat:=0
def PySem.W.Fast.tw3458633496793956191:Nat:=0
def PySem.W.Fast.tw11487287218344780551:Nat:=0
def PySem.W.Fast.tw10547959635276257238:Nat:=0
def PySem.W.Fast.tw7633558294304253619:Nat:=0
def PySem.W.Fast.tw937358017586182252:Nat:=0
def PySem.W.Fast.tw17029356644575345466:Nat:=0
def PySem.W.Fast.tw10825673115367425221:Nat:=0
def PySem.W.Fast.tw1130152261756993464:Nat:=0
def PySem.W.Fast.tw5973237975845619892:Nat:=0
def PySem.W.Fast.tw5299524764330828352:Nat:=0
def PySem.W.Fast.tw8317326376269216769:Nat:=0
def PySem.W.Fast.tw7332204409801634720:Nat:=0
def PySem.W.Fast.tw6904281896223208679:Nat:=0
def PySem.W.Fast.tw6867570771389560297:Nat:=0
def PySem.W.Fast.tw5801237197679653647:Nat:=0
def PySem.W.Fast.tw16780176793529281070:Nat:=0
def PySem.W.Fast.tw14110444131871496079:Nat:=0
def PySem.W.Fast.tw12801298001821060806:Nat:=0
def PySem.W.Fast.tw3781843938962587129:Nat:=0
def PySem.W.Fast.tw10951447353325226004:Nat:=0
def PySem.W.Fast.tw2867456972765808832:Nat:=0
def PySem.W.Fast.tw883002784937177456:Nat:=0
def PySem.W.Fast.tw8924643059471414571:Nat:=0
def PySem.W.Fast.tw869618763816715514:Nat:=0
def PySem.W.Fast.tw17784398121720485232:Nat:=0
def PySem.W.Fast.tw13603499836036966159:Nat:=0
def PySem.W.Fast.tw7806472504243306568:Nat:=0
def PySem.W.Fast.tw15724295498020549782:Nat:=0
def PySem.W.Fast.tw9490786078387773302:Nat:=0
def PySem.W.Fast.tw18372763559332621458:Nat:=0
def PySem.W.Fast.tw9509217482745250529:Nat:=0
def PySem.W.Fast.tw6945044576697575968:Nat:=0
def PySem.W.Fast.tw15913749692742653256:Nat:=0
def PySem.W.Fast.tw706555403498309641:Nat:=0
def PySem.W.Fast.tw2112491020081206318:Nat:=0
def PySem.W.Fast.tw9772882550828137192:Nat:=0
def PySem.W.Fast.tw16425309800128621233:Nat:=0
def PySem.W.Fast.tw1844340238312527163:Nat:=0
def PySem.W.Fast.tw581059195626438633:Nat:=0
def PySem.W.Fast.tw10039197534862694867:Nat:=0
def PySem.W.Fast.tw6381187694264803384:Nat:=0
def PySem.W.Fast.tw9274796729804230668:Nat:=0
def PySem.W.Fast.tw6895354247054109562:Nat:=0
def PySem.W.Fast.tw8735698400496091008:Nat:=0
def PySem.W.Fast.tw2980747527318188353:Nat:=0
def PySem.W.Fast.tw10100989851406535970:Nat:=0
def PySem.W.Fast.tw17295580383474244107:Nat:=0
def PySem.W.Fast.tw936587907124784016:Nat:=0
def PySem.W.Fast.tw15548029142769372643:Nat:=0
def PySem.W.Fast.tw5661631765527434812:Nat:=0
def PySem.W.Fast.tw16436448965979760725:Nat:=0
def PySem.W.Fast.tw536999467981366511:Nat:=0
def PySem.W.Fast.tw10513627512155268138:Nat:=0
def PySem.W.Fast.tw12765622406694162607:Nat:=0
def PySem.W.Fast.tw4294940829974504167:Nat:=0
def PySem.W.Fast.tw4139515654812463222:Nat:=0
def PySem.W.Fast.tw8694366452833914135:Nat:=0
def PySem.W.Fast.tw5808127183937136232:Nat:=0
def PySem.W.Fast.tw18423708045438943882:Nat:=0
def PySem.W.Fast.tw17209577612209992590:Nat:=0
def PySem.W.Fast.tw12794576932465549204:Nat:=0
def PySem.W.Fast.tw17707543489678376157:Nat:=0
def PySem.W.Fast.tw10343983364550512277:Nat:=0
def PySem.W.Fast.tw11075969845499806559:Nat:=0
def PySem.W.Fast.tw10080147302194647571:Nat:=0
def PySem.W.Fast.tw11603973667779754915:Nat:=0
def PySem.W.Fast.tw4544268808103036390:Nat:=0
def PySem.W.Fast.tw10680212865436301272:Nat:=0
def PySem.W.Fast.tw11754236877465588265:Nat:=0
def PySem.W.Fast.tw10018717260578046408:Nat:=0
def PySem.W.Fast.tw7936131101832217187:Nat:=0
def PySem.W.Fast.tw9253717268825149067:Nat:=0
def PySem.W.Fast.tw13771507962676128326:Nat:=0
def PySem.W.Fast.tw6310663191549328734:Nat:=0
def PySem.W.Fast.tw2443555260183586211:Nat:=0
def PySem.W.Fast.tw7972432221985191227:Nat:=0
def PySem.W.Fast.tw9017667864352829523:Nat:=0
def PySem.W.Fast.tw13962295970169799425:Nat:=0
def PySem.W.Fast.tw4217739718548940900:Nat:=0
def PySem.W.Fast.tw10278430214809595704:Nat:=0
def PySem.W.Fast.tw11212440048206029400:Nat:=0
def PySem.W.Fast.tw7632413398167722922:Nat:=0
def PySem.W.Fast.tw12761343670486449112:Nat:=0
def PySem.W.Fast.tw10728429739966115522:Nat:=0
def PySem.W.Fast.tw14364004858370732000:Nat:=0
def PySem.W.Fast.tw4494675137524756702:Nat:=0
def PySem.W.Fast.tw10734863340712816641:Nat:=0
def PySem.W.Fast.tw11782520033037511678:Nat:=0
def PySem.W.Fast.tw6920167775437718418:Nat:=0
def PySem.W.Fast.tw5405851183020477658:Nat:=0
def PySem.W.Fast.tw381562195137428862:Nat:=0
def PySem.W.Fast.tw10408686976151342913:Nat:=0
def PySem.W.Fast.tw7660977016206396762:Nat:=0
def PySem.W.Fast.tw11930532329015243827:Nat:=0
def PySem.W.Fast.tw5590769156413647847:Nat:=0
def PySem.W.Fast.tw11283621519847597184:Nat:=0
open PySem PySem.W PyProof.Rows
set_option maxRecDepth 100000 in
set_option maxHeartbeats 0 in
theorem PySem.Challenge.cw_loomarrays_k15_shifts_joins_picks_holds : PySem.Challenge.rw_loomarrays_k15_shifts_joins_picks.Holds := by
 w_on;o_law;k_head;(case hw=>w_witness2)
 k_fill
 refine LW.walk (l:=PySem.Challenge.rw_loomarrays_k15_shifts_joins_picks) rfl rfl (fun w h Y=>PySem.W.kIn_of Y) ?F
 case F =>
  intro w mg fa h KX G hmg
  refine' LW.all_mk KX G hmg (LW.txt_mk KX G ..)
  any_goals (first | exact ⟨by k_is,⟨⟨_,_,_,_,_,_,_,_,_,by k_is,by k_is⟩,by k_is⟩⟩ | exact ⟨⟨_,_,_,_,_,_,_,_,_,by k_is,by k_is⟩,by k_is⟩ | k_is | kit_is | k_exc | exact ⟨⟨by k_is,by k_is,by k_is,by k_is⟩,by k_is,by k_is⟩ | exact ⟨by k_is,by k_is,by k_is⟩ | k_keys | rfl)
  try any_goals (first | exact ⟨by k_is,⟨⟨_,_,_,_,_,_,_,_,_,by k_is,by k_is⟩,by k_is⟩⟩ | exact ⟨⟨_,_,_,_,_,_,_,_,_,by k_is,by k_is⟩,by k_is⟩ | k_is | kit_is | k_exc | exact ⟨⟨by k_is,by k_is,by k_is,by k_is⟩,by k_is,by k_is⟩ | exact ⟨by k_is,by k_is,by k_is⟩ | k_keys | rfl)
  all_goals rfl

end
