import PyProof.Rows.All
import Wide.All
import OpenK.AllK
import Wide.FinOn
import Lean
import PyProof.EqAt
import PyProof.EqKinds
import PyProof.TupleCall
import PySem.Str
import PyProof.StrBlockL
import KE.IntText
import PyProof.StrBlock2
import KE.KRevIter
import PyProof.CollectIter
import PyProof.TupleOfGen
import PyProof.Rows.SortWalk
import PyProof.ListRange
import PyProof.StrCalls2
import PyProof.StrBlockH
import PyProof.StrWalks
import KE.KIntText
import PyProof.CallStr
import KE.KIsAll
import PyProof.ExcArgsOwn
import PyProof.InstStoreFacts
import PyProof.ExcInit
import KE.IntTextLaws
import PyProof.StrLawsChain
import PyProof.StrLawsTight
import PyProof.Rows.CatFin
import PyProof.Rows.StrItems
import PySem.Challenge.RW_loomarrays_k08_texts_that_write_none
set_option Elab.async false
section
set_option Elab.async false
set_option linter.all false
set_option maxRecDepth 100000
namespace L2
open PySem PySem.Spec PyProof.Rows
abbrev Key := Sum Int Str
def keyIs : Key → Value → Bool
  | .inl k, v => Value.isInt k v
  | .inr x, v => Value.isStrOf x v
def keyH (w : World) : Key → Int
  | .inl k => hashInt k
  | .inr x => hashStr w x
theorem keyIs_shape : ∀ {k : Key} {v : Value}, keyIs k v = true → (∃ i t, k = Sum.inl i ∧ v = Value.int i t) ∨ (∃ x t, k = Sum.inr x ∧ v = Value.str x t)
  | .inl i, v, h => by
    obtain ⟨t, e⟩ := Value.isInt_shape (k := i) (v := v) h
    exact .inl ⟨i, t, rfl, e⟩
  | .inr x, v, h => by
    obtain ⟨t, e⟩ := Value.isStrOf_shape (x := x) (v := v) h
    exact .inr ⟨x, t, rfl, e⟩
theorem key_ll (a b : Int) : decide ((Sum.inl a : Key) = Sum.inl b) = (a == b) := by
  by_cases e : a = b
  · subst e; simp
  · have h : ¬ (Sum.inl a : Key) = Sum.inl b := fun q => e (Sum.inl.inj q)
    rw [decide_eq_false h]
    exact (beq_eq_false_iff_ne.mpr e).symm
theorem key_rr (a b : Str) : decide ((Sum.inr a : Key) = Sum.inr b) = decide (a = b) := by
  by_cases e : a = b
  · subst e; simp
  · have h : ¬ (Sum.inr a : Key) = Sum.inr b := fun q => e (Sum.inr.inj q)
    rw [decide_eq_false h, decide_eq_false e]
theorem key_lr (a : Int) (b : Str) : decide ((Sum.inl a : Key) = Sum.inr b) = false := decide_eq_false (fun q => nomatch q)
theorem key_rl (a : Str) (b : Int) : decide ((Sum.inr a : Key) = Sum.inl b) = false := decide_eq_false (fun q => nomatch q)
def mixKind (prog : Program) (w : World) : PySem.KeyKind prog w Key where
  is := keyIs
  hash := keyH w
  inj := fun v a b ha hb => by
    rcases keyIs_shape ha with ⟨i, t, rfl, rfl⟩ | ⟨x, t, rfl, rfl⟩
    · rcases keyIs_shape hb with ⟨j, u, rfl, e⟩ | ⟨y, u, rfl, e⟩
      · injection e with e1 _; rw [e1]
      · exact nomatch e
    · rcases keyIs_shape hb with ⟨j, u, rfl, e⟩ | ⟨y, u, rfl, e⟩
      · exact nomatch e
      · injection e with e1 _; rw [e1]
  byValue := fun k v h => by
    rcases keyIs_shape h with ⟨i, t, rfl, rfl⟩ | ⟨x, t, rfl, rfl⟩ <;> rfl
  pyHash := fun hv h => by
    rcases keyIs_shape hv with ⟨i, t, rfl, rfl⟩ | ⟨x, t, rfl, rfl⟩
    · exact wpAny_pyHash_int h
    · exact wpAny_pyHash_str h
  eqBool := fun hu hv h => by
    rcases keyIs_shape hu with ⟨i, t, rfl, rfl⟩ | ⟨x, t, rfl, rfl⟩
    · rcases keyIs_shape hv with ⟨j, u, rfl, rfl⟩ | ⟨y, u, rfl, rfl⟩
      · rw [key_ll] at h; exact wpAny_eqBool_int h
      · rw [key_lr] at h; exact SeqAt.EqAt.int_str i t y u _ _ _ _ h
    · rcases keyIs_shape hv with ⟨j, u, rfl, rfl⟩ | ⟨y, u, rfl, rfl⟩
      · rw [key_rl] at h; exact SeqAt.EqAt.str_int x t j u _ _ _ _ h
      · rw [key_rr] at h; exact wpAny_eqBool_str h
  «strs» := fun k x t v h => by
    rcases keyIs_shape h with ⟨i, u, rfl, e⟩ | ⟨y, u, rfl, e⟩
    · exact nomatch e
    · injection e with e1 _
      subst e1
      cases v <;> rfl
end L2
namespace L2
open PySem PySem.Spec PyProof.Rows
inductive V where
  | non | bl (b : Bool) | int (i : Int) | str (x : Str) | byt (b : Array UInt8) | flt (b : UInt64) | ref (a : Addr) | ty (n : String)
  deriving DecidableEq
def RelV : V → Value → Prop
  | .non, u => u = Value.none
  | .bl b, u => u = Value.bool b
  | .int i, u => ∃ t, u = Value.int i t
  | .str x, u => ∃ t, u = Value.str x t
  | .byt b, u => ∃ t, u = Value.bytes b t
  | .flt b, u => ∃ t, u = Value.float b t
  | .ref a, u => u = Value.ref a
  | .ty n, u => u = Value.type n
abbrev Vals : List V → List Value → Prop := Paired RelV
theorem Vals.length {xs : List V} {us : List Value} (r : Vals xs us) : xs.length = us.length := Paired.length r
theorem Vals.get : ∀ {xs : List V} {us : List Value} {i : Nat} {x : V}, Vals xs us → xs[i]? = some x → ∃ u, us[i]? = some u ∧ RelV x u
  | _, _, _, _, .nil, e => by simp at e
  | _, _, 0, _, .cons r _, e => by simp at e; subst e; exact ⟨_, rfl, r⟩
  | _, _, i + 1, x, .cons _ t, e => by
    obtain ⟨u, h1, h2⟩ := Vals.get (i := i) (x := x) t (by simpa using e)
    exact ⟨u, by simpa using h1, h2⟩
theorem Vals.set {x : V} {u : Value} (r : RelV x u) : ∀ {xs : List V} {us : List Value} (i : Nat), Vals xs us → Vals (xs.set i x) (us.set i u)
  | _, _, _, .nil => .nil
  | _, _, 0, .cons _ t => .cons r t
  | _, _, i + 1, .cons q t => .cons q (Vals.set r i t)
theorem Vals.append : ∀ {xs ys : List V} {us ws : List Value}, Vals xs us → Vals ys ws → Vals (xs ++ ys) (us ++ ws)
  | _, _, _, _, .nil, s => s
  | _, _, _, _, .cons r t, s => .cons r (Vals.append t s)
theorem Vals.take : ∀ {xs : List V} {us : List Value} (n : Nat), Vals xs us → Vals (xs.take n) (us.take n)
  | _, _, 0, _ => .nil
  | _, _, _ + 1, .nil => .nil
  | _, _, n + 1, .cons r t => .cons r (Vals.take n t)
theorem Vals.drop : ∀ {xs : List V} {us : List Value} (n : Nat), Vals xs us → Vals (xs.drop n) (us.drop n)
  | _, _, 0, r => r
  | _, _, _ + 1, .nil => .nil
  | _, _, n + 1, .cons _ t => Vals.drop n t
def RelO : Option V → Option Value → Prop
  | some v, some u => RelV v u
  | none, none => True
  | _, _ => False
def KV {κ : Type} : List (κ × V) → List (κ × Value) → Prop := Paired fun (p : κ × V) (q : κ × Value) => p.1 = q.1 ∧ RelV p.2 q.2
def kV : Key → V
  | .inl i => .int i
  | .inr x => .str x
inductive HO where
  | lst (xs : List V)
  | tup (xs : List V)
  | dK (kvs : List (Key × V)) | dT (kvs : List (List Key × V))
  | set (S : Int → Bool) (n : Nat)
  | ins (C dx : Addr) (fs : List (Str × V))
  | own (x : Addr)
  | xd (fs : List (Str × V))
  | met (f x : Addr)
  | rng (lo hi : Int)
  | frz (o : Obj) (u : HO)
  | tbl (ps : Array Value)
  | ext (φ : Heap → Prop)
abbrev Hp := Addr → Option HO
def upd (H : Hp) (a : Addr) (o : HO) : Hp := fun b => if b = a then some o else H b
theorem upd_same {H : Hp} {a : Addr} {o : HO} : upd H a o a = some o := by unfold upd; rw [if_pos rfl]
theorem upd_ne {H : Hp} {a b : Addr} {o : HO} (h : b ≠ a) : upd H a o b = H b := by unfold upd; rw [if_neg h]
theorem ne_of_none {H : Hp} {a b : Addr} {o : HO} (h : H a = some o) (h' : H b = none) : a ≠ b := by
  intro e; subst e; rw [h] at h'; cases h'
section
variable (P : Program) (w : World)
def ObjOk (H : Hp) (h : Heap) (a : Addr) : HO → Prop
  | .lst xs => xs.length ≤ sizeLine ∧ ∃ (its : List Value) (n : Nat), Vals xs its ∧ h.get? a = some { cls := .type "list", data := .seq its.toArray n }
  | .tup xs => xs.length ≤ sizeLine ∧ ∃ its : List Value, Vals xs its ∧ IsTup h a its.toArray
  | .dK kvs => kvs.length ≤ sizeLine ∧ (a == sysModules) = false ∧ ∃ vs, KV kvs vs ∧ h.DictOf (mixKind P w) a vs
  | .dT kvs => kvs.length ≤ sizeLine ∧ (a == sysModules) = false ∧ ∃ xs : List (List Key × Addr × Value),
      Paired (fun (p : List Key × V) (q : List Key × Addr × Value) => p.1 = q.1 ∧ H q.2.1 = some (.tup (p.1.map kV)) ∧ RelV p.2 q.2.2) kvs xs ∧
      ∃ o es ep, h.get? a = some o ∧ o.ExactDict ∧ o.data = .dict es ep ∧ es.toList = xs.map (entryOfKey (tupleKind (mixKind P w))) ∧ (xs.map (·.1)).Nodup
  | .set S n => h.SetOf (intKind P w) a S n
  | .ins C dx fs => H dx = some (.own a) ∧ fs.length ≤ 1000 ∧ dx ≠ a ∧ h.get? a = some (PySem.W.instObj C dx) ∧
      ∃ mA, h.Ns1 dx mA ∧ (∀ f, RelO (fs.lookup f) (mA f)) ∧ PySem.Within mA (fs.map (·.1))
  | .own _ => ∃ o, h.get? a = some o
  | .xd fs => ∃ mA, h.Ns1 a mA ∧ ∀ f, RelO (fs.lookup f) (mA f)
  | .rng lo hi => ∃ t u v, h.get? a = some { cls := .type "range", data := .fields #[.int lo t, .int hi u, .int 1 v] }
  | .frz o u => h.get? a = some o ∧ ObjOk H h a u
  | .tbl ps => h.get? a = some { cls := .none, data := .fields ps }
  | .met f x => h.get? a = some (PySem.W.methodObj (.ref f) (.ref x))
  | .ext φ => φ h ∧ (∃ o, h.get? a = some o) ∧ ∀ h1 h2 : Heap, φ h1 → (∀ o, h1.get? a = some o → h2.get? a = some o) → φ h2
def HOk (H : Hp) (h : Heap) : Prop := ∀ a o, H a = some o → ObjOk P w H h a o
end
section
variable {P : Program} {w : World} {H H' : Hp} {h h' : Heap} {a : Addr} {o : HO}
theorem ObjOk.lt (x : ObjOk P w H h a o) : a < h.objs.size := by
  cases o with
  | lst xs => obtain ⟨_, _, _, _, e⟩ := x; exact Heap.lt_size e
  | tup xs => obtain ⟨_, _, _, p⟩ := x; exact p.lt
  | dK kvs => obtain ⟨_, _, _, _, o, _, _, e, _⟩ := x; exact Heap.lt_size e
  | dT kvs => obtain ⟨_, _, _, _, o, _, _, e, _⟩ := x; exact Heap.lt_size e
  | set S n => obtain ⟨o, _, _, _, e, _⟩ := x; exact Heap.lt_size e
  | ins C dx fs => obtain ⟨_, _, _, e, _⟩ := x; exact Heap.lt_size e
  | own y => obtain ⟨_, e⟩ := x; exact Heap.lt_size e
  | xd fs => obtain ⟨_, ⟨_, _, _, e, _⟩, _⟩ := x; exact Heap.lt_size e
  | rng lo hi => obtain ⟨_, _, _, e⟩ := x; exact Heap.lt_size e
  | frz ob u => obtain ⟨e, _⟩ := x; exact Heap.lt_size e
  | tbl ps => exact Heap.lt_size (show h.get? a = some _ from x)
  | met f y => exact Heap.lt_size (show h.get? a = some _ from x)
  | ext φ => obtain ⟨_, ⟨_, e⟩, _⟩ := x; exact Heap.lt_size e
theorem Paired.mapP {α β : Type} {F G : α → β → Prop} : ∀ {l₁ : List α} {l₂ : List β}, Paired F l₁ l₂ → (∀ a b, F a b → G a b) → Paired G l₁ l₂
  | _, _, .nil, _ => .nil
  | _, _, .cons r t, f => .cons (f _ _ r) (Paired.mapP t f)
theorem ObjOk.stay (x : ObjOk P w H h a o) (k : ∀ b u, (b = a ∨ H b = some (.own a)) → h.get? b = some u → h'.get? b = some u)
    (ho : ∀ b, H b = some (.own a) → H' b = some (.own a)) (ht : ∀ b xs, H b = some (.tup xs) → H' b = some (.tup xs)) : ObjOk P w H' h' a o := by
  induction o with
  | lst xs => obtain ⟨z, its, n, r, e⟩ := x; exact ⟨z, its, n, r, k _ _ (.inl rfl) e⟩
  | tup xs => obtain ⟨z, its, r, ob, e, c⟩ := x; exact ⟨z, its, r, ob, k _ _ (.inl rfl) e, c⟩
  | dK kvs => obtain ⟨z, y, vs, r, ob, es, ep, e, c⟩ := x; exact ⟨z, y, vs, r, ob, es, ep, k _ _ (.inl rfl) e, c⟩
  | dT kvs =>
    obtain ⟨z, y, xs, r, ob, es, ep, e, c⟩ := x
    exact ⟨z, y, xs, Paired.mapP r fun p q z => ⟨z.1, ht _ _ z.2.1, z.2.2⟩, ob, es, ep, k _ _ (.inl rfl) e, c⟩
  | set S n => obtain ⟨ob, es, ep, t, e, c⟩ := x; exact ⟨ob, es, ep, t, k _ _ (.inl rfl) e, c⟩
  | ins C dx fs =>
    obtain ⟨d, z, ne, e, mA, ⟨od, es, ep, e2, c⟩, r⟩ := x
    exact ⟨ho _ d, z, ne, k _ _ (.inl rfl) e, mA, ⟨od, es, ep, k _ _ (.inr d) e2, c⟩, r⟩
  | own y => obtain ⟨ob, e⟩ := x; exact ⟨ob, k _ _ (.inl rfl) e⟩
  | xd fs => obtain ⟨mA, ⟨od, es, ep, e, c⟩, r⟩ := x; exact ⟨mA, ⟨od, es, ep, k _ _ (.inl rfl) e, c⟩, r⟩
  | rng lo hi => obtain ⟨t, u, v, e⟩ := x; exact ⟨t, u, v, k _ _ (.inl rfl) e⟩
  | frz ob u ih => obtain ⟨e, q⟩ := x; exact ⟨k _ _ (.inl rfl) e, ih q⟩
  | tbl ps =>
    have e : h.get? a = some { cls := .none, data := .fields ps } := x
    show h'.get? a = some { cls := .none, data := .fields ps }
    exact k a _ (.inl rfl) e
  | met f y =>
    have e : h.get? a = some (PySem.W.methodObj (.ref f) (.ref y)) := x
    show h'.get? a = some (PySem.W.methodObj (.ref f) (.ref y))
    exact k a _ (.inl rfl) e
  | ext φ => obtain ⟨p, ⟨o, e⟩, st⟩ := x; exact ⟨st _ _ p fun o q => k _ _ (.inl rfl) q, ⟨o, k _ _ (.inl rfl) e⟩, st⟩
theorem HOk.lt (x : HOk P w H h) (e : H a = some o) : a < h.objs.size := (x a o e).lt
theorem HOk.fresh (x : HOk P w H h) (e : h.objs.size ≤ a) : H a = none := by
  cases q : H a with
  | none => rfl
  | some u => exact absurd (Nat.lt_of_lt_of_le (x.lt q) e) (Nat.lt_irrefl _)
theorem HOk.kept (x : HOk P w H h) (k : ∀ b u, h.get? b = some u → h'.get? b = some u) : HOk P w H h' := fun a o e =>
  (x a o e).stay (fun b u _ q => k b u q) (fun _ q => q) fun _ _ q => q
theorem HOk.laid (x : HOk P w H h) (k : ∀ b u, h.get? b = some u → h'.get? b = some u) (hp : h.objs.size ≤ a) (new : ObjOk P w (upd H a o) h' a o) : HOk P w (upd H a o) h' := fun b u e => by
  have hn := x.fresh hp
  by_cases hb : b = a
  · subst hb; rw [upd_same] at e; cases e; exact new
  · rw [upd_ne hb] at e
    exact (x b u e).stay (fun c v _ q => k c v q) (fun c q => by rw [upd_ne (ne_of_none q hn)]; exact q) fun c xs q => by rw [upd_ne (ne_of_none q hn)]; exact q
end
def Rd (H : Hp) (a : Addr) (u : HO) : Prop := H a = some u ∨ ∃ o, H a = some (.frz o u)
theorem Rd.ok {P : Program} {w : World} {H : Hp} {h : Heap} {a : Addr} {u : HO} (r : Rd H a u) (x : HOk P w H h) : ObjOk P w H h a u := by
  rcases r with r | ⟨o, r⟩
  · exact x a u r
  · obtain ⟨_, q⟩ := x a _ r
    exact q
def Mut : Option HO → Prop
  | some (.lst _) => True
  | some (.dK _) => True
  | some (.dT _) => True
  | some (.set _ _) => True
  | some (.ins _ _ _) => True
  | some (.ext _) => True
  | _ => False
section
variable {P : Program} {w : World} {H : Hp} {h h' : Heap} {x e : Addr} {o' : HO}
theorem HOk.write (ok : HOk P w H h) (mu : Mut (H x)) (he : e = x ∨ H e = some (.own x)) (k : ∀ b u, b ≠ e → h.get? b = some u → h'.get? b = some u) (heo : ∃ u, h'.get? e = some u)
    (new : ObjOk P w (upd H x o') h' x o') : HOk P w (upd H x o') h' := fun b u q => by
  have nown : ∀ c y, H c = some (.own y) → c ≠ x := fun c y r z => by subst z; rw [r] at mu; exact mu
  have ntup : ∀ c xs, H c = some (.tup xs) → c ≠ x := fun c xs r z => by subst z; rw [r] at mu; exact mu
  by_cases hb : b = x
  · subst hb; rw [upd_same] at q; cases q; exact new
  · rw [upd_ne hb] at q
    by_cases hbe : b = e
    · have q' : H b = some (.own x) := by
        rcases he with z | z
        · exact absurd (hbe.trans z) hb
        · rw [hbe]; exact z
      rw [q] at q'; cases q'
      obtain ⟨v, hv⟩ := heo
      exact ⟨v, by rw [hbe]; exact hv⟩
    · refine (ok b u q).stay (fun c v hc r => k c v ?_ r) (fun c r => by rw [upd_ne (nown c b r)]; exact r) fun c xs r => by rw [upd_ne (ntup c xs r)]; exact r
      rcases hc with rfl | hc
      · exact hbe
      · rintro rfl
        rcases he with z | z
        · exact nown c b hc z
        · rw [hc] at z; cases z; exact hb rfl
end
structure Un (fs ex : List Addr) (H H' : Hp) (h h' : Heap) : Prop where
  keep : ∀ b o, h.get? b = some o → H b = none → b ∉ fs → b ∉ ex → h'.get? b = some o
  slot : ∀ b o, h.get? b = some o → H b = none → b ∈ fs → b ∉ ex → ∃ sl, h'.get? b = some { o with slots := sl }
  free : ∀ b o, h.get? b = some o → H b = none → b ∉ ex → H' b = none
  there : ∀ b o, h.get? b = some o → b ∉ ex → ∃ o', h'.get? b = some o'
  tups : ∀ b xs, H b = some (.tup xs) → H' b = some (.tup xs)
  frzs : ∀ b o u, H b = some (.frz o u) → H' b = some (.frz o u)
  tbls : ∀ b ps, H b = some (.tbl ps) → ∃ more, H' b = some (.tbl (ps ++ more))
section
variable {fs fs' ex ex' : List Addr} {H H1 H2 : Hp} {h h1 h2 h' : Heap} {a x e : Addr} {o : HO}
theorem Un.any (u : Un fs ex H H1 h h1) {b : Addr} {ob : Obj} (q : h.get? b = some ob) (n : H b = none) (hx : b ∉ ex) : ∃ sl, h1.get? b = some { ob with slots := sl } := by
  by_cases hb : b ∈ fs
  · exact u.slot b ob q n hb hx
  · exact ⟨ob.slots, u.keep b ob q n hb hx⟩
theorem Un.kept (k : ∀ b u, h.get? b = some u → h'.get? b = some u) : Un fs ex H H h h' :=
  ⟨fun b ob q _ _ _ => k b ob q, fun b ob q _ _ _ => ⟨ob.slots, k b ob q⟩, fun _ _ _ n _ => n, fun b ob q _ => ⟨ob, k b ob q⟩, fun _ _ q => q, fun _ _ _ q => q, fun _ ps q => ⟨#[], by rw [q]; simp⟩⟩
theorem Un.refl : Un fs ex H H h h := Un.kept fun _ _ q => q
theorem Un.laid (k : ∀ b u, h.get? b = some u → h'.get? b = some u) (hp : h.objs.size ≤ a) (hn : H a = none) : Un fs ex H (upd H a o) h h' where
  keep := fun b u q _ _ _ => k b u q
  slot := fun b u q _ _ _ => ⟨u.slots, k b u q⟩
  free := fun b u q n _ => by rw [upd_ne (Nat.ne_of_lt (Nat.lt_of_lt_of_le (Heap.lt_size q) hp))]; exact n
  there := fun b u q _ => ⟨u, k b u q⟩
  tups := fun b xs q => by rw [upd_ne (ne_of_none q hn)]; exact q
  frzs := fun b u xs q => by rw [upd_ne (ne_of_none q hn)]; exact q
  tbls := fun b ps q => ⟨#[], by rw [upd_ne (ne_of_none q hn), q]; simp⟩
theorem Un.write (mu : Mut (H x)) (he : e = x ∨ H e = some (.own x)) (k : ∀ b u, b ≠ e → h.get? b = some u → h'.get? b = some u) (heo : ∃ u, h'.get? e = some u) : Un fs ex H (upd H x o) h h' := by
  have hx : ∀ b, H b = none → b ≠ x := fun b n z => by subst z; rw [n] at mu; exact mu
  have hb : ∀ b, H b = none → b ≠ e := fun b n z => by
    subst z
    rcases he with r | r
    · exact hx b n r
    · rw [n] at r; cases r
  have hm : ∀ b u, H b = some u → ¬ Mut (some u) → b ≠ x := fun b u q nm z => by subst z; rw [q] at mu; exact nm mu
  refine ⟨fun b u q n _ _ => k b u (hb b n) q, fun b u q n _ _ => ⟨u.slots, k b u (hb b n) q⟩, fun b u q n _ => by rw [upd_ne (hx b n)]; exact n, fun b u q _ => ?_,
    fun b xs q => by rw [upd_ne (hm b _ q fun z => z)]; exact q, fun b u xs q => by rw [upd_ne (hm b _ q fun z => z)]; exact q, fun b ps q => ⟨#[], by rw [upd_ne (hm b _ q fun z => z), q]; simp⟩⟩
  by_cases hbe : b = e
  · subst hbe; exact heo
  · exact ⟨u, k b u hbe q⟩
end
def trk (h : Heap) (H : Hp) : List Addr := (List.range h.objs.size).filter fun a => (H a).isSome
def hidT (h : Heap) (H : Hp) : Heap := PySem.W.hideAll h (trk h H)
theorem hidT_size (h : Heap) (H : Hp) : (hidT h H).objs.size = h.objs.size := PySem.W.hideAll_size _ _
theorem hidT_get {h : Heap} {H : Hp} {b : Addr} {o : Obj} (e : h.get? b = some o) (n : H b = none) : (hidT h H).get? b = some o :=
  PySem.W.hideAll_get _ e fun hm => by
    have q : (H b).isSome = true := (List.mem_filter.mp hm).2
    rw [n] at q; simp at q
theorem of_hidT {h : Heap} {H : Hp} {b : Addr} {o : Obj} (e : (hidT h H).get? b = some o) : h.get? b = some o ∧ H b = none := by
  have e' : h.get? b = some o := PySem.W.of_hideAll (trk h H) e
  refine ⟨e', ?_⟩
  cases q : H b with
  | none => rfl
  | some x =>
    have hm : b ∈ trk h H := List.mem_filter.mpr ⟨List.mem_range.mpr (Heap.lt_size e'), by simp [q]⟩
    have z : (hidT h H).get? b = none := PySem.W.hideAll_none (trk h H) hm
    rw [z] at e; cases e
def allNews (g h : Heap) (L : Addr) : List (Addr × Obj) := (List.range h.objs.size).filterMap fun a => if a = L ∨ (g.get? a).isSome = true then none else (h.get? a).map fun o => (a, o)
def rest (g h : Heap) (L d : Addr) : List (Addr × Obj) := (allNews g h L).filter fun p => decide (p.1 ≠ d)
end L2
namespace L2
open PySem PySem.Spec PyProof.Rows
structure Mod (K : PySem.W.Frag) (mg : Str → Option Value) (base : Heap) : Prop where
  kin : K.In base
  glob : base.Ns mainGlobals mg
  blt : ∃ mb, base.Ns builtinsNs mb ∧ ∀ x : Str, x ≠ "__name__" → mb x = bootBuiltins x
  nolimit : base.NoLimit
structure Cx where
  prog : Program
  w : World
  K : PySem.W.Frag
  mg : Str → Option Value
  base : Heap
  A : Around
  N : List Str
  s₀ : Shared
  H₀ : Hp
  env : Env
  outer : List Env
  stack : List Env
  ex : List Addr
  fn : Str → Bool
  calm : Bool
  pn : List (Addr × Obj)
  xe : Value → Shared → Prop
def frs (l : List Env) : List Addr := l.filterMap (·.frame)
abbrev Cx.fs (X : Cx) : List Addr := frs X.outer
def Vis (sc : Scope) (x : Str) : Prop := sc.names.lookup x = some .local ∨ sc.names.lookup x = some .cell ∨ sc.names.lookup x = some .free
def Loc (sc : Scope) (x : Str) : Prop := sc.names.lookup x = some .local ∨ sc.names.lookup x = some .cell
def Look (env : Env) (h : Heap) (m : Str → Option Value) (x : Str) (u : Value) : Prop :=
  (env.kindOf x = some .local ∧ m x = some u) ∨ ((env.kindOf x = some .cell ∨ env.kindOf x = some .free) ∧ ∃ c, env.cells.lookup x = some c ∧ h.IsCell c (some u))
structure Cx.Ok (X : Cx) : Prop where
  mod : Mod X.K X.mg X.base
  kind : X.env.scope.kind = .function
  glob : X.env.globals = mainGlobals
  blt : X.env.builtins = builtinsNs
  above : X.s₀.heap.objs.size ≤ X.env.locals
  inj : ∀ x y c, X.env.cells.lookup x = some c → X.env.cells.lookup y = some c → x = y
  has : ∀ x, (X.env.kindOf x = some .cell ∨ X.env.kindOf x = some .free) → ∃ c, X.env.cells.lookup x = some c
  cab : ∀ x c, X.fn x = true → X.env.cells.lookup x = some c → X.s₀.heap.objs.size ≤ c
  hd : X.calm = true → X.A.handled = none
  frames : X.A.frames = some X.stack
  stk : X.stack = X.outer ∨ (X.stack = X.env :: X.outer ∧ X.env.frame = some X.env.locals)
  exf : ∀ b ∈ X.ex, b ≠ X.env.locals ∧ ∀ x c, X.env.cells.lookup x = some c → c ≠ b
  bs : ∀ b o, X.base.get? b = some o → X.s₀.heap.get? b = some o ∧ X.H₀ b = none
  bsz : X.base.objs.size ≤ X.s₀.heap.objs.size
  noex : ∀ b o, X.base.get? b = some o → b ∉ X.ex
  exfs : ∀ b ∈ X.ex, b ∉ X.fs
  funs : X.s₀.heap.FunFrames X.base X.outer
  frf : ∀ b ∈ X.fs, X.H₀ b = none
structure Inv (X : Cx) (pins : List (Addr × Obj)) (σ : List (Option V)) (H : Hp) (s : Shared) : Prop where
  ok : X.Ok
  os : s.os = X.s₀.os
  bare : AllBare s.gens
  base : Un X.fs X.ex X.H₀ H X.s₀.heap s.heap
  loc : ∃ m, s.heap.Ns X.env.locals m ∧ ∀ (i : Nat) (x : Str) (v : V), X.N[i]? = some x → σ[i]? = some (some v) → Vis X.env.scope x → ∃ u, RelV v u ∧ Look X.env s.heap m x u
  cell : ∀ x c, X.env.cells.lookup x = some c → ∃ v, s.heap.IsCell c v
  free : H X.env.locals = none
  freeC : ∀ x c, X.env.cells.lookup x = some c → H c = none
  pin : ∀ p ∈ X.pn ++ pins, s.heap.get? p.1 = some p.2 ∧ H p.1 = none ∧ p.1 ≠ X.env.locals ∧ p.1 ∉ X.fs ∧ ∀ v, p.2.data ≠ .cell v
  hok : HOk X.prog X.w H s.heap
  len : σ.length = X.N.length
section
variable {X : Cx} {pins : List (Addr × Obj)} {σ : List (Option V)} {H H' : Hp} {s : Shared} {h' : Heap}
theorem Cx.Ok.nofr (ok : X.Ok) {b : Addr} {o : Obj} (e : X.base.get? b = some o) : b ∉ X.fs := fun hb => by
  have := (ok.funs.mem hb).1
  rw [e] at this; cases this
theorem Inv.bs (I : Inv X pins σ H s) : ∀ b o, X.base.get? b = some o → s.heap.get? b = some o ∧ H b = none := fun b o e =>
  ⟨I.base.keep b o (I.ok.bs b o e).1 (I.ok.bs b o e).2 (I.ok.nofr e) (I.ok.noex b o e), I.base.free b o (I.ok.bs b o e).1 (I.ok.bs b o e).2 (I.ok.noex b o e)⟩
theorem Inv.bk (I : Inv X pins σ H s) : ∀ b o, X.base.get? b = some o → s.heap.get? b = some o := fun b o e => (I.bs b o e).1
theorem Inv.mod (I : Inv X pins σ H s) : Mod X.K X.mg X.base := I.ok.mod
theorem Inv.kIn (I : Inv X pins σ H s) : X.K.In s.heap := I.ok.mod.kin.keeps I.bk
theorem Inv.nolimit (I : Inv X pins σ H s) : s.heap.NoLimit := I.ok.mod.nolimit.keeps I.bk
theorem Inv.fr (I : Inv X pins σ H s) : ∃ m, Fr X.base X.env.locals s.heap m :=
  let ⟨m, hn, _⟩ := I.loc
  ⟨m, hn, I.bk, Nat.le_trans I.ok.bsz I.ok.above⟩
theorem Inv.lt (I : Inv X pins σ H s) : X.env.locals < s.heap.objs.size := let ⟨_, hn, _⟩ := I.loc; hn.lt
theorem Inv.sz (I : Inv X pins σ H s) : X.s₀.heap.objs.size ≤ s.heap.objs.size := Nat.le_trans I.ok.above (Nat.le_of_lt I.lt)
theorem Inv.nofs (I : Inv X pins σ H s) {a : Addr} (h : s.heap.objs.size ≤ a) : a ∉ X.fs := fun hb => by
  obtain ⟨_, o, ho, _⟩ := I.ok.funs.mem hb
  exact absurd (Nat.lt_of_lt_of_le (Heap.lt_size ho) (Nat.le_trans I.sz h)) (Nat.lt_irrefl _)
theorem Inv.cne (I : Inv X pins σ H s) : ∀ x c, X.env.cells.lookup x = some c → c ≠ X.env.locals := fun x c e z => by
  obtain ⟨v, o, ho, hd⟩ := I.cell x c e
  obtain ⟨m, ⟨o', es, ep, ho', hd', _⟩, _⟩ := I.loc
  rw [z, ho'] at ho; cases ho; rw [hd'] at hd; cases hd
theorem Inv.funs (I : Inv X pins σ H s) : s.heap.FunFrames X.base X.outer := by
  have all : ∀ (l : List Env), (∀ b ∈ frs l, b ∈ X.fs) → X.s₀.heap.FunFrames X.base l → s.heap.FunFrames X.base l := by
    intro l
    induction l with
    | nil => intro _ _; trivial
    | cons env r ih =>
      intro hs hl
      obtain ⟨hk, ⟨L, o, hf, hn, ho, hd⟩, hr⟩ := hl
      have hL : L ∈ X.fs := hs L (by unfold frs; rw [List.filterMap_cons, hf]; exact List.mem_cons_self)
      obtain ⟨sl, e⟩ := I.base.slot L o ho (I.ok.frf L hL) hL fun z => I.ok.exfs L z hL
      exact ⟨hk, ⟨L, _, hf, hn, e, hd⟩, ih (fun b hb => hs b (by unfold frs; rw [List.filterMap_cons, hf]; exact List.mem_cons_of_mem _ hb)) hr⟩
  exact all X.outer (fun _ hb => hb) I.ok.funs
theorem Inv.stack (I : Inv X pins σ H s) : s.heap.FunFrames X.base X.stack := by
  rcases I.ok.stk with e | ⟨e, hf⟩
  · rw [e]; exact I.funs
  · rw [e]
    obtain ⟨m, hn, _⟩ := I.loc
    refine .cons (by rw [I.ok.kind]; decide) hf hn ?_ I.funs
    exact Heap.get?_none_of_le (Nat.le_trans I.ok.bsz I.ok.above)
theorem Inv.stkSub (I : Inv X pins σ H s) : ∀ b ∈ frs X.stack, b ∈ X.env.locals :: X.fs := fun b hb => by
  rcases I.ok.stk with e | ⟨e, hf⟩
  · rw [e] at hb; exact List.mem_cons_of_mem _ hb
  · rw [e] at hb
    unfold frs at hb
    rw [List.filterMap_cons, hf] at hb
    exact hb
theorem Inv.stkFree (I : Inv X pins σ H s) : ∀ b ∈ frs X.stack, H b = none := fun b hb => by
  rcases List.mem_cons.mp (I.stkSub b hb) with e | hb
  · rw [e]; exact I.free
  · obtain ⟨_, o, ho, _⟩ := I.ok.funs.mem hb
    exact I.base.free b o ho (I.ok.frf b hb) fun z => I.ok.exfs b z hb
theorem Inv.step {g' : Array GenState} {t' : Nat} {d' : Drawn} {ch : List Addr} (I : Inv X pins σ H s)
    (hch : ∀ b ∈ ch, (b ∈ X.ex ∨ X.s₀.heap.objs.size ≤ b) ∧ b ≠ X.env.locals ∧ (∀ x c, X.env.cells.lookup x = some c → c ≠ b) ∧ ∀ p ∈ X.pn ++ pins, p.1 ≠ b)
    (keep : ∀ b o, b ≠ X.env.locals → b ∉ X.fs → b ∉ ch → s.heap.get? b = some o → H b = none → h'.get? b = some o)
    (slot : ∀ b o, b ≠ X.env.locals → b ∈ X.fs → b ∉ ch → s.heap.get? b = some o → H b = none → ∃ sl, h'.get? b = some { o with slots := sl }) (free : ∀ b o, b ∉ ch → s.heap.get? b = some o → H b = none → H' b = none)
    (there : ∀ b o, b ∉ ch → s.heap.get? b = some o → ∃ o', h'.get? b = some o')
    (tups : ∀ b xs, H b = some (.tup xs) → H' b = some (.tup xs)) (frzs : ∀ b o u, H b = some (.frz o u) → H' b = some (.frz o u)) (tbls : ∀ b ps, H b = some (.tbl ps) → ∃ more, H' b = some (.tbl (ps ++ more)))
    (ns : ∀ m, s.heap.Ns X.env.locals m → h'.Ns X.env.locals m) (hok : HOk X.prog X.w H' h') (hg : AllBare g') :
    Inv X pins σ H' { s with heap := h', gens := g', drawn := d', toks := t' } := by
  have neL : ∀ b o, X.s₀.heap.get? b = some o → b ≠ X.env.locals := fun b o e => Nat.ne_of_lt (Nat.lt_of_lt_of_le (Heap.lt_size e) I.ok.above)
  have neC : ∀ b o, X.s₀.heap.get? b = some o → b ∉ X.ex → b ∉ ch := fun b o e hx hb => by
    rcases (hch b hb).1 with z | z
    · exact hx z
    · exact absurd (Nat.lt_of_lt_of_le (Heap.lt_size e) z) (Nat.lt_irrefl _)
  have cellK : ∀ x c, X.env.cells.lookup x = some c → ∀ v, s.heap.IsCell c v → h'.IsCell c v := fun x c e v ⟨o, ho, hd⟩ => by
    have nch : c ∉ ch := fun z => (hch c z).2.2.1 x c e rfl
    by_cases hc : c ∈ X.fs
    · obtain ⟨sl, q⟩ := slot c o (I.cne x c e) hc nch ho (I.freeC x c e)
      exact ⟨_, q, hd⟩
    · exact ⟨o, keep c o (I.cne x c e) hc nch ho (I.freeC x c e), hd⟩
  refine ⟨I.ok, I.os, hg, ⟨fun b o e n hb hx => ?_, fun b o e n hb hx => ?_, fun b o e n hx => ?_, fun b o e hx => ?_, fun b xs e => tups b xs (I.base.tups b xs e), fun b o xs e => frzs b o xs (I.base.frzs b o xs e), fun b ps e => ?_⟩, ?_, fun x c e => ?_, ?_, fun x c e => ?_, fun p hp => ?_, hok, I.len⟩
  · exact keep b o (neL b o e) hb (neC b o e hx) (I.base.keep b o e n hb hx) (I.base.free b o e n hx)
  · obtain ⟨sl, e1⟩ := I.base.slot b o e n hb hx
    obtain ⟨sl', e2⟩ := slot b _ (neL b o e) hb (neC b o e hx) e1 (I.base.free b o e n hx)
    exact ⟨sl', e2⟩
  · obtain ⟨o', e1⟩ := I.base.there b o e hx
    exact free b o' (neC b o e hx) e1 (I.base.free b o e n hx)
  · obtain ⟨o', e1⟩ := I.base.there b o e hx
    exact there b o' (neC b o e hx) e1
  · obtain ⟨m1, e1⟩ := I.base.tbls b ps e
    obtain ⟨m2, e2⟩ := tbls b _ e1
    exact ⟨m1 ++ m2, by rw [e2, Array.append_assoc]⟩
  · obtain ⟨m, hn, hl⟩ := I.loc
    refine ⟨m, ns m hn, fun i x v e1 e2 e3 => ?_⟩
    obtain ⟨u, r, l⟩ := hl i x v e1 e2 e3
    refine ⟨u, r, ?_⟩
    rcases l with l | ⟨k, c, e, z⟩
    · exact .inl l
    · exact .inr ⟨k, c, e, cellK x c e _ z⟩
  · obtain ⟨v, z⟩ := I.cell x c e
    exact ⟨v, cellK x c e v z⟩
  · obtain ⟨m, ⟨o, _, _, ho, _⟩, _⟩ := I.loc
    exact free _ o (fun z => (hch _ z).2.1 rfl) ho I.free
  · obtain ⟨v, o, ho, hd⟩ := I.cell x c e
    exact free c o (fun z => (hch c z).2.2.1 x c e rfl) ho (I.freeC x c e)
  · obtain ⟨e, n, ne, nf, d⟩ := I.pin p hp
    have nch : p.1 ∉ ch := fun z => (hch p.1 z).2.2.2 p hp rfl
    exact ⟨keep p.1 p.2 ne nf nch e n, free p.1 p.2 nch e n, ne, nf, d⟩
theorem Inv.un {t' : Nat} (I : Inv X pins σ H s) (u : Un X.fs [] H H' s.heap h') (hok : HOk X.prog X.w H' h') : Inv X pins σ H' { s with heap := h', toks := t' } := by
  obtain ⟨m, ⟨o, es, ep, ho, r⟩, _⟩ := id I.loc
  obtain ⟨sl, hL⟩ := u.any ho I.free (by simp)
  exact I.step (g' := s.gens) (d' := s.drawn) (ch := []) (fun _ z => nomatch z) (fun b o _ hb _ e n => u.keep b o e n hb (by simp)) (fun b o _ hb _ e n => u.slot b o e n hb (by simp)) (fun b o _ e n => u.free b o e n (by simp)) (fun b o _ e => u.there b o e (by simp)) u.tups u.frzs u.tbls (fun m' hm => by
    obtain ⟨o', es', ep', ho', r'⟩ := hm
    rw [ho] at ho'; cases ho'
    exact ⟨_, es', ep', hL, r'⟩) hok I.bare
theorem Inv.call {g' : Array GenState} {t' : Nat} {d' : Drawn} {ch : List Addr} (I : Inv X pins σ H s) (u : Un (frs X.stack) ch H H' s.heap h') (hok : HOk X.prog X.w H' h') (hg : AllBare g')
    (hch : ∀ b ∈ ch, (b ∈ X.ex ∨ X.s₀.heap.objs.size ≤ b) ∧ b ≠ X.env.locals ∧ (∀ x c, X.env.cells.lookup x = some c → c ≠ b) ∧ ∀ p ∈ X.pn ++ pins, p.1 ≠ b) :
    Inv X pins σ H' { s with heap := h', gens := g', drawn := d', toks := t' } := by
  obtain ⟨m, ⟨o, es, ep, ho, r⟩, _⟩ := id I.loc
  obtain ⟨sl, hL⟩ := u.any ho I.free fun z => (hch _ z).2.1 rfl
  exact I.step (ch := ch) hch (fun b o hL hb hc e n => u.keep b o e n (fun z => (List.mem_cons.mp (I.stkSub b z)).elim hL hb) hc) (fun b o _ _ hc e n => u.any e n hc) (fun b o hc e n => u.free b o e n hc) (fun b o hc e => u.there b o e hc) u.tups u.frzs u.tbls (fun m' hm => by
    obtain ⟨o', es', ep', ho', r'⟩ := hm
    rw [ho] at ho'; cases ho'
    exact ⟨_, es', ep', hL, r'⟩) hok hg
theorem Inv.turned {t' : Nat} {it : Addr} (I : Inv X pins σ H s) (k : ∀ b o, b ≠ it → s.heap.get? b = some o → h'.get? b = some o) (hn : H it = none) (hL : it ≠ X.env.locals)
    (h1 : it ∈ X.ex ∨ X.s₀.heap.objs.size ≤ it) (h2 : ∀ x c, X.env.cells.lookup x = some c → c ≠ it) (h3 : ∀ p ∈ X.pn ++ pins, p.1 ≠ it) : Inv X pins σ H { s with heap := h', toks := t' } := by
  have nit : ∀ b u, H b = some u → b ≠ it := fun b u e z => by rw [z, hn] at e; cases e
  refine I.step (g' := s.gens) (d' := s.drawn) (ch := [it]) (fun b hb => ?_) (fun b o _ _ hc e _ => k b o (fun z => hc (by simp [z])) e) (fun b o _ _ hc e _ => ⟨o.slots, k b o (fun z => hc (by simp [z])) e⟩) (fun _ _ _ _ n => n)
    (fun b o hc e => ⟨o, k b o (fun z => hc (by simp [z])) e⟩) (fun _ _ e => e) (fun _ _ _ e => e) (fun b ps e => ⟨#[], by rw [e]; simp⟩) (fun m hm => ?_) (fun b u e => ?_) I.bare
  · have e : b = it := by simpa using hb
    subst e
    exact ⟨h1, hL, h2, h3⟩
  · obtain ⟨o, es, ep, ho, r⟩ := hm
    exact ⟨o, es, ep, k _ o (Ne.symm hL) ho, r⟩
  · refine (I.hok b u e).stay (fun c v hc q => k c v ?_ q) (fun _ q => q) fun _ _ q => q
    rcases hc with z | z
    · rw [z]; exact nit b u e
    · exact nit c _ z
theorem Inv.tok (I : Inv X pins σ H s) (t : Nat) : Inv X pins σ H { s with toks := t } := I.un (h' := s.heap) (t' := t) Un.refl I.hok
theorem Inv.kept {t' : Nat} (I : Inv X pins σ H s) (k : ∀ b u, s.heap.get? b = some u → h'.get? b = some u) : Inv X pins σ H { s with heap := h', toks := t' } := I.un (Un.kept k) (I.hok.kept k)
theorem Inv.laid {a : Addr} {o : HO} {t' : Nat} (I : Inv X pins σ H s) (k : ∀ b u, s.heap.get? b = some u → h'.get? b = some u) (hp : s.heap.objs.size ≤ a) (new : ObjOk X.prog X.w (upd H a o) h' a o) :
    Inv X pins σ (upd H a o) { s with heap := h', toks := t' } := I.un (Un.laid k hp (I.hok.fresh hp)) (I.hok.laid k hp new)
theorem Inv.write {x e : Addr} {o : HO} {t' : Nat} (I : Inv X pins σ H s) (mu : Mut (H x)) (he : e = x ∨ H e = some (.own x)) (k : ∀ b u, b ≠ e → s.heap.get? b = some u → h'.get? b = some u) (heo : ∃ u, h'.get? e = some u)
    (new : ObjOk X.prog X.w (upd H x o) h' x o) : Inv X pins σ (upd H x o) { s with heap := h', toks := t' } := I.un (Un.write mu he k heo) (I.hok.write mu he k heo new)
theorem Inv.pins_of {pins' : List (Addr × Obj)} (I : Inv X pins σ H s) (h : ∀ p ∈ pins', s.heap.get? p.1 = some p.2 ∧ H p.1 = none ∧ p.1 ≠ X.env.locals ∧ p.1 ∉ X.fs ∧ ∀ v, p.2.data ≠ .cell v) : Inv X pins' σ H s :=
  ⟨I.ok, I.os, I.bare, I.base, I.loc, I.cell, I.free, I.freeC, fun p hp => (List.mem_append.mp hp).elim (fun z => I.pin p (List.mem_append_left _ z)) (h p), I.hok, I.len⟩
theorem nodup_ix {N : List Str} (hN : N.Nodup) {i j : Nat} {x : Str} (a : N[i]? = some x) (b : N[j]? = some x) : i = j := by
  obtain ⟨h1, e1⟩ := List.getElem?_eq_some_iff.mp a
  obtain ⟨h2, e2⟩ := List.getElem?_eq_some_iff.mp b
  exact (List.getElem_inj hN).mp (e1.trans e2.symm)
theorem store_ok2 {M : Model} {A : Around} {E : Value → Shared → Prop} {i : Nat} {x : Str} {v : V} {u : Value} {Q : Unit → Shared → Prop} (I : Inv X pins σ H s) (hN : X.N.Nodup) (hi : X.N[i]? = some x) (hx : Loc X.env.scope x) (r : RelV v u)
    (h : ∀ s', Inv X pins (σ.set i (some v)) H s' → (∃ a, Heap.SameBut a s.heap s'.heap ∧ (a = X.env.locals ∨ X.env.cells.lookup x = some a)) → Q () s') (hf : X.fn x = true ∨ X.env.scope.names.lookup x = some .local := by first | exact .inl rfl | exact .inr rfl | assumption) : wpAny M A (storeName X.env x u) Q E s := by
  obtain ⟨m, hn, hl⟩ := id I.loc
  have hcls : (X.env.scope.kind == .class || (X.env.scope.kind == .module && X.env.locals != X.env.globals)) = false := by rw [I.ok.kind]; rfl
  have hiσ : i < σ.length := by rw [I.len]; exact (List.getElem?_eq_some_iff.mp hi).1
  have cne := I.cne
  have tracked : ∀ {a : Addr} {h' : Heap}, (∃ o, s.heap.get? a = some o ∧ H a = none) → Heap.SameBut a s.heap h' → HOk X.prog X.w H h' := fun {a h'} ha hs b ob e => by
    obtain ⟨_, _, hfree⟩ := ha
    refine (I.hok b ob e).stay (fun c w' hc q => (hs.2 c ?_).trans q) (fun _ q => q) fun _ _ q => q
    rintro rfl
    rcases hc with rfl | hc
    · rw [hfree] at e; cases e
    · rw [hfree] at hc; cases hc
  rcases hx with hk | hk
  · refine wpAny_storeName_local hk hn (fun h' hn' hs => ?_) hcls
    obtain ⟨oL, _, _, hoL, _⟩ := id hn
    refine h _ ⟨I.ok, I.os, I.bare, ⟨fun b o e n hb hx => ?_, fun b o e n hb hx => ?_, I.base.free, fun b o e hx => ?_, I.base.tups, I.base.frzs, I.base.tbls⟩, ⟨_, hn', fun j y v' e1 e2 e3 => ?_⟩, fun y c e => ?_, I.free, I.freeC, fun p hp => ?_, tracked ⟨oL, hoL, I.free⟩ hs, by simpa using I.len⟩ ⟨_, hs, .inl rfl⟩
    · exact (hs.2 b (Nat.ne_of_lt (Nat.lt_of_lt_of_le (Heap.lt_size e) I.ok.above))).trans (I.base.keep b o e n hb hx)
    · obtain ⟨sl, e1⟩ := I.base.slot b o e n hb hx
      exact ⟨sl, (hs.2 b (Nat.ne_of_lt (Nat.lt_of_lt_of_le (Heap.lt_size e) I.ok.above))).trans e1⟩
    · obtain ⟨o', e1⟩ := I.base.there b o e hx
      exact ⟨o', (hs.2 b (Nat.ne_of_lt (Nat.lt_of_lt_of_le (Heap.lt_size e) I.ok.above))).trans e1⟩
    · by_cases hj : j = i
      · subst hj
        rw [hi] at e1; cases e1
        rw [List.getElem?_set_self hiσ] at e2
        cases e2
        exact ⟨u, r, .inl ⟨hk, by simp⟩⟩
      · rw [List.getElem?_set_ne (Ne.symm hj)] at e2
        obtain ⟨u', r', q⟩ := hl j y v' e1 e2 e3
        refine ⟨u', r', ?_⟩
        rcases q with ⟨k, e⟩ | ⟨k, c, e, z⟩
        · refine .inl ⟨k, ?_⟩
          have : y ≠ x := fun e => hj (nodup_ix hN e1 (e ▸ hi))
          simp [this, e]
        · exact .inr ⟨k, c, e, z.sameBut hs (cne y c e)⟩
    · obtain ⟨w', z⟩ := I.cell y c e
      exact ⟨w', z.sameBut hs (cne y c e)⟩
    · obtain ⟨e, n, ne, nf, d⟩ := I.pin p hp
      exact ⟨(hs.2 p.1 ne).trans e, n, ne, nf, d⟩
  · have hfn : X.fn x = true := by
      rcases hf with z | z
      · exact z
      · rw [z] at hk; cases hk
    obtain ⟨c, hc⟩ := I.ok.has x (.inl hk)
    obtain ⟨w', z⟩ := I.cell x c hc
    refine wpAny_storeName_cell I.ok.kind hk hc z (fun h' hc' hs => ?_)
    obtain ⟨oc, hoc, hocd⟩ := id z
    refine h { s with heap := h' } ⟨I.ok, I.os, I.bare, ⟨fun b o e n hb hx => ?_, fun b o e n hb hx => ?_, I.base.free, fun b o e hx => ?_, I.base.tups, I.base.frzs, I.base.tbls⟩, ⟨m, hn.sameBut hs (Ne.symm (cne x c hc)), fun j y v' e1 e2 e3 => ?_⟩, fun y c' e => ?_, I.free, I.freeC, fun p hp => ?_, tracked ⟨oc, hoc, I.freeC x c hc⟩ hs, by simpa using I.len⟩ ⟨c, hs, .inr hc⟩
    · exact (hs.2 b (Nat.ne_of_lt (Nat.lt_of_lt_of_le (Heap.lt_size e) (I.ok.cab x c hfn hc)))).trans (I.base.keep b o e n hb hx)
    · obtain ⟨sl, e1⟩ := I.base.slot b o e n hb hx
      exact ⟨sl, (hs.2 b (Nat.ne_of_lt (Nat.lt_of_lt_of_le (Heap.lt_size e) (I.ok.cab x c hfn hc)))).trans e1⟩
    · obtain ⟨o', e1⟩ := I.base.there b o e hx
      exact ⟨o', (hs.2 b (Nat.ne_of_lt (Nat.lt_of_lt_of_le (Heap.lt_size e) (I.ok.cab x c hfn hc)))).trans e1⟩
    · by_cases hj : j = i
      · subst hj
        rw [hi] at e1; cases e1
        rw [List.getElem?_set_self hiσ] at e2
        cases e2
        exact ⟨u, r, .inr ⟨.inl hk, c, hc, hc'⟩⟩
      · rw [List.getElem?_set_ne (Ne.symm hj)] at e2
        obtain ⟨u', r', q⟩ := hl j y v' e1 e2 e3
        refine ⟨u', r', ?_⟩
        rcases q with q | ⟨k, c', e, z'⟩
        · exact .inl q
        · refine .inr ⟨k, c', e, z'.sameBut hs ?_⟩
          rintro rfl
          exact hj (nodup_ix hN e1 (I.ok.inj _ _ _ e hc ▸ hi))
    · by_cases hcc : c' = c
      · subst hcc; exact ⟨_, hc'⟩
      · obtain ⟨w2, z2⟩ := I.cell y c' e
        exact ⟨w2, z2.sameBut hs hcc⟩
    · obtain ⟨e, n, ne, nf, d⟩ := I.pin p hp
      refine ⟨(hs.2 p.1 ?_).trans e, n, ne, nf, d⟩
      intro q
      rw [q, hoc] at e
      have q' : oc = p.2 := Option.some.inj e
      exact d w' (by rw [← q']; exact hocd)
theorem store_ok {M : Model} {A : Around} {E : Value → Shared → Prop} {i : Nat} {x : Str} {v : V} {u : Value} {Q : Unit → Shared → Prop} (I : Inv X pins σ H s) (hN : X.N.Nodup) (hi : X.N[i]? = some x) (hx : Loc X.env.scope x) (r : RelV v u)
    (h : ∀ s', Inv X pins (σ.set i (some v)) H s' → Q () s') (hf : X.fn x = true ∨ X.env.scope.names.lookup x = some .local := by first | exact .inl rfl | exact .inr rfl | assumption) : wpAny M A (storeName X.env x u) Q E s :=
  store_ok2 I hN hi hx r (fun s' I' _ => h s' I') hf
theorem Inv.call' {s' : Shared} {ch : List Addr} (I : Inv X pins σ H s) (ho : s'.os = s.os) (u : Un (frs X.stack) ch H H' s.heap s'.heap) (hok : HOk X.prog X.w H' s'.heap) (hg : AllBare s'.gens)
    (hch : ∀ b ∈ ch, (b ∈ X.ex ∨ X.s₀.heap.objs.size ≤ b) ∧ b ≠ X.env.locals ∧ (∀ x c, X.env.cells.lookup x = some c → c ≠ b) ∧ ∀ p ∈ X.pn ++ pins, p.1 ≠ b) : Inv X pins σ H' s' := by
  obtain ⟨h', g', d', t', o'⟩ := s'
  have e : o' = s.os := ho
  subst e
  exact I.call (g' := g') (t' := t') (d' := d') u hok hg hch
end
abbrev XK := Value → Option Addr → Hp → Prop
abbrev St := List (Option V)
abbrev VK := V → Hp → Prop
abbrev TE := St → Hp → VK → Prop
abbrev TT := St → Hp → (Bool → Hp → Prop) → Prop
abbrev TA := St → Hp → (List V → Hp → Prop) → Prop
structure Ends where
  nx : St → Hp → Prop
  rt : VK
  bk : St → Hp → Prop := fun _ _ => False
  ct : St → Hp → Prop := fun _ _ => False
abbrev TS := Ends → St → Hp → Prop
def EP (X : Cx) (pins : List (Addr × Obj)) (σ : St) (Q : VK) (u : Value) (s' : Shared) : Prop := ∃ v H', Inv X pins σ H' s' ∧ RelV v u ∧ Q v H'
def TP (X : Cx) (pins : List (Addr × Obj)) (σ : St) (Q : Bool → Hp → Prop) (b : Bool) (s' : Shared) : Prop := ∃ H', Inv X pins σ H' s' ∧ Q b H'
def AP (X : Cx) (pins : List (Addr × Obj)) (σ : St) (Q : List V → Hp → Prop) (us : List Value) (s' : Shared) : Prop := ∃ vs H', Inv X pins σ H' s' ∧ Vals vs us ∧ Q vs H'
def SP (X : Cx) (pins : List (Addr × Obj)) (D : Ends) (f : Flow) (s' : Shared) : Prop :=
  match f with
  | .next => ∃ σ' H', Inv X pins σ' H' s' ∧ D.nx σ' H'
  | .brk => ∃ σ' H', Inv X pins σ' H' s' ∧ D.bk σ' H'
  | .cont => ∃ σ' H', Inv X pins σ' H' s' ∧ D.ct σ' H'
  | .ret u => ∃ v σ' H', Inv X pins σ' H' s' ∧ RelV v u ∧ D.rt v H'
def PE (X : Cx) (e : Expr) (t : TE) : Prop :=
  ∀ (pins : List (Addr × Obj)) (s : Shared) (σ : St) (H : Hp) (Q : VK), Inv X pins σ H s → t σ H Q → wpAny (model X.prog X.w) X.A (eval e X.env) (EP X pins σ Q) X.xe s
def PT (X : Cx) (e : Expr) (t : TT) : Prop :=
  ∀ (pins : List (Addr × Obj)) (s : Shared) (σ : St) (H : Hp) (Q : Bool → Hp → Prop), Inv X pins σ H s → t σ H Q → wpAny (model X.prog X.w) X.A (isTrue e X.env (eval e X.env)) (TP X pins σ Q) X.xe s
def PW (X : Cx) (e : Expr) (t : TT) : Prop :=
  ∀ (whole : Sem Value) (pins : List (Addr × Obj)) (s : Shared) (σ : St) (H : Hp) (Q : Bool → Hp → Prop), Inv X pins σ H s → t σ H Q → wpAny (model X.prog X.w) X.A (isTrue e X.env whole) (TP X pins σ Q) X.xe s
theorem PW.pt {X : Cx} {e : Expr} {t : TT} (h : PW X e t) : PT X e t := h _
def PA (X : Cx) (es : List Expr) (t : TA) : Prop :=
  ∀ (pos : Pos) (pins : List (Addr × Obj)) (s : Shared) (σ : St) (H : Hp) (Q : List V → Hp → Prop), Inv X pins σ H s → t σ H Q → wpAny (model X.prog X.w) X.A (spliced (backTo pos (starEach es X.env))) (AP X pins σ Q) X.xe s
def PS (X : Cx) (st : Stmt) (t : TS) : Prop :=
  ∀ (pins : List (Addr × Obj)) (s : Shared) (σ : St) (H : Hp) (D : Ends), Inv X pins σ H s → t D σ H → wpAny (model X.prog X.w) X.A (exec st X.env) (SP X pins D) X.xe s
def PSs (X : Cx) (st : List Stmt) (t : TS) : Prop :=
  ∀ (pins : List (Addr × Obj)) (s : Shared) (σ : St) (H : Hp) (D : Ends), Inv X pins σ H s → t D σ H → wpAny (model X.prog X.w) X.A (execs st X.env) (SP X pins D) X.xe s
theorem thn {α : Type} {t : Sem α} {Q Q' : α → Shared → Prop} {M : Model} {A : Around} {E : Value → Shared → Prop} {s : Shared} (h : wpAny M A t Q E s) (hQ : ∀ a s, Q a s → Q' a s) : wpAny M A t Q' E s := wpAny_mono h hQ fun _ _ x => x
end L2
namespace L2
open PySem PySem.Spec PyProof.Rows
section
variable {X : Cx}
theorem bin {a b : Expr} {ta tb : TE} (ha : PE X a ta) (hb : PE X b tb) {pins : List (Addr × Obj)} {s : Shared} {σ : St} {H : Hp} {R : V → V → Hp → Prop} (I : Inv X pins σ H s) (h : ta σ H fun x H1 => tb σ H1 fun y H2 => R x y H2)
    {α : Type} {Q : α → Shared → Prop} {f : Value → Value → Sem α}
    (hf : ∀ v u s2 x y H2, Inv X pins σ H2 s2 → RelV x v → RelV y u → R x y H2 → wpAny (model X.prog X.w) X.A (f v u) Q X.xe s2) :
    wpAny (model X.prog X.w) X.A (eval a X.env) (fun v s₁ => wpAny (model X.prog X.w) X.A (eval b X.env) (fun u s₂ => wpAny (model X.prog X.w) X.A (f v u) Q X.xe s₂) X.xe s₁) X.xe s := by
  refine thn (ha pins s σ H _ I h) fun v s1 ⟨x, H1, I1, r1, q1⟩ => ?_
  refine thn (hb pins s1 σ H1 _ I1 q1) fun u s2 ⟨y, H2, I2, r2, q2⟩ => ?_
  exact hf v u s2 x y H2 I2 r1 r2 q2
def tVar (i : Nat) : TE := fun σ H Q => ∃ v, σ[i]? = some (some v) ∧ Q v H
def tC (v : V) : TE := fun _ H Q => Q v H
theorem pe_var {i : Nat} {x : Str} {pos : Pos} (hN : X.N[i]? = some x) (hv : Vis X.env.scope x) (hd : (x == ("__debug__" : Str)) = false := by decide) (hcd : (x == ("__classdict__" : Str)) = false := by decide) : PE X (.Name x pos) (tVar i) := by
  intro pins s σ H Q I h
  obtain ⟨v, e, h⟩ := h
  obtain ⟨m, hn, hl⟩ := I.loc
  obtain ⟨u, r, l⟩ := hl i x v hN e hv
  have fin : EP X pins σ Q u s := ⟨v, H, I, r, h⟩
  rcases l with ⟨hk, hm⟩ | ⟨hk, c, hc, hcell⟩
  · exact wpAny_Name (wpAny_loadName_local I.ok.kind hk hn hm fin) hd
  · rcases hk with hk | hk
    · exact wpAny_Name (wpAny_loadName_cell I.ok.kind hk hc hcell fin) hd
    · exact wpAny_Name (wpAny_loadName_free I.ok.kind hk hc hcell fin hcd) hd
theorem pe_int {i j pos} : PE X (.Constant (.int i) j pos) (tC (.int i)) := fun _ _ _ H _ I h => wpAny_Constant_int ⟨.int i, H, I.tok _, ⟨_, rfl⟩, h⟩
theorem pe_bl {b j pos} : PE X (.Constant (.bool b) j pos) (tC (.bl b)) := fun _ _ _ H _ I h => Constant_bool ⟨.bl b, H, I, rfl, h⟩
theorem pe_non {j pos} : PE X (.Constant .none j pos) (tC .non) := fun _ _ _ H _ I h => Constant_none ⟨.non, H, I, rfl, h⟩
theorem pe_str {x j pos} : PE X (.Constant (.str x) j pos) (tC (.str x)) := fun _ _ _ H _ I h => Calls.Constant_str ⟨.str x, H, I.tok _, ⟨_, rfl⟩, h⟩
def Gl (X : Cx) (x : Str) : Prop := X.env.kindOf x = some .globalImplicit
theorem ld_glob {E : Value → Shared → Prop} {pins : List (Addr × Obj)} {s : Shared} {σ : St} {H : Hp} {x : Str} {u : Value} {pos : Pos} {Q : Value → Shared → Prop} (I : Inv X pins σ H s) (hg : Gl X x) (hm : X.mg x = some u) (h : Q u s)
    (hd : (x == ("__debug__" : Str)) = false := by decide) : wpAny (model X.prog X.w) X.A (eval (.Name x pos) X.env) Q E s :=
  Calls.Name_function_global I.ok.kind hg (Calls.loadGlobal_global (by rw [I.ok.glob]; exact I.mod.glob.keeps I.bk) hm h) hd
theorem ld_blt {E : Value → Shared → Prop} {pins : List (Addr × Obj)} {s : Shared} {σ : St} {H : Hp} {x : Str} {u : Value} {pos : Pos} {Q : Value → Shared → Prop} (I : Inv X pins σ H s) (hg : Gl X x) (hm : X.mg x = none) (hv : bootBuiltins x = some u) (h : Q u s)
    (hn : x ≠ "__name__" := by decide) (hd : (x == ("__debug__" : Str)) = false := by decide) : wpAny (model X.prog X.w) X.A (eval (.Name x pos) X.env) Q E s := by
  obtain ⟨mb, h1, h2⟩ := I.mod.blt
  exact Calls.Name_function_global I.ok.kind hg (Calls.loadGlobal_builtin (by rw [I.ok.glob]; exact I.mod.glob.keeps I.bk) hm (by rw [I.ok.blt]; exact h1.keeps I.bk) ((h2 x hn).trans hv) h) hd
theorem pe_glob {x : Str} {v : V} {u : Value} {pos : Pos} (hg : Gl X x) (hm : X.mg x = some u) (r : RelV v u) (hd : (x == ("__debug__" : Str)) = false := by decide) : PE X (.Name x pos) (tC v) :=
  fun _ _ _ H _ I h => ld_glob I hg hm ⟨v, H, I, r, h⟩ hd
theorem pe_bltn {x : Str} {v : V} {u : Value} {pos : Pos} (hg : Gl X x) (hm : X.mg x = none) (hv : bootBuiltins x = some u) (r : RelV v u) (hn : x ≠ "__name__" := by decide) (hd : (x == ("__debug__" : Str)) = false := by decide) : PE X (.Name x pos) (tC v) :=
  fun _ _ _ H _ I h => ld_blt I hg hm hv ⟨v, H, I, r, h⟩ hn hd
variable {a b : Expr} {ta tb : TE} {pos : Pos}
def PC (X : Cx) (op : CmpOp) (a b : Expr) (t : TE) : Prop :=
  ∀ (pins : List (Addr × Obj)) (s : Shared) (σ : St) (H : Hp) (Q : VK), Inv X pins σ H s → t σ H Q →
    wpAny (model X.prog X.w) X.A (eval a X.env) (fun v s₁ => wpAny (model X.prog X.w) X.A (eval b X.env) (fun u s₂ => wpAny (model X.prog X.w) X.A (compareOp op v u) (EP X pins σ Q) X.xe s₂) X.xe s₁) X.xe s
theorem nobehind (b : Expr) {op : CmpOp} (h : op ≠ .In) (h2 : op ≠ .NotIn) : behindInMarks op b = false := by
  have e1 : (op == CmpOp.In) = false := by cases op <;> first | rfl | exact absurd rfl h
  have e2 : (op == CmpOp.NotIn) = false := by cases op <;> first | rfl | exact absurd rfl h2
  cases b <;> simp [behindInMarks, e1, e2]
def tB (t : TE) : TT := fun σ H Q => t σ H fun x H1 => ∃ c, x = .bl c ∧ Q c H1
theorem pt_cmp {op : CmpOp} {t : TE} (h : PC X op a b t) (h1 : behindInMarks op b = false := by first | exact nobehind _ (by decide) (by decide) | rfl) : PT X (.Compare a [op] [b] pos) (tB t) := by
  intro pins s σ H Q I hw
  refine wpAny_isTrue_Compare1 (thn (h pins s σ H _ I hw) fun v s1 h1 => thn h1 fun u s2 h2 => thn h2 fun c s3 ⟨x, H1, I1, r1, q1⟩ => ?_) h1
  obtain ⟨d, rfl, q⟩ := q1
  cases r1
  exact wpAny_truthy_bool ⟨H1, I1, q⟩
theorem pt_val {e : Expr} {t : TE} (h : PE X e t) (he : ∀ whole, isTrue e X.env whole = (do let v ← whole; standAt e.pos; holding [v] (truthy v)) := by intro _; rfl) : PT X e (tB t) := by
  intro pins s σ H Q I hw
  refine isTrue_plain (thn (h pins s σ H _ I hw) fun v s1 ⟨x, H1, I1, r1, q1⟩ => ?_) (he _)
  obtain ⟨d, rfl, q⟩ := q1
  cases r1
  exact wpAny_truthy_bool ⟨H1, I1, q⟩
variable {tA tB' : TT} {rest : List Expr}
def tAnd (t u : TT) : TT := fun σ H Q => t σ H fun c H1 => if c = true then u σ H1 Q else Q false H1
def tOr (t u : TT) : TT := fun σ H Q => t σ H fun c H1 => if c = true then Q true H1 else u σ H1 Q
def tNot (t : TT) : TT := fun σ H Q => t σ H fun c H1 => Q (!c) H1
theorem pw_and1 (ha : PT X a tA) : PW X (.BoolOp .And [a] pos) tA := by
  intro wh pins s σ H Q I h
  refine isTrue_and (thn (ha pins s σ H Q I h) fun c s1 e => ?_)
  cases c with
  | true => exact isTrue_and_nil e
  | false => exact e
theorem pw_or1 (ha : PT X a tA) : PW X (.BoolOp .Or [a] pos) tA := by
  intro wh pins s σ H Q I h
  refine isTrue_or (thn (ha pins s σ H Q I h) fun c s1 e => ?_)
  cases c with
  | false => exact isTrue_or_nil e
  | true => exact e
theorem pw_and (ha : PT X a tA) (hb : PW X (.BoolOp .And (b :: rest) pos) tB') : PW X (.BoolOp .And (a :: b :: rest) pos) (tAnd tA tB') := by
  intro wh pins s σ H Q I h
  refine isTrue_and (thn (ha pins s σ H _ I h) fun c s1 ⟨H1, I1, q1⟩ => ?_)
  cases c with
  | true => exact hb wh pins s1 σ H1 Q I1 q1
  | false => exact ⟨H1, I1, q1⟩
theorem pw_or (ha : PT X a tA) (hb : PW X (.BoolOp .Or (b :: rest) pos) tB') : PW X (.BoolOp .Or (a :: b :: rest) pos) (tOr tA tB') := by
  intro wh pins s σ H Q I h
  refine isTrue_or (thn (ha pins s σ H _ I h) fun c s1 ⟨H1, I1, q1⟩ => ?_)
  cases c with
  | true => exact ⟨H1, I1, q1⟩
  | false => exact hb wh pins s1 σ H1 Q I1 q1
theorem pt_not (ha : PT X a tA) : PT X (.UnaryOp .Not a pos) (tNot tA) := by
  intro pins s σ H Q I h
  exact isTrue_not (ha pins s σ H (fun c H1 => Q (!c) H1) I h)
def tAndV (ta tb : TE) : TE := fun σ H Q => ta σ H fun x H1 => ∃ c, x = .bl c ∧ if c = true then tb σ H1 Q else Q (.bl false) H1
def tNotV (ta : TE) : TE := fun σ H Q => ta σ H fun x H1 => ∃ c, x = .bl c ∧ Q (.bl (!c)) H1
theorem pe_one {op} {t : TE} (h : PE X a t) : PE X (.BoolOp op [a] pos) t := fun pins s σ H Q I hw => BoolOp_one (h pins s σ H Q I hw)
theorem pe_and (ha : PE X a ta) (hb : PE X (.BoolOp .And (b :: rest) pos) tb) : PE X (.BoolOp .And (a :: b :: rest) pos) (tAndV ta tb) := by
  intro pins s σ H Q I h
  refine BoolOp_and (thn (ha pins s σ H _ I h) fun v s1 ⟨x, H1, I1, r1, q1⟩ => ?_)
  obtain ⟨c, rfl, q1⟩ := q1
  cases r1
  refine wpAny_truthy_bool ?_
  cases c with
  | true => exact hb pins s1 σ H1 Q I1 q1
  | false => exact ⟨.bl false, H1, I1, rfl, q1⟩
theorem pe_not (ha : PE X a ta) : PE X (.UnaryOp .Not a pos) (tNotV ta) := by
  intro pins s σ H Q I h
  refine UnaryOp_ (thn (ha pins s σ H _ I h) fun v s1 ⟨x, H1, I1, r1, q1⟩ => ?_)
  obtain ⟨c, rfl, q1⟩ := q1
  cases r1
  exact not_of (wpAny_truthy_bool ⟨.bl (!c), H1, I1, rfl, q1⟩)
def tIf (t : TT) (ta tb : TE) : TE := fun σ H Q => t σ H fun c H1 => if c = true then ta σ H1 Q else tb σ H1 Q
theorem pe_ifExp {c : Expr} (hc : PT X c tA) (ha : PE X a ta) (hb : PE X b tb) : PE X (.IfExp c a b pos) (tIf tA ta tb) := by
  intro pins s σ H Q I h
  refine wpAny_IfExp (thn (hc pins s σ H _ I h) fun d s1 ⟨H1, I1, q1⟩ => ?_)
  cases d with
  | true => exact ha pins s1 σ H1 Q I1 q1
  | false => exact hb pins s1 σ H1 Q I1 q1
end
end L2
namespace L2
open PySem PySem.Spec PyProof.Rows
def SqL (K : PySem.W.Frag) (H : Hp) (a : Addr) (xs : List V) : Prop :=
  Rd H a (.lst xs) ∨
    ∃ (o : Obj) (its : Array Value) (n : Nat), K.lookup a = some o ∧ o.cls = .type "list" ∧ o.dict = none ∧ o.data = .seq its n ∧ its.size ≤ sizeLine ∧ Vals xs its.toList
def SqT (K : PySem.W.Frag) (H : Hp) (a : Addr) (xs : List V) : Prop :=
  Rd H a (.tup xs) ∨
    ∃ (o : Obj) (its : Array Value) (n : Nat), K.lookup a = some o ∧ o.cls = .type "tuple" ∧ o.data = .seq its n ∧ its.size ≤ sizeLine ∧ Vals xs its.toList
def absV : Value → Option V
  | .none => some .non
  | .bool b => some (.bl b)
  | .int i _ => some (.int i)
  | .str x _ => some (.str x)
  | .bytes b _ => some (.byt b)
  | .float b _ => some (.flt b)
  | .ref a => some (.ref a)
  | .type n => some (.ty n)
  | _ => none
theorem RelV.abs {x : V} {u : Value} (r : RelV x u) : absV u = some x := by
  cases x with
  | non => cases r; rfl
  | bl _ => cases r; rfl
  | int _ => obtain ⟨t, rfl⟩ := r; rfl
  | str _ => obtain ⟨t, rfl⟩ := r; rfl
  | byt _ => obtain ⟨t, rfl⟩ := r; rfl
  | flt _ => obtain ⟨t, rfl⟩ := r; rfl
  | ref _ => cases r; rfl
  | ty _ => cases r; rfl
theorem RelV.inj {x y : V} {u : Value} (r : RelV x u) (q : RelV y u) : x = y := Option.some.inj (r.abs.symm.trans q.abs)
theorem Vals.inj : ∀ {xs ys : List V} {us : List Value}, Vals xs us → Vals ys us → xs = ys
  | _, _, _, .nil, .nil => rfl
  | _, _, _, .cons r t, .cons r' t' => by rw [r.inj r', Vals.inj t t']
section
variable {X : Cx} {pins : List (Addr × Obj)} {σ : St} {H : Hp} {s : Shared} {a : Addr} {xs ys : List V}
theorem SqL.of {K : PySem.W.Frag} (h : H a = some (.lst xs)) : SqL K H a xs := .inl (.inl h)
theorem SqT.of {K : PySem.W.Frag} (h : H a = some (.tup xs)) : SqT K H a xs := .inl (.inl h)
theorem Inv.list (I : Inv X pins σ H s) (h : SqL X.K H a xs) : ∃ its : List Value, Vals xs its ∧ PlainL s.heap a its.toArray ∧ xs.length ≤ sizeLine := by
  rcases h with h | ⟨o, its, n, hk, hc, hd, hs, hz, r⟩
  · obtain ⟨z, its, n, r, e⟩ := h.ok I.hok
    exact ⟨its, r, ⟨_, n, e, rfl, rfl, rfl⟩, z⟩
  · refine ⟨its.toList, r, ⟨o, n, I.kIn a o hk, hc, hd, by simpa using hs⟩, ?_⟩
    have e := r.length
    simp only [Array.length_toList] at e
    omega
theorem Inv.tuple (I : Inv X pins σ H s) (h : SqT X.K H a xs) : ∃ its : List Value, Vals xs its ∧ IsTup s.heap a its.toArray ∧ xs.length ≤ sizeLine := by
  rcases h with h | ⟨o, its, n, hk, hc, hs, hz, r⟩
  · obtain ⟨z, its, r, p⟩ := h.ok I.hok
    exact ⟨its, r, p, z⟩
  · refine ⟨its.toList, r, ⟨o, I.kIn a o hk, hc, n, by simpa using hs⟩, ?_⟩
    have e := r.length
    simp only [Array.length_toList] at e
    omega
theorem Inv.list_inj (I : Inv X pins σ H s) (h : SqL X.K H a xs) (h' : SqL X.K H a ys) : xs = ys := by
  obtain ⟨its, r, ⟨o, n, e, _, _, d⟩, _⟩ := I.list h
  obtain ⟨its', r', ⟨o', n', e', _, _, d'⟩, _⟩ := I.list h'
  rw [e] at e'; cases e'
  rw [d] at d'
  injection d' with d1 _
  have : its = its' := by simpa using congrArg Array.toList d1
  subst this
  exact r.inj r'
theorem Inv.tuple_inj (I : Inv X pins σ H s) (h : SqT X.K H a xs) (h' : SqT X.K H a ys) : xs = ys := by
  obtain ⟨its, r, ⟨o, e, _, n, d⟩, _⟩ := I.tuple h
  obtain ⟨its', r', ⟨o', e', _, n', d'⟩, _⟩ := I.tuple h'
  rw [e] at e'; cases e'
  rw [d] at d'
  injection d' with d1 _
  have : its = its' := by simpa using congrArg Array.toList d1
  subst this
  exact r.inj r'
end
abbrev Cx.wish (X : Cx) (E : Value → Shared → Prop) : Cx := { X with xe := E }
abbrev Cx.nox (X : Cx) : Cx := X.wish fun _ _ => False
theorem Cx.Ok.wish {X : Cx} (ok : X.Ok) (E : Value → Shared → Prop) : (X.wish E).Ok :=
  ⟨ok.mod, ok.kind, ok.glob, ok.blt, ok.above, ok.inj, ok.has, ok.cab, ok.hd, ok.frames, ok.stk, ok.exf, ok.bs, ok.bsz, ok.noex, ok.exfs, ok.funs, ok.frf⟩
theorem Cx.Ok.unwish {X : Cx} {E : Value → Shared → Prop} (ok : (X.wish E).Ok) : X.Ok :=
  ⟨ok.mod, ok.kind, ok.glob, ok.blt, ok.above, ok.inj, ok.has, ok.cab, ok.hd, ok.frames, ok.stk, ok.exf, ok.bs, ok.bsz, ok.noex, ok.exfs, ok.funs, ok.frf⟩
section
variable {X : Cx} {pins : List (Addr × Obj)} {σ : St} {H : Hp} {s : Shared} {E : Value → Shared → Prop}
theorem Inv.wish (I : Inv X pins σ H s) (E : Value → Shared → Prop) : Inv (X.wish E) pins σ H s := ⟨I.ok.wish E, I.os, I.bare, I.base, I.loc, I.cell, I.free, I.freeC, I.pin, I.hok, I.len⟩
theorem Inv.unwish (I : Inv (X.wish E) pins σ H s) : Inv X pins σ H s := ⟨I.ok.unwish, I.os, I.bare, I.base, I.loc, I.cell, I.free, I.freeC, I.pin, I.hok, I.len⟩
theorem SP.unwish {D : Ends} {f : Flow} {s' : Shared} (h : SP (X.wish E) pins D f s') : SP X pins D f s' := by
  cases f with
  | next => obtain ⟨σ', H', I, q⟩ := h; exact ⟨σ', H', I.unwish, q⟩
  | brk => obtain ⟨σ', H', I, q⟩ := h; exact ⟨σ', H', I.unwish, q⟩
  | cont => obtain ⟨σ', H', I, q⟩ := h; exact ⟨σ', H', I.unwish, q⟩
  | ret u => obtain ⟨v, σ', H', I, r, q⟩ := h; exact ⟨v, σ', H', I.unwish, r, q⟩
theorem PSs.nox {st : List Stmt} {t : TS} (h : PSs X.nox st t) : PSs X st t := fun pins s σ H D I hw =>
  wpAny_mono (h pins s σ H D (I.wish _) hw) (fun _ _ q => q.unwish) fun _ _ z => False.elim z
end
section
variable {X : Cx} {st : Stmt} {rest : List Stmt} {t u : TS} {e : Expr} {te : TE} {pos : Pos}
def tNext : TS := fun D σ H => D.nx σ H
def tSeq (t u : TS) : TS := fun D σ H => t { D with nx := u D } σ H
theorem pss_nil : PSs X [] tNext := fun _ _ σ H _ I h => wpAny_execs_nil ⟨σ, H, I, h⟩
theorem pss_cons (h1 : PS X st t) (h2 : PSs X rest u) : PSs X (st :: rest) (tSeq t u) := by
  intro pins s σ H D I h
  refine wpAny_execs_cons (thn (h1 pins s σ H { D with nx := u D } I h) fun f s1 q => ?_)
  cases f with
  | next =>
    obtain ⟨σ', H', I', q⟩ := q
    exact h2 pins s1 σ' H' D I' q
  | ret v => exact q
  | brk => exact q
  | cont => exact q
theorem pss_one (h1 : PS X st t) : PSs X [st] t := by
  intro pins s σ H D I h
  refine wpAny_execs_cons (thn (h1 pins s σ H D I h) fun f s1 q => ?_)
  cases f with
  | next => exact wpAny_execs_nil q
  | ret v => exact q
  | brk => exact q
  | cont => exact q
theorem Inv.quiet {pins : List (Addr × Obj)} {σ : St} {H : Hp} {s : Shared} (I : Inv X pins σ H s) : interactive X.env = false := by simp [interactive, I.ok.kind]
def tDrop (te : TE) : TS := fun D σ H => te σ H fun _ H1 => D.nx σ H1
theorem ps_expr (he : PE X e te) (hs : swapsWith e none pos.line X.env = pure false := by rfl) : PS X (.Expr e pos) (tDrop te) := by
  intro pins s σ H D I h
  exact wpAny_Expr_any (thn (he pins s σ H _ I h) fun v s1 ⟨x, H1, I1, r1, q1⟩ => ⟨σ, H1, I1, q1⟩) I.quiet hs
def tRet (te : TE) : TS := fun D σ H => te σ H D.rt
theorem ps_ret (he : PE X e te) : PS X (.Return (some e) pos) (tRet te) := by
  intro pins s σ H D I h
  exact wpAny_Return_some (thn (he pins s σ H _ I h) fun v s1 ⟨x, H1, I1, r1, q1⟩ => ⟨x, σ, H1, I1, r1, q1⟩)
def tIfS (c : TT) (t u : TS) : TS := fun D σ H => c σ H fun b H1 => if b = true then t D σ H1 else u D σ H1
theorem ps_if {c : Expr} {a b : List Stmt} {tc : TT} (hc : PT X c tc) (ha : PSs X a t) (hb : PSs X b u) : PS X (.If c a b pos) (tIfS tc t u) := by
  intro pins s σ H D I h
  refine wpAny_If (thn (hc pins s σ H _ I h) fun d s1 ⟨H1, I1, q1⟩ => ?_)
  cases d with
  | true => exact ha pins s1 σ H1 D I1 q1
  | false => exact hb pins s1 σ H1 D I1 q1
end
abbrev TG := V → St → Hp → (St → Hp → Prop) → Prop
abbrev TGs := List V → St → Hp → (St → Hp → Prop) → Prop
def PG (X : Cx) (target : Expr) (t : TG) : Prop :=
  ∀ (pins : List (Addr × Obj)) (s : Shared) (σ : St) (H : Hp) (v : V) (u : Value) (Q : St → Hp → Prop), Inv X pins σ H s → RelV v u → t v σ H Q →
    wpAny (model X.prog X.w) X.A (assign target X.env u) (fun _ s' => ∃ σ' H', Inv X pins σ' H' s' ∧ Q σ' H') X.xe s
def PGs (X : Cx) (ts : List Expr) (t : TGs) : Prop :=
  ∀ (pins : List (Addr × Obj)) (s : Shared) (σ : St) (H : Hp) (vs : List V) (us : List Value) (Q : St → Hp → Prop), Inv X pins σ H s → Vals vs us → t vs σ H Q →
    wpAny (model X.prog X.w) X.A (assignInOrder ((assignEach ts X.env).map (·.2)) us) (fun _ s' => ∃ σ' H', Inv X pins σ' H' s' ∧ Q σ' H') X.xe s
abbrev TSet := V → V → V → Hp → (Hp → Prop) → Prop
def PSet (X : Cx) (t : TSet) : Prop :=
  ∀ (pins : List (Addr × Obj)) (s : Shared) (σ : St) (H : Hp) (o i v : V) (ov iv u : Value) (Q : Hp → Prop), Inv X pins σ H s → RelV o ov → RelV i iv → RelV v u → t o i v H Q →
    wpAny (model X.prog X.w) X.A (setItem ov iv u) (fun _ s' => ∃ H', Inv X pins σ H' s' ∧ Q H') X.xe s
section
variable {X : Cx} {pos : Pos}
def gName (i : Nat) : TG := fun v σ H Q => Q (σ.set i (some v)) H
theorem pg_name {i : Nat} {x : Str} (hN : X.N.Nodup) (hi : X.N[i]? = some x) (hx : Loc X.env.scope x) (hf : X.fn x = true ∨ X.env.scope.names.lookup x = some .local := by first | exact .inl rfl | exact .inr rfl | assumption) : PG X (.Name x pos) (gName i) := by
  intro pins s σ H v u Q I r h
  exact wpAny_assign_Name (store_ok I hN hi hx r (fun s' I' => ⟨_, H, I', h⟩) hf)
def gNil : TGs := fun vs σ H Q => vs = [] ∧ Q σ H
def gCons (t : TG) (u : TGs) : TGs := fun vs σ H Q => ∃ v r, vs = v :: r ∧ t v σ H fun σ' H' => u r σ' H' Q
theorem pgs_nil : PGs X [] gNil := by
  intro pins s σ H vs us Q I r h
  obtain ⟨e, h⟩ := h
  subst e
  cases r
  exact assignInOrder_nil ⟨σ, H, I, h⟩
theorem pgs_cons {e : Expr} {es : List Expr} {t : TG} {u : TGs} (h1 : PG X e t) (h2 : PGs X es u)
    (hs : (assignEach (e :: es) X.env).map (·.2) = assign e X.env :: (assignEach es X.env).map (·.2) := by rfl) : PGs X (e :: es) (gCons t u) := by
  intro pins s σ H vs us Q I r h
  obtain ⟨v, vr, e1, h⟩ := h
  subst e1
  cases r with
  | cons r rr =>
    rw [hs]
    refine assignInOrder_cons (thn (h1 pins s σ H _ _ _ I r h) fun _ s1 ⟨σ1, H1, I1, q1⟩ => ?_)
    exact h2 pins s1 σ1 H1 _ _ Q I1 rr q1
def gTup (K : PySem.W.Frag) (n : Nat) (t : TGs) : TG := fun v σ H Q => ∃ a xs, v = .ref a ∧ SqT K H a xs ∧ xs.length = n ∧ t xs σ H Q
theorem pg_tup {es : List Expr} {k : Nat} {t : TGs} {n : Nat} (hc : X.calm = true) (h : PGs X es t)
    (hn : (assignEach es X.env).length = n := by rfl) (hst : (assignEach es X.env).findIdx? (·.1) = none := by rfl) : PG X (.Tuple es k pos) (gTup X.K n t) := by
  intro pins s σ H v u Q I r hw
  obtain ⟨a, xs, e1, hq, hl, hw⟩ := hw
  subst e1
  cases r
  obtain ⟨its, rv, ht, hz⟩ := I.tuple hq
  refine assign_Tuple_tuple (I.ok.hd hc) ht (by simp [hn, ← hl, rv.length]) hst fun h' hx => ?_
  have I1 : Inv X pins σ H { s with heap := h' } := I.kept (t' := s.toks) fun b o e => hx b o (Nat.ne_of_lt (Heap.lt_size e)) e
  exact h pins _ σ H xs _ Q I1 (by simpa using rv) hw
def gSub (to ti : TE) (t : TSet) : TG := fun v σ H Q => to σ H fun o H1 => ti σ H1 fun i H2 => t o i v H2 fun H3 => Q σ H3
theorem pg_sub {o i : Expr} {to ti : TE} {t : TSet} (ho : PE X o to) (hi : PE X i ti) (hs : PSet X t)
    (ha : ∀ v, assign (.Subscript o i pos) X.env v = (do
      let ov ← holding [v] (eval o X.env)
      let iv ← holding [v, ov] (eval i X.env)
      standAt pos
      holding [v, ov, iv] (setItem ov iv v)
      release [v, ov, iv] []) := by intro _; rfl) : PG X (.Subscript o i pos) (gSub to ti t) := by
  intro pins s σ H v u Q I r h
  rw [ha]
  refine wpAny_bind (wpAny_holding (thn (ho pins s σ H _ I h) fun ov s1 ⟨x, H1, I1, r1, q1⟩ => ?_))
  refine wpAny_bind (wpAny_holding (thn (hi pins s1 σ H1 _ I1 q1) fun iv s2 ⟨y, H2, I2, r2, q2⟩ => ?_))
  refine wpAny_bind (wpAny_standAt (wpAny_bind (wpAny_holding (thn (hs pins s2 σ H2 x y v ov iv u _ I2 r1 r2 r q2) fun _ s3 ⟨H3, I3, q3⟩ => ?_))))
  exact wpAny_release ⟨σ, H3, I3, q3⟩
def tAsg (te : TE) (g : TG) : TS := fun D σ H => te σ H fun x H1 => g x σ H1 D.nx
theorem ps_asg {tg e : Expr} {te : TE} {g : TG} (he : PE X e te) (hg : PG X tg g) (hs : swapsWithSole [tg] e pos.line X.env = pure false := by rfl) (hw : swappedStores [tg] e X.env = pure none := by rfl)
    (h1 : (assignEach [tg] X.env).map (·.2) = [assign tg X.env] := by rfl) : PS X (.Assign [tg] e pos) (tAsg te g) := by
  intro pins s σ H D I h
  refine wpAny_Assign_stores (thn (he pins s σ H _ I h) fun v s1 ⟨x, H1, I1, r1, q1⟩ => ?_) hs hw
  rw [h1]
  exact thn (hg pins s1 σ H1 x v _ I1 r1 q1) fun _ s2 q => q
theorem ps_set {i : Nat} {x : Str} {e : Expr} {te : TE} {pos' : Pos} (hN : X.N.Nodup) (hi : X.N[i]? = some x) (hx : Loc X.env.scope x) (he : PE X e te) (hs : swapsWith e (some (.Name x pos')) pos.line X.env = pure false := by rfl) (hf : X.fn x = true ∨ X.env.scope.names.lookup x = some .local := by first | exact .inl rfl | exact .inr rfl | assumption) :
    PS X (.Assign [.Name x pos'] e pos) (tAsg te (gName i)) := by
  intro pins s σ H D I h
  refine wpAny_Assign_Name (thn (he pins s σ H _ I h) fun v s1 ⟨y, H1, I1, r1, q1⟩ => ?_) hs
  exact store_ok I1 hN hi hx r1 (fun s2 I2 => ⟨_, H1, I2, q1⟩) hf
end
section
variable {X : Cx} {pos : Pos}
end
structure It where
  go : Nat → Hp → Prop
  yld : Nat → Hp → V → Hp → Prop
  stop : Nat → Hp → Prop
def FpOk (X : Cx) (pins : List (Addr × Obj)) (H : Hp) (b : Addr) : Prop :=
  H b = none ∧ b ≠ X.env.locals ∧ b ∉ X.fs ∧ (b ∈ X.ex ∨ X.s₀.heap.objs.size ≤ b) ∧ (∀ x c, X.env.cells.lookup x = some c → c ≠ b) ∧ ∀ p ∈ X.pn ++ pins, p.1 ≠ b
theorem Inv.fpOk {X : Cx} {pins : List (Addr × Obj)} {σ : St} {H H' : Hp} {s : Shared} {b : Addr} (I : Inv X pins σ H s) (hb : s.heap.objs.size ≤ b) (hn : H' b = none) : FpOk X pins H' b := by
  refine ⟨hn, Nat.ne_of_gt (Nat.lt_of_lt_of_le I.lt hb), I.nofs hb, .inr (Nat.le_trans I.sz hb), fun x c e z => ?_, fun p hp z => ?_⟩
  · obtain ⟨v, q⟩ := I.cell x c e
    exact absurd (Nat.lt_of_lt_of_le q.lt (by rw [z]; exact hb)) (Nat.lt_irrefl _)
  · exact absurd (Nat.lt_of_lt_of_le (Heap.lt_size (I.pin p hp).1) (by rw [z]; exact hb)) (Nat.lt_irrefl _)
structure Turn (P : Program) (w : World) (K : PySem.W.Frag) (tg : Expr) (J : It) (fp : List Addr) (it : Addr) (tn : Nat → Heap → Prop) : Prop where
  mem : it ∈ fp
  obj : ∀ i h, tn i h → ∀ b ∈ fp, ∃ o, h.get? b = some o ∧ ∀ v, o.data ≠ .cell v
  keep : ∀ i h h', tn i h → (∀ b ∈ fp, ∀ o, h.get? b = some o → h'.get? b = some o) → tn i h'
  item : ∀ (X : Cx), X.prog = P → X.w = w → X.K = K → X.calm = true → ∀ (i : Nat) (pins : List (Addr × Obj)) (s : Shared) (σ : St) (H : Hp) (E : Value → Shared → Prop), Inv X pins σ H s → (∀ b ∈ fp, FpOk X pins H b) → tn i s.heap → J.go i H →
    wpAny (model P w) X.A (pyNext (.ref it)) (fun r s1 => ∃ u, r = some u ∧
      wpAny (model P w) X.A (letOwnedTupleGo tg (.ref it) u) (fun _ s2 => ∃ x H', Inv X pins σ H' s2 ∧ RelV x u ∧ J.yld i H x H' ∧ tn (i + 1) s2.heap ∧ ∀ b ∈ fp, H' b = none) E s1) E s
  done : ∀ (X : Cx), X.prog = P → X.w = w → X.K = K → X.calm = true → ∀ (i : Nat) (pins : List (Addr × Obj)) (s : Shared) (σ : St) (H : Hp) (E : Value → Shared → Prop), Inv X pins σ H s → (∀ b ∈ fp, FpOk X pins H b) → tn i s.heap → J.stop i H →
    wpAny (model P w) X.A (pyNext (.ref it)) (fun r s1 => r = none ∧ Inv X pins σ H s1) E s
  self : ∀ (A : Around) (i : Nat) (s : Shared) (Q : Value → Shared → Prop) (E : Value → Shared → Prop), tn i s.heap → Q (.ref it) s → wpAny (model P w) A (pyIter (.ref it)) Q E s
abbrev TI := St → Hp → (It → Hp → Prop) → Prop
def PIE (X : Cx) (pins : List (Addr × Obj)) (σ : St) (tg : Expr) (R : It → Hp → Prop) (itv : Value) (s2 : Shared) : Prop :=
  ∃ (it : Addr) (fp : List Addr) (tn : Nat → Heap → Prop) (J : It) (H' : Hp), itv = .ref it ∧ Inv X pins σ H' s2 ∧ Turn X.prog X.w X.K tg J fp it tn ∧ tn 0 s2.heap ∧ (∀ b ∈ fp, FpOk X pins H' b) ∧ R J H'
def PI (X : Cx) (tg iter : Expr) (wi : TI) : Prop :=
  ∀ (pins : List (Addr × Obj)) (s : Shared) (σ : St) (H : Hp) (R : It → Hp → Prop), Inv X pins σ H s → wi σ H R →
    wpAny (model X.prog X.w) X.A (eval iter X.env) (fun v s1 => wpAny (model X.prog X.w) X.A (pyIter v) (PIE X pins σ tg R) X.xe s1) X.xe s
theorem go_of {M : Model} {A : Around} {E : Value → Shared → Prop} {s : Shared} {tg : Expr} {it : Addr} {u : Value} {o : Obj} {n : String} {vs : Array Value} {Q : Unit → Shared → Prop} (ho : s.heap.get? it = some o) (hc : o.cls = .type n) (hd : o.data = .fields vs)
    (hn : ["enumerate", "zip", "dict_itemiterator", "dict_reverseitemiterator", "odict_iterator", "itertools.zip_longest", "itertools.pairwise"].contains n = false) (hQ : Q () s) : wpAny M A (letOwnedTupleGo tg (.ref it) u) Q E s := by
  unfold letOwnedTupleGo
  cases tg <;> first
    | exact wpAny_pure hQ
    | (cases u <;> first
        | exact wpAny_pure hQ
        | (refine wpAny_bind (wpAny_load ho ?_)
           rw [hc, hd]
           show wpAny M A (if (["enumerate", "zip", "dict_itemiterator", "dict_reverseitemiterator", "odict_iterator", "itertools.zip_longest", "itertools.pairwise"].contains n && vs[0]? == some (rawInt _)) = true then _ else _) Q E s
           rw [if_neg (by intro h; rw [hn, Bool.false_and] at h; cases h)]
           exact wpAny_pure hQ))
def Itl (K : PySem.W.Frag) (a : Addr) : It :=
  ⟨fun i H => ∃ xs x, SqL K H a xs ∧ xs[i]? = some x, fun i H x H' => H' = H ∧ ∀ xs, SqL K H a xs → xs[i]? = some x, fun i H => ∃ xs, SqL K H a xs ∧ xs.length ≤ i⟩
def Itt (K : PySem.W.Frag) (a : Addr) : It :=
  ⟨fun i H => ∃ xs x, SqT K H a xs ∧ xs[i]? = some x, fun i H x H' => H' = H ∧ ∀ xs, SqT K H a xs → xs[i]? = some x, fun i H => ∃ xs, SqT K H a xs ∧ xs.length ≤ i⟩
def Itr (lo : Int) (n : Nat) : It := ⟨fun i _ => i < n, fun i H x H' => H' = H ∧ x = .int (lo + i), fun i _ => n ≤ i⟩
theorem turn_list {P : Program} {w : World} {K : PySem.W.Frag} {tg : Expr} (a it : Addr) : Turn P w K tg (Itl K a) [it] it (fun i h => h.IsListIter it a i) where
  mem := by simp
  obj := fun i h st b hb => by
    have e : b = it := by simpa using hb
    subst e
    obtain ⟨o, e, c, d⟩ := st
    exact ⟨o, e, fun v z => by rw [d] at z; cases z⟩
  keep := fun i h h' st k => st.at fun o e => k it (by simp) o e
  item := by
    intro X hP hw hK hc i pins s σ H E I hf st hg
    subst hP hw hK
    obtain ⟨xs, x, hq, hx⟩ := hg
    obtain ⟨its, rv, p, hz⟩ := I.list hq
    obtain ⟨u, hu, ru⟩ := rv.get hx
    obtain ⟨f0, f1, f2, f3, f4, f5⟩ := hf it (by simp)
    refine wpAny_pyNext_list_item st p.isList (x := u) (by simpa using hu) fun h' st' sb => ?_
    have I1 : Inv X pins σ H { s with heap := h' } := I.turned (t' := s.toks) (fun b o hb e => (sb.2 b hb).trans e) f0 f1 f3 f4 f5
    obtain ⟨o, e, c, d⟩ := id st'
    exact ⟨u, rfl, go_of (s := { s with heap := h' }) e c d (by decide) ⟨x, H, I1, ru, ⟨rfl, fun ys hy => by rw [I.list_inj hy hq]; exact hx⟩, st', fun b hb => (hf b hb).1⟩⟩
  done := by
    intro X hP hw hK hc i pins s σ H E I hf st hg
    subst hP hw hK
    obtain ⟨xs, hq, hx⟩ := hg
    obtain ⟨its, rv, p, hz⟩ := I.list hq
    obtain ⟨f0, f1, f2, f3, f4, f5⟩ := hf it (by simp)
    have hl := rv.length
    exact wpAny_pyNext_list_end (I.ok.hd hc) st p.isList (by simp; omega) fun h' eb => ⟨rfl, I.turned (t' := s.toks) (fun b o hb e => eb b o hb e) f0 f1 f3 f4 f5⟩
  self := fun _ _ _ _ _ st h => wpAny_pyIter_listiter st h
theorem turn_tuple {P : Program} {w : World} {K : PySem.W.Frag} {tg : Expr} (a it : Addr) : Turn P w K tg (Itt K a) [it] it (fun i h => h.IsTupleIter it a i) where
  mem := by simp
  obj := fun i h st b hb => by
    have e : b = it := by simpa using hb
    subst e
    obtain ⟨o, e, c, d⟩ := st
    exact ⟨o, e, fun v z => by rw [d] at z; cases z⟩
  keep := fun i h h' st k => st.at fun o e => k it (by simp) o e
  item := by
    intro X hP hw hK hc i pins s σ H E I hf st hg
    subst hP hw hK
    obtain ⟨xs, x, hq, hx⟩ := hg
    obtain ⟨its, rv, p, hz⟩ := I.tuple hq
    obtain ⟨u, hu, ru⟩ := rv.get hx
    obtain ⟨f0, f1, f2, f3, f4, f5⟩ := hf it (by simp)
    refine wpAny_pyNext_tuple_item st (show s.heap.IsTuple a its.toArray from p) (x := u) (by simpa using hu) fun h' st' sb => ?_
    have I1 : Inv X pins σ H { s with heap := h' } := I.turned (t' := s.toks) (fun b o hb e => (sb.2 b hb).trans e) f0 f1 f3 f4 f5
    obtain ⟨o, e, c, d⟩ := id st'
    exact ⟨u, rfl, go_of (s := { s with heap := h' }) e c d (by decide) ⟨x, H, I1, ru, ⟨rfl, fun ys hy => by rw [I.tuple_inj hy hq]; exact hx⟩, st', fun b hb => (hf b hb).1⟩⟩
  done := by
    intro X hP hw hK hc i pins s σ H E I hf st hg
    subst hP hw hK
    obtain ⟨xs, hq, hx⟩ := hg
    obtain ⟨its, rv, p, hz⟩ := I.tuple hq
    obtain ⟨f0, f1, f2, f3, f4, f5⟩ := hf it (by simp)
    have hl := rv.length
    exact wpAny_pyNext_tuple_end (I.ok.hd hc) st (show s.heap.IsTuple a its.toArray from p) (by simp; omega) fun h' eb => ⟨rfl, I.turned (t' := s.toks) (fun b o hb e => eb b o hb e) f0 f1 f3 f4 f5⟩
  self := fun _ _ _ _ _ st h => wpAny_pyIter_tupleiter st h
theorem turn_range {P : Program} {w : World} {K : PySem.W.Frag} {tg : Expr} (it : Addr) (lo : Int) (n : Nat) : Turn P w K tg (Itr lo n) [it] it (fun i h => IsRangeIter h it (lo + (i : Nat) * 1) ((n : Int) - (i : Nat)) 1) where
  mem := by simp
  obj := fun i h st b hb => by
    have e : b = it := by simpa using hb
    subst e
    exact ⟨_, st, fun v z => by
      have z' : Data.fields _ = Data.cell v := z
      cases z'⟩
  keep := fun i h h' st k => k it (by simp) _ st
  item := by
    intro X hP hw hK hc i pins s σ H E I hf st hg
    subst hP hw hK
    obtain ⟨f0, f1, f2, f3, f4, f5⟩ := hf it (by simp)
    have W := Walks.range (prog := X.prog) (w := X.w) (I.ok.hd hc) it lo 1 n
    refine W.item i s _ _ hg st fun v h' tk hv st' kk => ?_
    obtain ⟨t, rfl⟩ := hv
    have I1 : Inv X pins σ H { s with heap := h', toks := tk } := I.turned (fun b o hb e => kk b o (by simpa using hb) e) f0 f1 f3 f4 f5
    refine ⟨_, rfl, go_of (s := { s with heap := h', toks := tk }) (n := "range_iterator") st' rfl rfl (by decide) ⟨.int (lo + i), H, I1, ⟨t, ?_⟩, ⟨rfl, rfl⟩, st', fun b hb => (hf b hb).1⟩⟩
    rw [Int.mul_one]
  done := by
    intro X hP hw hK hc i pins s σ H E I hf st hg
    subst hP hw hK
    obtain ⟨f0, f1, f2, f3, f4, f5⟩ := hf it (by simp)
    exact wpAny_pyNext_range_end (I.ok.hd hc) st (by have : n ≤ i := hg; omega) fun h' eb => ⟨rfl, I.turned (t' := s.toks) (fun b o hb e => eb b o hb e) f0 f1 f3 f4 f5⟩
  self := fun _ _ _ _ _ st h => wpAny_pyIter_rangeiter st h
end L2
namespace L2
open PySem PySem.Spec PyProof.Rows
section
variable {X : Cx} {tg : Expr}
theorem range_it {pins : List (Addr × Obj)} {σ : St} {H : Hp} {s : Shared} {R : It → Hp → Prop} {E : Value → Shared → Prop} {lo hi : Int} {t u v : Tok} {tk : Nat} (I : Inv X pins σ H s) (h1 : -(2 ^ 62) ≤ lo) (h2 : lo < 2 ^ 62) (h3 : -(2 ^ 62) ≤ hi) (h4 : hi < 2 ^ 62)
    (q : R (Itr lo (hi - lo).toNat) H) : wpAny (model X.prog X.w) X.A (pyIter (.ref s.heap.objs.size)) (PIE X pins σ tg R) E { s with heap := s.heap.push { cls := .type "range", data := .fields #[.int lo t, .int hi u, .int 1 v] }, toks := tk } := by
  refine wpAny_pyIter_range (IsRange.new ..) (small_one h1 h2 h3 h4) ?_
  have I1 : Inv X pins σ H { s with heap := s.heap.push { cls := .type "range", data := .fields #[.int lo t, .int hi u, .int 1 v] }, toks := tk } := I.kept fun b o e => Heap.get?_push_of_some _ e
  refine ⟨(s.heap.push { cls := .type "range", data := .fields #[.int lo t, .int hi u, .int 1 v] }).objs.size, [(s.heap.push { cls := .type "range", data := .fields #[.int lo t, .int hi u, .int 1 v] }).objs.size], _, _, H, rfl,
    I1.kept (t' := tk) fun b o e => Heap.get?_push_of_some _ e, turn_range _ lo (hi - lo).toNat, ?_, fun b hb => ?_, q⟩
  · have e1 : lo + ((0 : Nat) : Int) * 1 = lo := by simp
    have e2 : (((hi - lo).toNat : Nat) : Int) - ((0 : Nat) : Int) = Builtin.Range.rangeSize lo hi 1 := by rw [rangeSize_one]; split <;> omega
    show IsRangeIter _ _ (lo + ((0 : Nat) : Int) * 1) ((((hi - lo).toNat : Nat) : Int) - ((0 : Nat) : Int)) 1
    rw [e1, e2]
    exact Heap.get?_push_size _ rfl
  · have e : b = (s.heap.push { cls := .type "range", data := .fields #[.int lo t, .int hi u, .int 1 v] }).objs.size := by simpa using hb
    subst e
    exact I1.fpOk (Nat.le_refl _) (I1.hok.fresh (Nat.le_refl _))
def iRng1 (ta : TA) : TI := fun σ H R => ta σ H fun vs H1 => ∃ j : Int, vs = [.int j] ∧ -(2 ^ 62) ≤ j ∧ j < 2 ^ 62 ∧ R (Itr 0 j.toNat) H1
theorem pi_range1 {a : Expr} {ta : TA} {p pos : Pos} (hg : Gl X "range") (hm : X.mg "range" = none) (ha : PA X [a] ta) (hs : starEach [a] X.env = [(false, eval a X.env)] := by rfl) : PI X tg (.Call (.Name "range" p) [a] [] pos) (iRng1 ta) := by
  intro pins s σ H R I h
  refine Call_ (ld_blt I hg hm boot_range (PyProof.Rows.callWith_type1 (thn (ha pos pins s σ H _ I h) fun us s1 ⟨vs, H1, I1, r1, q1⟩ => ?_) hs rfl))
  obtain ⟨j, e, q1, q2, q⟩ := q1
  subst e
  cases r1 with
  | cons r rr =>
    cases rr
    obtain ⟨t, rfl⟩ := r
    exact call_range_1 (range_it I1 (by omega) (by omega) q1 q2 (by simpa using q))
def tFor (wi : TI) (g : TG) (tb : TS) : TS := fun D σ H => wi σ H fun J H1 => ∃ W : Nat → Nat → St → Hp → Prop, (∃ m, W 0 m σ H1) ∧ ∀ i m σ H, W i m σ H →
  (J.stop i H ∧ D.nx σ H) ∨ (J.go i H ∧ ∃ N : St → Hp → Prop, (∀ σ' H', N σ' H' → ∃ m', m' < m ∧ W (i + 1) m' σ' H') ∧ ∀ x H', J.yld i H x H' → g x σ H' fun σ2 H2 => tb { D with nx := N, ct := N, bk := D.nx } σ2 H2)
def pinsAt (fp : List Addr) (h : Heap) : List (Addr × Obj) := fp.filterMap fun b => (h.get? b).map fun o => (b, o)
theorem mem_pinsAt {fp : List Addr} {h : Heap} {b : Addr} {o : Obj} (hb : b ∈ fp) (e : h.get? b = some o) : (b, o) ∈ pinsAt fp h := List.mem_filterMap.mpr ⟨b, hb, by rw [e]; rfl⟩
theorem of_pinsAt {fp : List Addr} {h : Heap} {p : Addr × Obj} (hp : p ∈ pinsAt fp h) : p.1 ∈ fp ∧ h.get? p.1 = some p.2 := by
  obtain ⟨b, hb, e⟩ := List.mem_filterMap.mp hp
  cases q : h.get? b with
  | none => rw [q] at e; cases e
  | some o =>
    rw [q] at e
    have e' : (b, o) = p := Option.some.inj e
    subst e'
    exact ⟨hb, q⟩
theorem Inv.pinned {pins : List (Addr × Obj)} {σ : St} {H : Hp} {s : Shared} {fp : List Addr} (I : Inv X pins σ H s) (hf : ∀ b ∈ fp, FpOk X pins H b) (ho : ∀ b ∈ fp, ∃ o, s.heap.get? b = some o ∧ ∀ v, o.data ≠ .cell v) : Inv X (pins ++ pinsAt fp s.heap) σ H s :=
  I.pins_of fun p hp => (List.mem_append.mp hp).elim (fun z => I.pin p (List.mem_append_right _ z)) fun z => by
    obtain ⟨hb, e⟩ := of_pinsAt z
    obtain ⟨f0, f1, f2, _⟩ := hf p.1 hb
    obtain ⟨o, e', d⟩ := ho p.1 hb
    rw [e] at e'; cases e'
    exact ⟨e, f0, f1, f2, d⟩
theorem Inv.unpinned {pins pl : List (Addr × Obj)} {σ : St} {H : Hp} {s : Shared} (I : Inv X (pins ++ pl) σ H s) : Inv X pins σ H s := I.pins_of fun p hp => I.pin p (List.mem_append_right _ (List.mem_append_left _ hp))
theorem ps_for {iter : Expr} {body : List Stmt} {wi : TI} {g : TG} {tb : TS} {pos : Pos} (hp : PassesOwn (model X.prog X.w) X.A X.env X.xe) (hc : X.calm = true) (hi : PI X tg iter wi) (hg : PG X tg g) (hb : PSs X body tb)
    (hs : ∀ x, foldedSetIterable iter X.env x = pure x := by intro _; rfl) : PS X (.For tg iter body [] pos) (tFor wi g tb) := by
  intro pins s σ H D I h
  refine wpAny_For (thn (hi pins s σ H _ I h) fun v s1 h1 => thn h1 fun itv s2 h2 => ?_) hs
  obtain ⟨it, fp, tn, J, H2, e, I2, T, st2, f2, W, ⟨m0, w0⟩, turn⟩ := h2
  subst e
  have stat : ∀ {H' : Hp}, (∀ b ∈ fp, H' b = none) → ∀ b ∈ fp, FpOk X pins H' b := fun hn b hb => ⟨hn b hb, (f2 b hb).2⟩
  refine codeAny_forLoop_any (fun n s' => ∃ i σ' H', Inv X pins σ' H' s' ∧ tn i s'.heap ∧ (∀ b ∈ fp, H' b = none) ∧ W i n σ' H') ?_ m0 ⟨0, σ, H2, I2, st2, fun b hb => (f2 b hb).1, w0⟩
  rintro n s3 ⟨i, σ3, H3, I3, st3, fr3, w3⟩
  rcases turn i n σ3 H3 w3 with ⟨stop, qn⟩ | ⟨go, N, hN, step⟩
  · refine wpAny_passesOwn hp (thn (T.done X rfl rfl rfl hc i pins s3 σ3 H3 X.xe I3 (stat fr3) st3 stop) fun r s4 ⟨hr, I4⟩ => ?_)
    subst hr
    exact wpAny_execs_nil ⟨σ3, H3, I4, qn⟩
  · refine wpAny_passesOwn hp (thn (T.item X rfl rfl rfl hc i pins s3 σ3 H3 X.xe I3 (stat fr3) st3 go) fun r s4 ⟨u, hr, h4⟩ => ?_)
    subst hr
    refine wpAny_passesOwn hp (thn h4 fun _ s5 ⟨x, H5, I5, r5, y5, st5, fr5⟩ => ?_)
    have I5' := I5.pinned (stat fr5) (T.obj _ _ st5)
    refine wpAny_passesOwn hp (thn (hg _ s5 σ3 H5 x u _ I5' r5 (step x H5 y5)) fun _ s6 ⟨σ6, H6, I6, q6⟩ => ?_)
    refine wpAny_passesOwn hp (thn (hb _ s6 σ6 H6 _ I6 q6) fun f s7 q7 => ?_)
    have again : ∀ {σ7 : St} {H7 : Hp}, Inv X (pins ++ pinsAt fp s5.heap) σ7 H7 s7 → N σ7 H7 → ∃ m, m < n ∧ ∃ i σ' H', Inv X pins σ' H' s7 ∧ tn i s7.heap ∧ (∀ b ∈ fp, H' b = none) ∧ W i m σ' H' := fun {σ7 H7} I7 n7 => by
      obtain ⟨m', hm, w7⟩ := hN σ7 H7 n7
      refine ⟨m', hm, i + 1, σ7, H7, I7.unpinned, T.keep _ _ _ st5 fun b hb o e => (I7.pin (b, o) (List.mem_append_right _ (List.mem_append_right _ (mem_pinsAt hb e)))).1, fun b hb => ?_, w7⟩
      obtain ⟨o, e, d⟩ := T.obj _ _ st5 b hb
      exact (I7.pin (b, o) (List.mem_append_right _ (List.mem_append_right _ (mem_pinsAt hb e)))).2.1
    cases f with
    | next => obtain ⟨σ7, H7, I7, n7⟩ := q7; exact again I7 n7
    | cont => obtain ⟨σ7, H7, I7, n7⟩ := q7; exact again I7 n7
    | brk => obtain ⟨σ7, H7, I7, q7⟩ := q7; exact ⟨σ7, H7, I7.unpinned, q7⟩
    | ret v => obtain ⟨x7, σ7, H7, I7, r7, q7⟩ := q7; exact ⟨x7, σ7, H7, I7.unpinned, r7, q7⟩
end
end L2
namespace L2
open PySem PySem.Spec PyProof.Rows
abbrev R2 := V → V → Hp → VK → Prop
def OpR (X : Cx) (f : Value → Value → Sem Value) (r : R2) : Prop :=
  ∀ (pins : List (Addr × Obj)) (s : Shared) (σ : St) (H : Hp) (x y : V) (v u : Value) (Q : VK), Inv X pins σ H s → RelV x v → RelV y u → r x y H Q →
    wpAny (model X.prog X.w) X.A (f v u) (EP X pins σ Q) X.xe s
def UnR (X : Cx) (f : Value → Sem Value) (r : V → Hp → VK → Prop) : Prop :=
  ∀ (pins : List (Addr × Obj)) (s : Shared) (σ : St) (H : Hp) (x : V) (v : Value) (Q : VK), Inv X pins σ H s → RelV x v → r x H Q →
    wpAny (model X.prog X.w) X.A (f v) (EP X pins σ Q) X.xe s
def CallR (X : Cx) (f : Value) (r : List V → Hp → VK → Prop) : Prop :=
  ∀ (pins : List (Addr × Obj)) (s : Shared) (σ : St) (H : Hp) (xs : List V) (us : List Value) (Q : VK), Inv X pins σ H s → Vals xs us → r xs H Q →
    wpAny (model X.prog X.w) X.A (call f us) (EP X pins σ Q) X.xe s
def tOp (r : R2) (ta tb : TE) : TE := fun σ H Q => ta σ H fun x H1 => tb σ H1 fun y H2 => r x y H2 Q
def tUn (r : V → Hp → VK → Prop) (ta : TE) : TE := fun σ H Q => ta σ H fun x H1 => r x H1 Q
def rI (C : Int → Int → Prop) (g : Int → Int → V) : R2 := fun x y H Q => ∃ i j, x = .int i ∧ y = .int j ∧ C i j ∧ Q (g i j) H
def rI0 (g : Int → Int → V) : R2 := fun x y H Q => ∃ i j, x = .int i ∧ y = .int j ∧ Q (g i j) H
def rU (g : Int → V) : V → Hp → VK → Prop := fun x H Q => ∃ i, x = .int i ∧ Q (g i) H
section
variable {X : Cx} {a b c : Expr} {ta tb tc : TE} {pos : Pos}
theorem binT (ha : PE X a ta) (hb : PE X b tb) {pins : List (Addr × Obj)} {s : Shared} {σ : St} {H : Hp} {R : V → V → Hp → Prop} (I : Inv X pins σ H s)
    (h : ta σ H fun x H1 => tb σ H1 fun y H2 => R x y H2) {Q : Value → Shared → Prop} {f : Value → Value → Sem Value}
    (hf : ∀ v u s2 x y H2, Inv X pins σ H2 s2 → RelV x v → RelV y u → R x y H2 → wpAny (model X.prog X.w) X.A (f v u) Q X.xe s2) :
    wpAny (model X.prog X.w) X.A (eval a X.env) (fun v s₁ => wpAny (model X.prog X.w) X.A (eval b X.env) (fun u s₂ => wpAny (model X.prog X.w) X.A (f v u) Q X.xe s₂) X.xe s₁) X.xe s := by
  refine thn (ha pins s σ H _ I h) fun v s1 ⟨x, H1, I1, r1, q1⟩ => ?_
  refine thn (hb pins s1 σ H1 _ I1 q1) fun u s2 ⟨y, H2, I2, r2, q2⟩ => ?_
  exact hf v u s2 x y H2 I2 r1 r2 q2
theorem pe_op {op : Operator} {r : R2} (ho : OpR X (binaryOp op) r) (ha : PE X a ta) (hb : PE X b tb) : PE X (.BinOp a op b pos) (tOp r ta tb) := by
  intro pins s σ H Q I h
  exact wpAny_BinOp (binT ha hb I h fun v u s2 x y H2 I2 rx ry q => ho pins s2 σ H2 x y v u Q I2 rx ry q)
theorem pe_un {op : UnaryOp} {r : V → Hp → VK → Prop} (ho : UnR X (unaryOp op) r) (ha : PE X a ta) : PE X (.UnaryOp op a pos) (tUn r ta) := by
  intro pins s σ H Q I h
  exact UnaryOp_ (thn (ha pins s σ H _ I h) fun v s1 ⟨x, H1, I1, r1, q1⟩ => ho pins s1 σ H1 x v Q I1 r1 q1)
theorem opI {f : Value → Value → Sem Value} {C : Int → Int → Prop} {g : Int → Int → Int}
    (rule : ∀ (i j : Int) (t u : Tok) (s : Shared) (Q : Value → Shared → Prop) (E : Value → Shared → Prop), C i j → Q (.int (g i j) s.toks) { s with toks := s.toks + 1 } → wpAny (model X.prog X.w) X.A (f (.int i t) (.int j u)) Q E s) :
    OpR X f (rI C fun i j => .int (g i j)) := by
  intro pins s σ H x y v u Q I rx ry h
  obtain ⟨i, j, rfl, rfl, hc, q⟩ := h
  obtain ⟨t, rfl⟩ := rx
  obtain ⟨t', rfl⟩ := ry
  exact rule i j t t' s _ _ hc ⟨.int (g i j), H, I.tok _, ⟨_, rfl⟩, q⟩
theorem opI0 {f : Value → Value → Sem Value} {g : Int → Int → Int}
    (rule : ∀ (i j : Int) (t u : Tok) (s : Shared) (Q : Value → Shared → Prop) (E : Value → Shared → Prop), Q (.int (g i j) s.toks) { s with toks := s.toks + 1 } → wpAny (model X.prog X.w) X.A (f (.int i t) (.int j u)) Q E s) :
    OpR X f (rI0 fun i j => .int (g i j)) := by
  intro pins s σ H x y v u Q I rx ry h
  obtain ⟨i, j, rfl, rfl, q⟩ := h
  obtain ⟨t, rfl⟩ := rx
  obtain ⟨t', rfl⟩ := ry
  exact rule i j t t' s _ _ ⟨.int (g i j), H, I.tok _, ⟨_, rfl⟩, q⟩
theorem opB0 {f : Value → Value → Sem Value} {g : Int → Int → Bool}
    (rule : ∀ (i j : Int) (t u : Tok) (s : Shared) (Q : Value → Shared → Prop) (E : Value → Shared → Prop), Q (.bool (g i j)) s → wpAny (model X.prog X.w) X.A (f (.int i t) (.int j u)) Q E s) :
    OpR X f (rI0 fun i j => .bl (g i j)) := by
  intro pins s σ H x y v u Q I rx ry h
  obtain ⟨i, j, rfl, rfl, q⟩ := h
  obtain ⟨t, rfl⟩ := rx
  obtain ⟨t', rfl⟩ := ry
  exact rule i j t t' s _ _ ⟨.bl (g i j), H, I, rfl, q⟩
def CDiv (i j : Int) : Prop := 0 < j ∧ j < 1073741824
def CPow (i j : Int) : Prop := 0 ≤ j ∧ j ≤ 1000000 ∧ i.natAbs < 2 ^ 64
theorem op_add : OpR X (binaryOp .Add) (rI0 fun i j => .int (i + j)) := opI0 fun _ _ _ _ _ _ _ q => add_int q
theorem op_sub : OpR X (binaryOp .Sub) (rI0 fun i j => .int (i - j)) := opI0 fun _ _ _ _ _ _ _ q => sub_int q
theorem op_fdiv : OpR X (binaryOp .FloorDiv) (rI CDiv fun i j => .int (i / j)) := opI fun i j _ _ _ _ _ hc q => by
  have h1 : (0 : Int) < j := hc.1
  have h2 : j < 1073741824 := hc.2
  exact floordiv_int (by omega) (by rw [Int.fdiv_eq_ediv_of_nonneg i (by omega)]; exact q) (.inl (PyProof.noPylong_small (by omega)))
theorem op_mod : OpR X (binaryOp .Mod) (rI (fun _ j => 0 < j) fun i j => .int (i % j)) := opI fun i j _ _ _ _ _ hc q => by
  have h1 : (0 : Int) < j := hc
  exact mod_int' (by omega) (by rw [Int.fmod_eq_emod_of_nonneg i (by omega)]; exact q)
theorem op_pow : OpR X (binaryOp .Pow) (rI CPow fun i j => .int (i ^ j.toNat)) := opI fun _ _ _ _ _ _ _ hc q => pow_int_small hc.1 hc.2.1 hc.2.2 q
theorem unI {f : Value → Sem Value} {g : Int → Int}
    (rule : ∀ (i : Int) (t : Tok) (s : Shared) (Q : Value → Shared → Prop) (E : Value → Shared → Prop), Q (.int (g i) s.toks) { s with toks := s.toks + 1 } → wpAny (model X.prog X.w) X.A (f (.int i t)) Q E s) :
    UnR X f (rU fun i => .int (g i)) := by
  intro pins s σ H x v Q I rx h
  obtain ⟨i, rfl, q⟩ := h
  obtain ⟨t, rfl⟩ := rx
  exact rule i t s _ _ ⟨.int (g i), H, I.tok _, ⟨_, rfl⟩, q⟩
theorem un_neg : UnR X (unaryOp .USub) (rU fun i => .int (-i)) := unI fun _ _ _ _ _ q => neg_int q
end
section
variable {X : Cx} {a b c : Expr} {ta tb tc : TE} {pos : Pos}
theorem fin_bl {pins : List (Addr × Obj)} {σ : St} {H : Hp} {s : Shared} {Q : VK} {k k' : Bool} (I : Inv X pins σ H s) (q : Q (.bl k) H) (e : k = k') : EP X pins σ Q (.bool k') s := by
  subst e
  exact ⟨.bl k, H, I, rfl, q⟩
theorem op_lt : OpR X (compareOp .Lt) (rI0 fun i j => .bl (decide (i < j))) := opB0 fun _ _ _ _ _ _ _ q => lt_int q
theorem op_le : OpR X (compareOp .LtE) (rI0 fun i j => .bl (decide (i ≤ j))) := opB0 fun _ _ _ _ _ _ _ q => le_int q
theorem op_gt : OpR X (compareOp .Gt) (rI0 fun i j => .bl (decide (j < i))) := opB0 fun _ _ _ _ _ _ _ q => gt_int q
theorem op_in_str : OpR X (compareOp .In) (fun x y H Q => ∃ i j, x = .str i ∧ y = .str j ∧ Q (.bl (!(Builtin.Str.occurrences j i 0 j.length 1).isEmpty)) H) := by
  intro pins s σ H x y v u Q I rx ry h
  obtain ⟨i, j, rfl, rfl, q⟩ := h
  obtain ⟨t, rfl⟩ := rx
  obtain ⟨t', rfl⟩ := ry
  exact in_str (fin_bl I q rfl)
theorem op_isN : OpR X (compareOp .Is) (fun x y H Q => y = .non ∧ Q (.bl (decide (x = .non))) H) := by
  intro pins s σ H x y v u Q I rx ry h
  obtain ⟨rfl, q⟩ := h
  cases ry
  refine is_none_gen (fin_bl I q ?_)
  cases x <;> first
    | (cases rx; rfl)
    | (obtain ⟨t, rfl⟩ := rx; rfl)
theorem OpR.or {f : Value → Value → Sem Value} {r r' : R2} (h : OpR X f r) (h' : OpR X f r') : OpR X f (fun x y H Q => r x y H Q ∨ r' x y H Q) := by
  intro pins s σ H x y v u Q I rx ry q
  rcases q with q | q
  · exact h pins s σ H x y v u Q I rx ry q
  · exact h' pins s σ H x y v u Q I rx ry q
theorem nomark (b : Expr) {op : CmpOp} (h : op ≠ .In := by decide) (h2 : op ≠ .NotIn := by decide) : behindInMarks op b = false := by
  have e1 : (op == CmpOp.In) = false := by cases op <;> first | rfl | exact absurd rfl h
  have e2 : (op == CmpOp.NotIn) = false := by cases op <;> first | rfl | exact absurd rfl h2
  cases b <;> simp [behindInMarks, e1, e2]
theorem pe_cmpR {op : CmpOp} {r : R2} (ho : OpR X (compareOp op) r) (ha : PE X a ta) (hb : PE X b tb) (hm : behindInMarks op b = false) : PE X (.Compare a [op] [b] pos) (tOp r ta tb) := by
  intro pins s σ H Q I h
  exact wpAny_Compare1 (binT ha hb I h fun v u s2 x y H2 I2 rx ry q => ho pins s2 σ H2 x y v u Q I2 rx ry q) hm
def tTest (t : TE) : TT := fun σ H Q => t σ H fun x H' => ∃ k, x = .bl k ∧ Q k H'
theorem pt_cmpR {op : CmpOp} {r : R2} (ho : OpR X (compareOp op) r) (ha : PE X a ta) (hb : PE X b tb) (hm : behindInMarks op b = false) : PT X (.Compare a [op] [b] pos) (tTest (tOp r ta tb)) := by
  intro pins s σ H Q I h
  refine wpAny_isTrue_Compare1 (thn (ha pins s σ H _ I h) fun v s1 ⟨x, H1, I1, r1, q1⟩ => thn (hb pins s1 σ H1 _ I1 q1) fun u s2 ⟨y, H2, I2, r2, q2⟩ =>
    thn (ho pins s2 σ H2 x y v u _ I2 r1 r2 q2) fun c s3 ⟨z, H3, I3, r3, k, e, q3⟩ => ?_) hm
  subst e
  cases r3
  exact wpAny_truthy_bool ⟨H3, I3, q3⟩
def tChain (r r' : R2) (ta tb tc : TE) : TE := fun σ H Q => ta σ H fun x H1 => tb σ H1 fun y H2 => r x y H2 fun z H3 => ∃ k, z = .bl k ∧
  (if k = true then tc σ H3 fun w' H4 => r' y w' H4 Q else Q (.bl false) H3)
theorem pt_chain {op op' : CmpOp} {r r' : R2} (ho : OpR X (compareOp op) r) (ho' : OpR X (compareOp op') r') (ha : PE X a ta) (hb : PE X b tb) (hc : PE X c tc)
    (hm : lastMarks [op, op'] [b, c] = false := by with_unfolding_all rfl) : PT X (.Compare a [op, op'] [b, c] pos) (tTest (tChain r r' ta tb tc)) := by
  intro pins s σ H Q I h
  refine isTrue_chain (thn (ha pins s σ H _ I h) fun v s1 ⟨x, H1, I1, r1, q1⟩ => test_link (thn (hb pins s1 σ H1 _ I1 q1) fun u s2 ⟨y, H2, I2, r2, q2⟩ =>
    thn (ho pins s2 σ H2 x y v u _ I2 r1 r2 q2) fun d s3 ⟨z, H3, I3, r3, k, e, q3⟩ => ?_)) hm
  subst e
  cases r3
  refine wpAny_truthy_bool ?_
  cases k with
  | false =>
    obtain ⟨k', e', q'⟩ := q3
    cases e'
    exact ite_ff ⟨H3, I3, q'⟩
  | true =>
    refine ite_tt (test_last (thn (hc pins s3 σ H3 _ I3 q3) fun w' s4 ⟨z', H4, I4, r4, q4⟩ => thn (ho' pins s4 σ H4 y z' u w' _ I4 r2 r4 q4) fun d' s5 ⟨z2, H5, I5, r5, k2, e2, q5⟩ => ?_))
    subst e2
    cases r5
    exact wpAny_truthy_bool ⟨H5, I5, q5⟩
theorem line63 : (sizeLine : Nat) < 2 ^ 63 := by rw [sizeLine_eq]; decide
theorem op_add_str : OpR X (binaryOp .Add) (fun x y H Q => ∃ i j, x = .str i ∧ y = .str j ∧ i.length + j.length ≤ sizeLine ∧ Q (.str (i ++ j)) H) := by
  intro pins s σ H x y v u Q I rx ry h
  obtain ⟨i, j, rfl, rfl, hz, q⟩ := h
  obtain ⟨t, rfl⟩ := rx
  obtain ⟨t', rfl⟩ := ry
  exact add_str (fun t' tk => ⟨.str (i ++ j), H, I.tok _, ⟨_, rfl⟩, q⟩) hz
theorem vals1 {x : V} {us : List Value} (r : Vals [x] us) : ∃ u, us = [u] ∧ RelV x u := by
  cases r with
  | cons r1 r2 => cases r2; exact ⟨_, rfl, r1⟩
theorem vals2 {x y : V} {us : List Value} (r : Vals [x, y] us) : ∃ u w', us = [u, w'] ∧ RelV x u ∧ RelV y w' := by
  cases r with
  | cons r1 r2 =>
    cases r2 with
    | cons r3 r4 => cases r4; exact ⟨_, _, rfl, r1, r3⟩
theorem call_str_int : CallR X (.type "str") (fun xs H Q => ∃ i, xs = [.int i] ∧ i.natAbs.log2 < 1920 ∧ Q (.str (toString i)) H) := by
  intro pins s σ H xs us Q I r h
  obtain ⟨i, rfl, hz, q⟩ := h
  obtain ⟨u, rfl, t, rfl⟩ := vals1 r
  exact PySem.P.str_of_int hz ⟨.str _, H, I.tok _, ⟨_, rfl⟩, q⟩
end
end L2
namespace L2
open PySem PySem.Spec PyProof.Rows
theorem lookIn_ns {h : Heap} {dx : Addr} {mA : Str → Option Value} (n : h.Ns1 dx mA) : ∃ od, h.get? dx = some od ∧ ∀ name, PySem.W.lookIn name od = some (mA name) := by
  obtain ⟨o, es, ep, ho, hd, hk, _, hm⟩ := n
  refine ⟨o, ho, fun name => ?_⟩
  have e := hm name
  unfold nsFind findBy at e
  rw [← Array.find?_toList] at e
  unfold PySem.W.lookIn
  rw [hd]
  dsimp only
  split
  · rename_i y q
    rw [q] at e
    exact congrArg some e
  · rename_i q
    rw [q] at e
    have a : es.toList.any (·.refKey) = false := by
      rw [List.any_eq_false]
      intro y hy
      obtain ⟨z, t, hkey⟩ := hk y (Array.mem_toList_iff.mp hy)
      simp [DictEntry.refKey, hkey]
    have a' : ¬ es.toList.any (·.refKey) = true := by rw [a]; exact Bool.false_ne_true
    rw [if_neg a']
    exact congrArg some e
section
variable {prog : Program} {w : World} {A : Around} {E : Value → Shared → Prop} {s : Shared} {K : PySem.W.Frag} {x dx C f : Addr} {mA : Str → Option Value} {name : Str} {v : Value}
end
theorem RelO.some_of {v : V} {o : Option Value} (r : RelO (some v) o) : ∃ u, o = some u ∧ RelV v u := by
  cases o with
  | none => exact (show False from r).elim
  | some u => exact ⟨u, rfl, r⟩
theorem handed_of {v : V} {u : Value} (r : RelV v u) : PySem.W.handedIn u = true := by
  cases v with
  | non => cases (show u = Value.none from r); rfl
  | bl b => cases (show u = Value.bool b from r); rfl
  | int i => obtain ⟨t, e⟩ := (show ∃ t, u = Value.int i t from r); cases e; rfl
  | str x => obtain ⟨t, e⟩ := (show ∃ t, u = Value.str x t from r); cases e; rfl
  | byt b => obtain ⟨t, e⟩ := (show ∃ t, u = Value.bytes b t from r); cases e; rfl
  | flt b => obtain ⟨t, e⟩ := (show ∃ t, u = Value.float b t from r); cases e; rfl
  | ref a => cases (show u = Value.ref a from r); rfl
  | ty n => cases (show u = Value.type n from r); rfl
section
variable {P : Program} {w : World} {H H' : Hp} {h h' : Heap} {a C dx : Addr} {fs fs' : List (Str × V)}
end
section
variable {X : Cx} {pins : List (Addr × Obj)} {σ : St} {H : Hp} {s : Shared} {a C dx : Addr} {fs : List (Str × V)} {f : Str} {v : V} {A : Around} {E : Value → Shared → Prop}
theorem attr_of {prog : Program} {w : World} {env : Env} {e : Expr} {f : Str} {pos : Pos} {s : Shared} {Q : Value → Shared → Prop} (hb : attributeBase e f env (eval e env) = eval e env)
    (h : wpAny (model prog w) A (eval e env) (fun o s₁ => wpAny (model prog w) A (getAttr o f true) Q E s₁) E s) : wpAny (model prog w) A (eval (.Attribute e f pos) env) Q E s :=
  Attribute_any_ h (by rw [arm_eval_Attribute, hb])
end
section
variable {X : Cx} {o e value : Expr} {f : Str} {pos pos' tpos : Pos} {ta tv : TE}
end
section
variable {X : Cx} {pins : List (Addr × Obj)} {σ : St} {H : Hp} {s : Shared} {A : Around} {E : Value → Shared → Prop} {Q : Value → Shared → Prop} {c : Value} {b : Bool}
end
end L2
namespace L2
open PySem PySem.Spec PyProof.Rows
structure Room (k : Nat) (A : Around) : Prop where
  hd : A.handled = none
  dp : A.depth + 3 * k + 5 < recursionLimit
  un : A.units + 16 * k + 200 < cLine
theorem Room.mono {j k : Nat} {A : Around} (r : Room k A) (h : j ≤ k) : Room j A := ⟨r.hd, by have := r.dp; omega, by have := r.un; omega⟩
theorem Room.deeper {k : Nat} {A : Around} (r : Room (k + 1) A) (env : Env) : Room k (A.deeper env) :=
  ⟨r.hd, by have := r.dp; show A.depth + 1 + 3 * k + 5 < _; omega, by have := r.un; show A.units + 3 + 16 * k + 200 < _; omega⟩
theorem Room.in1 {k : Nat} {A : Around} (r : Room (k + 1) A) : Room k A.in1 :=
  ⟨r.hd, by have := r.dp; show A.depth + 3 * k + 5 < _; omega, by have := r.un; show A.units + 1 + 16 * k + 200 < _; omega⟩
theorem make_depth {A : Around} {C : Addr} {us : List Value} {kw : List (Str × Value)} : (A.under (.builtin "type.__call__" ⟨.ref C :: us, kw⟩)).depth = A.depth + 1 := by
  first | rfl | simp [Around.under, Code.weight, Code.isCreation, Code.isGuard, Code.isCaller, Code.frames, Code.isFrame, guardIds]
theorem make_units {A : Around} {C : Addr} {us : List Value} {kw : List (Str × Value)} : (A.under (.builtin "type.__call__" ⟨.ref C :: us, kw⟩)).units = A.units + 1 := by
  first | rfl | simp [Around.under, Code.cUnits, Code.frames, Code.isFrame]
theorem Room.make {k : Nat} {A : Around} (r : Room (k + 1) A) (C : Addr) (us : List Value) (kw : List (Str × Value)) : Room k (A.under (.builtin "type.__call__" ⟨.ref C :: us, kw⟩)) :=
  ⟨r.hd, by have := r.dp; rw [make_depth]; omega, by have := r.un; rw [make_units]; omega⟩
theorem Room.depth {k : Nat} {A : Around} (r : Room k A) : A.depth < recursionLimit := by have := r.dp; omega
theorem Room.units {k : Nat} {A : Around} (r : Room k A) : A.units + 64 < cLine := by have := r.un; omega
def tNil : TA := fun _ H Q => Q [] H
def tCons (ta : TE) (tr : TA) : TA := fun σ H Q => ta σ H fun x H1 => tr σ H1 fun xs H2 => Q (x :: xs) H2
section
variable {X : Cx} {e : Expr} {es : List Expr} {te : TE} {t : TA} {pos : Pos}
theorem pa_nil : PA X [] tNil := fun _ _ _ _ H Q I h => Calls.spliced_nil ⟨[], H, I, .nil, h⟩
theorem pa_cons (ha : PE X e te) (hr : PA X es t) (hs : starEach (e :: es) X.env = (false, eval e X.env) :: starEach es X.env := by rfl) : PA X (e :: es) (tCons te t) := by
  intro pos pins s σ H Q I h
  rw [hs]
  show wpAny _ _ (spliced ((false, eval e X.env) :: backTo pos (starEach es X.env))) _ _ s
  refine Calls.spliced_cons (thn (ha pins s σ H _ I h) fun u s1 ⟨x, H1, I1, r1, q1⟩ => ?_)
  exact thn (hr pos pins s1 σ H1 _ I1 q1) fun us s2 ⟨xs, H2, I2, r2, q2⟩ => ⟨x :: xs, H2, I2, .cons r1 r2, q2⟩
def tTup (t : TA) : TE := fun σ H Q => t σ H fun xs H1 => xs.length ≤ sizeLine ∧ ∀ p, H1 p = none → Q (.ref p) (upd H1 p (.tup xs))
def tLst (t : TA) : TE := fun σ H Q => t σ H fun xs H1 => xs.length ≤ sizeLine ∧ ∀ p, H1 p = none → Q (.ref p) (upd H1 p (.lst xs))
theorem pe_tup {x1} (h : PA X es t) : PE X (.Tuple es x1 pos) (tTup t) := by
  intro pins s σ H Q I hq
  refine wpAny_Tuple_spliced (thn (h pos pins s σ H _ I hq) fun us s1 ⟨xs, H1, I1, r, z, q⟩ => ⟨by rw [← r.length]; exact z, ?_⟩)
  have hf : H1 s1.heap.objs.size = none := I1.hok.fresh (Nat.le_refl _)
  refine ⟨.ref s1.heap.objs.size, upd H1 s1.heap.objs.size (.tup xs), I1.laid (t' := s1.toks) (fun b u e => Heap.get?_push_of_some _ e) (Nat.le_refl _) ?_, rfl, q _ hf⟩
  exact ⟨z, us, r, ⟨_, Heap.get?_push_size _ rfl, rfl, _, rfl⟩⟩
theorem pe_lst (h : PA X es t) : PE X (.List es pos) (tLst t) := by
  intro pins s σ H Q I hq
  refine wpAny_List_spliced (thn (h pos pins s σ H _ I hq) fun us s1 ⟨xs, H1, I1, r, z, q⟩ => ⟨by rw [← r.length]; exact z, ?_⟩)
  have hf : H1 s1.heap.objs.size = none := I1.hok.fresh (Nat.le_refl _)
  refine ⟨.ref s1.heap.objs.size, upd H1 s1.heap.objs.size (.lst xs), I1.laid (t' := s1.toks) (fun b u e => Heap.get?_push_of_some _ e) (Nat.le_refl _) ?_, rfl, q _ hf⟩
  exact ⟨z, us, 0, r, Heap.get?_push_size _ rfl⟩
end
abbrev Sp := List V → Hp → VK → XK → Prop
abbrev CXT := List Env → Hp → Shared → XK → Value → Shared → Prop
structure Env0 (P : Program) (w : World) (K : PySem.W.Frag) (mg : Str → Option Value) (base : Heap) (A : Around) (outer : List Env) (s : Shared) (H : Hp) : Prop where
  frames : A.frames = some outer
  mod : Mod K mg base
  bs : ∀ b o, base.get? b = some o → s.heap.get? b = some o ∧ H b = none
  bsz : base.objs.size ≤ s.heap.objs.size
  funs : s.heap.FunFrames base outer
  frf : ∀ b ∈ frs outer, H b = none
  hok : HOk P w H s.heap
  bare : AllBare s.gens
def CE (outer : List Env) (P : Program) (w : World) (H : Hp) (s : Shared) (Q : VK) (u : Value) (s' : Shared) : Prop :=
  ∃ v H', s'.os = s.os ∧ AllBare s'.gens ∧ Un (frs outer) [] H H' s.heap s'.heap ∧ HOk P w H' s'.heap ∧ RelV v u ∧ Q v H'
def CR (CX : CXT) (outer : List Env) (P : Program) (w : World) (H : Hp) (s : Shared) (Q : VK) (E : XK) (r : Result) (s' : Shared) : Prop :=
  match r with
  | .ok (.ret u) => CE outer P w H s Q u s'
  | .ok _ => False
  | .error e => CX outer H s E e s'
structure FnOk (P : Program) (w : World) (K : PySem.W.Frag) (mg : Str → Option Value) (base : Heap) (CX : CXT) (k : Nat) (f : Addr) (fd : FuncData) (ps : List Str) (sp : Sp) : Prop where
  len : ∀ vs H Q E, sp vs H Q E → vs.length = ps.length
  run : ∀ (A : Around) (outer : List Env) (s : Shared) (H : Hp) (args : Args) (us : List Value) (vs : List V) (Q : VK) (E : XK), Room k A → Env0 P w K mg base A outer s H → BindsTo s fd args (ps.zip us) → Vals vs us → sp vs H Q E →
    codeAny (model P w) A (.call (.ref f) args) (CR CX outer P w H s Q E) s
theorem FnOk.imp {P : Program} {w : World} {K : PySem.W.Frag} {mg : Str → Option Value} {base : Heap} {CX : CXT} {k : Nat} {f : Addr} {fd : FuncData} {ps : List Str} {sp sp' : Sp} (F : FnOk P w K mg base CX k f fd ps sp)
    (h : ∀ vs H Q E, sp' vs H Q E → sp vs H Q E) : FnOk P w K mg base CX k f fd ps sp' :=
  ⟨fun vs H Q E q => F.len vs H Q E (h _ _ _ _ q), fun A outer s H args us vs Q E hr he hb hv hs => F.run A outer s H args us vs Q E hr he hb hv (h _ _ _ _ hs)⟩
theorem Env0.make {P : Program} {w : World} {K : PySem.W.Frag} {mg : Str → Option Value} {base : Heap} {A : Around} {outer : List Env} {s : Shared} {H : Hp} (e : Env0 P w K mg base A outer s H) (C : Addr) (us : List Value) (kw : List (Str × Value)) :
    Env0 P w K mg base (A.under (.builtin "type.__call__" ⟨.ref C :: us, kw⟩)) outer s H := ⟨by first | exact e.frames | (simpa [Around.under, Code.envs, Code.isFrame, pushEnvs] using e.frames), e.mod, e.bs, e.bsz, e.funs, e.frf, e.hok, e.bare⟩
theorem Env0.in1 {P : Program} {w : World} {K : PySem.W.Frag} {mg : Str → Option Value} {base : Heap} {A : Around} {outer : List Env} {s : Shared} {H : Hp} (e : Env0 P w K mg base A outer s H) :
    Env0 P w K mg base A.in1 outer s H := ⟨e.frames, e.mod, e.bs, e.bsz, e.funs, e.frf, e.hok, e.bare⟩
section
variable {X : Cx} {pins : List (Addr × Obj)} {σ : St} {H : Hp} {s s' : Shared}
theorem Inv.env0 (I : Inv X pins σ H s) : Env0 X.prog X.w X.K X.mg X.base X.A X.stack s H :=
  ⟨I.ok.frames, I.ok.mod, I.bs, Nat.le_trans I.ok.bsz I.sz, I.stack, I.stkFree, I.hok, I.bare⟩
theorem Inv.after {Q : VK} {u : Value} (I : Inv X pins σ H s) (h : CE X.stack X.prog X.w H s Q u s') : EP X pins σ Q u s' := by
  obtain ⟨v, H', os, bare, un, hok, r, q⟩ := h
  obtain ⟨hh, g, d, t, os'⟩ := s'
  obtain rfl : os' = s.os := os
  exact ⟨v, H', I.call (h' := hh) (g' := g) (d' := d) (t' := t) (ch := []) un hok bare (fun b z => absurd z (by simp)), r, q⟩
end
def Binds (K : PySem.W.Frag) (fd : FuncData) (ps : List Str) (ds : List Value) : Prop :=
  ∀ (s : Shared) (us : List Value), K.In s.heap → (us ++ ds).length = ps.length → BindsTo s fd ⟨us, []⟩ (ps.zip (us ++ ds))
theorem Binds.all {K : PySem.W.Frag} {fd : FuncData} {ps : List Str} (h : ∀ us : List Value, us.length = ps.length → bindArgs fd ⟨us, []⟩ = pure (ps.zip us)) : Binds K fd ps [] := fun s us _ hl => by
  rw [List.append_nil] at hl ⊢
  exact .of_eq (h us hl)
section
variable {X : Cx} {CX : CXT} {k : Nat} {f C : Addr} {fd : FuncData} {ps : List Str} {sp : Sp} {dvs : List V} {ds : List Value} {E : XK} {x m : Str} {p pos apos : Pos} {e o : Expr} {es : List Expr} {ta : TE} {t : TA}
end
section
variable {X : Cx} {CX : CXT} {k : Nat} {f C : Addr} {fd : FuncData} {ps ks : List Str} {sp : Sp} {E : XK} {x m : Str} {p pos apos kpos : Pos} {e o : Expr} {es : List Expr} {kws : List Keyword} {te ta : TE} {t tk : TA} {nm : Option Str}
variable {g : List Value → List Value → List Value} {gV : List V → List V → List V}
end
structure FnScope (N P : List Str) (sc : Scope) : Prop where
  kind : sc.kind = .function
  co : sc.isCoroutine = false
  gen : sc.isGenerator = false
  nd : N.Nodup
  pre : N.take P.length = P
  par : ∀ x ∈ P, sc.names.lookup x = some .local ∨ sc.names.lookup x = some .cell
  nofree : ∀ y ∈ sc.names, y.2 ≠ .free
theorem bindL_out {kindOf : Str → Option NameKind} {x : Str} : ∀ {binds : List (Str × Value)} {m : Str → Option Value}, (∀ v, (x, v) ∉ binds) → bindL kindOf binds m x = m x
  | [], _, _ => rfl
  | (n, v) :: r, m, h => by
    unfold bindL
    rw [bindL_out fun w hw => h w (List.mem_cons_of_mem _ hw)]
    split
    · have : x ≠ n := by rintro rfl; exact h v List.mem_cons_self
      simp [this]
    · rfl
theorem bindC_out {kindOf : Str → Option NameKind} {x : Str} : ∀ {binds : List (Str × Value)} {m : Str → Option Value}, (∀ v, (x, v) ∉ binds) → bindC kindOf binds m x = m x
  | [], _, _ => rfl
  | (n, v) :: r, m, h => by
    unfold bindC
    rw [bindC_out fun w hw => h w (List.mem_cons_of_mem _ hw)]
    split
    · rfl
    · have : x ≠ n := by rintro rfl; exact h v List.mem_cons_self
      simp [this]
theorem bindL_get {kindOf : Str → Option NameKind} {x : Str} {v : Value} : ∀ {P : List Str} {vs : List Value} {i : Nat} {m : Str → Option Value}, P.Nodup → P[i]? = some x → vs[i]? = some v → kindOf x = some .local →
    bindL kindOf (P.zip vs) m x = some v
  | [], _, _, _, _, h, _, _ => by simp at h
  | _ :: _, [], _, _, _, _, h, _ => by simp at h
  | p :: P, w :: vs, 0, m, nd, h1, h2, hk => by
    simp at h1 h2; subst h1; subst h2
    show bindL kindOf ((p, w) :: P.zip vs) m p = _
    unfold bindL
    rw [bindL_out fun v hv => (List.nodup_cons.mp nd).1 (List.of_mem_zip hv).1, if_pos hk]
    simp
  | p :: P, w :: vs, i + 1, m, nd, h1, h2, hk => by
    show bindL kindOf ((p, w) :: P.zip vs) m x = _
    unfold bindL
    exact bindL_get (i := i) (List.nodup_cons.mp nd).2 (by simpa using h1) (by simpa using h2) hk
theorem bindC_get {kindOf : Str → Option NameKind} {x : Str} {v : Value} : ∀ {P : List Str} {vs : List Value} {i : Nat} {m : Str → Option Value}, P.Nodup → P[i]? = some x → vs[i]? = some v → kindOf x ≠ some .local →
    bindC kindOf (P.zip vs) m x = some v
  | [], _, _, _, _, h, _, _ => by simp at h
  | _ :: _, [], _, _, _, _, h, _ => by simp at h
  | p :: P, w :: vs, 0, m, nd, h1, h2, hk => by
    simp at h1 h2; subst h1; subst h2
    show bindC kindOf ((p, w) :: P.zip vs) m p = _
    unfold bindC
    rw [bindC_out fun v hv => (List.nodup_cons.mp nd).1 (List.of_mem_zip hv).1, if_neg hk]
    simp
  | p :: P, w :: vs, i + 1, m, nd, h1, h2, hk => by
    show bindC kindOf ((p, w) :: P.zip vs) m x = _
    unfold bindC
    exact bindC_get (i := i) (List.nodup_cons.mp nd).2 (by simpa using h1) (by simpa using h2) hk
def start (N : List Str) (vs : List V) : St := vs.map some ++ List.replicate (N.length - vs.length) none
def cxOf (CX : CXT) (P : Program) (w : World) (K : PySem.W.Frag) (mg : Str → Option Value) (base : Heap) (N : List Str) (qual : Str) (scope : Scope) (f : Addr) (cd : Value) (A : Around) (outer : List Env) (s : Shared) (H : Hp) (E : XK) : Cx where
  prog := P
  w := w
  K := K
  mg := mg
  base := base
  A := A.deeper (envOfC qual scope s.heap.objs.size f cd)
  N := N
  s₀ := s
  H₀ := H
  env := envOfC qual scope s.heap.objs.size f cd
  outer := outer
  stack := envOfC qual scope s.heap.objs.size f cd :: outer
  ex := []
  calm := true
  fn := fun _ => true
  pn := []
  xe := fun e s' => wpAny (model P w) (A.deeper (envOfC qual scope s.heap.objs.size f cd)) (leaving (envOfC qual scope s.heap.objs.size f cd) e) (fun _ s'' => CX outer H s E e s'') (fun e' s'' => CX outer H s E e' s'') s'
theorem cell_has {sc : Scope} {n : Nat} {x : Str} (h : sc.names.lookup x = some .cell) : ∃ c, (cellsFrom n sc.names []).lookup x = some c := by
  have q := PySem.W.cellsFrom_some sc.names n [] (.inl h)
  exact Option.isSome_iff_exists.mp q
theorem inv_start {CX : CXT} {P : Program} {w : World} {K : PySem.W.Frag} {mg : Str → Option Value} {base : Heap} {N ps : List Str} {qual : Str} {scope : Scope} {f : Addr} {cd : Value} {A : Around} {outer : List Env} {s s1 : Shared} {H : Hp} {E : XK} {us : List Value} {vs : List V}
    (S : FnScope N ps scope) (hd : A.handled = none) (e0 : Env0 P w K mg base A outer s H) (hl : vs.length = ps.length) (r : Vals vs us)
    (x : InCallC s s.heap.objs.size (bindL (envOfC qual scope s.heap.objs.size f cd).kindOf (ps.zip us) fun _ => none) (cellsFrom (s.heap.objs.size + 1) scope.names []) (bindC (envOfC qual scope s.heap.objs.size f cd).kindOf (ps.zip us) fun _ => none) s1) :
    Inv (cxOf CX P w K mg base N qual scope f cd A outer s H E) [] (start N vs) H s1 := by
  have hpl : ps.length ≤ N.length := by have := congrArg List.length S.pre; rw [List.length_take] at this; omega
  obtain ⟨h1, tk, rfl, hk⟩ := x.done
  have noA : ∀ b : Addr, b ∉ (cxOf CX P w K mg base N qual scope f cd A outer s H E).ex := fun b z => absurd (show b ∈ ([] : List Addr) from z) (by simp)
  refine ⟨⟨e0.mod, S.kind, rfl, rfl, Nat.le_refl _, fun y z c h1 h2 => ?_, fun y hy => ?_, fun y c _ h => ?_, fun _ => hd, Around.frames_deeper e0.frames, .inr ⟨rfl, rfl⟩, fun b z => absurd z (noA b), e0.bs, e0.bsz, fun b _ _ => noA b, fun b z => absurd z (noA b), e0.funs, e0.frf⟩,
    rfl, e0.bare, Un.kept hk, ⟨_, x.toInCall.ns, fun i y v h1 h2 h3 => ?_⟩, fun y c h => ⟨_, x.cell y c h⟩, e0.hok.fresh (Nat.le_refl _), fun y c h => ?_, fun p hp => absurd (show p ∈ ([] : List (Addr × Obj)) from hp) (by simp), e0.hok.kept hk, ?_⟩
  · exact name_of_addr x.apart (PySem.mem_of_lookup h1) (PySem.mem_of_lookup h2)
  · have hy : scope.names.lookup y = some .cell ∨ scope.names.lookup y = some .free := hy
    rcases hy with hy | hy
    · exact cell_has hy
    · exact absurd rfl (S.nofree _ (PySem.mem_of_lookup hy))
  · exact Nat.le_of_lt (x.above y c (PySem.mem_of_lookup h))
  · have hi : i < vs.length := by
      unfold start at h2
      by_cases hi : i < vs.length
      · exact hi
      · rw [List.getElem?_append_right (by simpa using hi)] at h2
        rw [List.getElem?_replicate] at h2
        split at h2 <;> cases h2
    have ha : vs[i]? = some v := by
      unfold start at h2
      rw [List.getElem?_append_left (by simpa using hi), List.getElem?_map] at h2
      cases e : vs[i]? with
      | none => rw [e] at h2; cases h2
      | some a => rw [e] at h2; cases h2; rfl
    obtain ⟨u, hu, rv⟩ := r.get ha
    have hp : ps[i]? = some y := by
      rw [← S.pre, List.getElem?_take_of_lt (by omega)]; exact h1
    have ndP : ps.Nodup := by rw [← S.pre]; exact S.nd.sublist (List.take_sublist _ _)
    refine ⟨u, rv, ?_⟩
    rcases S.par y (List.mem_of_getElem? hp) with k | k
    · exact .inl ⟨k, bindL_get ndP hp hu k⟩
    · obtain ⟨c, e⟩ := cell_has (n := s.heap.objs.size + 1) k
      refine .inr ⟨.inl k, c, e, ?_⟩
      have q := x.cell y c e
      rw [bindC_get ndP hp hu (by show scope.names.lookup y ≠ _; rw [k]; decide)] at q
      exact q
  · exact e0.hok.fresh (Nat.le_of_lt (x.above y c (PySem.mem_of_lookup h)))
  · unfold start
    show _ = N.length
    rw [List.length_append, List.length_map, List.length_replicate]
    omega
theorem fn_of {CX : CXT} {P : Program} {w : World} {K : PySem.W.Frag} {mg : Str → Option Value} {base : Heap} {k : Nat} {f : Addr} {name qual : Str} {params : Arguments} {body : List Stmt} {scope : Scope} {dV kV doc pm cdv ct oc : Value} {an od : Option Addr}
    {osl : Array (Option Value)} {N ps : List Str} {sp : Sp} (lk : K.lookup f = some ⟨oc, od, .func (PySem.W.fnOf name qual params body scope dV kV doc pm an cdv ct), osl⟩) (hcd : PySem.W.codeIn K cdv qual = true) (S : FnScope N ps scope)
    (len : ∀ vs H Q E, sp vs H Q E → vs.length = ps.length)
    (hbody : ∀ (A : Around) (outer : List Env) (s : Shared) (H : Hp) (vs : List V) (Q : VK) (E : XK), Room k (A.deeper (envOfC qual scope s.heap.objs.size f cdv)) → sp vs H Q E →
      ∃ t, PSs (cxOf CX P w K mg base N qual scope f cdv A outer s H E) body t ∧ t { nx := fun _ H' => Q .non H', rt := Q } (start N vs) H) :
    FnOk P w K mg base CX (k + 1) f (PySem.W.fnOf name qual params body scope dV kV doc pm an cdv ct) ps sp := by
  refine ⟨len, fun A outer s H args us vs Q E hr e0 hb r hsp => ?_⟩
  have hl := len _ _ _ _ hsp
  have KX : K.In s.heap := e0.mod.kin.keeps fun b o e => (e0.bs b o e).1
  have lim : s.heap.NoLimit := e0.mod.nolimit.keeps fun b o e => (e0.bs b o e).1
  have hkind : ∀ y ∈ ps.zip us, scope.names.lookup y.1 = some .local ∨ (scope.names.lookup y.1 = some .cell ∧ ((cellsFrom (s.heap.objs.size + 1) scope.names []).lookup y.1).isSome = true) := fun ⟨n, v⟩ hy => by
    rcases S.par n (List.of_mem_zip hy).1 with q | q
    · exact .inl q
    · exact .inr ⟨q, PySem.W.cellsFrom_some _ _ _ (.inl q)⟩
  refine codeAny_call_function hr.depth (KX _ _ lk) rfl S.co S.gen rfl (PySem.W.codeRec_of KX hcd) (hb _ _ _ _ ?_)
  refine wpAny_newFunctionEnv_cells S.kind hkind fun env he s1 x => ?_
  subst he
  refine ⟨lim.keeps x.toInCall.keep, codeAny_func ?_⟩
  obtain ⟨t, ht, hq⟩ := hbody A outer s H vs Q E (hr.deeper _) hsp
  have I : Inv (cxOf CX P w K mg base N qual scope f cdv A outer s H E) [] (start N vs) H s1 := inv_start S hr.hd e0 hl r x
  refine wpAny_mono (ht [] s1 (start N vs) H _ I hq) (fun fl s' hs => ?_) fun e s' hs => hs
  have fin : ∀ {σ' : St} {H' : Hp} {v : V} {u : Value}, Inv (cxOf CX P w K mg base N qual scope f cdv A outer s H E) [] σ' H' s' → RelV v u → Q v H' → CE outer P w H s Q u s' :=
    fun {σ' H' v u} J rv q => ⟨v, H', J.os, J.bare, J.base, J.hok, rv, q⟩
  cases fl with
  | ret u =>
    obtain ⟨v, σ', H', J, rv, q⟩ := hs
    exact fin J rv q
  | next =>
    obtain ⟨σ', H', J, q⟩ := hs
    exact fin (v := V.non) (u := Value.none) J rfl q
  | brk =>
    obtain ⟨_, _, _, q⟩ := hs
    exact False.elim q
  | cont =>
    obtain ⟨_, _, _, q⟩ := hs
    exact False.elim q
end L2
namespace L2
open PySem PySem.Spec PyProof.Rows
section
variable {X : Cx} {x : Str} {p pos : Pos} {e : Expr} {es : List Expr} {t : TA} {id T : String} {r : List V → Hp → VK → Prop}
def tCB (r : List V → Hp → VK → Prop) (t : TA) : TE := fun σ H Q => t σ H fun vs H1 => r vs H1 Q
theorem pe_callB (hc : CallR X (.builtin id) r) (hg : Gl X x) (hm : X.mg x = none) (hv : bootBuiltins x = some (.builtin id)) (ha : PA X (e :: es) t) (hn : x ≠ "__name__" := by decide) (hdb : (x == ("__debug__" : Str)) = false := by decide)
    (he : starEach (e :: es) X.env = (false, eval e X.env) :: starEach es X.env := by rfl) (hpl : (backTo pos (starEach es X.env)).any (·.1) = false := by rfl) : PE X (.Call (.Name x p) (e :: es) [] pos) (tCB r t) := by
  intro pins s σ H Q I h
  refine wpAny_Call_Name_kw (ld_blt I hg hm hv ?_ hn hdb)
  exact PyProof.Rows.callWith_builtin1 (thn (ha pos pins s σ H _ I h) fun us s1 ⟨vs, H1, I1, r1, q1⟩ => hc pins s1 σ H1 vs us Q I1 r1 q1) he hpl
theorem pe_callTy (hc : CallR X (.type T) r) (hg : Gl X x) (hm : X.mg x = none) (hv : bootBuiltins x = some (.type T)) (ha : PA X (e :: es) t) (hn : x ≠ "__name__" := by decide) (hdb : (x == ("__debug__" : Str)) = false := by decide)
    (he : starEach (e :: es) X.env = (false, eval e X.env) :: starEach es X.env := by rfl) (hpl : (backTo pos (starEach es X.env)).any (·.1) = false := by rfl) : PE X (.Call (.Name x p) (e :: es) [] pos) (tCB r t) := by
  intro pins s σ H Q I h
  refine wpAny_Call_Name_kw (ld_blt I hg hm hv ?_ hn hdb)
  exact PyProof.Rows.callWith_type1 (thn (ha pos pins s σ H _ I h) fun us s1 ⟨vs, H1, I1, r1, q1⟩ => hc pins s1 σ H1 vs us Q I1 r1 q1) he hpl
end
end L2
namespace HT
open PySem PyProof.Rows
section
open PySem.SeqAt
open PySem.AutoSeq1 (wpAny_loadPart')
open PySem.MeetsSeq PySem.MeetsSeq2 PySem.MeetsSeq3
end
section
variable {prog : Program} {w : World} {A : Around} {E : Value → Shared → Prop} {s : Shared}
theorem cat_tup {t b : Addr} {vs ws : List Value} {Q : Value → Shared → Prop} (ht : IsTup s.heap t vs.toArray) (hb : IsTup s.heap b ws.toArray) (hv : vs ≠ [])
    (h1 : ws = [] → Q (.ref t) s) (h2 : ws ≠ [] → Q (.ref s.heap.objs.size) { s with heap := s.heap.push { cls := .type "tuple", data := .seq (vs ++ ws).toArray } })
    (hsz : vs.length + ws.length ≤ sizeLine) : wpAny (model prog w) A (binaryOp .Add (.ref t) (.ref b)) Q E s := by
  obtain ⟨⟨cls, dd, data, sl⟩, ho, hc, n, hd⟩ := id ht
  obtain ⟨⟨cls2, dd2, data2, sl2⟩, ho2, hc2, n2, hd2⟩ := id hb
  simp only at hc hd hc2 hd2
  subst hc hd hc2 hd2
  have e : vs.toArray ++ ws.toArray = (vs ++ ws).toArray := by simp
  by_cases hw : ws = []
  · exact concat_meets ⟨_, ho, rfl⟩ ⟨_, ho2, rfl⟩ noFill_tuple_add seq_tuple_add PySem.F.slot_tuple_add PySem.F.entry_tuple_add (PySem.F.args_tuple_add_2 _ _)
      (tuple_addW1 t b vs.toArray ws.toArray n n2 dd dd2 sl sl2 (by simpa using hv) (by simp [hw])) ⟨ho, ho2, h1 hw⟩
  · refine concat_meets ⟨_, ho, rfl⟩ ⟨_, ho2, rfl⟩ noFill_tuple_add seq_tuple_add PySem.F.slot_tuple_add PySem.F.entry_tuple_add (PySem.F.args_tuple_add_2 _ _)
      (tuple_addW2 t b vs.toArray ws.toArray n n2 dd dd2 sl sl2 (by simpa using hv) (by simpa using hw) (by rw [List.size_toArray, List.size_toArray]; exact hsz)) ⟨ho, ho2, ?_⟩
    rw [e]
    exact h2 hw
def sIx (n d : Nat) : Option Int → Nat
  | none => d
  | some v => if v < 0 then (v + (n : Int)).toNat else min v.toNat n
theorem sIx_le (n d : Nat) (hd : d ≤ n) (o : Option Int) : sIx n d o ≤ n := by
  cases o with
  | none => exact hd
  | some v =>
    show (if v < 0 then (v + (n : Int)).toNat else min v.toNat n) ≤ n
    by_cases hv : v < 0
    · rw [if_pos hv]; omega
    · rw [if_neg hv]; exact Nat.min_le_right _ _
theorem clip_eq (v : Int) (n d : Nat) : (if v < 0 then max (v + (n : Int)) 0 else min v (n : Int)) = ((sIx n d (some v) : Nat) : Int) := by
  show (if v < 0 then max (v + (n : Int)) 0 else min v (n : Int)) = (((if v < 0 then (v + (n : Int)).toNat else min v.toNat n) : Nat) : Int)
  by_cases hv : v < 0
  · simp only [if_pos hv]; omega
  · simp only [if_neg hv]; omega
theorem adjust_gen (lo hi : Option Int) (n : Nat) : Builtin.Slice.sliceAdjust lo hi 1 (n : Int) = (((sIx n 0 lo : Nat) : Int), ((sIx n n hi : Nat) : Int)) := by
  have h1 : ¬ ((1 : Int) < 0) := by omega
  unfold Builtin.Slice.sliceAdjust
  simp only [h1, if_false]
  refine Prod.ext ?_ ?_
  · cases lo with
    | none => rfl
    | some v => exact clip_eq v n 0
  · cases hi with
    | none => rfl
    | some v => exact clip_eq v n n
theorem places_gen (i j : Nat) : Builtin.Slice.slicePlaces (i : Int) (j : Int) 1 = j - i := by
  unfold Builtin.Slice.slicePlaces
  have h1 : (1 : Int) > 0 := by omega
  simp only [h1, if_true, Int.ediv_one]
  split <;> omega
theorem slicePart_ {v : Value} {o : Option Int} {Q : Option Int → Shared → Prop} (p : IsPart v o) (h : Q o s) : wpAny (model prog w) A (Builtin.Slice.slicePartIndex v) Q E s := by
  cases p with
  | none => exact slicePart_none h
  | int i t => exact slicePart_int h
theorem sliceApplied_gen {sl : Addr} {vl vu : Value} {lo hi : Option Int} {n : Nat} {Q : Int × Int × Nat → Shared → Prop} (hs : s.heap.IsSliceOf sl vl vu .none) (pl : IsPart vl lo) (pu : IsPart vu hi)
    (h : Q (((sIx n 0 lo : Nat) : Int), 1, sIx n n hi - sIx n 0 lo) s) : wpAny (model prog w) A (Builtin.Slice.sliceApplied (.ref sl) (pure (n : Int))) Q E s := by
  obtain ⟨os, hos, hcs, hds⟩ := id hs
  unfold Builtin.Slice.sliceApplied Builtin.Slice.sliceFields
  refine wpAny_bind (wpAny_bind (wpAny_field hos hds (x := vl) rfl (wpAny_bind (wpAny_field hos hds (x := vu) rfl (wpAny_bind (wpAny_field hos hds (x := .none) rfl (wpAny_pure ?_)))))))
  refine wpAny_bind (slicePart_none ?_)
  show wpAny _ _ (if ((1 : Int) == 0) = true then _ else _) _ _ s
  rw [if_neg (by decide)]
  refine wpAny_bind (slicePart_ pl (wpAny_bind (slicePart_ pu (wpAny_bind (wpAny_pure ?_)))))
  show wpAny _ _ (match Builtin.Slice.sliceAdjust lo hi 1 (n : Int) with | (lo, hi) => pure (lo, (1 : Int), Builtin.Slice.slicePlaces lo hi 1)) _ _ s
  rw [adjust_gen lo hi n]
  show wpAny _ _ (pure (((sIx n 0 lo : Nat) : Int), (1 : Int), Builtin.Slice.slicePlaces ((sIx n 0 lo : Nat) : Int) ((sIx n n hi : Nat) : Int) 1)) _ _ s
  rw [places_gen]
  exact wpAny_pure h
theorem pick_gen (xs : Array Value) (i k : Nat) : ((List.range k).filterMap fun (m : Nat) => xs[((i : Int) + (m : Int) * 1).toNat]?).toArray = ((xs.toList.drop i).take k).toArray := by
  have e : (fun (m : Nat) => xs[((i : Int) + (m : Int) * 1).toNat]?) = fun m => xs[i + m]? := by
    funext m
    have : ((i : Int) + (m : Int) * 1).toNat = i + m := by omega
    rw [this]
  rw [e]
  have := pick_run xs i k
  rw [List.filterMap_map] at this
  have e2 : ((fun x => xs[x]?) ∘ fun x => i + x) = fun m => xs[i + m]? := rfl
  rw [e2] at this
  rw [this]
theorem getItem_tuple_cut {t sl : Addr} {items : Array Value} {vl vu : Value} {lo hi : Option Int} {Q : Value → Shared → Prop} (ht : IsTup s.heap t items) (hs : s.heap.IsSliceOf sl vl vu .none) (pl : IsPart vl lo) (pu : IsPart vu hi)
    (hw : ¬ (sIx items.size 0 lo = 0 ∧ sIx items.size items.size hi = items.size))
    (h : Q (.ref s.heap.objs.size) { s with heap := s.heap.push { cls := .type "tuple", data := .seq ((items.toList.drop (sIx items.size 0 lo)).take (sIx items.size items.size hi - sIx items.size 0 lo)).toArray } })
    (hsz : items.size ≤ sizeLine) : wpAny (model prog w) A (getItem (.ref t) (.ref sl)) Q E s := by
  have htake : sizeOk (.seq ((items.toList.drop (sIx items.size 0 lo)).take (sIx items.size items.size hi - sIx items.size 0 lo)).toArray) := by
    show ((items.toList.drop (sIx items.size 0 lo)).take (sIx items.size items.size hi - sIx items.size 0 lo)).toArray.size ≤ sizeLine
    rw [List.size_toArray, List.length_take, List.length_drop, Array.length_toList]
    omega
  have hj : sIx items.size items.size hi ≤ items.size := sIx_le _ _ (Nat.le_refl _) hi
  obtain ⟨os, hos, hcs, hds⟩ := id hs
  have hTs : s.TypeIs (.ref sl) "slice" := ⟨os, hos, hcs⟩
  unfold getItem
  try with_reducible refine wpAny_holding ?_
  first | refine wpAny_bind (wpAny_pure ?_) | skip
  refine wpAny_bind (wpAny_sequenceKey ht.typeIs (by decide) ?_)
  refine wpAny_bind (wpAny_callSpecial?_slot (name := Str.ofString "__getitem__") ht.typeIs PyProof.Rows.slot_tuple_getitem
    (wpAny_call_entry PyProof.Rows.slot_tuple_getitem ht.typeIs entry_tuple_getitem ?_ (args_tuple_getitem _ _)))
  show wpAny _ _ (Builtin.Tuple.tupleItemsOf (.ref t) >>= _) _ _ s
  refine wpAny_bind (tupleItemsOf_ ht ?_)
  refine wpAny_bind (wpAny_typeOf hTs ?_)
  rw [if_pos (by decide)]
  refine wpAny_bind (sliceApplied_gen hs pl pu ?_)
  have hno : ¬ ((((sIx items.size 0 lo : Nat) : Int) == 0 && (1 : Int) == 1 && (sIx items.size items.size hi - sIx items.size 0 lo) == items.size) = true) := by
    intro q
    rw [Bool.and_eq_true, Bool.and_eq_true] at q
    have q1 : ((sIx items.size 0 lo : Nat) : Int) = 0 := eq_of_beq q.1.1
    have q2 : sIx items.size items.size hi - sIx items.size 0 lo = items.size := eq_of_beq q.2
    exact hw ⟨by omega, by omega⟩
  show wpAny _ _ (if (((sIx items.size 0 lo : Nat) : Int) == 0 && (1 : Int) == 1 && (sIx items.size items.size hi - sIx items.size 0 lo) == items.size) = true then _ else _) _ _ s
  rw [if_neg hno, pick_gen]
  first
    | exact wpAny_bind (m := Builtin.Tuple.tupleExact _) (wpAny_newObj_type (wpAny_pure ⟨_, rfl, wpAny_pure h⟩) htake)
    | exact wpAny_bind (m := Builtin.Tuple.tupleExact _) (wpAny_newObj_type (wpAny_bind (wpAny_pure (wpAny_pure ⟨_, rfl, wpAny_pure h⟩))) htake)
    | exact wpAny_bind (wpAny_bind (m := Builtin.Tuple.tupleExact _) (wpAny_newObj_type (wpAny_pure (wpAny_pure ⟨_, rfl, wpAny_pure h⟩)) htake))
    | exact wpAny_bind (wpAny_bind (m := Builtin.Tuple.tupleExact _) (wpAny_newObj_type (wpAny_pure ⟨_, rfl, wpAny_pure h⟩) htake))
end
end HT
namespace L2
open PySem PySem.Spec PyProof.Rows
abbrev TO := St → Hp → (Option Int → Hp → Prop) → Prop
def PO (X : Cx) (e : Option Expr) (t : TO) : Prop :=
  ∀ (pins : List (Addr × Obj)) (s : Shared) (σ : St) (H : Hp) (Q : Option Int → Hp → Prop), Inv X pins σ H s → t σ H Q →
    wpAny (model X.prog X.w) X.A (evalPart e X.env) (fun u s' => ∃ o H', Inv X pins σ H' s' ∧ IsPart u o ∧ Q o H') X.xe s
def tNoPart : TO := fun _ H Q => Q none H
def tPart (t : TE) : TO := fun σ H Q => t σ H fun x H1 => ∃ i, x = .int i ∧ Q (some i) H1
section
variable {X : Cx} {e : Expr} {te : TE} {lo hi : Option Expr} {tl th : TO} {pos p2 : Pos}
theorem po_none : PO X none tNoPart := by
  intro pins s σ H Q I h
  rw [evalPart_none]
  exact wpAny_pure ⟨none, H, I, .none, h⟩
theorem po_some (h : PE X e te) : PO X (some e) (tPart te) := by
  intro pins s σ H Q I hw
  rw [evalPart_some]
  refine thn (h pins s σ H _ I hw) fun u s1 ⟨x, H1, I1, r1, q1⟩ => ?_
  obtain ⟨i, rfl, q⟩ := q1
  obtain ⟨t, rfl⟩ := r1
  exact ⟨some i, H1, I1, .int i t, q⟩
def SlR (X : Cx) (r : V → Option Int → Option Int → Hp → VK → Prop) : Prop :=
  ∀ (pins : List (Addr × Obj)) (s : Shared) (σ : St) (H : Hp) (x : V) (v vl vu : Value) (lo hi : Option Int) (sl : Addr) (Q : VK), Inv X pins σ H s → RelV x v → s.heap.IsSliceOf sl vl vu .none → IsPart vl lo → IsPart vu hi → r x lo hi H Q →
    ∃ T id, typeLookup (.type T) "__getitem__" = pure (some (.builtin id)) ∧ s.TypeIs v T ∧ wpAny (model X.prog X.w) X.A (getItem v (.ref sl)) (EP X pins σ Q) X.xe s
theorem SlR.or {r r' : V → Option Int → Option Int → Hp → VK → Prop} (h : SlR X r) (h' : SlR X r') : SlR X (fun x lo hi H Q => r x lo hi H Q ∨ r' x lo hi H Q) := by
  intro pins s σ H x v vl vu lo hi sl Q I rx hs pl pu q
  rcases q with q | q
  · exact h pins s σ H x v vl vu lo hi sl Q I rx hs pl pu q
  · exact h' pins s σ H x v vl vu lo hi sl Q I rx hs pl pu q
def tSl (r : V → Option Int → Option Int → Hp → VK → Prop) (te : TE) (tl th : TO) : TE := fun σ H Q => te σ H fun x H1 => tl σ H1 fun l H2 => th σ H2 fun u H3 => r x l u H3 Q
theorem pe_slice {r : V → Option Int → Option Int → Hp → VK → Prop} (hr : SlR X r) (he : PE X e te) (hl : PO X lo tl) (hu : PO X hi th) : PE X (.Subscript e (.Slice lo hi none p2) pos) (tSl r te tl th) := by
  intro pins s σ H Q I h
  refine Subscript_ (thn (he pins s σ H _ I h) fun v s1 ⟨x, H1, I1, r1, q1⟩ => ?_)
  refine wpAny_Slice (thn (hl pins s1 σ H1 _ I1 q1) fun vl s2 ⟨l, H2, I2, pl, q2⟩ => thn (hu pins s2 σ H2 _ I2 q2) fun vu s3 ⟨u, H3, I3, pu, q3⟩ => ?_)
  rw [evalPart_none]
  refine wpAny_pure ?_
  have I4 : Inv X pins σ H3 { s3 with heap := s3.heap.push { cls := .type "slice", data := .fields #[vl, vu, .none] } } := I3.kept (t' := s3.toks) fun b ob q => Heap.get?_push_of_some _ q
  obtain ⟨T, id, hT, ht, hg⟩ := hr pins { s3 with heap := s3.heap.push { cls := .type "slice", data := .fields #[vl, vu, .none] } } σ H3 x v vl vu l u s3.heap.objs.size Q I4 r1 (Heap.IsSliceOf.new ..) pl pu q3
  show wpAny (model X.prog X.w) X.A (subscriptTail e (.Slice lo hi none p2) v (.ref s3.heap.objs.size)) (EP X pins σ Q) X.xe { s3 with heap := s3.heap.push { cls := .type "slice", data := .fields #[vl, vu, .none] } }
  exact tail_any (ops := [.ref s3.heap.objs.size, v]) ht hT hg (by with_unfolding_all rfl)
def cutV (xs : List V) (lo hi : Option Int) : List V := (xs.drop (HT.sIx xs.length 0 lo)).take (HT.sIx xs.length xs.length hi - HT.sIx xs.length 0 lo)
theorem cutV_length (xs : List V) (lo hi : Option Int) : (cutV xs lo hi).length ≤ xs.length := by
  unfold cutV
  rw [List.length_take, List.length_drop]
  omega
def rSlT (K : PySem.W.Frag) : V → Option Int → Option Int → Hp → VK → Prop := fun x lo hi H Q => ∃ a xs, x = .ref a ∧ SqT K H a xs ∧
  ¬ (HT.sIx xs.length 0 lo = 0 ∧ HT.sIx xs.length xs.length hi = xs.length) ∧ ∀ p, H p = none → Q (.ref p) (upd H p (.tup (cutV xs lo hi)))
theorem sl_tup : SlR X (rSlT X.K) := by
  intro pins s σ H x v vl vu lo hi sl Q I rx hs pl pu h
  obtain ⟨a, xs, rfl, hx, hw, q⟩ := h
  cases rx
  obtain ⟨its, r, ht, hz⟩ := I.tuple hx
  have hlen : its.toArray.size = xs.length := by rw [List.size_toArray]; exact r.length.symm
  refine ⟨"tuple", _, PyProof.Rows.slot_tuple_getitem.lookup, ht.typeIs, ?_⟩
  refine HT.getItem_tuple_cut ht hs pl pu (by rw [hlen]; exact hw) ?_ (by rw [hlen]; exact hz)
  rw [hlen]
  refine ⟨.ref s.heap.objs.size, _, I.laid (t' := s.toks) (o := .tup (cutV xs lo hi)) (fun b ob q => Heap.get?_push_of_some _ q) (Nat.le_refl _) ?_, rfl, q _ (I.hok.fresh (Nat.le_refl _))⟩
  exact ⟨Nat.le_trans (cutV_length xs lo hi) hz, _, (r.drop (HT.sIx xs.length 0 lo)).take (HT.sIx xs.length xs.length hi - HT.sIx xs.length 0 lo), IsTup.new _ _⟩
def rCatT (K : PySem.W.Frag) : R2 := fun x y H Q => ∃ a b xs ys, x = .ref a ∧ y = .ref b ∧ SqT K H a xs ∧ SqT K H b ys ∧ xs ≠ [] ∧ xs.length + ys.length ≤ sizeLine ∧
  (ys = [] → Q (.ref a) H) ∧ (ys ≠ [] → ∀ p, H p = none → Q (.ref p) (upd H p (.tup (xs ++ ys))))
theorem Vals.nil_iff {xs : List V} {us : List Value} (r : Vals xs us) : us = [] ↔ xs = [] := by
  cases r with
  | nil => simp
  | cons _ _ => simp
theorem op_catT : OpR X (binaryOp .Add) (rCatT X.K) := by
  intro pins s σ H x y v u Q I rx ry h
  obtain ⟨a, b, xs, ys, rfl, rfl, ha, hb, hx, hz, q1, q2⟩ := h
  cases rx
  cases ry
  obtain ⟨its, r1, p1, _⟩ := I.tuple ha
  obtain ⟨its2, r2, p2, _⟩ := I.tuple hb
  refine HT.cat_tup p1 p2 (fun z => hx (r1.nil_iff.mp z)) (fun z => ⟨.ref a, H, I, rfl, q1 (r2.nil_iff.mp z)⟩) (fun z => ?_) (by rw [← r1.length, ← r2.length]; exact hz)
  refine ⟨.ref s.heap.objs.size, _, I.laid (t' := s.toks) (o := .tup (xs ++ ys)) (fun b ob q => Heap.get?_push_of_some _ q) (Nat.le_refl _) ?_, rfl, q2 (fun w => z (r2.nil_iff.mpr w)) _ (I.hok.fresh (Nat.le_refl _))⟩
  exact ⟨by rw [List.length_append]; exact hz, _, r1.append r2, IsTup.new _ _⟩
end
end L2
namespace L2
open PySem PySem.Spec PyProof.Rows
def ixN (n : Nat) (i : Int) : Option Nat := if 0 ≤ i then (if i < n then some i.toNat else none) else if -(n : Int) ≤ i then some (i + n).toNat else none
def atI {α : Type} (xs : List α) (i : Int) : Option α := (ixN xs.length i).bind fun j => xs[j]?
theorem ixN_seq {n : Nat} {i : Int} {j : Nat} (h : ixN n i = some j) : seqIndex? i n = some j ∧ j < n ∧ -(n : Int) ≤ i ∧ i < n := by
  unfold ixN at h
  by_cases h0 : 0 ≤ i
  · rw [if_pos h0] at h
    by_cases h1 : i < n
    · rw [if_pos h1] at h
      have e : i.toNat = j := Option.some.inj h
      exact ⟨by rw [seqIndex_of h0 h1, e], by omega, by omega, h1⟩
    · rw [if_neg h1] at h; cases h
  · rw [if_neg h0] at h
    by_cases h1 : -(n : Int) ≤ i
    · rw [if_pos h1] at h
      have e : (i + n).toNat = j := Option.some.inj h
      exact ⟨by rw [seqIndex_neg (by omega) h1, e], by omega, h1, by omega⟩
    · rw [if_neg h1] at h; cases h
theorem atI_get {α : Type} {xs : List α} {i : Int} {v : α} (h : atI xs i = some v) : ∃ j, seqIndex? i xs.length = some j ∧ xs[j]? = some v ∧ j < xs.length ∧ -(xs.length : Int) ≤ i ∧ i < xs.length := by
  unfold atI at h
  cases e : ixN xs.length i with
  | none => rw [e] at h; cases h
  | some j =>
    rw [e] at h
    obtain ⟨h1, h2, h3, h4⟩ := ixN_seq e
    exact ⟨j, h1, h, h2, h3, h4⟩
def PlainIx (b : Expr) : Prop := ∀ o i, subscripted b false o i = operate [o, i] (getItem o i)
def IxR (X : Cx) (r : R2) : Prop :=
  ∀ (value slice : Expr) (pins : List (Addr × Obj)) (s : Shared) (σ : St) (H : Hp) (x y : V) (v u : Value) (Q : VK), Inv X pins σ H s → RelV x v → RelV y u → r x y H Q →
    subscripted slice false v u = operate [v, u] (getItem v u) → wpAny (model X.prog X.w) X.A (subscriptTail value slice v u) (EP X pins σ Q) X.xe s
def MtR (X : Cx) (id : String) (r : V → List V → Hp → VK → Prop) : Prop :=
  ∀ (pins : List (Addr × Obj)) (s : Shared) (σ : St) (H : Hp) (x : V) (xs : List V) (v : Value) (us : List Value) (Q : VK), Inv X pins σ H s → RelV x v → Vals xs us → r x xs H Q →
    wpAny (model X.prog X.w) X.A (call (.builtin id) (v :: us)) (EP X pins σ Q) X.xe s
section
variable {X : Cx} {a b : Expr} {ta tb : TE} {pos : Pos}
theorem IxR.or {r r' : R2} (h : IxR X r) (h' : IxR X r') : IxR X (fun x y H Q => r x y H Q ∨ r' x y H Q) := by
  intro value slice pins s σ H x y v u Q I rx ry q hs
  rcases q with q | q
  · exact h value slice pins s σ H x y v u Q I rx ry q hs
  · exact h' value slice pins s σ H x y v u Q I rx ry q hs
theorem pe_ix {r : R2} (hr : IxR X r) (ha : PE X a ta) (hb : PE X b tb) (hs : PlainIx b) : PE X (.Subscript a b pos) (tOp r ta tb) := by
  intro pins s σ H Q I h
  exact Subscript_ (binT ha hb I h fun v u s2 x y H2 I2 rx ry q => hr a b pins s2 σ H2 x y v u Q I2 rx ry q (hs _ _))
def rIxL (K : PySem.W.Frag) : R2 := fun x y H Q => ∃ p xs i v, x = .ref p ∧ y = .int i ∧ SqL K H p xs ∧ atI xs i = some v ∧ Q v H
def rIxT (K : PySem.W.Frag) : R2 := fun x y H Q => ∃ p xs i v, x = .ref p ∧ y = .int i ∧ SqT K H p xs ∧ atI xs i = some v ∧ Q v H
def rIxS : R2 := fun x y H Q => ∃ z i c, x = .str z ∧ y = .int i ∧ z.length ≤ sizeLine ∧ atI z.cps.toList i = some c ∧ Q (.str ⟨#[c]⟩) H
theorem ix_list : IxR X (rIxL X.K) := by
  intro value slice pins s σ H x y v u Q I rx ry h hs
  obtain ⟨p, xs, i, z, rfl, rfl, hq, he, q⟩ := h
  cases rx
  obtain ⟨t, rfl⟩ := ry
  obtain ⟨its, r, pl, hz⟩ := I.list hq
  obtain ⟨j, h1, h2, h3, h4, h5⟩ := atI_get he
  obtain ⟨w, ew, rw'⟩ := r.get h2
  have hl := r.length
  have hn := line63
  have fin : EP X pins σ Q w s := ⟨z, H, I, rw', q⟩
  by_cases h0 : 0 ≤ i
  · have hj : i.toNat = j := by
      rw [seqIndex_of h0 h5] at h1
      exact Option.some.inj h1
    exact item_listR pl.isList h0 (by omega) (by rw [hj]; simpa using ew) fin hs
  · have hj : (i + (its.toArray.size : Int)).toNat = j := by
      rw [seqIndex_neg (by omega) h4] at h1
      rw [List.size_toArray, ← hl]
      exact Option.some.inj h1
    exact subscriptTail_builtinR (x := w) pl.isList.typeIs slot_list_getitem.lookup
      (wpAny_getItem_list_neg (Q := fun r s' => r = w ∧ EP X pins σ Q r s') pl.isList (by omega) (by rw [List.size_toArray] <;> omega) (by omega) (by rw [hj]; simpa using ew) ⟨rfl, fin⟩) hs
theorem ix_tup : IxR X (rIxT X.K) := by
  intro value slice pins s σ H x y v u Q I rx ry h hs
  obtain ⟨p, xs, i, z, rfl, rfl, hq, he, q⟩ := h
  cases rx
  obtain ⟨t, rfl⟩ := ry
  obtain ⟨its, r, pl, hz⟩ := I.tuple hq
  obtain ⟨j, h1, h2, h3, h4, h5⟩ := atI_get he
  obtain ⟨w, ew, rw'⟩ := r.get h2
  have hl := r.length
  have hn := line63
  have fin : EP X pins σ Q w s := ⟨z, H, I, rw', q⟩
  exact subscriptTail_builtinR (x := w) pl.typeIs slot_tuple_getitem.lookup
    (getItem_tuple (j := j) (Q := fun r s' => r = w ∧ EP X pins σ Q r s') pl (by omega) (by omega) (by rw [List.size_toArray, ← hl]; exact h1) (by simpa using ew) ⟨rfl, fin⟩) hs
theorem ix_str : IxR X rIxS := by
  intro value slice pins s σ H x y v u Q I rx ry h hs
  obtain ⟨z, i, c, rfl, rfl, hz, he, q⟩ := h
  obtain ⟨t, rfl⟩ := rx
  obtain ⟨t', rfl⟩ := ry
  obtain ⟨j, h1, h2, h3, h4, h5⟩ := atI_get he
  have hl : z.cps.toList.length = z.length := by simp [Str.length]
  rw [hl] at h1 h4 h5
  have hn := line63
  exact tail_any (typeIs_str s z t) slot_str_getitem.lookup (getItem_str (c := c) (by
    have e1 : decide (i < -(2 ^ 63 : Int)) = false := decide_eq_false (by omega)
    have e2 : decide (i ≥ 2 ^ 63) = false := decide_eq_false (by omega)
    rw [e1, e2, Bool.or_false]) (by rw [h1]; simpa using h2) ⟨.str ⟨#[c]⟩, H, I.tok _, ⟨_, rfl⟩, q⟩) hs
def rIx (K : PySem.W.Frag) : R2 := fun x y H Q => rIxL K x y H Q ∨ rIxT K x y H Q ∨ rIxS x y H Q
theorem ix_seq : IxR X (rIx X.K) := ix_list.or (ix_tup.or ix_str)
theorem mapSeq_set (its : List Value) (n j : Nat) (u : Value) : Obj.mapSeq (·.setIfInBounds j u) { cls := .type "list", data := .seq its.toArray n } = { cls := .type "list", data := .seq (its.set j u).toArray n } := by
  simp [Obj.mapSeq]
theorem Inv.lst {pins : List (Addr × Obj)} {σ : St} {H : Hp} {s : Shared} {p : Addr} {xs : List V} (I : Inv X pins σ H s) (h : H p = some (.lst xs)) :
    ∃ (its : List Value) (n : Nat), Vals xs its ∧ s.heap.get? p = some { cls := .type "list", data := .seq its.toArray n } ∧ xs.length ≤ sizeLine := by
  obtain ⟨z, its, n, r, e⟩ := I.hok p _ h
  exact ⟨its, n, r, e, z⟩
theorem Inv.lstUpd {pins : List (Addr × Obj)} {σ : St} {H : Hp} {s : Shared} {p : Addr} {xs ys : List V} {its its' : List Value} {n n' : Nat} {f : Obj → Obj} (I : Inv X pins σ H s) (h : H p = some (.lst xs))
    (ho : s.heap.get? p = some { cls := .type "list", data := .seq its.toArray n }) (hf : f { cls := .type "list", data := .seq its.toArray n } = { cls := .type "list", data := .seq its'.toArray n' }) (r : Vals ys its') (hz : ys.length ≤ sizeLine) (t : Nat) :
    Inv X pins σ (upd H p (.lst ys)) { s with heap := s.heap.update p f, toks := t } := by
  have e : (s.heap.update p f).get? p = some { cls := .type "list", data := .seq its'.toArray n' } := by
    rw [Heap.get?_update_self f ho (by rw [hf] <;> rfl), hf]
  refine I.write (x := p) (e := p) (by rw [h]; trivial) (.inl rfl) (fun b u hb q => (Heap.get?_update_other _ _ (Ne.symm hb)).trans q) ⟨_, e⟩ ?_
  exact ⟨hz, its', n', r, e⟩
def rSetL : V → V → V → Hp → (Hp → Prop) → Prop := fun o i v H Q => ∃ p xs k j, o = .ref p ∧ i = .int k ∧ H p = some (.lst xs) ∧ ixN xs.length k = some j ∧ Q (upd H p (.lst (xs.set j v)))
theorem set_list : PSet X rSetL := by
  intro pins s σ H o i v ov iv u Q I ro ri rv h
  obtain ⟨p, xs, k, j, rfl, rfl, hp, hj, q⟩ := h
  cases ro
  obtain ⟨t, rfl⟩ := ri
  obtain ⟨its, n, r, ho, hz⟩ := I.lst hp
  obtain ⟨h1, h2, h3, h4⟩ := ixN_seq hj
  have hl := r.length
  have hn := line63
  have I' : Inv X pins σ (upd H p (.lst (xs.set j v))) { s with heap := s.heap.update p (Obj.mapSeq (·.setIfInBounds j u)) } :=
    I.lstUpd hp ho (mapSeq_set its n j u) (r.set rv j) (by rw [List.length_set]; exact hz) s.toks
  by_cases h0 : 0 ≤ k
  · have hk : k.toNat = j := by
      rw [seqIndex_of h0 h4] at h1
      exact Option.some.inj h1
    exact PySem.W.ki_setAt ho h0 (by omega) (by rw [List.size_toArray, ← hl]; exact h4) (by rw [hk]; exact ⟨_, I', q⟩)
  · have hk : (k + (its.toArray.size : Int)).toNat = j := by
      rw [seqIndex_neg (by omega) h3] at h1
      rw [List.size_toArray, ← hl]
      exact Option.some.inj h1
    exact PySem.W.ki_setBack ho (by omega) (by rw [List.size_toArray, ← hl]; exact h3) (by omega) (by rw [hk]; exact ⟨_, I', q⟩)
theorem slice_bounds (lo hi : Option Int) (n : Nat) : (sliceBounds lo hi none n).1 = ((HT.sIx n 0 lo : Nat) : Int) ∧ (sliceBounds lo hi none n).2.1 = ((HT.sIx n n hi : Nat) : Int) ∧ (sliceBounds lo hi none n).2.2 = 1 := by
  refine ⟨?_, ?_, rfl⟩
  · cases lo with
    | none => simp [sliceBounds, HT.sIx]
    | some i =>
      simp only [sliceBounds, HT.sIx, Option.getD_none, show (1 : Int) > 0 by decide, if_true]
      by_cases h : i < 0
      · simp only [h, if_true] <;> omega
      · simp only [h, if_false] <;> omega
  · cases hi with
    | none => simp [sliceBounds, HT.sIx]
    | some i =>
      simp only [sliceBounds, HT.sIx, Option.getD_none, show (1 : Int) > 0 by decide, if_true]
      by_cases h : i < 0
      · simp only [h, if_true] <;> omega
      · simp only [h, if_false] <;> omega
theorem slicePick_cut (its : List Value) (lo hi : Option Int) : slicePick its.toArray lo hi none = ((its.drop (HT.sIx its.length 0 lo)).take (HT.sIx its.length its.length hi - HT.sIx its.length 0 lo)).toArray := by
  obtain ⟨h1, h2, h3⟩ := slice_bounds lo hi its.toArray.size
  unfold slicePick
  rw [h1, h2, h3]
  simp only [sliceRange_one, pick_run, List.size_toArray] <;> rfl
def rSlL (K : PySem.W.Frag) : V → Option Int → Option Int → Hp → VK → Prop := fun x lo hi H Q => ∃ a xs, x = .ref a ∧ SqL K H a xs ∧ ∀ p, H p = none → Q (.ref p) (upd H p (.lst (cutV xs lo hi)))
theorem sl_list : SlR X (rSlL X.K) := by
  intro pins s σ H x v vl vu lo hi sl Q I rx hs pl pu h
  obtain ⟨a, xs, rfl, hx, q⟩ := h
  cases rx
  obtain ⟨its, r, ht, hz⟩ := I.list hx
  have hlen := r.length
  refine ⟨"list", _, slot_list_getitem.lookup, ht.isList.typeIs, ?_⟩
  refine wpAny_getItem_list_slice ht.isList hs pl pu .none (by simp) ?_ (by rw [List.size_toArray] <;> omega)
  rw [slicePick_cut, ← hlen]
  refine ⟨.ref s.heap.objs.size, _, I.laid (t' := s.toks) (o := .lst (cutV xs lo hi)) (fun b ob q => Heap.get?_push_of_some _ q) (Nat.le_refl _) ?_, rfl, q _ (I.hok.fresh (Nat.le_refl _))⟩
  exact ⟨Nat.le_trans (cutV_length xs lo hi) hz, _, 0, (r.drop (HT.sIx xs.length 0 lo)).take (HT.sIx xs.length xs.length hi - HT.sIx xs.length 0 lo), Heap.get?_push_size _ rfl⟩
def flatV : V → Bool
  | .non => true
  | .bl _ => true
  | .int _ => true
  | .str _ => true
  | _ => false
def eqV : V → V → Bool
  | .non, .non => true
  | .bl a, .bl b => a == b
  | .bl a, .int b => (if a then 1 else 0) == b
  | .int a, .bl b => a == (if b then 1 else 0)
  | .int a, .int b => a == b
  | .str a, .str b => a == b
  | _, _ => false
theorem eqAt_V {A : Around} {s : Shared} {y x : V} {u v : Value} (ry : RelV y u) (rx : RelV x v) (fy : flatV y = true) (fx : flatV x = true) : SeqAt.EqAt A s u v (eqV y x) := by
  cases y with
  | non =>
    cases ry
    cases x with
    | non => cases rx; exact SeqAt.EqAt.same _
    | bl b => cases rx; exact SeqAt.EqAt.none_bool b
    | int b => obtain ⟨t, rfl⟩ := rx; exact SeqAt.EqAt.none_int b t
    | str b => obtain ⟨t, rfl⟩ := rx; exact SeqAt.EqAt.none_str b t
    | _ => exact absurd (show false = true from fx) Bool.false_ne_true
  | bl a =>
    cases ry
    cases x with
    | non => cases rx; exact SeqAt.EqAt.bool_none a
    | bl b => cases rx; exact SeqAt.EqAt.bool_bool a b
    | int b => obtain ⟨t, rfl⟩ := rx; exact SeqAt.EqAt.bool_int a b t
    | str b => obtain ⟨t, rfl⟩ := rx; exact SeqAt.EqAt.bool_str a b t
    | _ => exact absurd (show false = true from fx) Bool.false_ne_true
  | int a =>
    obtain ⟨t', rfl⟩ := ry
    cases x with
    | non => cases rx; exact SeqAt.EqAt.int_none a t'
    | bl b => cases rx; exact SeqAt.EqAt.int_bool a t' b
    | int b => obtain ⟨t, rfl⟩ := rx; exact SeqAt.EqAt.int_int a t' b t
    | str b => obtain ⟨t, rfl⟩ := rx; exact SeqAt.EqAt.int_str a t' b t
    | _ => exact absurd (show false = true from fx) Bool.false_ne_true
  | str a =>
    obtain ⟨t', rfl⟩ := ry
    cases x with
    | non => cases rx; exact SeqAt.EqAt.str_none a t'
    | bl b => cases rx; exact SeqAt.EqAt.str_bool a t' b
    | int b => obtain ⟨t, rfl⟩ := rx; exact SeqAt.EqAt.str_int a t' b t
    | str b => obtain ⟨t, rfl⟩ := rx; exact SeqAt.EqAt.str_str a t' b t
    | _ => exact absurd (show false = true from fx) Bool.false_ne_true
  | _ => exact absurd (show false = true from fy) Bool.false_ne_true
def eqU (x : V) (u : Value) : Bool := match u with
  | .none => eqV .non x
  | .bool b => eqV (.bl b) x
  | .int i _ => eqV (.int i) x
  | .str z _ => eqV (.str z) x
  | _ => false
theorem eqU_of {x y : V} {u : Value} (r : RelV y u) (f : flatV y = true) : eqU x u = eqV y x := by
  cases y with
  | non => cases r; rfl
  | bl b => cases r; rfl
  | int i => obtain ⟨t, rfl⟩ := r; rfl
  | str z => obtain ⟨t, rfl⟩ := r; rfl
  | _ => exact absurd (show false = true from f) Bool.false_ne_true
theorem any_eqU {x : V} : ∀ {xs : List V} {us : List Value}, Vals xs us → xs.all flatV = true → us.any (eqU x) = xs.any fun y => eqV y x
  | _, _, .nil, _ => rfl
  | y :: xs, u :: us, .cons r t, f => by
    rw [List.all_cons, Bool.and_eq_true] at f
    rw [List.any_cons, List.any_cons, eqU_of r f.1, any_eqU t f.2]
theorem mem_eqAt {A : Around} {s : Shared} {x : V} {v : Value} (rx : RelV x v) (fx : flatV x = true) : ∀ {xs : List V} {us : List Value}, Vals xs us → xs.all flatV = true → ∀ u ∈ us, SeqAt.EqAt A s u v (eqU x u)
  | _, _, .nil, _ => fun u hu => by cases hu
  | y :: xs, u :: us, .cons r t, f => fun u' hu => by
    rw [List.all_cons, Bool.and_eq_true] at f
    rcases List.mem_cons.mp hu with rfl | hu
    · rw [eqU_of r f.1]; exact eqAt_V r rx f.1 fx
    · exact mem_eqAt rx fx t f.2 u' hu
def inV (x : V) (xs : List V) : Bool := xs.any fun y => eqV y x
def rIn (K : PySem.W.Frag) (neg : Bool) : R2 := fun x y H Q => ∃ p xs, y = .ref p ∧ (SqL K H p xs ∨ SqT K H p xs) ∧ flatV x = true ∧ xs.all flatV = true ∧ Q (.bl (if neg then !inV x xs else inV x xs)) H
theorem op_in_seq : OpR X (compareOp .In) (rIn X.K false) := by
  intro pins s σ H x y v u Q I rx ry h
  obtain ⟨p, xs, rfl, hq, fx, fs, q⟩ := h
  cases ry
  rcases hq with hq | hq
  · obtain ⟨its, r, pl, hz⟩ := I.list hq
    refine SeqAt.in_listAt (eqU x) pl.isList (fun w hw => mem_eqAt rx fx r fs w (by simpa using hw)) ⟨.bl _, H, I, rfl, ?_⟩
    rw [show its.toArray.any (eqU x) = its.any (eqU x) by simp, any_eqU r fs]
    exact q
  · obtain ⟨its, r, pl, hz⟩ := I.tuple hq
    refine SeqAt.in_tupleAt (eqU x) pl (fun w hw => mem_eqAt rx fx r fs w (by simpa using hw)) ⟨.bl _, H, I, rfl, ?_⟩
    rw [show its.toArray.any (eqU x) = its.any (eqU x) by simp, any_eqU r fs]
    exact q
theorem call_len_seq : CallR X (.builtin "len") (fun xs H Q => ∃ p ys, xs = [.ref p] ∧ (SqL X.K H p ys ∨ SqT X.K H p ys) ∧ Q (.int ys.length) H) := by
  intro pins s σ H xs us Q I r h
  obtain ⟨p, ys, rfl, hq, q⟩ := h
  obtain ⟨u, rfl, rx⟩ := vals1 r
  cases rx
  have hn := line63
  rcases hq with hq | hq
  · obtain ⟨its, r', pl, hz⟩ := I.list hq
    have hlen := r'.length
    exact Calls.call_len_list pl.isList (by simp only [List.size_toArray] <;> omega) ⟨.int ys.length, H, I.tok _, ⟨s.toks + 1, by rw [List.size_toArray, hlen]⟩, q⟩
  · obtain ⟨its, r', pl, hz⟩ := I.tuple hq
    have hlen := r'.length
    exact len_tuple pl (by simp only [List.size_toArray] <;> omega) ⟨.int ys.length, H, I.tok _, ⟨s.toks + 1, by rw [List.size_toArray, hlen]⟩, q⟩
theorem call_len_str : CallR X (.builtin "len") (fun xs H Q => ∃ z, xs = [.str z] ∧ z.length ≤ sizeLine ∧ Q (.int z.length) H) := by
  intro pins s σ H xs us Q I r h
  obtain ⟨z, rfl, hz, q⟩ := h
  obtain ⟨u, rfl, t, rfl⟩ := vals1 r
  have hn := line63
  exact len_str (by omega) ⟨.int z.length, H, I.tok _, ⟨_, rfl⟩, q⟩
theorem call_list_of : CallR X (.type "list") (fun xs H Q => ∃ p ys, xs = [.ref p] ∧ (SqL X.K H p ys ∨ SqT X.K H p ys) ∧ ∀ l, H l = none → Q (.ref l) (upd H l (.lst ys))) := by
  intro pins s σ H xs us Q I r h
  obtain ⟨p, ys, rfl, hq, q⟩ := h
  obtain ⟨u, rfl, rx⟩ := vals1 r
  cases rx
  have fin : ∀ (its : List Value), Vals ys its → ys.length ≤ sizeLine → ∀ (h' : Heap) (c' : Nat), (∀ b o', s.heap.get? b = some o' → h'.get? b = some o') →
      h'.get? s.heap.objs.size = some { cls := .type "list", dict := none, data := .seq its.toArray c', slots := #[] } → EP X pins σ Q (.ref s.heap.objs.size) { s with heap := h' } := fun its r' hz h' c' kp e =>
    ⟨.ref s.heap.objs.size, _, I.laid (t' := s.toks) kp (Nat.le_refl _) (show ObjOk X.prog X.w _ h' _ (.lst ys) from ⟨hz, its, c', r', e⟩), rfl, q _ (I.hok.fresh (Nat.le_refl _))⟩
  rcases hq with hq | hq
  · obtain ⟨its, r', pl, hz⟩ := I.list hq
    have hlen := r'.length
    obtain ⟨o, ho, hc, n, hd⟩ := pl.isList
    exact call_list_seq p (.inl rfl) ho hc hd (fun h' c' kp e => fin its r' hz h' c' kp e) (by simp only [List.size_toArray] <;> omega)
  · obtain ⟨its, r', pl, hz⟩ := I.tuple hq
    have hlen := r'.length
    obtain ⟨o, ho, hc, n, hd⟩ := pl
    exact call_list_seq p (.inr rfl) ho hc hd (fun h' c' kp e => fin its r' hz h' c' kp e) (by simp only [List.size_toArray] <;> omega)
theorem call_tuple_of : CallR X (.type "tuple") (fun xs H Q => ∃ p ys, xs = [.ref p] ∧ ((SqL X.K H p ys ∧ ∀ l, H l = none → Q (.ref l) (upd H l (.tup ys))) ∨ (SqT X.K H p ys ∧ Q (.ref p) H))) := by
  intro pins s σ H xs us Q I r h
  obtain ⟨p, ys, rfl, h⟩ := h
  obtain ⟨u, rfl, rx⟩ := vals1 r
  cases rx
  rcases h with ⟨hq, q⟩ | ⟨hq, q⟩
  · obtain ⟨its, r', pl, hz⟩ := I.list hq
    have hlen := r'.length
    refine call_tuple_list pl.isList (fun h' kp => ?_) (by simp only [List.size_toArray] <;> omega)
    have I1 : Inv X pins σ H { s with heap := h' } := I.kept (t' := s.toks) kp
    have I2 : Inv X pins σ (upd H h'.objs.size (.tup ys)) { s with heap := h'.push { cls := .type "tuple", data := .seq its.toArray } } :=
      I1.laid (t' := s.toks) (fun b o e => Heap.get?_push_of_some _ e) (Nat.le_refl _) (show ObjOk X.prog X.w _ _ _ (.tup ys) from ⟨hz, its, r', IsTup.new _ _⟩)
    exact ⟨.ref h'.objs.size, _, I2, rfl, q _ (I1.hok.fresh (Nat.le_refl _))⟩
  · obtain ⟨its, r', pl, hz⟩ := I.tuple hq
    exact call_tuple_same pl ⟨.ref p, H, I, rfl, q⟩
def tyV (K : PySem.W.Frag) (T : String) (x : V) (H : Hp) : Prop := match x with
  | .str _ => T = "str"
  | .int _ => T = "int"
  | .ref p => (T = "list" ∧ ∃ xs, SqL K H p xs) ∨ (T = "tuple" ∧ ∃ o, K.lookup p = some o ∧ o.cls = .type "tuple" ∧ o.dict = none) ∨
      (T = "dict" ∧ ((∃ kvs, H p = some (.dK kvs)) ∨ ∃ kvs, H p = some (.dT kvs))) ∨ (T = "set" ∧ ∃ S n, H p = some (.set S n))
  | _ => False
theorem tyV_is {pins : List (Addr × Obj)} {σ : St} {H : Hp} {s : Shared} {T : String} {x : V} {v : Value} (I : Inv X pins σ H s) (r : RelV x v) (ty : tyV X.K T x H) :
    s.TypeIs v T ∧ ∀ a, v = .ref a → ∃ ob, s.heap.get? a = some ob ∧ ob.dict = none := by
  cases x with
  | str z =>
    obtain ⟨t, rfl⟩ := r
    cases (show T = "str" from ty)
    exact ⟨typeIs_str s z t, fun _ e => nomatch e⟩
  | int i =>
    obtain ⟨t, rfl⟩ := r
    cases (show T = "int" from ty)
    exact ⟨typeIs_int s i t, fun _ e => nomatch e⟩
  | ref p =>
    cases r
    rcases ty with ⟨rfl, xs, hq⟩ | ⟨rfl, o, hk, hc, hd⟩ | ⟨rfl, hk⟩ | ⟨rfl, S, n, hk⟩
    · obtain ⟨its, _, pl, _⟩ := I.list hq
      refine ⟨pl.isList.typeIs, fun a e => ?_⟩
      cases e
      obtain ⟨o, n, e, c, hd, _⟩ := pl
      exact ⟨o, e, hd⟩
    · refine ⟨⟨o, I.kIn p o hk, hc⟩, fun a e => ?_⟩
      cases e
      exact ⟨o, I.kIn _ o hk, hd⟩
    · have z : ∃ o, s.heap.get? p = some o ∧ o.ExactDict := by
        rcases hk with ⟨kvs, hk⟩ | ⟨kvs, hk⟩
        · obtain ⟨_, _, _, _, o, _, _, e, ex, _⟩ := I.hok p _ hk
          exact ⟨o, e, ex⟩
        · obtain ⟨_, _, _, _, o, _, _, e, ex, _⟩ := I.hok p _ hk
          exact ⟨o, e, ex⟩
      obtain ⟨o, e, ex⟩ := z
      refine ⟨⟨o, e, ex.1⟩, fun a e2 => ?_⟩
      cases e2
      exact ⟨o, e, ex.2.1⟩
    · obtain ⟨o, _, _, _, e, ex, _⟩ := I.hok p _ hk
      refine ⟨⟨o, e, ex.1⟩, fun a e2 => ?_⟩
      cases e2
      exact ⟨o, e, ex.2.1⟩
  | _ => exact False.elim ty
def tBM (K : PySem.W.Frag) (T : String) (r : V → List V → Hp → VK → Prop) (to : TE) (t : TA) : TE := fun σ H Q => to σ H fun x H1 => tyV K T x H1 ∧ t σ H1 fun xs H2 => r x xs H2 Q
variable {o e : Expr} {es : List Expr} {to : TE} {t : TA} {name : Str} {apos cpos : Pos} {T id : String} {r : V → List V → Hp → VK → Prop}
theorem pe_bm (pa : PlainAttrs T) (slot : Slot T name id) (hty : typeOf (.builtin id) = pure (.type "method_descriptor")) (hm : MtR X id r) (ho : PE X o to) (ha : PA X (e :: es) t)
    (hbase : attributeBase o name X.env (eval o X.env) = eval o X.env := by rfl)
    (hfew : ((backTo cpos (starEach (e :: es) X.env)).all (fun x => !x.1) && (backToKw cpos (keywordEach [] X.env)).all (fun x => x.1.isSome)
      && decide ((e :: es).length + ([] : List Keyword).length + (if ([] : List Keyword).isEmpty then 0 else 1) < 30)) = true := by rfl)
    (hline : (apos.endLine == cpos.line) = true := by rfl) (hs : starEach (e :: es) X.env = (false, eval e X.env) :: starEach es X.env := by rfl) (hplain : (backTo cpos (starEach es X.env)).any (·.1) = false := by rfl) :
    PE X (.Call (.Attribute o name apos) (e :: es) [] cpos) (tBM X.K T r to t) := by
  intro pins s σ H Q I h
  refine wpAny_Call_method_late hbase hfew hline rfl (thn (ho pins s σ H _ I h) fun v s1 ⟨x, H1, I1, r1, ty, q1⟩ => ?_)
  obtain ⟨h1, h2⟩ := tyV_is I1 r1 ty
  refine ⟨T, id, pa, slot, hty, h1, h2, ?_⟩
  have hA := ha cpos pins s1 σ H1 _ I1 q1
  rw [hs] at hA ⊢
  refine Calls.callWith_builtin (by show (false || (backTo cpos (starEach es X.env)).any (·.1)) = false; rw [hplain] <;> rfl) (Calls.evalArgs_plain ?_)
  exact thn hA fun us s2 ⟨vs, H2, I2, r2, q2⟩ => hm pins s2 σ H2 x vs v us Q I2 r1 r2 q2
end
end L2
namespace L2
open PySem PySem.Spec PyProof.Rows
def MtM (X : Cx) (id : String) (r : V → List V → Hp → VK → Prop) : Prop :=
  ∀ (pins : List (Addr × Obj)) (s : Shared) (σ : St) (H : Hp) (x : V) (xs : List V) (v : Value) (us : List Value) (Q : VK), Inv X pins σ H s → RelV x v → Vals xs us → r x xs H Q →
    wpAny (model X.prog X.w) X.A (call (.builtin id) (v :: us)) (EP X pins σ Q) X.xe s
theorem Vals.one : ∀ {x : V} {us : List Value}, Vals [x] us → ∃ u, us = [u] ∧ RelV x u
  | _, _, .cons r .nil => ⟨_, rfl, r⟩
theorem Vals.zero : ∀ {us : List Value}, Vals [] us → us = []
  | _, .nil => rfl
section
variable {X : Cx} {pins : List (Addr × Obj)} {σ : St} {H : Hp} {s : Shared} {l b : Addr} {xs ys zs : List V}
theorem Inv.lset {its its' : List Value} {n : Nat} {f : Array Value → Array Value} {t' : Nat} (I : Inv X pins σ H s) (hH : H l = some (.lst xs))
    (e : s.heap.get? l = some { cls := .type "list", data := .seq its.toArray n }) (hf : f its.toArray = its'.toArray) (hv : Vals ys its') (hz : ys.length ≤ sizeLine) :
    Inv X pins σ (upd H l (.lst ys)) { s with heap := s.heap.update l (Obj.mapSeq f), toks := t' } := by
  have q := PySem.IsL.update e f
  rw [hf] at q
  refine I.write (x := l) (e := l) (by rw [hH]; exact trivial) (.inl rfl) (fun b' u hb hu => (Heap.get?_update_other s.heap (Obj.mapSeq f) (Ne.symm hb)).trans hu) ⟨_, q⟩ ?_
  exact ⟨hz, its', _, hv, q⟩
theorem Inv.lnew {its : List Value} {t' : Nat} (I : Inv X pins σ H s) (hv : Vals ys its) (hz : ys.length ≤ sizeLine) :
    Inv X pins σ (upd H s.heap.objs.size (.lst ys)) { s with heap := s.heap.push { cls := .type "list", data := .seq its.toArray }, toks := t' } :=
  I.laid (fun _ _ q => Heap.get?_push_of_some _ q) (Nat.le_refl _) ⟨hz, its, 0, hv, Heap.get?_push_size _ rfl⟩
theorem Inv.fresh (I : Inv X pins σ H s) : H s.heap.objs.size = none := I.hok.fresh (Nat.le_refl _)
theorem Inv.lstM (I : Inv X pins σ H s) (hH : H l = some (.lst xs)) : xs.length ≤ sizeLine ∧ ∃ (its : List Value) (n : Nat), Vals xs its ∧ xs.length = its.length ∧ s.heap.get? l = some { cls := .type "list", data := .seq its.toArray n } := by
  obtain ⟨z, its, n, r, e⟩ := I.hok l _ hH
  exact ⟨z, its, n, r, r.length, e⟩
end
section
variable {X : Cx}
def rAppend : V → List V → Hp → VK → Prop := fun x vs H Q => ∃ l xs y, x = .ref l ∧ vs = [y] ∧ H l = some (.lst xs) ∧ xs.length < sizeLine ∧ Q .non (upd H l (.lst (xs ++ [y])))
theorem mt_append : MtM X "list.append" rAppend := by
  intro pins s σ H x vs v us Q I rx rv h
  obtain ⟨l, xs, y, rfl, rfl, hH, hz, q⟩ := h
  cases rx
  obtain ⟨u, rfl, ru⟩ := rv.one
  obtain ⟨z, its, n, r, hl, e⟩ := I.lstM hH
  refine call_meets F.slot_list_append ⟨_, e, rfl⟩ F.entry_list_append (F.args_list_append_2 _ _) (PySem.list_append l its.toArray n u (by rw [List.size_toArray]; omega)) ⟨e, ?_⟩
  refine ⟨.non, _, I.lset (its' := its ++ [u]) hH e (by simp) (r.append (.cons ru .nil)) ?_, rfl, q⟩
  rw [List.length_append, List.length_singleton]
  omega
end
section
variable {prog : Program} {w : World} {A : Around} {E : Value → Shared → Prop} {s : Shared}
end
section
variable {X : Cx}
end
end L2
namespace Att
open PySem PySem.W PySem.Calls PyProof.Rows
theorem ints_of_wellAll {P : Params} {h : Heap} : ∀ (ns : List Int) (vs : List Value), WellAll P h vs (ns.map WData.int) → IntsAre vs ns := by
  intro ns
  induction ns with
  | nil =>
    intro vs w
    rw [List.map_nil] at w
    cases w
    exact .nil
  | cons n ns ih =>
    intro vs w
    rw [List.map_cons] at w
    cases w with
    | cons a b =>
      cases a
      exact .cons _ _ (ih _ b)
theorem script_of {l : OpenLaw} {n : Nat} (hn : l.most = some n) {P : Params} {h : Heap} {args : List WData} {vals : List Value}
    (hpre : l.row.toRowW.claim.pre args = true) (hwl : WellAll P h vals args) :
    ∃ a vs ns, vals = [Value.ref a] ∧ args = [WData.list (ns.map WData.int)] ∧ h.get? a = some { cls := .type "list", data := .seq vs.toArray } ∧ IntsAre vs ns ∧ ns.length ≤ n := by
  have hsh : WShape.hasAll [] args [.list .int] = true := (pre_splitW hpre).1
  have hc : l.pre.holds [] { args := args } = true := (pre_splitW hpre).2
  obtain ⟨d, r, rfl, h1, h2⟩ := hasAllW_cons hsh
  obtain rfl := hasAllW_nil h2
  obtain ⟨xs, rfl, h3⟩ := hasW_list h1
  obtain ⟨ns, rfl⟩ := items_int h3
  have hlen : ns.length ≤ n := by
    unfold OpenLaw.pre at hc
    have h4 : (WTm.not (.lt (.lit (.int (n : Int))) (.len (.arg 0)))).holds [] { args := [.list (ns.map .int)] } = true := by
      have h4 := (holds_andW hc).1
      rw [hn] at h4
      exact h4
    have h5 := condW_of h4 (w_not (w_lt w_lit (w_len_list (w_arg rfl))))
    rw [List.length_map] at h5
    refine Nat.le_of_not_lt fun q => ?_
    have q' : (n : Int) < ((ns.length : Nat) : Int) := by omega
    first
      | (rw [decide_eq_true q'] at h5; exact absurd h5 (by decide))
      | (simp at h5; omega)
  cases hwl with
  | cons w1 w2 =>
    cases w2
    cases w1 with
    | list ho hall => exact ⟨_, _, ns, rfl, rfl, ho, ints_of_wellAll ns _ hall, hlen⟩
theorem post_true (l : OpenLaw) (args : List WData) : l.row.toRowW.claim.post args (.bool true) args = true :=
  postW_of (r := l.row.toRowW) (X := (true == true))
    (show WShape.has [] (.bool true) .bool = true by first | rfl | decide | simp [WShape.has, WShape.arms, WShape.armsAll])
    (show (WTm.eq .res (.lit (.bool true))).value [] { args := args, res := some (.bool true), after := args } = some (.bool (true == true)) from w_eq_bool (w_res rfl) w_lit) rfl
theorem attach_call {l : OpenLaw} {n : Nat} {q : Program} {loose : List Str} {XP : (Str → Option Value) → Heap → Prop} {YP : World → Heap → Prop} {d : DefRec}
    (hn : l.most = some n) (hdf : d.params.defaults = [])
    (call : ∀ (w : World) (s₀ s₁ : Shared) (mg mb : Str → Option Value) (fa : Addr) (o : Obj) (pm cd doc : Value) (a : Addr) (vs : List Value) (ns : List Int),
      Ground q loose [] XP w s₀ mg mb s₁.heap → YP w s₁.heap →
      s₁.heap.get? fa = some o → o.data = .func (docDef d.name d.params d.body d.scope pm cd doc) → s₁.heap.CodeRec cd d.name → mg d.name = some (.ref fa) →
      s₁.heap.get? a = some { cls := .type "list", data := .seq vs.toArray } → IntsAre vs ns → ns.length ≤ n → s₁.gens = #[] →
      codeAny (model l.prog w) callerA (.call (.ref fa) ⟨[.ref a], []⟩) (fun r s' => r = .ok (.ret (.bool true)) ∧ OldK s₁.heap s'.heap ∧ s'.os = s₁.os ∧ AllBare s'.gens) s₁) :
    WalkO q loose XP YP l.row.toRowW d [] (fun f vs => PySem.call f vs) := by
  intro w s₀ s₁ mg mb G Y fa o pm cd doc dV kV ho hd hcd hD hmg hg args vals as hpre hlay hrd hwl hlo
  obtain rfl : dV = .none := Dflts.none hD hdf
  obtain rfl : kV = .none := Dflts.noKw hD
  obtain ⟨a, vs, ns, rfl, rfl, hobj, hints, hlen⟩ := script_of hn hpre hwl
  refine enter_call (codeAny_mono (call w s₀ s₁ mg mb fa o pm cd doc a vs ns G Y ho (fd_plain hd) hcd hmg hobj hints hlen hg) fun r s' hq => ?_)
  obtain ⟨rfl, h2, h3, h4⟩ := hq
  exact ⟨.inl ⟨.bool true, .bool true, [], rfl, fun _ => rfl, .bool true, post_true l _, fun _ => ⟨List.Pairwise.nil, fun _ hm => (nomatch hm)⟩⟩, h2, h3, h4⟩
section
variable {prog : Program} {w : World} {A : Around} {E : Value → Shared → Prop} {s : Shared} {K : Frag}
end
end Att
namespace L2
open PySem PySem.Spec PyProof.Rows
theorem vals_ints : ∀ {vs : List Value} {ns : List Int}, IntsAre vs ns → Vals (ns.map V.int) vs
  | _, _, .nil => .nil
  | _, _, .cons n t h => .cons ⟨t, rfl⟩ (vals_ints h)
def Only (H : Hp) : Prop := ∀ b, H b = none ∨ ∃ o xs, H b = some (.frz o (.lst xs))
theorem law_call {P : Program} {w : World} {K : PySem.W.Frag} {mg mb : Str → Option Value} {CX : CXT} {k : Nat} {fa a : Addr} {fd : FuncData} {x : Str} {sp : Sp} {s₁ : Shared} {vs : List Value} {ns : List Int}
    (KX : K.In s₁.heap) (hns : s₁.heap.Ns mainGlobals mg) (hb : s₁.heap.Ns builtinsNs mb) (hbb : ∀ x : Str, x ≠ "__name__" → mb x = bootBuiltins x) (hlim : s₁.heap.NoLimit) (hg : s₁.gens = #[])
    (ha : s₁.heap.get? a = some { cls := .type "list", data := .seq vs.toArray }) (hi : IntsAre vs ns) (hl : ns.length ≤ sizeLine) (hr : Room k callerA)
    (F : ∀ base : Heap, K.In base → base.Ns mainGlobals mg → FnOk P w K mg base CX k fa fd [x] sp) (hbind : ∀ (s : Shared) (u : Value), BindsTo s fd ⟨[u], []⟩ [(x, u)])
    (hsp : ∀ H : Hp, Only H → SqL K H a (ns.map V.int) → sp [.ref a] H (fun v _ => v = .bl true) fun _ _ _ => False)
    (hCX : ∀ H e s', CX [] H s₁ (fun _ _ _ => False) e s' → False) :
    codeAny (model P w) callerA (.call (.ref fa) ⟨[.ref a], []⟩) (fun r s' => r = .ok (.ret (.bool true)) ∧ OldK s₁.heap s'.heap ∧ s'.os = s₁.os ∧ AllBare s'.gens) s₁ := by
  have rv := vals_ints hi
  have lenV := hi.length
  have core : ∀ H : Hp, Only H → SqL K H a (ns.map V.int) → HOk P w H s₁.heap → (∀ b, H b ≠ none → b = a) → (H a ≠ none → K.lookup a = none) →
      codeAny (model P w) callerA (.call (.ref fa) ⟨[.ref a], []⟩) (fun r s' => r = .ok (.ret (.bool true)) ∧ OldK s₁.heap s'.heap ∧ s'.os = s₁.os ∧ AllBare s'.gens) s₁ := by
    intro H hO hS hok hA hK
    have base_of : ∀ {b : Addr} {o : Obj}, s₁.heap.get? b = some o → H b = none → (hidT s₁.heap H).get? b = some o := fun e n => hidT_get e n
    have noA : ∀ {b : Addr} {o : Obj} {es : Array DictEntry} {ep : Nat}, s₁.heap.get? b = some o → o.data = .dict es ep → H b = none := fun {b o es ep} e d => by
      cases q : H b with
      | none => rfl
      | some u =>
        have e' : b = a := hA b (by rw [q]; simp)
        subst e'
        rw [ha] at e; cases e
        have d' : Data.seq vs.toArray _ = Data.dict es ep := d
        cases d'
    have nsK : ∀ {b : Addr} {m : Str → Option Value}, s₁.heap.Ns b m → (hidT s₁.heap H).Ns b m := fun {b m} ⟨o, es, ep, e, d, r⟩ => ⟨o, es, ep, base_of e (noA e d), d, r⟩
    have hKb : K.In (hidT s₁.heap H) := fun b o e => base_of (KX b o e) (by
      cases q : H b with
      | none => rfl
      | some u =>
        have e' : b = a := hA b (by rw [q]; simp)
        subst e'
        rw [hK (by rw [q]; simp)] at e; cases e)
    have hM : Mod K mg (hidT s₁.heap H) := ⟨hKb, nsK hns, ⟨mb, nsK hb, hbb⟩, let ⟨mc, h1, h2⟩ := hlim; ⟨mc, nsK h1, h2⟩⟩
    have e0 : Env0 P w K mg (hidT s₁.heap H) callerA [] s₁ H := ⟨rfl, hM, fun b o e => of_hidT e, Nat.le_of_eq (hidT_size _ _), trivial, fun b hb => absurd (show b ∈ ([] : List Addr) from hb) (by simp), hok, .of_eq hg⟩
    refine codeAny_mono ((F _ hKb (nsK hns)).run callerA [] s₁ H ⟨[.ref a], []⟩ [.ref a] [.ref a] _ _ hr e0 (hbind s₁ (.ref a)) (.cons rfl .nil) (hsp H hO hS)) fun r s' h => ?_
    cases r with
    | error e => exact (hCX H e s' h).elim
    | ok fl =>
      cases fl with
      | next => exact False.elim h
      | brk => exact False.elim h
      | cont => exact False.elim h
      | ret u =>
        obtain ⟨v, H', os, bare, un, hok', r', q⟩ := h
        have q' : v = .bl true := q
        subst q'
        obtain rfl : u = Value.bool true := r'
        refine ⟨rfl, OldK.of_keep fun b o e => ?_, os, bare⟩
        cases q : H b with
        | none => exact un.keep b o e q (by intro z; exact absurd (show b ∈ ([] : List Addr) from z) (by simp)) (by simp)
        | some u =>
          rcases hO b with z | ⟨ob, xs, z⟩
          · rw [q] at z; cases z
          · have z2 := un.frzs b ob _ z
            obtain ⟨e1, _⟩ := hok b _ z
            obtain ⟨e2, _⟩ := hok' b _ z2
            rw [e] at e1; cases e1
            exact e2
  cases hk : K.lookup a with
  | some o =>
    have e := KX a o hk
    rw [ha] at e
    cases e
    refine core (fun _ => none) (fun _ => .inl rfl) (.inr ⟨_, vs.toArray, _, hk, rfl, rfl, rfl, by rw [List.size_toArray, lenV]; exact hl, by simpa using rv⟩) (fun b u z => by have z' : (none : Option HO) = some u := z; cases z') (fun b z => absurd rfl z) fun z => absurd rfl z
  | none =>
    refine core (fun b => if b = a then some (.frz { cls := .type "list", data := .seq vs.toArray } (.lst (ns.map V.int))) else none) (fun b => ?_) (.inl (.inr ⟨{ cls := .type "list", data := .seq vs.toArray }, if_pos rfl⟩)) (fun b u z => ?_) (fun b z => ?_) fun _ => hk
    · by_cases hb : b = a
      · exact .inr ⟨_, _, if_pos hb⟩
      · exact .inl (if_neg hb)
    · by_cases hb : b = a
      · have z' := (if_pos hb).symm.trans z
        cases z'
        subst hb
        exact ⟨ha, by rw [List.length_map]; exact hl, vs, _, rv, ha⟩
      · have z' := (if_neg hb).symm.trans z
        cases z'
    · by_cases hb : b = a
      · exact hb
      · exact absurd (if_neg hb) z
end L2
namespace L2
open PySem PySem.Spec PyProof.Rows
theorem walk_of {l : PySem.W.OpenLaw} {n k : Nat} {q : Program} {loose : List Str} {XP : (Str → Option Value) → Heap → Prop} {YP : World → Heap → Prop} {d : DefRec} {K : Params → PySem.W.Frag} {CX : World → CXT} {sp : World → Sp} {x : Str}
    (hn : l.most = some n) (hn2 : n ≤ sizeLine) (hdf : d.params.defaults = []) (hr : Room k callerA)
    (hY : ∀ (w : World) (h : Heap), YP w h → (K w.params).In h)
    (F : ∀ (w : World) (mg : Str → Option Value) (fa : Addr) (h : Heap), (K w.params).In h → h.Ns mainGlobals mg → mg d.name = some (.ref fa) →
      ∃ fd : FuncData, (∀ (s : Shared) (u : Value), BindsTo s fd ⟨[u], []⟩ [(x, u)]) ∧
        ∀ base : Heap, (K w.params).In base → base.Ns mainGlobals mg → FnOk l.prog w (K w.params) mg base (CX w) k fa fd [x] (sp w))
    (hsp : ∀ (w : World) (H : Hp) (a : Addr) (ns : List Int), ns.length ≤ n → Only H → SqL (K w.params) H a (ns.map V.int) → sp w [.ref a] H (fun v _ => v = .bl true) fun _ _ _ => False)
    (hCX : ∀ (w : World) (H : Hp) (s : Shared) (e : Value) (s' : Shared), CX w [] H s (fun _ _ _ => False) e s' → False) :
    PySem.W.WalkO q loose XP YP l.row.toRowW d [] (fun f vs => PySem.call f vs) := by
  refine Att.attach_call hn hdf fun w s₀ s₁ mg mb fa o pm cd doc a vs ns G Y ho hd hcd hmg hobj hints hlen hg => ?_
  have KX := hY w _ Y
  obtain ⟨fd, hb, hF⟩ := F w mg fa _ KX G.T.g hmg
  exact law_call KX G.T.g G.T.b G.T.builtins G.T.nolimit hg hobj hints (Nat.le_trans hlen hn2) hr hF hb (fun H hO hS => hsp w H a ns hlen hO hS) fun H e s' => hCX w H s₁ e s'
end L2
namespace L2
open PySem PySem.Spec PyProof.Rows
def inClass (s : Stmt) (j : Nat) : Stmt := match s with
  | .ClassDef _ _ _ body _ _ _ _ _ _ _ => body.getD j (.Pass ⟨0, 0, 0, 0⟩)
  | _ => .Pass ⟨0, 0, 0, 0⟩
def defArgs (s : Stmt) : Arguments := match s with
  | .FunctionDef _ a _ _ _ _ _ _ _ _ => a
  | _ => { posonlyargs := [], args := [], vararg := none, kwonlyargs := [], kw_defaults := [], kwarg := none, defaults := [] }
def defBody (s : Stmt) : List Stmt := match s with
  | .FunctionDef _ _ b _ _ _ _ _ _ _ => b
  | _ => []
def defScope (s : Stmt) : Scope := match s with
  | .FunctionDef _ _ _ _ _ _ sc _ _ _ => sc
  | _ => { kind := .function, names := [], isGenerator := false, isCoroutine := false }
abbrev CX0 : CXT := fun _ _ _ _ _ _ => False
structure Fun (K : PySem.W.Frag) (x qual : Str) (st : Stmt) (f : Addr) (fd : FuncData) : Prop where
  ex : ∃ (oc : Value) (od : Option Addr) (kV doc pm : Value) (an : Option Addr) (cdv ct : Value) (osl : Array (Option Value)),
    fd = PySem.W.fnOf x qual (defArgs st) (defBody st) (defScope st) .none kV doc pm an cdv ct ∧ K.lookup f = some ⟨oc, od, .func fd, osl⟩ ∧ PySem.W.codeIn K cdv qual = true
  kp : PySem.W.keepIn K (.ref f) = true
section
variable {P : Program} {w : World} {K : PySem.W.Frag} {mg : Str → Option Value} {base : Heap}
theorem Fun.ok {x qual : Str} {st : Stmt} {f : Addr} {fd : FuncData} {N ps : List Str} {k : Nat} {sp : Sp} (F : Fun K x qual st f fd) (S : FnScope N ps (defScope st)) (len : ∀ vs H Q E, sp vs H Q E → vs.length = ps.length)
    (hbody : ∀ (cdv : Value) (A : Around) (outer : List Env) (s : Shared) (H : Hp) (vs : List V) (Q : VK) (E : XK), Room k (A.deeper (envOfC qual (defScope st) s.heap.objs.size f cdv)) → sp vs H Q E →
      ∃ t, PSs (cxOf CX0 P w K mg base N qual (defScope st) f cdv A outer s H E).nox (defBody st) t ∧ t { nx := fun _ H' => Q .non H', rt := Q } (start N vs) H) : FnOk P w K mg base CX0 (k + 1) f fd ps sp := by
  obtain ⟨oc, od, kV, doc, pm, an, cdv, ct, osl, rfl, lk, hcd⟩ := F.ex
  refine fn_of lk hcd S len fun A outer s H vs Q E hr hsp => ?_
  obtain ⟨t, h, q⟩ := hbody cdv A outer s H vs Q E hr hsp
  exact ⟨t, h.nox, q⟩
theorem Fun.binds {x qual : Str} {st : Stmt} {f : Addr} {fd : FuncData} {ps : List Str} (F : Fun K x qual st f fd)
    (h : ∀ (kV doc pm : Value) (an : Option Addr) (cdv ct : Value) (us : List Value), us.length = ps.length → bindArgs (PySem.W.fnOf x qual (defArgs st) (defBody st) (defScope st) .none kV doc pm an cdv ct) ⟨us, []⟩ = pure (ps.zip us)) : Binds K fd ps [] := by
  obtain ⟨oc, od, kV, doc, pm, an, cdv, ct, osl, rfl, lk, hcd⟩ := F.ex
  exact .all (h kV doc pm an cdv ct)
theorem fun_mk {x qual : Str} {st : Stmt} {f : Addr} {oc : Value} {od an : Option Addr} {osl : Array (Option Value)} {kV doc pm cdv ct : Value} (l : K.lookup f = some ⟨oc, od, .func (PySem.W.fnOf x qual (defArgs st) (defBody st) (defScope st) .none kV doc pm an cdv ct), osl⟩)
    (c : PySem.W.codeIn K cdv qual = true) (k : PySem.W.keepIn K (.ref f) = true) : Fun K x qual st f (PySem.W.fnOf x qual (defArgs st) (defBody st) (defScope st) .none kV doc pm an cdv ct) := ⟨⟨oc, od, kV, doc, pm, an, cdv, ct, osl, rfl, l, c⟩, k⟩
end
section
variable {X : Cx}
theorem pv (i : Nat) {x : Str} {pos : Pos} (hN : X.N[i]? = some x := by rfl) (hv : Vis X.env.scope x := by first | exact Or.inl rfl | exact Or.inr (Or.inl rfl) | exact Or.inr (Or.inr rfl)) (hd : (x == ("__debug__" : Str)) = false := by decide)
    (hcd : (x == ("__classdict__" : Str)) = false := by decide) : PE X (.Name x pos) (tVar i) := pe_var hN hv hd hcd
end
theorem iteF {A B : Prop} (h : B) : if false = true then A else B := by
  rw [if_neg Bool.false_ne_true]
  exact h
theorem iteT {A B : Prop} (h : A) : if true = true then A else B := by
  rw [if_pos rfl]
  exact h
def Same (H H' : Hp) : Prop := ∀ b o, H b = some o → H' b = some o
theorem Same.refl (H : Hp) : Same H H := fun _ _ h => h
theorem Same.trans {H H1 H2 : Hp} (a : Same H H1) (b : Same H1 H2) : Same H H2 := fun c o h => b c o (a c o h)
theorem Same.free {H H' : Hp} (e : Same H H') {l : Addr} (h : H' l = Option.none) : H l = Option.none := by
  cases q : H l with
  | none => rfl
  | some o =>
    rw [e l o q] at h
    cases h
theorem Same.seq {K : PySem.W.Frag} {H H' : Hp} {a : Addr} {xs : List V} (e : Same H H') (h : SqL K H a xs) : SqL K H' a xs := by
  rcases h with (h | ⟨o, h⟩) | h
  · exact .inl (.inl (e _ _ h))
  · exact .inl (.inr ⟨o, e _ _ h⟩)
  · exact .inr h
end L2

end
section
namespace VP
open PySem
inductive D where
  | non
  | bl (b : Bool)
  | int (i : Int)
  | str (x : Str)
  | tup (xs : List D)
  | lst (xs : List D)
  | dct (ks : List (Sum Int Str)) (vs : List D)
  | ins (c : Str) (ns : List Str) (vs : List D)
  | exn (c : Str) (ns : List Str) (vs : List D)
  deriving Inhabited
inductive Sl where
  | no
  | sh (d : D)
  | ow (d : D)
  | io (d : D)
  deriving Inhabited
abbrev Rho := List Sl
structure Xn where
  cls : Str
  ns : List Str
  vs : List D
inductive Res (α : Type) where
  | ok (a : α) (r : Rho)
  | exc (x : Xn) (r : Rho)
  | no
abbrev M (α : Type) := Rho → Res α
inductive Fl where
  | nx | bk | ct | rt (d : D)
def ret {α : Type} (a : α) : M α := fun r => .ok a r
def bnd {α β : Type} (f : M α) (g : α → M β) : M β := fun r =>
  match f r with
  | .ok a r' => g a r'
  | .exc x r' => .exc x r'
  | .no => .no
def stuck {α : Type} : M α := fun _ => .no
def opt {α : Type} : Option α → M α
  | some a => ret a
  | none => stuck
def mVar (i : Nat) : M D := fun r => match r[i]? with
  | some (.sh d) => .ok d r
  | _ => .no
def mRd (i : Nat) : M D := fun r => match r[i]? with
  | some (.sh d) => .ok d r
  | some (.ow d) => .ok d r
  | some (.io d) => .ok d r
  | _ => .no
def free : Option Sl → Bool
  | some (.io _) => false
  | some _ => true
  | none => false
def mSet (i : Nat) (d : D) : M Unit := fun r => if free r[i]? then .ok () (r.set i (.sh d)) else .no
def mOwn (i : Nat) (d : D) : M Unit := fun r => if free r[i]? then .ok () (r.set i (.ow d)) else .no
def own : Option Sl → Option D
  | some (.ow d) => some d
  | some (.io d) => some d
  | _ => none
def putS (i : Nat) (d : D) (r : Rho) : Rho := match r[i]? with
  | some (.ow _) => r.set i (.ow d)
  | some (.io _) => r.set i (.io d)
  | _ => r
def mFz (i : Nat) : M Unit := fun r => match r[i]? with
  | some (.ow d) => .ok () (r.set i (.sh d))
  | some (.sh d) => .ok () r
  | _ => .no
def mUpd (i : Nat) (g : D → Option D) : M Unit := fun r => match own r[i]? with
  | some d => match g d with
    | some d' => .ok () (putS i d' r)
    | none => .no
  | none => .no
def mC (d : D) : M D := ret d
def m1 (g : D → Option D) (a : M D) : M D := bnd a fun x => opt (g x)
def m2 (g : D → D → Option D) (a b : M D) : M D := bnd a fun x => bnd b fun y => opt (g x y)
def mL : List (M D) → M (List D)
  | [] => ret []
  | f :: fs => bnd f fun x => bnd (mL fs) fun xs => ret (x :: xs)
def mF (g : List D → Option D) (as : List (M D)) : M D := bnd (mL as) fun xs => opt (g xs)
def mB (a : M D) (g : D → Option Bool) : M Bool := bnd a fun x => opt (g x)
def tB (a : M D) : M Bool := bnd a fun x => match x with
  | .bl b => ret b
  | _ => stuck
def tNot (a : M Bool) : M Bool := bnd a fun b => ret (!b)
def tAnd (a b : M Bool) : M Bool := bnd a fun x => if x then b else ret false
def tOr (a b : M Bool) : M Bool := bnd a fun x => if x then ret true else b
def mOfT (a : M Bool) : M D := bnd a fun b => ret (.bl b)
def mIf (c : M Bool) (a b : M D) : M D := bnd c fun x => if x then a else b
def sSeq (f g : M Fl) : M Fl := bnd f fun k => match k with
  | .nx => g
  | .bk => ret .bk
  | .ct => ret .ct
  | .rt d => ret (.rt d)
def sNx : M Fl := ret .nx
def sBk : M Fl := ret .bk
def sCt : M Fl := ret .ct
def sDo (f : M Unit) : M Fl := bnd f fun _ => ret .nx
def sDrop (f : M D) : M Fl := bnd f fun _ => ret .nx
def sRet (f : M D) : M Fl := bnd f fun d => ret (.rt d)
def sIf (c : M Bool) (a b : M Fl) : M Fl := bnd c fun x => if x then a else b
def sSet (i : Nat) (f : M D) : M Fl := bnd f fun d => sDo (mSet i d)
def sOwn (i : Nat) (f : M D) : M Fl := bnd f fun d => sDo (mOwn i d)
def sFz (i : Nat) (f : M Fl) : M Fl := bnd (mFz i) fun _ => f
def gName (i : Nat) : D → M Unit := fun d => mSet i d
def gAll : List Nat → List D → M Unit
  | [], [] => ret ()
  | i :: is, d :: ds => bnd (mSet i d) fun _ => gAll is ds
  | _, _ => stuck
def gTup (is : List Nat) : D → M Unit := fun d => match d with
  | .tup ds => gAll is ds
  | _ => stuck
def loop (g : D → M Unit) (body : M Fl) : List D → M Fl
  | [] => ret .nx
  | d :: ds => bnd (g d) fun _ => bnd body fun k => match k with
    | .nx => loop g body ds
    | .ct => loop g body ds
    | .bk => ret .nx
    | .rt e => ret (.rt e)
def sFor (it : M (List D)) (g : D → M Unit) (body : M Fl) : M Fl := bnd it fun ds => loop g body ds
def appD (x : D) : D → Option D
  | .lst xs => if xs.length < 16777216 then some (.lst (xs ++ [x])) else none
  | _ => none
def turns (k : Nat) (g : D → M Unit) (test : M Bool) (elt : M D) : List D → M Unit
  | [] => ret ()
  | d :: ds => bnd (g d) fun _ => bnd test fun b => if b
      then bnd elt fun x => bnd (mUpd k (appD x)) fun _ => turns k g test elt ds
      else turns k g test elt ds
def inner (n : Nat) (f : Nat → M Unit) : M D := fun r => match f (r.length + n) (r ++ List.replicate n .no ++ [.ow (.lst [])]) with
  | .ok _ r' => match r'[r.length + n]? with
    | some (.ow d) => .ok d (r'.take r.length)
    | _ => .no
  | .exc _ _ => .no
  | .no => .no
def mComp (n : Nat) (it : M (List D)) (g : D → M Unit) (test : M Bool) (elt : M D) : M D :=
  bnd it fun ds => inner n fun k => turns k g test elt ds
inductive FR where
  | ok (d : D) (ios : List D)
  | exc (x : Xn) (ios : List D)
  | no
abbrev Fn := List D → FR
def startR (n : Nat) : List Bool → List D → Rho
  | b :: bs, d :: ds => (if b then .io d else .sh d) :: startR (n - 1) bs ds
  | _, _ => List.replicate n .no
def iosOf : List Bool → Rho → Option (List D)
  | [], _ => some []
  | true :: bs, .io d :: r => (iosOf bs r).map (d :: ·)
  | false :: bs, _ :: r => iosOf bs r
  | _, _ => none
def defn (n : Nat) (fl : List Bool) (body : M Fl) : Fn := fun ds =>
  if ds.length = fl.length then
    match body (startR n fl ds) with
    | .ok (.rt d) r => match iosOf fl r with
      | some ios => .ok d ios
      | none => .no
    | .ok .nx r => match iosOf fl r with
      | some ios => .ok .non ios
      | none => .no
    | .ok .bk _ => .no
    | .ok .ct _ => .no
    | .exc x r => match iosOf fl r with
      | some ios => .exc x ios
      | none => .no
    | .no => .no
  else .no
inductive Arg where
  | val (f : M D)
  | io (j : Nat)
inductive AV where
  | val (d : D)
  | io (j : Nat)
def mArgs : List Arg → M (List AV)
  | [] => ret []
  | .val f :: as => bnd f fun d => bnd (mArgs as) fun vs => ret (.val d :: vs)
  | .io j :: as => fun r => if (own r[j]?).isSome then bnd (mArgs as) (fun vs => ret (.io j :: vs)) r else .no
def avs : List AV → Rho → Option (List D)
  | [], _ => some []
  | .val d :: as, r => (avs as r).map (d :: ·)
  | .io j :: as, r => match own r[j]? with
    | some d => (avs as r).map (d :: ·)
    | none => none
def ioSl : List AV → List Nat
  | [] => []
  | .val _ :: as => ioSl as
  | .io j :: as => j :: ioSl as
def putAll : List Nat → List D → Rho → Rho
  | j :: js, d :: ds, r => putAll js ds (putS j d r)
  | _, _, r => r
def Arg.isIo : Arg → Bool
  | .val _ => false
  | .io _ => true
def mApp (f : Fn) (vs : List AV) : M D := fun r =>
  match avs vs r with
  | some ds => if (ioSl vs).Nodup then match f ds with
      | .ok d ios => .ok d (putAll (ioSl vs) ios r)
      | .exc x ios => .exc x (putAll (ioSl vs) ios r)
      | .no => .no
    else .no
  | none => .no
def mCall (f : Fn) (as : List Arg) : M D := bnd (mArgs as) fun vs => mApp f vs
def mAndV (a b : M D) : M D := bnd a fun x => match x with
  | .bl true => b
  | .bl false => ret (.bl false)
  | _ => stuck
def mOrV (a b : M D) : M D := bnd a fun x => match x with
  | .bl true => ret (.bl true)
  | .bl false => b
  | _ => stuck
def tupD (ds : List D) : Option D := if ds.length ≤ 16777216 then some (.tup ds) else none
def lstD (ds : List D) : Option D := if ds.length ≤ 16777216 then some (.lst ds) else none
def mTup (fl : List (M D)) : M D := bnd (mL fl) fun xs => opt (tupD xs)
def mLst (fl : List (M D)) : M D := bnd (mL fl) fun xs => opt (lstD xs)
end VP

end
section
namespace VP
open PySem
def LIM : Nat := 16777216
def addI : D → D → Option D
  | .int i, .int j => some (.int (i + j))
  | _, _ => none
def subI : D → D → Option D
  | .int i, .int j => some (.int (i - j))
  | _, _ => none
def fdivI : D → D → Option D
  | .int i, .int j => if 0 < j ∧ j < 1073741824 then some (.int (i / j)) else none
  | _, _ => none
def modI : D → D → Option D
  | .int i, .int j => if 0 < j then some (.int (i % j)) else none
  | _, _ => none
def negI : D → Option D
  | .int i => some (.int (-i))
  | _ => none
def ltI : D → D → Option D
  | .int i, .int j => some (.bl (decide (i < j)))
  | _, _ => none
def leI : D → D → Option D
  | .int i, .int j => some (.bl (decide (i ≤ j)))
  | _, _ => none
def gtI : D → D → Option D
  | .int i, .int j => some (.bl (decide (j < i)))
  | _, _ => none
def geI : D → D → Option D
  | .int i, .int j => some (.bl (decide (j ≤ i)))
  | _, _ => none
def isNon : D → Bool
  | .non => true
  | _ => false
def isND (x y : D) : Option D := if isNon y then some (.bl (isNon x)) else none
def notND (x y : D) : Option D := if isNon y then some (.bl (!isNon x)) else none
def addT : D → D → Option D
  | .tup xs, .tup ys => if xs.length + ys.length ≤ LIM then some (.tup (xs ++ ys)) else none
  | _, _ => none
def addL : D → D → Option D
  | .lst xs, .lst ys => if xs.length + ys.length ≤ LIM then some (.lst (xs ++ ys)) else none
  | _, _ => none
def orE (g g' : D → D → Option D) (x y : D) : Option D := match g x y with
  | some d => some d
  | none => g' x y
def ixP (n : Nat) (i : Int) : Option Nat := if 0 ≤ i then (if i < n then some i.toNat else none) else if -(n : Int) ≤ i then some (i + n).toNat else none
def ixD (xs : List D) (i : Int) : Option D := (ixP xs.length i).bind fun j => xs[j]?
def itemD : D → D → Option D
  | .tup xs, .int i => ixD xs i
  | .lst xs, .int i => ixD xs i
  | _, _ => none
mutual
def eqB : D → D → Bool
  | .non, .non => true
  | .bl a, .bl b => a == b
  | .bl a, .int j => (if a then 1 else 0) == j
  | .int i, .bl b => i == (if b then 1 else 0)
  | .int i, .int j => i == j
  | .str x, .str y => x == y
  | .lst xs, .lst ys => eqBs xs ys
  | .tup xs, .tup ys => eqBs xs ys
  | _, _ => false
def eqBs : List D → List D → Bool
  | [], [] => true
  | x :: xs, y :: ys => eqB x y && eqBs xs ys
  | [], _ :: _ => false
  | _ :: _, [] => false
end
def strFine (x : Str) : Bool := x.cps.all (· < 0x110000)
mutual
def plain : Nat → D → Bool
  | _, .non => true
  | _, .bl _ => true
  | _, .int _ => true
  | _, .str x => strFine x
  | n + 1, .tup xs => plains n xs
  | n + 1, .lst xs => plains n xs
  | _, _ => false
def plains : Nat → List D → Bool
  | _, [] => true
  | n, x :: xs => plain n x && plains n xs
end
def eqG (x y : D) : Option D := if plain 60 x && plain 60 y then some (.bl (eqB x y)) else none
def neG (x y : D) : Option D := if plain 60 x && plain 60 y then some (.bl (!eqB x y)) else none
def seqD : D → Option (List D)
  | .tup ds => some ds
  | .lst ds => some ds
  | _ => none
def mSeq (f : M D) : M (List D) := bnd f fun d => opt (seqD d)
def rng1 : List D → Option (List D)
  | [.int j] => if -(2 ^ 62) ≤ j ∧ j < 2 ^ 62 then some ((List.range j.toNat).map fun (i : Nat) => .int i) else none
  | _ => none
def rng2 : List D → Option (List D)
  | [.int i, .int j] => if (-(2 ^ 62) ≤ i ∧ i < 2 ^ 62) ∧ -(2 ^ 62) ≤ j ∧ j < 2 ^ 62 then some ((List.range (j - i).toNat).map fun (k : Nat) => .int (i + k)) else none
  | _ => none
def mRng1 (fl : List (M D)) : M (List D) := bnd (mL fl) fun xs => opt (rng1 xs)
def mRng2 (fl : List (M D)) : M (List D) := bnd (mL fl) fun xs => opt (rng2 xs)
def lenD : D → Option D
  | .tup ds => some (.int ds.length)
  | .lst ds => some (.int ds.length)
  | _ => none
def tupOf : D → Option D
  | .tup ds => some (.tup ds)
  | .lst ds => some (.tup ds)
  | _ => none
def lstOf : D → Option D
  | .tup ds => some (.lst ds)
  | .lst ds => some (.lst ds)
  | _ => none
def maxD : List D → Option D
  | [.int i, .int j] => some (.int (if j > i then j else i))
  | _ => none
def minD : List D → Option D
  | [.int i, .int j] => some (.int (if j < i then j else i))
  | _ => none
def kindD : D → Option String
  | .non => some "NoneType"
  | .bl _ => some "bool"
  | .int _ => some "int"
  | .str _ => some "str"
  | .tup _ => some "tuple"
  | .lst _ => some "list"
  | .dct _ _ => some "dict"
  | .ins _ _ _ => none
  | .exn _ _ _ => none
def isaD (T : String) (x : D) : Option D := (kindD x).map fun k => .bl (k == T || (k == "bool" && T == "int"))
def zipL : List D → Option (List D)
  | [a, b] => match seqD a, seqD b with
    | some xs, some ys => some (List.zipWith (fun x y => D.tup [x, y]) xs ys)
    | _, _ => none
  | _ => none
def mZip (fl : List (M D)) : M (List D) := bnd (mL fl) fun xs => opt (zipL xs)
def intsD : List D → Option (List Int)
  | [] => some []
  | .int i :: r => (intsD r).map (i :: ·)
  | _ => none
def sumD (d : D) : Option D := match seqD d with
  | some ds => (intsD ds).map fun ns => .int ns.sum
  | none => none
def isLst : Option D → Bool
  | some (.lst _) => true
  | _ => false
def sApp (i : Nat) (fe : M D) : M Fl := fun r => if isLst (own r[i]?) then bnd fe (fun x => sDo (mUpd i (appD x))) r else .no
def setAt (k v : D) : D → Option D
  | .lst xs => match k with
    | .int i => (ixP xs.length i).map fun j => .lst (xs.set j v)
    | _ => none
  | _ => none
def sSetIx (i : Nat) (fk fv : M D) : M Fl := bnd fv fun v => fun r => if isLst (own r[i]?) then bnd fk (fun k => sDo (mUpd i (setAt k v))) r else .no
def sIxP (n d : Nat) : Option Int → Nat
  | none => d
  | some v => if v < 0 then (v + n).toNat else min v.toNat n
def cutD (xs : List D) (lo hi : Option Int) : List D := (xs.drop (sIxP xs.length 0 lo)).take (sIxP xs.length xs.length hi - sIxP xs.length 0 lo)
def mPart : Option (M D) → M (Option Int)
  | none => ret none
  | some f => bnd f fun d => match d with
    | .int i => ret (some i)
    | _ => stuck
def mSl (g : D → Option Int → Option Int → Option D) (f : M D) (lo hi : Option (M D)) : M D := bnd f fun d => bnd (mPart lo) fun l => bnd (mPart hi) fun h => opt (g d l h)
def ixAt (j : Nat) (i : D) : M D := fun r => match own r[j]? with
  | some d => opt (itemD d i) r
  | none => .no
def mIxO (j : Nat) (fb : M D) : M D := fun r => if (own r[j]?).isSome then bnd fb (ixAt j) r else .no
def addA : D → D → Option D
  | .int i, .int j => some (.int (i + j))
  | .tup xs, .tup ys => if xs.length + ys.length ≤ LIM then some (.tup (xs ++ ys)) else none
  | .lst xs, .lst ys => if xs.length + ys.length ≤ LIM then some (.lst (xs ++ ys)) else none
  | _, _ => none
def cutA (d : D) (lo hi : Option Int) : Option D := match d with
  | .tup xs => some (.tup (cutD xs lo hi))
  | .lst xs => some (.lst (cutD xs lo hi))
  | _ => none
def m3c (g g2 : D → D → Option D) (a b c : M D) : M D := bnd a fun x => bnd b fun y => bnd (opt (g x y)) fun d => match d with
  | .bl true => bnd c fun z => opt (g2 y z)
  | .bl false => ret (.bl false)
  | _ => stuck
def tabD (t : List (Str × D)) : D → Option D
  | .str k => t.lookup k
  | _ => none
def mRev (f : M D) : M (List D) := bnd f fun d => opt ((seqD d).map List.reverse)
def revT (d : D) : Option D := (seqD d).map fun xs => .tup xs.reverse
def revL (d : D) : Option D := (seqD d).map fun xs => .lst xs.reverse
def boolsD : List D → Option (List Bool)
  | [] => some []
  | .bl b :: r => (boolsD r).map (b :: ·)
  | _ => none
def allD (al : Bool) : D → Option D
  | .lst ds => (boolsD ds).map fun bs => .bl (if al then bs.all id else bs.any id)
  | _ => none
def tabInD (neg : Bool) (t : List (Str × D)) (ab : List Str) : D → Option D
  | .str k => match t.lookup k with
    | some _ => some (.bl (!neg))
    | none => if ab.contains k then some (.bl neg) else none
  | _ => none
def flatD : D → Bool
  | .non => true
  | .bl _ => true
  | .int _ => true
  | .str _ => true
  | _ => false
def inD (neg : Bool) (x y : D) : Option D := match seqD y with
  | some ds => if flatD x && ds.all flatD then some (.bl (if neg then !(ds.any fun y => eqB y x) else ds.any fun y => eqB y x)) else none
  | none => none
def putND (f : Str) (v : D) : List Str → List D → List Str × List D
  | n :: ns, x :: vs => if n = f then (n :: ns, v :: vs) else (n :: (putND f v ns vs).1, x :: (putND f v ns vs).2)
  | _, _ => ([f], [v])
def setFD (cs : List Str) (f : Str) (v : D) : D → Option D
  | .ins c ns vs => if cs.contains c && decide (ns.length < 1000) then some (.ins c (putND f v ns vs).1 (putND f v ns vs).2) else none
  | _ => none
def sSetF (i : Nat) (cs : List Str) (f : Str) (fv : M D) : M Fl := bnd fv fun v => sDo (mUpd i (setFD cs f v))
def mNew (c : Str) (f : Fn) (vs : List AV) : M D := fun r => match mApp f (.io r.length :: vs) (r ++ [.ow (.ins c [] [])]) with
  | .ok .non r' => match r'[r.length]? with
    | some (.ow d) => .ok d (r'.take r.length)
    | _ => .no
  | .exc x r' => .exc x (r'.take r.length)
  | _ => .no
def mMake (c : Str) (f : Fn) (as : List Arg) : M D := bnd (mArgs as) fun vs => mNew c f vs
def insOf (c m : Str) : D → Bool
  | .ins c' ns _ => c' == c && !ns.contains m
  | _ => false
def mMeth (c m : Str) (f : Fn) (fo : M D) (as : List Arg) : M D := bnd fo fun o => if insOf c m o then bnd (mArgs as) fun vs => mApp f (.val o :: vs) else stuck
def sNever : M Fl := stuck
def enumL (ds : List D) : List D := List.zipWith (fun (i : Nat) d => D.tup [.int i, d]) (List.range ds.length) ds
def enumD : List D → Option (List D)
  | [.lst ds] => some (enumL ds)
  | _ => none
def mEnum (fl : List (M D)) : M (List D) := bnd (mL fl) fun xs => opt (enumD xs)
def rngD : List D → Option (List D)
  | [.int i, .int j, .int k] => if k = -1 ∧ (-(2 ^ 62) ≤ i ∧ i < 2 ^ 62) ∧ -(2 ^ 62) ≤ j ∧ j < 2 ^ 62 then some ((List.range (i - j).toNat).map fun (k : Nat) => .int (i - k)) else none
  | _ => none
def mDown (fl : List (M D)) : M (List D) := bnd (mL fl) fun xs => opt (rngD xs)
end VP

end
section
namespace VP
def eqN (neg : Bool) (x y : D) : Option D := if neg then neG x y else eqG x y
def cmpAt (g : D → D → Option D) (j : Nat) (d : D) : M D := fun r => match own r[j]? with
  | some x => opt (g x d) r
  | none => .no
def mCmpO (g : D → D → Option D) (j : Nat) (fb : M D) : M D := fun r => if (own r[j]?).isSome then bnd fb (cmpAt g j) r else .no
def mCmpOO (g : D → D → Option D) (i j : Nat) : M D := fun r => match own r[i]?, own r[j]? with
  | some x, some y => opt (g x y) r
  | _, _ => .no
def sRaise (c : PySem.Str) (fs : List (M D)) : M Fl := bnd (mL fs) fun ds r => if ds.length ≤ 1000 then .exc ⟨c, [], []⟩ r else .no
def sRaiseI (c : PySem.Str) (ns : List PySem.Str) (fs : List (M D)) : M Fl := bnd (mL fs) fun ds r => if ds.length = ns.length then .exc ⟨c, ns, ds⟩ r else .no
def fldX (cs : List PySem.Str) (f : PySem.Str) : D → Option D
  | .exn c ns vs => if cs.contains c then (ns.zip vs).lookup f else none
  | _ => none
def lstL : D → Option (List D)
  | .lst ds => some ds
  | _ => none
def mSeqL (f : M D) : M (List D) := bnd f fun d => opt (lstL d)
def exnR : Option Sl → Res Fl → Res Fl
  | some (.sh (.exn _ _ _)), x => x
  | _, _ => .no
def sForH (j : Nat) (it : M (List D)) (g : D → M Unit) (body : M Fl) : M Fl := fun r => exnR r[j]? (sFor it g body r)
def sCatch (subs : List (PySem.Str × Bool)) (j : Nat) (h : M Fl) (x : Xn) : M Fl := fun r => match subs.lookup x.cls, r[j]? with
  | some true, some .no => (match h (r.set j (.sh (.exn x.cls x.ns x.vs))) with
    | .ok f r2 => .ok f (r2.set j .no)
    | _ => .no)
  | _, _ => .no
def sTry (f : M Fl) (subs : List (PySem.Str × Bool)) (j : Nat) (h : M Fl) : M Fl := fun r => match f r with
  | .ok k r1 => .ok k r1
  | .exc x r1 => sCatch subs j h x r1
  | .no => .no
def isaX (subs : List (PySem.Str × Bool)) : D → Option D
  | .exn c _ _ => (subs.lookup c).map .bl
  | _ => none
end VP

end
section
namespace VP
end VP

end
section
namespace VP
open PySem
def strsD : List D → Option (List Str)
  | [] => some []
  | .str x :: r => (strsD r).map (x :: ·)
  | _ => none
def isStrD : D → Bool
  | .str _ => true
  | _ => false
def mMt (g : D → D → Option D) (fo fe : M D) : M D := bnd fo fun x => if isStrD x then bnd fe fun y => opt (g x y) else fun _ => .no
def joinD : D → D → Option D
  | .str sep, .lst ds => match strsD ds with
    | some ss => if JoinOk sep ss then some (.str (Txt.join sep ss)) else none
    | none => none
  | _, _ => none
def splitD : D → D → Option D
  | .str x, .str y => if y.length ≠ 0 ∧ x.length ≤ 1000000 then some (.lst ((Txt.split x y).map .str)) else none
  | _, _ => none
def startsD : D → D → Option D
  | .str x, .str y => some (.bl (Txt.startswith x y))
  | _, _ => none
def textD : D → Option D
  | .int i => if i.natAbs < 2 ^ 64 then some (.str (toString i)) else none
  | .str x => some (.str x)
  | _ => none
def numD : D → Option D
  | .str x => if x.length ≤ 640 then (intText? x).map .int else none
  | _ => none
def lenS : D → Option D
  | .str x => if x.length ≤ LIM then some (.int x.length) else none
  | _ => none
def itemS : D → D → Option D
  | .str x, .int i => if x.length ≤ LIM ∧ 0 ≤ i then (x.cps.toList[i.toNat]?).map fun c => .str ⟨#[c]⟩ else none
  | _, _ => none
def fromS : D → D → Option D
  | .str x, .int i => if x.length ≤ LIM then some (.str (Txt.slice x (some i) none)) else none
  | _, _ => none
def inS : D → D → Option D
  | .str y, .str x => some (.bl (Txt.contains x y))
  | _, _ => none
def signsD : D → Option (List D)
  | .str x => if x.length ≤ LIM then some (x.cps.toList.map fun c => .str ⟨#[c]⟩) else none
  | _ => none
def mSigns (f : M D) : M (List D) := bnd f fun d => opt (signsD d)
def powI : D → D → Option D
  | .int i, .int j => if 0 ≤ j ∧ j ≤ 1000 ∧ i.natAbs < 2 ^ 64 then some (.int (i ^ j.toNat)) else none
  | _, _ => none
end VP

end
section
namespace VP
open PySem
def addS : D → D → Option D
  | .str x, .str y => if x.length + y.length ≤ LIM then some (.str (x ++ y)) else none
  | _, _ => none
def mulS : D → D → Option D
  | .str x, .int n => if 1 < n ∧ n ≤ 100 ∧ x.length ≤ 100 then some (.str (Txt.mul x n)) else none
  | _, _ => none
end VP

end
section
set_option linter.all false
set_option maxRecDepth 100000
namespace VS
open PySem PySem.Spec PyProof.Rows L2 VP
abbrev Frag := PySem.W.Frag
abbrev St := L2.St
abbrev MG := Str → Option Value
def XOb (a C : Addr) (dx : Option Addr) : Heap → Prop := fun h => ∃ vs sl, h.get? a = some ⟨.ref C, dx, .fields vs, sl⟩ ∧ vs[2]? = some .none
mutual
inductive Den (K : Frag) (mg : MG) (F : Hp) : V → D → Prop where
  | non : Den K mg F .non .non
  | bl (b : Bool) : Den K mg F (.bl b) (.bl b)
  | int (i : Int) : Den K mg F (.int i) (.int i)
  | str (x : Str) : Den K mg F (.str x) (.str x)
  | tup {a : Addr} {vs : List V} {ds : List D} (h : SqT K F a vs) (r : DenL K mg F vs ds) : Den K mg F (.ref a) (.tup ds)
  | lst {a : Addr} {vs : List V} {ds : List D} (h : SqL K F a vs) (r : DenL K mg F vs ds) : Den K mg F (.ref a) (.lst ds)
  | dct {a : Addr} {kvs : List (Key × V)} {ds : List D} (h : F a = some (.dK kvs)) (r : DenL K mg F (kvs.map (·.2)) ds) : Den K mg F (.ref a) (.dct (kvs.map (·.1)) ds)
  | ins {a C dx : Addr} {c : Str} {fs : List (Str × V)} {ds : List D} (h : F a = some (.ins C dx fs)) (hc : mg c = some (.ref C)) (r : DenL K mg F (fs.map (·.2)) ds) : Den K mg F (.ref a) (.ins c (fs.map (·.1)) ds)
  | exn {a C : Addr} {dx : Option Addr} {c : Str} {fs : List (Str × V)} {ds : List D} (h : F a = some (.ext (XOb a C dx))) (hc : mg c = some (.ref C)) (hf : (dx = none ∧ fs = []) ∨ ∃ b, dx = some b ∧ F b = some (.xd fs)) (r : DenL K mg F (fs.map (·.2)) ds) : Den K mg F (.ref a) (.exn c (fs.map (·.1)) ds)
inductive DenL (K : Frag) (mg : MG) (F : Hp) : List V → List D → Prop where
  | nil : DenL K mg F [] []
  | cons {v : V} {d : D} {vs : List V} {ds : List D} (h : Den K mg F v d) (t : DenL K mg F vs ds) : DenL K mg F (v :: vs) (d :: ds)
end
theorem SqT.same {K : Frag} {F F' : Hp} {a : Addr} {xs : List V} (h : SqT K F a xs) (e : Same F F') : SqT K F' a xs := by
  rcases h with (h | ⟨o, h⟩) | h
  · exact .inl (.inl (e _ _ h))
  · exact .inl (.inr ⟨o, e _ _ h⟩)
  · exact .inr h
theorem SqL.same {K : Frag} {F F' : Hp} {a : Addr} {xs : List V} (h : SqL K F a xs) (e : Same F F') : SqL K F' a xs := e.seq h
section
variable {K : Frag} {mg : MG} {F F' H H' : Hp}
mutual
theorem Den.same (e : Same F F') : ∀ {v : V} {d : D}, Den K mg F v d → Den K mg F' v d
  | _, _, .non => .non
  | _, _, .bl b => .bl b
  | _, _, .int i => .int i
  | _, _, .str x => .str x
  | _, _, .tup h r => .tup (SqT.same h e) (DenL.same e r)
  | _, _, .lst h r => .lst (SqL.same h e) (DenL.same e r)
  | _, _, .dct h r => .dct (e _ _ h) (DenL.same e r)
  | _, _, .ins h hc r => .ins (e _ _ h) hc (DenL.same e r)
  | _, _, .exn h hc hf r => .exn (e _ _ h) hc (hf.imp id fun ⟨b, q, z⟩ => ⟨b, q, e _ _ z⟩) (DenL.same e r)
theorem DenL.same (e : Same F F') : ∀ {vs : List V} {ds : List D}, DenL K mg F vs ds → DenL K mg F' vs ds
  | _, _, .nil => .nil
  | _, _, .cons h t => .cons (Den.same e h) (DenL.same e t)
end
theorem DenL.length : ∀ {vs : List V} {ds : List D}, DenL K mg F vs ds → vs.length = ds.length
  | _, _, .nil => rfl
  | _, _, .cons _ t => by simp [DenL.length t]
theorem DenL.append : ∀ {vs ws : List V} {ds es : List D}, DenL K mg F vs ds → DenL K mg F ws es → DenL K mg F (vs ++ ws) (ds ++ es)
  | _, _, _, _, .nil, s => s
  | _, _, _, _, .cons h t, s => .cons h (DenL.append t s)
theorem DenL.get : ∀ {vs : List V} {ds : List D} {i : Nat} {d : D}, DenL K mg F vs ds → ds[i]? = some d → ∃ v, vs[i]? = some v ∧ Den K mg F v d
  | _, _, _, _, .nil, e => by simp at e
  | _, _, 0, _, .cons h _, e => by simp at e; subst e; exact ⟨_, rfl, h⟩
  | _, _, i + 1, _, .cons _ t, e => by
    obtain ⟨v, h1, h2⟩ := DenL.get (i := i) t (by simpa using e)
    exact ⟨v, by simpa using h1, h2⟩
theorem DenL.set : ∀ {vs : List V} {ds : List D} {v : V} {d : D} (i : Nat), DenL K mg F vs ds → Den K mg F v d → DenL K mg F (vs.set i v) (ds.set i d)
  | _, _, _, _, _, .nil, _ => .nil
  | _, _, _, _, 0, .cons _ t, h => .cons h t
  | _, _, _, _, i + 1, .cons q t, h => .cons q (DenL.set i t h)
theorem DenL.take : ∀ {vs : List V} {ds : List D} (n : Nat), DenL K mg F vs ds → DenL K mg F (vs.take n) (ds.take n)
  | _, _, 0, _ => by simpa using DenL.nil
  | _, _, _ + 1, .nil => .nil
  | _, _, n + 1, .cons h t => .cons h (DenL.take n t)
theorem DenL.drop : ∀ {vs : List V} {ds : List D} (n : Nat), DenL K mg F vs ds → DenL K mg F (vs.drop n) (ds.drop n)
  | _, _, 0, h => by simpa using h
  | _, _, _ + 1, .nil => .nil
  | _, _, n + 1, .cons _ t => DenL.drop n t
theorem DenL.ints (ns : List Int) : DenL K mg F (ns.map V.int) (ns.map D.int) := by
  induction ns with
  | nil => exact .nil
  | cons n r ih => exact .cons (.int n) ih
theorem DenL.map {α : Type} {f : α → V} {g : α → D} (h : ∀ a, Den K mg F (f a) (g a)) (l : List α) : DenL K mg F (l.map f) (l.map g) := by
  induction l with
  | nil => exact .nil
  | cons a l ih => exact .cons (h a) ih
def Obj1 (K : Frag) (mg : MG) (F H : Hp) (l : Addr) : D → Prop
  | .lst ds => ∃ vs, H l = some (.lst vs) ∧ DenL K mg F vs ds
  | .dct ks ds => ∃ kvs, H l = some (.dK kvs) ∧ kvs.map (·.1) = ks ∧ DenL K mg F (kvs.map (·.2)) ds
  | .ins c ns ds => ∃ C dx fs, H l = some (.ins C dx fs) ∧ mg c = some (.ref C) ∧ fs.map (·.1) = ns ∧ DenL K mg F (fs.map (·.2)) ds
  | _ => False
theorem Obj1.same {l : Addr} {d : D} (h : Obj1 K mg F H l d) (e : Same F F') (eh : ∀ o, H l = some o → H' l = some o) : Obj1 K mg F' H' l d := by
  cases d with
  | lst ds => obtain ⟨vs, h1, h2⟩ := h; exact ⟨vs, eh _ h1, h2.same e⟩
  | dct ks ds => obtain ⟨kvs, h1, h2, h3⟩ := h; exact ⟨kvs, eh _ h1, h2, h3.same e⟩
  | ins c ns ds => obtain ⟨C, dx, fs, h1, h2, h3, h4⟩ := h; exact ⟨C, dx, fs, eh _ h1, h2, h3, h4.same e⟩
  | _ => exact h.elim
theorem Obj1.has {l : Addr} {d : D} (h : Obj1 K mg F H l d) : ∃ o, H l = some o := by
  cases d with
  | lst ds => obtain ⟨vs, h1, h2⟩ := h; exact ⟨_, h1⟩
  | dct ks ds => obtain ⟨kvs, h1, h2, h3⟩ := h; exact ⟨_, h1⟩
  | ins c ns ds => obtain ⟨C, dx, fs, h1, h2, h3, h4⟩ := h; exact ⟨_, h1⟩
  | _ => exact h.elim
theorem Obj1.den {l : Addr} {d : D} {o : HO} (h : Obj1 K mg F H l d) (ho : H l = some o) (e : Same F F') (hl : F' l = some o) : Den K mg F' (.ref l) d := by
  cases d with
  | lst ds =>
    obtain ⟨vs, h1, h2⟩ := h
    rw [ho] at h1; cases h1
    exact .lst (SqL.of hl) (h2.same e)
  | dct ks ds =>
    obtain ⟨kvs, h1, rfl, h3⟩ := h
    rw [ho] at h1; cases h1
    exact .dct hl (h3.same e)
  | ins c ns ds =>
    obtain ⟨C, dx, fs, h1, h2, rfl, h4⟩ := h
    rw [ho] at h1; cases h1
    exact .ins hl h2 (h4.same e)
  | _ => exact h.elim
end
structure Fx where
  H₀ : Hp
  F₀ : Hp
  io : List (Nat × Addr)
def SlR (K : Frag) (mg : MG) (G : Fx) (F H : Hp) (i : Nat) (v : Option V) : Sl → Prop
  | .no => True
  | .sh d => ∃ u, v = some u ∧ Den K mg F u d
  | .ow d => ∃ l, v = some (.ref l) ∧ F l = none ∧ G.H₀ l = none ∧ Obj1 K mg F H l d
  | .io d => ∃ l, v = some (.ref l) ∧ (i, l) ∈ G.io ∧ F l = none ∧ Obj1 K mg F H l d
def Owned : Sl → Bool
  | .ow _ => true
  | .io _ => true
  | _ => false
structure Good (K : Frag) (mg : MG) (G : Fx) (F H : Hp) (σ : St) (ρ : Rho) : Prop where
  sF : Same G.F₀ F
  sub : Same F H
  old : ∀ a o, G.H₀ a = some o → (∀ i, (i, a) ∉ G.io) → H a = some o
  new : ∀ a o, F a = some o → G.F₀ a = some o ∨ G.H₀ a = none
  len : σ.length = ρ.length
  slot : ∀ (i : Nat) (s : Sl), ρ[i]? = some s → SlR K mg G F H i (σ[i]?.join) s
  apart : ∀ (i j : Nat) (l : Addr) (s t : Sl), ρ[i]? = some s → ρ[j]? = some t → Owned s = true → Owned t = true → σ[i]? = some (some (V.ref l)) → σ[j]? = some (some (V.ref l)) → i = j
  ioT : ∀ i a, (i, a) ∈ G.io → (∃ o, H a = some o) ∧ F a = none ∧ ∃ o, G.H₀ a = some o
  ioU : ∀ i a b, (i, a) ∈ G.io → (i, b) ∈ G.io → a = b
section
variable {K : Frag} {mg : MG} {G : Fx} {F F' H H' : Hp} {σ : St} {ρ : Rho}
theorem SlR.own {i : Nat} {v : Option V} {s : Sl} (h : SlR K mg G F H i v s) (o : Owned s = true) : ∃ l d, v = some (.ref l) ∧ F l = none ∧ Obj1 K mg F H l d ∧ (s = .ow d ∨ s = .io d) := by
  cases s with
  | no => cases o
  | sh d => cases o
  | ow d => obtain ⟨l, h1, h2, h3, h4⟩ := h; exact ⟨l, d, h1, h2, h4, .inl rfl⟩
  | io d => obtain ⟨l, h1, h2, h3, h4⟩ := h; exact ⟨l, d, h1, h3, h4, .inr rfl⟩
theorem SlR.same {i : Nat} {v : Option V} {s : Sl} (h : SlR K mg G F H i v s) (e : Same F F') (hn : ∀ l, v = some (.ref l) → Owned s = true → F l = none → (∃ o, H l = some o) → F' l = none)
    (eh : ∀ l o, v = some (.ref l) → Owned s = true → H l = some o → H' l = some o) : SlR K mg G F' H' i v s := by
  cases s with
  | no => trivial
  | sh d => obtain ⟨u, h1, h2⟩ := h; exact ⟨u, h1, h2.same e⟩
  | ow d => obtain ⟨l, h1, h2, h3, h4⟩ := h; exact ⟨l, h1, hn l h1 rfl h2 h4.has, h3, h4.same e fun o => eh l o h1 rfl⟩
  | io d => obtain ⟨l, h1, h2, h3, h4⟩ := h; exact ⟨l, h1, h2, hn l h1 rfl h3 h4.has, h4.same e fun o => eh l o h1 rfl⟩
theorem Good.ext (g : Good K mg G F H σ ρ) (eF : Same F F') (eH : Same H H') (sub : Same F' H') (new : ∀ a o, F' a = some o → F a = some o ∨ H a = none) : Good K mg G F' H' σ ρ where
  sF := g.sF.trans eF
  sub := sub
  old := fun a o e n => eH _ _ (g.old a o e n)
  new := fun a o e => by
    rcases new a o e with h | h
    · exact g.new a o h
    · refine .inr ?_
      cases q : G.H₀ a with
      | none => rfl
      | some u =>
        by_cases z : ∃ i, (i, a) ∈ G.io
        · obtain ⟨i, z⟩ := z
          obtain ⟨⟨w, hw⟩, _⟩ := g.ioT i a z
          rw [h] at hw; cases hw
        · have := g.old a u q (fun i w => z ⟨i, w⟩)
          rw [h] at this; cases this
  len := g.len
  slot := fun i s h => (g.slot i s h).same eF (fun l _ _ hf ⟨o, ho⟩ => by
    cases q : F' l with
    | none => rfl
    | some u =>
      rcases new l u q with z | z
      · rw [hf] at z; cases z
      · rw [ho] at z; cases z) fun l o _ _ e => eH _ _ e
  apart := g.apart
  ioT := fun i a h => by
    obtain ⟨⟨o, h1⟩, h2, h3⟩ := g.ioT i a h
    refine ⟨⟨o, eH _ _ h1⟩, ?_, h3⟩
    cases q : F' a with
    | none => rfl
    | some u =>
      rcases new a u q with z | z
      · rw [h2] at z; cases z
      · rw [h1] at z; cases z
  ioU := g.ioU
theorem same_upd {A : Hp} {p : Addr} {o : HO} (h : A p = none) : Same A (upd A p o) := fun b q e => by rw [upd_ne (ne_of_none e h)]; exact e
theorem Good.laid {p : Addr} {o : HO} (g : Good K mg G F H σ ρ) (hp : H p = none) : Good K mg G (upd F p o) (upd H p o) σ ρ := by
  have fp : F p = none := g.sub.free hp
  refine g.ext (same_upd fp) (same_upd hp) (fun b q e => ?_) fun a u e => ?_
  · by_cases hb : b = p
    · subst hb; rw [upd_same] at e ⊢; exact e
    · rw [upd_ne hb] at e ⊢; exact g.sub _ _ e
  · by_cases hb : a = p
    · subst hb; exact .inr hp
    · rw [upd_ne hb] at e; exact .inl e
theorem Good.made {p : Addr} {o : HO} (g : Good K mg G F H σ ρ) (hp : H p = none) : Good K mg G F (upd H p o) σ ρ :=
  g.ext (Same.refl _) (same_upd hp) (g.sub.trans (same_upd hp)) fun a u e => .inl e
theorem Good.new0 {p : Addr} (g : Good K mg G F H σ ρ) (hp : H p = none) : G.H₀ p = none := by
  cases q : G.H₀ p with
  | none => rfl
  | some u =>
    by_cases z : ∃ i, (i, p) ∈ G.io
    · obtain ⟨i, z⟩ := z
      obtain ⟨⟨w, hw⟩, _⟩ := g.ioT i p z
      rw [hp] at hw; cases hw
    · have := g.old p u q (fun i w => z ⟨i, w⟩)
      rw [hp] at this; cases this
structure Loose (K : Frag) (mg : MG) (G : Fx) (F H : Hp) (σ : St) (ρ : Rho) (l : Addr) (d : D) : Prop where
  nF : F l = none
  n0 : G.H₀ l = none
  ob : Obj1 K mg F H l d
  ns : ∀ (i : Nat) (s : Sl), ρ[i]? = some s → Owned s = true → σ[i]? ≠ some (some (V.ref l))
theorem Good.loose {p : Addr} {o : HO} {d : D} (g : Good K mg G F H σ ρ) (hp : H p = none) (ho : Obj1 K mg F (upd H p o) p d) : Loose K mg G F (upd H p o) σ ρ p d where
  nF := g.sub.free hp
  n0 := g.new0 hp
  ob := ho
  ns := fun i s h o e => by
    obtain ⟨l, d, h1, h2, h3, h4⟩ := (g.slot i s h).own o
    rw [e] at h1
    cases h1
    obtain ⟨u, hu⟩ := h3.has
    rw [hp] at hu; cases hu
theorem Loose.fast {l : Addr} {d : D} (x : Loose K mg G F H σ ρ l d) (g : Good K mg G F H σ ρ) : ∃ F', Same F F' ∧ Good K mg G F' H σ ρ ∧ Den K mg F' (.ref l) d := by
  obtain ⟨o, ho⟩ := x.ob.has
  refine ⟨upd F l o, same_upd x.nF, ?_, x.ob.den ho (same_upd x.nF) upd_same⟩
  exact {
    sF := g.sF.trans (same_upd x.nF)
    sub := fun b q e => by
      by_cases hb : b = l
      · subst hb; rw [upd_same] at e; cases e; exact ho
      · rw [upd_ne hb] at e; exact g.sub _ _ e
    old := g.old
    new := fun a u e => by
      by_cases hb : a = l
      · subst hb; exact .inr x.n0
      · rw [upd_ne hb] at e; exact g.new a u e
    len := g.len
    slot := fun i s h => (g.slot i s h).same (same_upd x.nF) (fun m hv ow hf _ => by
      have : m ≠ l := fun z => by
        subst z
        refine x.ns i s h ow ?_
        cases q : σ[i]? with
        | none => rw [q] at hv; cases hv
        | some w => rw [q] at hv; exact congrArg some hv
      rw [upd_ne this]; exact hf) fun _ _ _ _ e => e
    apart := g.apart
    ioT := fun i a h => by
      obtain ⟨h1, h2, u, h3⟩ := g.ioT i a h
      refine ⟨h1, ?_, u, h3⟩
      have : a ≠ l := fun z => by subst z; rw [x.n0] at h3; cases h3
      rw [upd_ne this]; exact h2
    ioU := g.ioU }
theorem join_some {σ : St} {i : Nat} {v : V} (h : σ[i]?.join = some v) : σ[i]? = some (some v) := by
  cases q : σ[i]? with
  | none => rw [q] at h; cases h
  | some w => rw [q] at h; exact congrArg some h
theorem Good.store {i : Nat} {v : V} {s' : Sl} (g : Good K mg G F H σ ρ) (hf : free ρ[i]? = true) (hs : SlR K mg G F H i (some v) s')
    (hap : Owned s' = true → ∀ (j : Nat) (s : Sl), ρ[j]? = some s → Owned s = true → j ≠ i → σ[j]? ≠ some (some v)) : Good K mg G F H (σ.set i (some v)) (ρ.set i s') where
  sF := g.sF
  sub := g.sub
  old := g.old
  new := g.new
  len := by simp [g.len]
  slot := fun j s h => by
    by_cases hj : j = i
    · subst hj
      have hi : j < ρ.length := by
        cases q : ρ[j]? with
        | none => rw [q] at hf; cases hf
        | some w => exact (List.getElem?_eq_some_iff.mp q).1
      rw [List.getElem?_set_self hi] at h; cases h
      rw [List.getElem?_set_self (by rw [g.len]; exact hi)]
      exact hs
    · rw [List.getElem?_set_ne (Ne.symm hj)] at h ⊢
      exact g.slot j s h
  apart := fun j k l s t h1 h2 o1 o2 e1 e2 => by
    by_cases hj : j = i
    · by_cases hk : k = i
      · rw [hj, hk]
      · subst hj
        rw [List.getElem?_set_ne (Ne.symm hk)] at h2 e2
        have hi : j < ρ.length := by
          cases q : ρ[j]? with
          | none => rw [q] at hf; cases hf
          | some w => exact (List.getElem?_eq_some_iff.mp q).1
        rw [List.getElem?_set_self hi] at h1; cases h1
        rw [List.getElem?_set_self (by rw [g.len]; exact hi)] at e1
        cases e1
        exact absurd e2 (hap o1 k t h2 o2 hk)
    · rw [List.getElem?_set_ne (Ne.symm hj)] at h1 e1
      by_cases hk : k = i
      · subst hk
        have hi : k < ρ.length := by
          cases q : ρ[k]? with
          | none => rw [q] at hf; cases hf
          | some w => exact (List.getElem?_eq_some_iff.mp q).1
        rw [List.getElem?_set_self hi] at h2; cases h2
        rw [List.getElem?_set_self (by rw [g.len]; exact hi)] at e2
        cases e2
        exact absurd e1 (hap o2 j s h1 o1 hj)
      · rw [List.getElem?_set_ne (Ne.symm hk)] at h2 e2
        exact g.apart j k l s t h1 h2 o1 o2 e1 e2
  ioT := g.ioT
  ioU := g.ioU
theorem Good.write {i : Nat} {l : Addr} {s s' : Sl} {o : HO} {d : D} (g : Good K mg G F H σ ρ) (hr : ρ[i]? = some s) (ho : Owned s = true) (hl : σ[i]? = some (some (V.ref l)))
    (hs : (∃ e, s = .ow e ∧ s' = .ow d) ∨ (∃ e, s = .io e ∧ s' = .io d)) (hd : Obj1 K mg F (upd H l o) l d) : Good K mg G F (upd H l o) σ (ρ.set i s') := by
  have nF : F l = none := by
    obtain ⟨m, e, h1, h2, h3, _⟩ := (g.slot i s hr).own ho
    rw [hl] at h1; cases h1; exact h2
  have hi : i < ρ.length := (List.getElem?_eq_some_iff.mp hr).1
  have ow' : Owned s' = true := by rcases hs with ⟨e, _, rfl⟩ | ⟨e, _, rfl⟩ <;> rfl
  exact {
    sF := g.sF
    sub := fun b q e => by
      have : b ≠ l := ne_of_none e nF
      rw [upd_ne this]; exact g.sub _ _ e
    old := fun a q e n => by
      have : a ≠ l := fun z => by
        subst z
        have k := g.slot i s hr
        rcases hs with ⟨e', rfl, _⟩ | ⟨e', rfl, _⟩
        · obtain ⟨m, h1, h2, h3, _⟩ := k
          rw [hl] at h1; cases h1; rw [e] at h3; cases h3
        · obtain ⟨m, h1, h2, h3, _⟩ := k
          rw [hl] at h1; cases h1; exact n i h2
      rw [upd_ne this]; exact g.old a q e n
    new := g.new
    len := by simp [g.len]
    slot := fun j t h => by
      by_cases hj : j = i
      · subst hj
        rw [List.getElem?_set_self hi] at h; cases h
        have k := g.slot j s hr
        rcases hs with ⟨e', rfl, rfl⟩ | ⟨e', rfl, rfl⟩
        · obtain ⟨m, h1, h2, h3, _⟩ := k
          rw [hl] at h1; cases h1
          rw [hl]
          exact ⟨l, rfl, h2, h3, hd⟩
        · obtain ⟨m, h1, h2, h3, _⟩ := k
          rw [hl] at h1; cases h1
          rw [hl]
          exact ⟨l, rfl, h2, h3, hd⟩
      · rw [List.getElem?_set_ne (Ne.symm hj)] at h
        refine (g.slot j t h).same (Same.refl _) (fun _ _ _ z _ => z) fun m q hv ow e => ?_
        have : m ≠ l := fun z => by
          subst z
          exact hj (g.apart j i m t s h hr ow ho (join_some hv) hl)
        rw [upd_ne this]; exact e
    apart := fun j k m t u h1 h2 o1 o2 e1 e2 => by
      have f : ∀ {j : Nat} {t : Sl}, (ρ.set i s')[j]? = some t → Owned t = true → ∃ t', ρ[j]? = some t' ∧ Owned t' = true := fun {j t} h o => by
        by_cases hj : j = i
        · subst hj; exact ⟨s, hr, ho⟩
        · rw [List.getElem?_set_ne (Ne.symm hj)] at h; exact ⟨t, h, o⟩
      obtain ⟨t', a1, a2⟩ := f h1 o1
      obtain ⟨u', b1, b2⟩ := f h2 o2
      exact g.apart j k m t' u' a1 b1 a2 b2 e1 e2
    ioT := fun j a h => by
      obtain ⟨⟨q, h1⟩, h2, h3⟩ := g.ioT j a h
      refine ⟨?_, h2, h3⟩
      by_cases ha : a = l
      · subst ha; exact ⟨o, upd_same⟩
      · exact ⟨q, by rw [upd_ne ha]; exact h1⟩
    ioU := g.ioU }
theorem Good.fz {i : Nat} {d : D} (g : Good K mg G F H σ ρ) (hr : ρ[i]? = some (.ow d)) : ∃ F', Same F F' ∧ Good K mg G F' H σ (ρ.set i (.sh d)) := by
  obtain ⟨l, h1, h2, h3, h4⟩ := g.slot i _ hr
  have hl := join_some h1
  have hi : i < ρ.length := (List.getElem?_eq_some_iff.mp hr).1
  obtain ⟨o, ho⟩ := h4.has
  refine ⟨upd F l o, same_upd h2, ?_⟩
  exact {
    sF := g.sF.trans (same_upd h2)
    sub := fun b q e => by
      by_cases hb : b = l
      · subst hb; rw [upd_same] at e; cases e; exact ho
      · rw [upd_ne hb] at e; exact g.sub _ _ e
    old := g.old
    new := fun a u e => by
      by_cases hb : a = l
      · subst hb; exact .inr h3
      · rw [upd_ne hb] at e; exact g.new a u e
    len := by simp [g.len]
    slot := fun j s h => by
      by_cases hj : j = i
      · subst hj
        rw [List.getElem?_set_self hi] at h; cases h
        exact ⟨_, h1, h4.den ho (same_upd h2) upd_same⟩
      · rw [List.getElem?_set_ne (Ne.symm hj)] at h
        refine (g.slot j s h).same (same_upd h2) (fun m hv ow hf _ => ?_) fun _ _ _ _ e => e
        have : m ≠ l := fun z => by
          subst z
          exact hj (g.apart j i m s _ h hr ow rfl (join_some hv) hl)
        rw [upd_ne this]; exact hf
    apart := fun j k m t u h1 h2 o1 o2 e1 e2 => by
      have f : ∀ {j : Nat} {t : Sl}, (ρ.set i (.sh d))[j]? = some t → Owned t = true → ρ[j]? = some t := fun {j t} h o => by
        by_cases hj : j = i
        · subst hj; rw [List.getElem?_set_self hi] at h; cases h; cases o
        · rw [List.getElem?_set_ne (Ne.symm hj)] at h; exact h
      exact g.apart j k m t u (f h1 o1) (f h2 o2) o1 o2 e1 e2
    ioT := fun j a h => by
      obtain ⟨q1, q2, u, q3⟩ := g.ioT j a h
      refine ⟨q1, ?_, u, q3⟩
      have : a ≠ l := fun z => by subst z; rw [h3] at q3; cases q3
      rw [upd_ne this]; exact q2
    ioU := g.ioU }
end
end VS

end
section
set_option linter.all false
set_option maxRecDepth 100000
namespace VS
open PySem PySem.Spec PyProof.Rows L2 VP
def XR (K : Frag) (mg : MG) (F H : Hp) (c : Value) (dx : Option Addr) (x : Xn) : Prop :=
  ∃ C, c = .ref C ∧ mg x.cls = some (.ref C) ∧ ∃ fs : List (Str × V), ((dx = none ∧ fs = []) ∨ ∃ a, dx = some a ∧ F a = some (.xd fs)) ∧ fs.map (·.1) = x.ns ∧ DenL K mg F (fs.map (·.2)) x.vs
abbrev XE := St → XK
structure Lc where
  K : Frag
  mg : MG
  EX : XE
def Out {α : Type} : Res α → (α → Rho → Prop) → (Xn → Rho → Prop) → Prop
  | .ok a r, P, _ => P a r
  | .exc x r, _, E => E x r
  | .no, _, _ => False
theorem Out.bnd {α β : Type} {f : M α} {g : α → M β} {r : Rho} {P : β → Rho → Prop} {E : Xn → Rho → Prop} (h : Out (bnd f g r) P E) : Out (f r) (fun a r' => Out (g a r') P E) E := by
  unfold VP.bnd at h
  cases q : f r with
  | ok a r' => rw [q] at h; exact h
  | exc x r' => rw [q] at h; exact h
  | no => rw [q] at h; exact h
theorem Out.mono {α : Type} {r : Res α} {P P' : α → Rho → Prop} {E E' : Xn → Rho → Prop} (h : Out r P E) (hP : ∀ a r, P a r → P' a r) (hE : ∀ x r, E x r → E' x r) : Out r P' E' := by
  cases r with
  | ok a r => exact hP _ _ h
  | exc x r => exact hE _ _ h
  | no => exact h
theorem Out.opt {α : Type} {o : Option α} {r : Rho} {P : α → Rho → Prop} {E : Xn → Rho → Prop} (h : Out (opt o r) P E) : ∃ a, o = some a ∧ P a r := by
  cases o with
  | none => exact h.elim
  | some a => exact ⟨a, rfl, h⟩
theorem Out.ite {α : Type} {b : Bool} {f g : M α} {r : Rho} {P : α → Rho → Prop} {E : Xn → Rho → Prop} (h : Out ((if b then f else g) r) P E) : (b = true ∧ Out (f r) P E) ∨ (b = false ∧ Out (g r) P E) := by
  cases b with
  | true => exact .inl ⟨rfl, h⟩
  | false => exact .inr ⟨rfl, h⟩
abbrev Rl (α β : Type) := Fx → Hp → Hp → St → Rho → β → α → Prop
section
variable (L : Lc)
abbrev Lc.Good (G : Fx) (F H : Hp) (σ : St) (ρ : Rho) : Prop := VS.Good L.K L.mg G F H σ ρ
def RV : Rl D V := fun _ F _ _ _ v d => Den L.K L.mg F v d
def RR : Rl D V := fun _ F H _ _ v d => Den L.K L.mg F v d ∨ ∃ l, v = .ref l ∧ Obj1 L.K L.mg F H l d
def RF : Rl D V := fun G F H σ ρ v d => ∃ l, v = .ref l ∧ Loose L.K L.mg G F H σ ρ l d
def RB : Rl Bool Bool := fun _ _ _ _ _ b a => b = a
def RL : Rl (List D) (List V) := fun _ F _ _ _ vs ds => DenL L.K L.mg F vs ds
def PostX (G : Fx) (F : Hp) (σ : St) : Xn → Rho → Prop := fun x ρ' => ∀ F' H' c dx, Same F F' → L.Good G F' H' σ ρ' → XR L.K L.mg F' H' c dx x → L.EX σ c dx H'
def Post {α β : Type} (R : Rl α β) (G : Fx) (F : Hp) (σ : St) (Q : β → Hp → Prop) : α → Rho → Prop := fun a ρ' => ∀ F' H' b, Same F F' → L.Good G F' H' σ ρ' → R G F' H' σ ρ' b a → Q b H'
def lift {α β : Type} (R : Rl α β) (f : M α) : St → Hp → (β → Hp → Prop) → Prop := fun σ H Q =>
  ∃ G F ρ, L.Good G F H σ ρ ∧ Out (f ρ) (Post L R G F σ Q) (PostX L G F σ)
end
section
variable {L : Lc} {α β γ : Type} {G : Fx} {F F1 H : Hp} {σ : St} {ρ : Rho}
theorem at_bnd {Ra : Rl α β} {f : M α} {g : α → M γ} {P : γ → Rho → Prop} {E : Xn → Rho → Prop} {W : β → Hp → Prop} (g0 : L.Good G F H σ ρ) (o : Out (bnd f g ρ) P E) (hE : ∀ x r, E x r → PostX L G F σ x r)
    (k : ∀ F1 H1 ρ1 a b, Same F F1 → L.Good G F1 H1 σ ρ1 → Ra G F1 H1 σ ρ1 b a → Out (g a ρ1) P E → W b H1) : lift L Ra f σ H W :=
  ⟨G, F, ρ, g0, o.bnd.mono (fun a ρ1 q F1 H1 b e g1 r => k F1 H1 ρ1 a b e g1 r q) hE⟩
theorem PostX.same (e : Same F F1) {x : Xn} {r : Rho} (h : PostX L G F σ x r) : PostX L G F1 σ x r := fun F' H' c dx s g q => h F' H' c dx (e.trans s) g q
theorem Post.same {R : Rl α β} {Q : β → Hp → Prop} (e : Same F F1) {a : α} {r : Rho} (h : Post L R G F σ Q a r) : Post L R G F1 σ Q a r := fun F' H' b s g q => h F' H' b (e.trans s) g q
end
abbrev lc (X : Cx) (EX : XE) : Lc := ⟨X.K, X.mg, EX⟩
def PV (X : Cx) (EX : XE) (e : Expr) (f : M D) : Prop := PE X e (lift (lc X EX) (RV (lc X EX)) f)
def PR (X : Cx) (EX : XE) (e : Expr) (f : M D) : Prop := PE X e (lift (lc X EX) (RR (lc X EX)) f)
def PF (X : Cx) (EX : XE) (e : Expr) (f : M D) : Prop := PE X e (lift (lc X EX) (RF (lc X EX)) f)
def PB (X : Cx) (EX : XE) (e : Expr) (f : M Bool) : Prop := PT X e (lift (lc X EX) RB f)
def PLs (X : Cx) (EX : XE) (es : List Expr) (f : M (List D)) : Prop := PA X es (lift (lc X EX) (RL (lc X EX)) f)
theorem _root_.L2.PE.le {X : Cx} {e : Expr} {t t' : TE} (h : PE X e t) (k : ∀ σ H Q, t' σ H Q → t σ H Q) : PE X e t' := fun pins s σ H Q I q => h pins s σ H Q I (k _ _ _ q)
theorem _root_.L2.PT.le {X : Cx} {e : Expr} {t t' : TT} (h : PT X e t) (k : ∀ σ H Q, t' σ H Q → t σ H Q) : PT X e t' := fun pins s σ H Q I q => h pins s σ H Q I (k _ _ _ q)
theorem _root_.L2.PA.le {X : Cx} {es : List Expr} {t t' : TA} (h : PA X es t) (k : ∀ σ H Q, t' σ H Q → t σ H Q) : PA X es t' := fun pos pins s σ H Q I q => h pos pins s σ H Q I (k _ _ _ q)
theorem _root_.L2.PS.le {X : Cx} {e : Stmt} {t t' : TS} (h : PS X e t) (k : ∀ D σ H, t' D σ H → t D σ H) : PS X e t' := fun pins s σ H D I q => h pins s σ H D I (k _ _ _ q)
theorem _root_.L2.PSs.le {X : Cx} {e : List Stmt} {t t' : TS} (h : PSs X e t) (k : ∀ D σ H, t' D σ H → t D σ H) : PSs X e t' := fun pins s σ H D I q => h pins s σ H D I (k _ _ _ q)
section
variable {X : Cx} {EX : XE} {e a b c : Expr} {f fa fb fc : M D} {pos : Pos}
theorem PV.rd (h : PV X EX e f) : PR X EX e f := h.le fun σ H Q ⟨G, F, ρ, g, o⟩ => ⟨G, F, ρ, g, o.mono (fun a r q F' H' b s g' d => q F' H' b s g' (.inl d)) fun x r q => q⟩
theorem PF.pv (h : PF X EX e f) : PV X EX e f := h.le fun σ H Q ⟨G, F, ρ, g, o⟩ => ⟨G, F, ρ, g, o.mono (fun a r q F' H' b s g' ⟨l, e, d⟩ => by
  subst e
  obtain ⟨F2, s2, g2, d2⟩ := d.fast g'
  exact q F2 H' _ (s.trans s2) g2 d2) fun x r q => q⟩
theorem pv_var (i : Nat) {x : Str} (hN : X.N[i]? = some x := by rfl) (hv : Vis X.env.scope x := by first | exact Or.inl rfl | exact Or.inr (Or.inl rfl) | exact Or.inr (Or.inr rfl)) (hd : (x == ("__debug__" : Str)) = false := by decide)
    (hcd : (x == ("__classdict__" : Str)) = false := by decide) : PV X EX (.Name x pos) (mVar i) :=
  (pe_var hN hv hd hcd).le fun σ H Q ⟨G, F, ρ, g, o⟩ => by
    unfold mVar at o
    cases q : ρ[i]? with
    | none => rw [q] at o; exact o.elim
    | some s =>
      rw [q] at o
      cases s with
      | sh d =>
        obtain ⟨u, h1, h2⟩ := g.slot i _ q
        exact ⟨u, join_some h1, o F H u (Same.refl _) g h2⟩
      | _ => exact o.elim
theorem pr_var (i : Nat) {x : Str} (hN : X.N[i]? = some x := by rfl) (hv : Vis X.env.scope x := by first | exact Or.inl rfl | exact Or.inr (Or.inl rfl) | exact Or.inr (Or.inr rfl)) (hd : (x == ("__debug__" : Str)) = false := by decide)
    (hcd : (x == ("__classdict__" : Str)) = false := by decide) : PR X EX (.Name x pos) (mRd i) :=
  (pe_var hN hv hd hcd).le fun σ H Q ⟨G, F, ρ, g, o⟩ => by
    unfold mRd at o
    cases q : ρ[i]? with
    | none => rw [q] at o; exact o.elim
    | some s =>
      rw [q] at o
      have k := g.slot i _ q
      cases s with
      | no => exact o.elim
      | sh d =>
        obtain ⟨u, h1, h2⟩ := k
        exact ⟨u, join_some h1, o F H u (Same.refl _) g (.inl h2)⟩
      | ow d =>
        obtain ⟨l, h1, h2, h3, h4⟩ := k
        exact ⟨_, join_some h1, o F H _ (Same.refl _) g (.inr ⟨l, rfl, h4⟩)⟩
      | io d =>
        obtain ⟨l, h1, h2, h3, h4⟩ := k
        exact ⟨_, join_some h1, o F H _ (Same.refl _) g (.inr ⟨l, rfl, h4⟩)⟩
theorem pv_of {t : TE} {v : V} {d : D} (h : PE X e t) (k : ∀ σ H Q, Q v H → t σ H Q) (hd : ∀ F, Den X.K X.mg F v d) : PV X EX e (mC d) :=
  h.le fun σ H Q ⟨G, F, ρ, g, o⟩ => k σ H Q (o F H v (Same.refl _) g (hd F))
theorem pv_int {i : Int} {j} : PV X EX (.Constant (.int i) j pos) (mC (.int i)) := pv_of pe_int (fun _ _ _ q => q) fun _ => .int i
theorem pv_bl {i : Bool} {j} : PV X EX (.Constant (.bool i) j pos) (mC (.bl i)) := pv_of pe_bl (fun _ _ _ q => q) fun _ => .bl i
theorem pv_non {j} : PV X EX (.Constant .none j pos) (mC .non) := pv_of pe_non (fun _ _ _ q => q) fun _ => .non
theorem pv_str {i : Str} {j} : PV X EX (.Constant (.str i) j pos) (mC (.str i)) := pv_of pe_str (fun _ _ _ q => q) fun _ => .str i
abbrev Then (L : Lc) (G : Fx) (F : Hp) (σ : St) (ρ : Rho) (d : D) (Q : VK) : Prop := ∀ F' H' v, Same F F' → L.Good G F' H' σ ρ → Den L.K L.mg F' v d → Q v H'
def OpG (L : Lc) (r : R2) (g : D → D → Option D) : Prop := ∀ G F H σ ρ x y dx dy d Q, L.Good G F H σ ρ → Den L.K L.mg F x dx → Den L.K L.mg F y dy → g dx dy = some d → Then L G F σ ρ d Q → r x y H Q
def UnG (L : Lc) (r : V → Hp → VK → Prop) (g : D → Option D) : Prop := ∀ G F H σ ρ x dx d Q, L.Good G F H σ ρ → RR L G F H σ ρ x dx → g dx = some d → Then L G F σ ρ d Q → r x H Q
theorem op_le {r : R2} {g : D → D → Option D} (hg : OpG (lc X EX) r g) {ta tb : TE} (ha : ∀ σ H Q, lift (lc X EX) (RV (lc X EX)) fa σ H Q → ta σ H Q) (hb : ∀ σ H Q, lift (lc X EX) (RV (lc X EX)) fb σ H Q → tb σ H Q)
    (σ : St) (H : Hp) (Q : VK) (h : lift (lc X EX) (RV (lc X EX)) (m2 g fa fb) σ H Q) : tOp r ta tb σ H Q := by
  obtain ⟨G, F, ρ, g0, o⟩ := h
  refine ha _ _ _ (at_bnd g0 o (fun x r q => q) fun F1 H1 ρ1 d1 x s1 g1 r1 o1 => ?_)
  refine hb _ _ _ (at_bnd g1 o1 (fun x r q => q.same s1) fun F2 H2 ρ2 d2 y s2 g2 r2 o2 => ?_)
  obtain ⟨d, e, q⟩ := o2.opt
  exact hg G F2 H2 σ ρ2 x y d1 d2 d Q g2 (r1.same s2) r2 e (Post.same (s1.trans s2) q)
theorem pv_op {op : Operator} {r : R2} {g : D → D → Option D} (ho : OpR X (binaryOp op) r) (hg : OpG (lc X EX) r g) (ha : PV X EX a fa) (hb : PV X EX b fb) : PV X EX (.BinOp a op b pos) (m2 g fa fb) :=
  (pe_op ho ha hb).le (op_le hg (fun _ _ _ q => q) fun _ _ _ q => q)
theorem pv_cmp {op : CmpOp} {r : R2} {g : D → D → Option D} (ho : OpR X (compareOp op) r) (hg : OpG (lc X EX) r g) (ha : PV X EX a fa) (hb : PV X EX b fb) (hm : behindInMarks op b = false) : PV X EX (.Compare a [op] [b] pos) (m2 g fa fb) :=
  (pe_cmpR ho ha hb hm).le (op_le hg (fun _ _ _ q => q) fun _ _ _ q => q)
theorem pv_un {op : UnaryOp} {r : V → Hp → VK → Prop} {g : D → Option D} (ho : UnR X (unaryOp op) r) (hg : UnG (lc X EX) r g) (ha : PV X EX a fa) : PV X EX (.UnaryOp op a pos) (m1 g fa) :=
  (pe_un ho ha).le fun σ H Q ⟨G, F, ρ, g0, o⟩ => at_bnd g0 o (fun x r q => q) fun F1 H1 ρ1 d1 x s1 g1 r1 o1 => by
    obtain ⟨d, e, q⟩ := o1.opt
    exact hg G F1 H1 σ ρ1 x d1 d Q g1 (.inl r1) e (Post.same s1 q)
theorem pb_val (h : PV X EX a fa) (he : ∀ whole, isTrue a X.env whole = (do let v ← whole; standAt a.pos; holding [v] (truthy v)) := by intro _; rfl) : PB X EX a (VP.tB fa) :=
  (pt_val h he).le fun σ H Q ⟨G, F, ρ, g0, o⟩ => at_bnd g0 o (fun x r q => q) fun F1 H1 ρ1 d1 x s1 g1 r1 o1 => by
    cases d1 with
    | bl k => cases r1; exact ⟨k, rfl, o1 F1 H1 k s1 g1 rfl⟩
    | _ => exact o1.elim
theorem pb_cmp {op : CmpOp} {r : R2} {g : D → D → Option D} (ho : OpR X (compareOp op) r) (hg : OpG (lc X EX) r g) (ha : PV X EX a fa) (hb : PV X EX b fb) (hm : behindInMarks op b = false) : PB X EX (.Compare a [op] [b] pos) (VP.tB (m2 g fa fb)) :=
  (pt_cmpR ho ha hb hm).le fun σ H Q ⟨G, F, ρ, g0, o⟩ => by
    refine op_le hg (fun _ _ _ q => q) (fun _ _ _ q => q) σ H _ (at_bnd g0 o (fun x r q => q) fun F1 H1 ρ1 d1 x s1 g1 r1 o1 => ?_)
    cases d1 with
    | bl k => cases r1; exact ⟨k, rfl, o1 F1 H1 k s1 g1 rfl⟩
    | _ => exact o1.elim
variable {f1 f2 : M Bool} {rest : List Expr}
def PBW (X : Cx) (EX : XE) (e : Expr) (f : M Bool) : Prop := PW X e (lift (lc X EX) RB f)
theorem _root_.L2.PW.le {X : Cx} {e : Expr} {t t' : TT} (h : PW X e t) (k : ∀ σ H Q, t' σ H Q → t σ H Q) : PW X e t' := fun w pins s σ H Q I q => h w pins s σ H Q I (k _ _ _ q)
theorem PBW.pb (h : PBW X EX e f1) : PB X EX e f1 := PW.pt h
theorem pb_not (h : PB X EX a f1) : PB X EX (.UnaryOp .Not a pos) (VP.tNot f1) :=
  (pt_not h).le fun σ H Q ⟨G, F, ρ, g0, o⟩ => at_bnd g0 o (fun x r q => q) fun F1 H1 ρ1 d1 x s1 g1 r1 o1 => by
    cases r1
    exact o1 F1 H1 _ s1 g1 rfl
theorem pb_and1 (h : PB X EX a f1) : PBW X EX (.BoolOp .And [a] pos) f1 := pw_and1 h
theorem pb_or1 (h : PB X EX a f1) : PBW X EX (.BoolOp .Or [a] pos) f1 := pw_or1 h
theorem pb_and (h1 : PB X EX a f1) (h2 : PBW X EX (.BoolOp .And (b :: rest) pos) f2) : PBW X EX (.BoolOp .And (a :: b :: rest) pos) (VP.tAnd f1 f2) :=
  L2.PW.le (pw_and h1 h2) fun σ H Q ⟨G, F, ρ, g0, o⟩ => at_bnd g0 o (fun x r q => q) fun F1 H1 ρ1 d1 x s1 g1 r1 o1 => by
    cases r1
    rcases o1.ite with ⟨e, o2⟩ | ⟨e, o2⟩
    · subst e
      exact iteT ⟨G, F1, ρ1, g1, o2.mono (fun _ _ => Post.same s1) fun _ _ => PostX.same s1⟩
    · subst e
      exact iteF (o2 F1 H1 false s1 g1 rfl)
theorem pb_or (h1 : PB X EX a f1) (h2 : PBW X EX (.BoolOp .Or (b :: rest) pos) f2) : PBW X EX (.BoolOp .Or (a :: b :: rest) pos) (VP.tOr f1 f2) :=
  L2.PW.le (pw_or h1 h2) fun σ H Q ⟨G, F, ρ, g0, o⟩ => at_bnd g0 o (fun x r q => q) fun F1 H1 ρ1 d1 x s1 g1 r1 o1 => by
    cases r1
    rcases o1.ite with ⟨e, o2⟩ | ⟨e, o2⟩
    · subst e
      exact iteT (o2 F1 H1 true s1 g1 rfl)
    · subst e
      exact iteF ⟨G, F1, ρ1, g1, o2.mono (fun _ _ => Post.same s1) fun _ _ => PostX.same s1⟩
theorem pv_if (hc : PB X EX c f1) (ha : PV X EX a fa) (hb : PV X EX b fb) : PV X EX (.IfExp c a b pos) (mIf f1 fa fb) :=
  (pe_ifExp hc ha hb).le fun σ H Q ⟨G, F, ρ, g0, o⟩ => at_bnd g0 o (fun x r q => q) fun F1 H1 ρ1 d1 x s1 g1 r1 o1 => by
    cases r1
    rcases o1.ite with ⟨e, o2⟩ | ⟨e, o2⟩
    · subst e
      exact iteT ⟨G, F1, ρ1, g1, o2.mono (fun _ _ => Post.same s1) fun _ _ => PostX.same s1⟩
    · subst e
      exact iteF ⟨G, F1, ρ1, g1, o2.mono (fun _ _ => Post.same s1) fun _ _ => PostX.same s1⟩
theorem pv_not (ha : PV X EX a fa) : PV X EX (.UnaryOp .Not a pos) (mOfT (VP.tNot (VP.tB fa))) :=
  (pe_not ha).le fun σ H Q ⟨G, F, ρ, g0, o⟩ => by
    refine ⟨G, F, ρ, g0, o.bnd.bnd.bnd.mono (fun d1 ρ1 o1 F1 H1 x s1 g1 r1 => ?_) fun _ _ q => q⟩
    cases d1 with
    | bl k => cases r1; exact ⟨k, rfl, o1 F1 H1 _ s1 g1 (.bl _)⟩
    | _ => exact o1.elim
theorem pv_one {op} (h : PV X EX a fa) : PV X EX (.BoolOp op [a] pos) fa := pe_one h
theorem pv_and (ha : PV X EX a fa) (hb : PV X EX (.BoolOp .And (b :: rest) pos) fb) : PV X EX (.BoolOp .And (a :: b :: rest) pos) (VP.mAndV fa fb) :=
  (pe_and ha hb).le fun σ H Q ⟨G, F, ρ, g0, o⟩ => at_bnd g0 o (fun x r q => q) fun F1 H1 ρ1 d1 x s1 g1 r1 o1 => by
    cases d1 with
    | bl k =>
      cases r1
      refine ⟨k, rfl, ?_⟩
      cases k with
      | true => exact iteT ⟨G, F1, ρ1, g1, Out.mono o1 (fun _ _ => Post.same s1) fun _ _ => PostX.same s1⟩
      | false => exact iteF (o1 F1 H1 _ s1 g1 (.bl _))
    | _ => exact o1.elim
variable {es : List Expr} {fs : M (List D)}
theorem pl_nil : PLs X EX [] (mL []) := pa_nil.le fun σ H Q ⟨G, F, ρ, g0, o⟩ => o F H [] (Same.refl _) g0 .nil
theorem pl_cons {fl : List (M D)} (ha : PV X EX a fa) (hr : PLs X EX es (mL fl)) (hs : starEach (a :: es) X.env = (false, eval a X.env) :: starEach es X.env := by rfl) : PLs X EX (a :: es) (mL (fa :: fl)) :=
  (pa_cons ha hr hs).le fun σ H Q ⟨G, F, ρ, g0, o⟩ => at_bnd g0 o (fun x r q => q) fun F1 H1 ρ1 d1 x s1 g1 r1 o1 =>
    at_bnd g1 o1 (fun x r q => q.same s1) fun F2 H2 ρ2 d2 y s2 g2 r2 o2 => o2 F2 H2 _ (s1.trans s2) g2 (.cons (r1.same s2) r2)
theorem tupD_le {ds : List D} {d : D} (h : tupD ds = some d) : ds.length ≤ sizeLine ∧ d = .tup ds := by
  unfold tupD at h
  split at h
  · cases h; exact ⟨by rw [sizeLine_eq]; assumption, rfl⟩
  · cases h
theorem lstD_le {ds : List D} {d : D} (h : lstD ds = some d) : ds.length ≤ sizeLine ∧ d = .lst ds := by
  unfold lstD at h
  split at h
  · cases h; exact ⟨by rw [sizeLine_eq]; assumption, rfl⟩
  · cases h
theorem pv_tup {fl : List (M D)} {x1} (h : PLs X EX es (mL fl)) : PV X EX (.Tuple es x1 pos) (mTup fl) :=
  (pe_tup h).le fun σ H Q ⟨G, F, ρ, g0, o⟩ => at_bnd g0 o (fun x r q => q) fun F1 H1 ρ1 d1 xs s1 g1 r1 o1 => by
    obtain ⟨d, e, q⟩ := o1.opt
    obtain ⟨hl, rfl⟩ := tupD_le e
    refine ⟨by rw [DenL.length r1]; exact hl, fun p hp => ?_⟩
    have sF := same_upd (o := .tup xs) (g1.sub.free hp)
    exact q _ _ _ (s1.trans sF) (g1.laid hp) (.tup (SqT.of upd_same) (DenL.same sF r1))
theorem pf_lst {fl : List (M D)} (h : PLs X EX es (mL fl)) : PF X EX (.List es pos) (mLst fl) :=
  (pe_lst h).le fun σ H Q ⟨G, F, ρ, g0, o⟩ => at_bnd g0 o (fun x r q => q) fun F1 H1 ρ1 d1 xs s1 g1 r1 o1 => by
    obtain ⟨d, e, q⟩ := o1.opt
    obtain ⟨hl, rfl⟩ := lstD_le e
    refine ⟨by rw [DenL.length r1]; exact hl, fun p hp => ?_⟩
    exact q _ _ _ s1 (g1.made hp) ⟨p, rfl, g1.loose hp ⟨xs, upd_same, r1⟩⟩
variable {x : Str} {p : Pos} {id T : String} {r : List V → Hp → VK → Prop} {g : List D → Option D}
end
end VS

end
section
set_option linter.all false
set_option maxRecDepth 100000
namespace VS
open PySem PySem.Spec PyProof.Rows L2 VP
section
variable (L : Lc)
def PostXS (G : Fx) (F : Hp) : Xn → Rho → Prop := fun x ρ' => ∀ F' H' σ' c dx, Same F F' → L.Good G F' H' σ' ρ' → XR L.K L.mg F' H' c dx x → L.EX σ' c dx H'
def PostS (G : Fx) (F : Hp) (E : Ends) : Fl → Rho → Prop := fun k ρ' => match k with
  | .nx => ∀ F' H' σ', Same F F' → L.Good G F' H' σ' ρ' → E.nx σ' H'
  | .bk => ∀ F' H' σ', Same F F' → L.Good G F' H' σ' ρ' → E.bk σ' H'
  | .ct => ∀ F' H' σ', Same F F' → L.Good G F' H' σ' ρ' → E.ct σ' H'
  | .rt d => ∀ F' H' σ' v, Same F F' → L.Good G F' H' σ' ρ' → Den L.K L.mg F' v d → E.rt v H'
def liftS (f : M Fl) : TS := fun E σ H => ∃ G F ρ, L.Good G F H σ ρ ∧ Out (f ρ) (PostS L G F E) (PostXS L G F)
def liftG (js : List Nat) (g : D → M Unit) : TG := fun v σ H Q => ∃ G F ρ d, L.Good G F H σ ρ ∧ Den L.K L.mg F v d ∧ Out (g d ρ) (fun _ ρ' => ∀ F' H' σ', Same F F' → L.Good G F' H' σ' ρ' → (∀ j, j ∉ js → σ'[j]? = σ[j]?) → Q σ' H') (fun _ _ => False)
def ItR (G : Fx) (F : Hp) (J : It) (ds : List D) : Prop := ∀ σ i F' H' ρ, Same F F' → L.Good G F' H' σ ρ →
  (i < ds.length → J.go i H') ∧ (i = ds.length → J.stop i H') ∧ ∀ x H'', J.yld i H' x H'' → ∃ F'', Same F' F'' ∧ L.Good G F'' H'' σ ρ ∧ ∀ d, ds[i]? = some d → Den L.K L.mg F'' x d
def RI : Rl (List D) It := fun G F _ _ _ J ds => ItR L G F J ds
end
def PVS (X : Cx) (EX : XE) (st : Stmt) (f : M Fl) : Prop := PS X st (liftS (lc X EX) f)
def PVSs (X : Cx) (EX : XE) (st : List Stmt) (f : M Fl) : Prop := PSs X st (liftS (lc X EX) f)
def PVG (X : Cx) (EX : XE) (tg : Expr) (js : List Nat) (g : D → M Unit) : Prop := PG X tg (liftG (lc X EX) js g)
def PVI (X : Cx) (EX : XE) (tg iter : Expr) (f : M (List D)) : Prop := PI X tg iter (lift (lc X EX) (RI (lc X EX)) f)
theorem _root_.L2.PG.le {X : Cx} {tg : Expr} {t t' : TG} (h : PG X tg t) (k : ∀ v σ H Q, t' v σ H Q → t v σ H Q) : PG X tg t' := fun pins s σ H v u Q I r q => h pins s σ H v u Q I r (k _ _ _ _ q)
theorem _root_.L2.PI.le {X : Cx} {tg it : Expr} {t t' : TI} (h : PI X tg it t) (k : ∀ σ H Q, t' σ H Q → t σ H Q) : PI X tg it t' := fun pins s σ H R I q => h pins s σ H R I (k _ _ _ q)
section
variable {X : Cx} {EX : XE} {st : Stmt} {rest : List Stmt} {e a b c tg : Expr} {fe fa fb : M D} {f g : M Fl} {pos : Pos}
theorem PostXS.x {L : Lc} {G : Fx} {F : Hp} {σ : St} {x : Xn} {r : Rho} (h : PostXS L G F x r) : PostX L G F σ x r := fun F' H' c dx s g q => h F' H' σ c dx s g q
theorem PostXS.same {L : Lc} {G : Fx} {F F1 : Hp} (e : Same F F1) {x : Xn} {r : Rho} (h : PostXS L G F x r) : PostXS L G F1 x r := fun F' H' σ' c dx s g q => h F' H' σ' c dx (e.trans s) g q
theorem PostS.same {L : Lc} {G : Fx} {F F1 : Hp} {E : Ends} (e : Same F F1) {k : Fl} {r : Rho} (h : PostS L G F E k r) : PostS L G F1 E k r := by
  cases k with
  | nx => exact fun F' H' σ' s g => h F' H' σ' (e.trans s) g
  | bk => exact fun F' H' σ' s g => h F' H' σ' (e.trans s) g
  | ct => exact fun F' H' σ' s g => h F' H' σ' (e.trans s) g
  | rt d => exact fun F' H' σ' v s g => h F' H' σ' v (e.trans s) g
theorem vss_nil : PVSs X EX [] sNx := pss_nil.le fun E σ H ⟨G, F, ρ, g0, o⟩ => o F H σ (Same.refl _) g0
theorem vss_cons (h1 : PVS X EX st f) (h2 : PVSs X EX rest g) : PVSs X EX (st :: rest) (sSeq f g) :=
  (pss_cons h1 h2).le fun E σ H ⟨G, F, ρ, g0, o⟩ => ⟨G, F, ρ, g0, o.bnd.mono (fun k r q => by
    cases k with
    | nx => exact fun F' H' σ' s g' => ⟨G, F', r, g', Out.mono q (fun _ _ => PostS.same s) fun _ _ => PostXS.same s⟩
    | bk => exact q
    | ct => exact q
    | rt d => exact q) fun _ _ q => q⟩
theorem vs_fz {i : Nat} (h : PVS X EX st f) : PVS X EX st (sFz i f) := h.le fun E σ H ⟨G, F, ρ, g0, o⟩ => by
  unfold sFz VP.bnd mFz at o
  cases q : ρ[i]? with
  | none => simp only [q] at o; exact o.elim
  | some s =>
    simp only [q] at o
    cases s with
    | no => exact o.elim
    | io d => exact o.elim
    | sh d => exact ⟨G, F, ρ, g0, o⟩
    | ow d =>
      obtain ⟨F', s, g1⟩ := Good.fz g0 q
      exact ⟨G, F', _, g1, Out.mono o (fun _ _ => PostS.same s) fun _ _ => PostXS.same s⟩
theorem vs_expr (he : PV X EX e fe) (hs : swapsWith e none pos.line X.env = pure false := by rfl) : PVS X EX (.Expr e pos) (sDrop fe) :=
  (ps_expr he hs).le fun E σ H ⟨G, F, ρ, g0, o⟩ => at_bnd g0 o (fun x r q => q.x) fun F1 H1 ρ1 d1 x s1 g1 r1 o1 => o1 F1 H1 σ s1 g1
theorem vs_ret (he : PV X EX e fe) : PVS X EX (.Return (some e) pos) (sRet fe) :=
  (ps_ret he).le fun E σ H ⟨G, F, ρ, g0, o⟩ => at_bnd g0 o (fun x r q => q.x) fun F1 H1 ρ1 d1 x s1 g1 r1 o1 => o1 F1 H1 σ x s1 g1 r1
theorem vs_if {f1 : M Bool} {sa sb : List Stmt} (hc : PB X EX c f1) (ha : PVSs X EX sa f) (hb : PVSs X EX sb g) : PVS X EX (.If c sa sb pos) (VP.sIf f1 f g) :=
  (ps_if hc ha hb).le fun E σ H ⟨G, F, ρ, g0, o⟩ => at_bnd g0 o (fun x r q => q.x) fun F1 H1 ρ1 d1 x s1 g1 r1 o1 => by
    cases r1
    rcases o1.ite with ⟨e, o2⟩ | ⟨e, o2⟩
    · subst e
      exact iteT ⟨G, F1, ρ1, g1, o2.mono (fun _ _ => PostS.same s1) fun _ _ => PostXS.same s1⟩
    · subst e
      exact iteF ⟨G, F1, ρ1, g1, o2.mono (fun _ _ => PostS.same s1) fun _ _ => PostXS.same s1⟩
theorem set_good {L : Lc} {G : Fx} {F H : Hp} {σ : St} {ρ : Rho} {i : Nat} {d : D} {v : V} {P : Unit → Rho → Prop} {E : Xn → Rho → Prop} (g0 : L.Good G F H σ ρ) (r : Den L.K L.mg F v d) (o : Out (mSet i d ρ) P E) :
    ∃ ρ', L.Good G F H (σ.set i (some v)) ρ' ∧ P () ρ' := by
  unfold mSet at o
  by_cases hf : free ρ[i]? = true
  · rw [if_pos hf] at o
    exact ⟨_, Good.store (s' := .sh d) g0 hf ⟨v, rfl, r⟩ (fun z => by cases z), o⟩
  · rw [if_neg hf] at o; exact o.elim
theorem own_good {L : Lc} {G : Fx} {F H : Hp} {σ : St} {ρ : Rho} {i : Nat} {d : D} {l : Addr} {P : Unit → Rho → Prop} {E : Xn → Rho → Prop} (g0 : L.Good G F H σ ρ) (r : Loose L.K L.mg G F H σ ρ l d) (o : Out (mOwn i d ρ) P E) :
    ∃ ρ', L.Good G F H (σ.set i (some (.ref l))) ρ' ∧ P () ρ' := by
  unfold mOwn at o
  by_cases hf : free ρ[i]? = true
  · rw [if_pos hf] at o
    exact ⟨_, Good.store (s' := .ow d) g0 hf ⟨l, rfl, r.nF, r.n0, r.ob⟩ (fun _ j s hj ho _ => r.ns j s hj ho), o⟩
  · rw [if_neg hf] at o; exact o.elim
theorem vs_set (i : Nat) {x : Str} {pos' : Pos} (hN : X.N.Nodup) (hi : X.N[i]? = some x) (hx : Loc X.env.scope x) (he : PV X EX e fe) (hs : swapsWith e (some (.Name x pos')) pos.line X.env = pure false := by rfl)
    (hf : X.fn x = true ∨ X.env.scope.names.lookup x = some .local := by first | exact .inl rfl | exact .inr rfl | assumption) : PVS X EX (.Assign [.Name x pos'] e pos) (sSet i fe) :=
  (ps_set hN hi hx he hs hf).le fun E σ H ⟨G, F, ρ, g0, o⟩ => at_bnd g0 o (fun x r q => q.x) fun F1 H1 ρ1 d1 v s1 g1 r1 o1 => by
    obtain ⟨ρ2, g2, q⟩ := set_good g1 r1 o1.bnd
    exact q F1 H1 _ s1 g2
theorem vs_own (i : Nat) {x : Str} {pos' : Pos} (hN : X.N.Nodup) (hi : X.N[i]? = some x) (hx : Loc X.env.scope x) (he : PF X EX e fe) (hs : swapsWith e (some (.Name x pos')) pos.line X.env = pure false := by rfl)
    (hf : X.fn x = true ∨ X.env.scope.names.lookup x = some .local := by first | exact .inl rfl | exact .inr rfl | assumption) : PVS X EX (.Assign [.Name x pos'] e pos) (sOwn i fe) :=
  (ps_set hN hi hx he hs hf).le fun E σ H ⟨G, F, ρ, g0, o⟩ => at_bnd g0 o (fun x r q => q.x) fun F1 H1 ρ1 d1 v s1 g1 r1 o1 => by
    obtain ⟨l, rfl, r1⟩ := r1
    obtain ⟨ρ2, g2, q⟩ := own_good g1 r1 o1.bnd
    exact q F1 H1 _ s1 g2
theorem vg_name (i : Nat) {x : Str} (hN : X.N.Nodup) (hi : X.N[i]? = some x) (hx : Loc X.env.scope x) (hf : X.fn x = true ∨ X.env.scope.names.lookup x = some .local := by first | exact .inl rfl | exact .inr rfl | assumption) : PVG X EX (.Name x pos) [i] (VP.gName i) :=
  (pg_name hN hi hx hf).le fun v σ H Q ⟨G, F, ρ, d, g0, r, o⟩ => by
    obtain ⟨ρ', g1, q⟩ := set_good g0 r o
    exact q F H _ (Same.refl _) g1 fun j hj => List.getElem?_set_ne (fun e => hj (by simp [e]))
def liftGs (L : Lc) (is : List Nat) : TGs := fun vs σ H Q => ∃ G F ρ ds, L.Good G F H σ ρ ∧ DenL L.K L.mg F vs ds ∧ Out (gAll is ds ρ) (fun _ ρ' => ∀ F' H' σ', Same F F' → L.Good G F' H' σ' ρ' → (∀ j, j ∉ is → σ'[j]? = σ[j]?) → Q σ' H') (fun _ _ => False)
def PVGs (X : Cx) (EX : XE) (ts : List Expr) (is : List Nat) : Prop := PGs X ts (liftGs (lc X EX) is)
theorem _root_.L2.PGs.le {X : Cx} {ts : List Expr} {t t' : TGs} (h : PGs X ts t) (k : ∀ v σ H Q, t' v σ H Q → t v σ H Q) : PGs X ts t' := fun pins s σ H v u Q I r q => h pins s σ H v u Q I r (k _ _ _ _ q)
theorem vgs_nil : PVGs X EX [] [] := L2.PGs.le pgs_nil fun vs σ H Q ⟨G, F, ρ, ds, g0, r, o⟩ => by
  cases r with
  | nil => exact ⟨rfl, o F H σ (Same.refl _) g0 fun _ _ => rfl⟩
  | cons h t => exact o.elim
theorem vgs_cons (i : Nat) {is : List Nat} {x : Str} {es : List Expr} (hN : X.N.Nodup) (hi : X.N[i]? = some x) (hx : Loc X.env.scope x) (h2 : PVGs X EX es is)
    (hf : X.fn x = true ∨ X.env.scope.names.lookup x = some .local := by first | exact .inl rfl | exact .inr rfl | assumption) (hs : (assignEach (.Name x pos :: es) X.env).map (·.2) = assign (.Name x pos) X.env :: (assignEach es X.env).map (·.2) := by rfl) : PVGs X EX (.Name x pos :: es) (i :: is) :=
  L2.PGs.le (pgs_cons (pg_name hN hi hx hf) h2 hs) fun vs σ H Q ⟨G, F, ρ, ds, g0, r, o⟩ => by
    cases r with
    | nil => exact o.elim
    | cons h t =>
      refine ⟨_, _, rfl, ?_⟩
      obtain ⟨ρ', g1, q⟩ := set_good g0 h o.bnd
      exact ⟨G, F, ρ', _, g1, t, Out.mono q (fun _ r z F' H' σ' s g hj => z F' H' σ' s g fun j hn => by
        rw [hj j fun m => hn (List.mem_cons_of_mem _ m), List.getElem?_set_ne (fun e => hn (by simp [e]))]) fun _ _ z => z⟩
theorem vg_tup {es : List Expr} {k : Nat} {is : List Nat} (hc : X.calm = true) (h : PVGs X EX es is)
    (hn : (assignEach es X.env).length = is.length := by rfl) (hst : (assignEach es X.env).findIdx? (·.1) = none := by rfl) : PVG X EX (.Tuple es k pos) is (VP.gTup is) :=
  (pg_tup (n := is.length) hc h hn hst).le fun v σ H Q ⟨G, F, ρ, d, g0, r, o⟩ => by
    have len : ∀ {is : List Nat} {ds : List D} {ρ : Rho} {P : Unit → Rho → Prop} {E : Xn → Rho → Prop}, Out (gAll is ds ρ) P E → (∀ x r, ¬ E x r) → ds.length = is.length := by
      intro is
      induction is with
      | nil => intro ds ρ P E o _; cases ds with
        | nil => rfl
        | cons => exact o.elim
      | cons i is ih => intro ds ρ P E o hE; cases ds with
        | nil => exact o.elim
        | cons d ds =>
          have o' := o.bnd
          unfold mSet at o'
          split at o'
          · simp [ih o' hE]
          · exact o'.elim
    cases d with
    | tup ds =>
      cases r with
      | tup h1 h2 =>
        exact ⟨_, _, rfl, SqT.same h1 g0.sub, by rw [DenL.length h2]; exact len o fun _ _ z => z, G, F, ρ, ds, g0, h2, o⟩
    | _ => exact o.elim
theorem gName_x {i : Nat} : ∀ d r x r', VP.gName i d r ≠ .exc x r' := fun d r x r' h => by
  unfold VP.gName mSet at h
  split at h <;> cases h
theorem gAll_x : ∀ {is : List Nat} {ds : List D} {r : Rho} {x : Xn} {r' : Rho}, gAll is ds r ≠ .exc x r'
  | [], [], _, _, _, h => by cases h
  | [], _ :: _, _, _, _, h => by cases h
  | _ :: _, [], _, _, _, h => by cases h
  | i :: is, d :: ds, r, x, r', h => by
    simp only [gAll, VP.bnd, mSet] at h
    split at h
    · rename_i a r2 q
      exact gAll_x h
    · rename_i x2 r2 q
      split at q <;> cases q
    · cases h
theorem gTup_x {is : List Nat} : ∀ d r x r', VP.gTup is d r ≠ .exc x r' := fun d r x r' h => by
  unfold VP.gTup at h
  cases d with
  | tup ds => exact gAll_x h
  | _ => cases h
theorem vs_for {iter : Expr} {body : List Stmt} {it : M (List D)} {gf : D → M Unit} {js : List Nat} (hp : PassesOwn (model X.prog X.w) X.A X.env X.xe) (hc : X.calm = true) (hi : PVI X EX tg iter it) (hg : PVG X EX tg js gf) (hb : PVSs X EX body f)
    (hgx : ∀ d r x r', gf d r ≠ .exc x r') (hs : ∀ x, foldedSetIterable iter X.env x = pure x := by intro _; rfl) : PVS X EX (.For tg iter body [] pos) (VP.sFor it gf f) :=
  (ps_for hp hc hi hg hb hs).le fun E σ H ⟨G, F, ρ, g0, o⟩ => at_bnd g0 o (fun x r q => q.x) fun F1 H1 ρ1 ds J s1 g1 r1 o1 => by
    refine ⟨fun i m σ H => m = ds.length - i ∧ i ≤ ds.length ∧ ∃ F' ρ', Same F1 F' ∧ (lc X EX).Good G F' H σ ρ' ∧ Out (loop gf f (ds.drop i) ρ') (PostS (lc X EX) G F E) (PostXS (lc X EX) G F), ⟨ds.length, by simp, Nat.zero_le _, F1, ρ1, Same.refl _, g1, by simpa using o1⟩, ?_⟩
    rintro i m σ2 H2 ⟨rfl, hi, F2, ρ2, s2, g2, o2⟩
    obtain ⟨t1, t2, t3⟩ := r1 σ2 i F2 H2 ρ2 s2 g2
    by_cases hlt : i < ds.length
    · refine .inr ⟨t1 hlt, fun σ' H' => ∃ F' ρ', Same F1 F' ∧ (lc X EX).Good G F' H' σ' ρ' ∧ Out (loop gf f (ds.drop (i + 1)) ρ') (PostS (lc X EX) G F E) (PostXS (lc X EX) G F), fun σ' H' q => ⟨ds.length - (i + 1), by omega, rfl, hlt, q⟩, fun x H3 y => ?_⟩
      obtain ⟨F3, s3, g3, r3⟩ := t3 x H3 y
      have e : ds.drop i = ds[i] :: ds.drop (i + 1) := List.drop_eq_getElem_cons hlt
      rw [e] at o2
      have o3 : Out (gf ds[i] ρ2) (fun _ ρ' => Out (bnd f (fun k => match k with | .nx => loop gf f (ds.drop (i + 1)) | .ct => loop gf f (ds.drop (i + 1)) | .bk => ret .nx | .rt e => ret (.rt e)) ρ') (PostS (lc X EX) G F E) (PostXS (lc X EX) G F)) (PostXS (lc X EX) G F) := Out.bnd o2
      refine ⟨G, F3, ρ2, ds[i], g3, r3 _ (by simp [hlt]), ?_⟩
      cases q : gf ds[i] ρ2 with
      | no => rw [q] at o3; exact o3.elim
      | exc x r => exact absurd q (hgx _ _ _ _)
      | ok u ρ3 =>
        rw [q] at o3
        intro F4 H4 σ4 s4 g4 _
        refine ⟨G, F4, ρ3, g4, (Out.bnd o3).mono (fun k r z => ?_) fun _ _ z => z.same ((s1.trans s2).trans (s3.trans s4))⟩
        cases k with
        | nx => exact fun F' H' σ' s g' => ⟨F', r, s2.trans (s3.trans (s4.trans s)), g', z⟩
        | ct => exact fun F' H' σ' s g' => ⟨F', r, s2.trans (s3.trans (s4.trans s)), g', z⟩
        | bk => exact fun F' H' σ' s g' => z F' H' σ' ((s1.trans s2).trans (s3.trans (s4.trans s))) g'
        | rt d => exact fun F' H' σ' v s g' => z F' H' σ' v ((s1.trans s2).trans (s3.trans (s4.trans s))) g'
    · have e : i = ds.length := by omega
      subst e
      refine .inl ⟨t2 rfl, ?_⟩
      rw [List.drop_length] at o2
      exact o2 F2 H2 σ2 (s1.trans s2) g2
end
end VS

end
section
set_option linter.all false
set_option maxRecDepth 100000
namespace VS
open PySem PySem.Spec PyProof.Rows L2 VP
section
variable (K : Frag) (mg : MG)
def ArgsR (F H : Hp) : List Bool → List V → List D → Prop
  | [], [], [] => True
  | false :: bs, v :: vs, d :: ds => Den K mg F v d ∧ ArgsR F H bs vs ds
  | true :: bs, v :: vs, d :: ds => (∃ l, v = .ref l ∧ F l = none ∧ Obj1 K mg F H l d) ∧ ArgsR F H bs vs ds
  | _, _, _ => False
def IosR (F H : Hp) : List Addr → List D → Prop
  | [], [] => True
  | l :: ls, d :: ds => (F l = none ∧ Obj1 K mg F H l d) ∧ IosR F H ls ds
  | _, _ => False
end
def ioAs : Nat → List Bool → List V → List (Nat × Addr)
  | i, true :: bs, .ref l :: vs => (i, l) :: ioAs (i + 1) bs vs
  | i, _ :: bs, _ :: vs => ioAs (i + 1) bs vs
  | _, _, _ => []
def ioAd (fl : List Bool) (vs : List V) : List Addr := (ioAs 0 fl vs).map (·.2)
structure After (K : Frag) (mg : MG) (F H F' H' : Hp) (ls : List Addr) (ios : List D) : Prop where
  sF : Same F F'
  sub : Same F' H'
  old : ∀ a o, H a = some o → a ∉ ls → H' a = some o
  new : ∀ a o, F' a = some o → F a = some o ∨ H a = none
  ios : IosR K mg F' H' ls ios
def spV (K : Frag) (mg : MG) (fl : List Bool) (f : Fn) : Sp := fun vs H Q E => vs.length = fl.length ∧ ∃ F ds, Same F H ∧ ArgsR K mg F H fl vs ds ∧ (ioAd fl vs).Nodup ∧
  match f ds with
  | .ok d ios => ∀ F' H' v, After K mg F H F' H' (ioAd fl vs) ios → Den K mg F' v d → Q v H'
  | .exc x ios => ∀ F' H' c dx, After K mg F H F' H' (ioAd fl vs) ios → XR K mg F' H' c dx x → E c dx H'
  | .no => False
section
variable {K : Frag} {mg : MG} {F H : Hp}
theorem ioAs_at : ∀ {i0 : Nat} {fl : List Bool} {vs : List V} {i : Nat} {a : Addr}, (i, a) ∈ ioAs i0 fl vs → i0 ≤ i ∧ vs[i - i0]? = some (.ref a) ∧ fl[i - i0]? = some true := by
  intro i0 fl
  induction fl generalizing i0 with
  | nil => intro vs i a h; cases vs <;> simp [ioAs] at h
  | cons b bs ih =>
    intro vs i a h
    cases vs with
    | nil => cases b <;> simp [ioAs] at h
    | cons v vs =>
      have step : (i, a) ∈ ioAs (i0 + 1) bs vs → i0 ≤ i ∧ (v :: vs)[i - i0]? = some (.ref a) ∧ (b :: bs)[i - i0]? = some true := fun h => by
        obtain ⟨h1, h2, h3⟩ := ih h
        have e : i - i0 = (i - (i0 + 1)) + 1 := by omega
        rw [e]
        exact ⟨by omega, by simpa using h2, by simpa using h3⟩
      cases b with
      | false => cases v <;> exact step (by simpa [ioAs] using h)
      | true =>
        cases v with
        | ref l =>
          rcases List.mem_cons.mp (show (i, a) ∈ (i0, l) :: ioAs (i0 + 1) bs vs from h) with e | h
          · cases e; simp
          · exact step h
        | _ => exact step (by simpa [ioAs] using h)
theorem ioAs_mem : ∀ {i0 : Nat} {fl : List Bool} {vs : List V} {k : Nat} {a : Addr}, fl[k]? = some true → vs[k]? = some (.ref a) → (i0 + k, a) ∈ ioAs i0 fl vs := by
  intro i0 fl
  induction fl generalizing i0 with
  | nil => intro vs k a h; simp at h
  | cons b bs ih =>
    intro vs k a h1 h2
    cases vs with
    | nil => simp at h2
    | cons v vs =>
      cases k with
      | zero =>
        simp at h1 h2
        subst h1 h2
        simp [ioAs]
      | succ k =>
        have q := ih (i0 := i0 + 1) (vs := vs) (k := k) (a := a) (by simpa using h1) (by simpa using h2)
        have e : i0 + (k + 1) = i0 + 1 + k := by omega
        rw [e]
        cases b with
        | false => cases v <;> simpa [ioAs] using q
        | true => cases v <;> simp [ioAs, q]
theorem ArgsR.get : ∀ {fl : List Bool} {vs : List V} {ds : List D}, ArgsR K mg F H fl vs ds → ∀ (k : Nat) (b : Bool) (v : V) (d : D), fl[k]? = some b → vs[k]? = some v → ds[k]? = some d →
    (b = false → Den K mg F v d) ∧ (b = true → ∃ l, v = .ref l ∧ F l = none ∧ Obj1 K mg F H l d) := by
  intro fl
  induction fl with
  | nil => intro vs ds h k b v d h1; simp at h1
  | cons b bs ih =>
    intro vs ds h k b' v d h1 h2 h3
    cases vs with
    | nil => simp at h2
    | cons w vs => cases ds with
      | nil => simp at h3
      | cons e ds =>
        cases k with
        | zero =>
          simp at h1 h2 h3
          subst h1 h2 h3
          cases b with
          | false => exact ⟨fun _ => h.1, fun z => (by cases z)⟩
          | true => exact ⟨fun z => (by cases z), fun _ => h.1⟩
        | succ k =>
          have h' : ArgsR K mg F H bs vs ds := by cases b <;> exact h.2
          exact ih h' k b' v d (by simpa using h1) (by simpa using h2) (by simpa using h3)
theorem ArgsR.len : ∀ {fl : List Bool} {vs : List V} {ds : List D}, ArgsR K mg F H fl vs ds → vs.length = fl.length ∧ ds.length = fl.length := by
  intro fl
  induction fl with
  | nil => intro vs ds h; cases vs <;> cases ds <;> first | exact ⟨rfl, rfl⟩ | exact (show False from h).elim
  | cons b bs ih =>
    intro vs ds h
    cases vs with
    | nil => cases b <;> cases ds <;> exact (show False from h).elim
    | cons w vs => cases ds with
      | nil => cases b <;> exact (show False from h).elim
      | cons e ds =>
        have h' : ArgsR K mg F H bs vs ds := by cases b <;> exact h.2
        obtain ⟨h1, h2⟩ := ih h'
        exact ⟨by simp [h1], by simp [h2]⟩
theorem startR_get : ∀ {n : Nat} {fl : List Bool} {ds : List D}, fl.length = ds.length → ∀ (i : Nat) (s : Sl), (startR n fl ds)[i]? = some s → (i < fl.length ∧ ∃ b d, fl[i]? = some b ∧ ds[i]? = some d ∧ s = (if b then .io d else .sh d)) ∨ (fl.length ≤ i ∧ s = .no) := by
  intro n fl
  induction fl generalizing n with
  | nil =>
    intro ds hl i s h
    cases ds with
    | nil =>
      refine .inr ⟨Nat.zero_le _, ?_⟩
      simp only [startR] at h
      rw [List.getElem?_replicate] at h
      split at h
      · exact (Option.some.inj h).symm
      · cases h
    | cons => simp at hl
  | cons b bs ih =>
    intro ds hl i s h
    cases ds with
    | nil => simp at hl
    | cons d ds =>
      simp only [startR] at h
      cases i with
      | zero =>
        simp at h
        exact .inl ⟨by simp, b, d, rfl, rfl, h.symm⟩
      | succ i =>
        rcases ih (by simpa using hl) i s (by simpa using h) with ⟨h1, b', d', h2, h3, h4⟩ | ⟨h1, h2⟩
        · exact .inl ⟨by simp; omega, b', d', by simpa using h2, by simpa using h3, h4⟩
        · exact .inr ⟨by simp; omega, h2⟩
theorem startR_len : ∀ {n : Nat} {fl : List Bool} {ds : List D}, fl.length = ds.length → fl.length ≤ n → (startR n fl ds).length = n := by
  intro n fl
  induction fl generalizing n with
  | nil => intro ds hl hn; cases ds with
    | nil => simp [startR]
    | cons => simp at hl
  | cons b bs ih =>
    intro ds hl hn
    cases ds with
    | nil => simp at hl
    | cons d ds =>
      simp only [startR, List.length_cons]
      rw [ih (by simpa using hl) (by simp at hn; omega)]
      simp at hn; omega
theorem start_get {N : List Str} {vs : List V} {i : Nat} {v : V} (h : vs[i]? = some v) : (start N vs)[i]? = some (some v) := by
  have hi : i < vs.length := (List.getElem?_eq_some_iff.mp h).1
  unfold L2.start
  rw [List.getElem?_append_left (by simpa using hi), List.getElem?_map, h]
  rfl
theorem good_start {N : List Str} {fl : List Bool} {vs : List V} {ds : List D} (hs : Same F H) (ha : ArgsR K mg F H fl vs ds) (hd : (ioAd fl vs).Nodup) (hn : fl.length ≤ N.length) :
    Good K mg ⟨H, F, ioAs 0 fl vs⟩ F H (start N vs) (startR N.length fl ds) := by
  obtain ⟨l1, l2⟩ := ha.len
  have at_ : ∀ {i : Nat} {a : Addr}, (i, a) ∈ ioAs 0 fl vs → ∃ d, F a = none ∧ Obj1 K mg F H a d := fun {i a} h => by
    obtain ⟨_, h2, h3⟩ := ioAs_at h
    rw [Nat.sub_zero] at h2 h3
    have hi : i < ds.length := by rw [l2, ← l1]; exact (List.getElem?_eq_some_iff.mp h2).1
    obtain ⟨l, e, q1, q2⟩ := (ha.get i true _ ds[i] h3 h2 (by simp [hi])).2 rfl
    cases e
    exact ⟨_, q1, q2⟩
  have own_ : ∀ {i : Nat} {s : Sl} {l : Addr}, (startR N.length fl ds)[i]? = some s → Owned s = true → (start N vs)[i]? = some (some (V.ref l)) → (i, l) ∈ ioAs 0 fl vs := fun {i s l} h o e => by
    rcases startR_get l2.symm i s h with ⟨h1, b, d, h2, h3, rfl⟩ | ⟨_, rfl⟩
    · cases b with
      | false => cases o
      | true =>
        have hv : i < vs.length := by omega
        rw [start_get (v := vs[i]) (by simp [hv])] at e
        have e' : vs[i] = V.ref l := Option.some.inj (Option.some.inj e)
        have := ioAs_mem (i0 := 0) (vs := vs) (k := i) (a := l) h2 (by rw [← e']; simp [hv])
        rwa [Nat.zero_add] at this
    · cases o
  exact {
    sF := Same.refl _
    sub := hs
    old := fun a o e _ => e
    new := fun a o e => .inl e
    len := by
      rw [startR_len l2.symm hn]
      unfold L2.start
      rw [List.length_append, List.length_map, List.length_replicate]
      omega
    slot := fun i s h => by
      rcases startR_get l2.symm i s h with ⟨h1, b, d, h2, h3, rfl⟩ | ⟨_, rfl⟩
      · have hv : i < vs.length := by omega
        have q := ha.get i b vs[i] d h2 (by simp [hv]) h3
        rw [start_get (v := vs[i]) (by simp [hv])]
        cases b with
        | false => exact ⟨_, rfl, q.1 rfl⟩
        | true =>
          obtain ⟨l, e, q1, q2⟩ := q.2 rfl
          refine ⟨l, by rw [e]; rfl, ?_, q1, q2⟩
          have := ioAs_mem (i0 := 0) (vs := vs) (k := i) (a := l) h2 (by rw [← e]; simp [hv])
          rwa [Nat.zero_add] at this
      · trivial
    apart := fun i j l s t h1 h2 o1 o2 e1 e2 => by
      have m1 := own_ h1 o1 e1
      have m2 := own_ h2 o2 e2
      obtain ⟨a, ha, ea⟩ := List.mem_iff_getElem.mp m1
      obtain ⟨b, hb, eb⟩ := List.mem_iff_getElem.mp m2
      have hab : a = b := by
        refine (List.getElem_inj hd (i := a) (j := b) (h₀ := by simpa [ioAd] using ha) (h₁ := by simpa [ioAd] using hb)).mp ?_
        simp [ioAd, ea, eb]
      subst hab
      rw [ea] at eb
      cases eb
      rfl
    ioT := fun i a h => by
      obtain ⟨d, q1, q2⟩ := at_ h
      exact ⟨q2.has, q1, q2.has⟩
    ioU := fun i a b h1 h2 => by
      obtain ⟨_, q1, _⟩ := ioAs_at h1
      obtain ⟨_, q2, _⟩ := ioAs_at h2
      rw [q1] at q2
      cases q2
      rfl }
theorem iosOf_ok {G : Fx} {F H : Hp} {σ : St} {ρ : Rho} {vs : List V} {fl : List Bool} {ios : List D} (g : Good K mg G F H σ ρ) (hG : G.io = ioAs 0 fl vs) (hv : vs.length = fl.length) (h : iosOf fl ρ = some ios)
    (hr : ∀ (k : Nat), fl[k]? = some true → ∃ a, vs[k]? = some (V.ref a)) : IosR K mg F H (ioAd fl vs) ios := by
  have gen : ∀ (fl' : List Bool) (k : Nat) (vs' : List V) (r : Rho) (ios : List D), fl' = fl.drop k → vs' = vs.drop k → r = ρ.drop k → iosOf fl' r = some ios → IosR K mg F H ((ioAs k fl' vs').map (·.2)) ios := by
    intro fl'
    induction fl' with
    | nil =>
      intro k vs' r ios h1 h2 h3 h4
      have : vs' = [] := by
        rw [h2]
        apply List.drop_eq_nil_of_le
        rw [hv]
        have := congrArg List.length h1
        simp at this
        omega
      subst this
      simp [iosOf] at h4
      subst h4
      trivial
    | cons b bs ih =>
      intro k vs' r ios h1 h2 h3 h4
      have hk : k < fl.length := by
        have := congrArg List.length h1
        simp at this
        omega
      have hb : fl[k]? = some b := by
        have := congrArg List.head? h1
        simpa using this.symm
      have hbs : bs = fl.drop (k + 1) := by
        have := congrArg List.tail h1
        simpa using this
      have hvk : k < vs.length := by omega
      have hvs : vs' = vs[k] :: vs.drop (k + 1) := by rw [h2]; exact List.drop_eq_getElem_cons hvk
      subst hvs
      cases r with
      | nil => cases b <;> simp [iosOf] at h4
      | cons s r =>
        have hrk : k < ρ.length := by
          have := congrArg List.length h3
          simp at this
          omega
        have hr1 : ρ[k]? = some s := by
          have := congrArg List.head? h3
          simpa using this.symm
        have hr2 : r = ρ.drop (k + 1) := by
          have := congrArg List.tail h3
          simpa using this
        cases b with
        | false =>
          have q := ih (k + 1) (vs.drop (k + 1)) r ios hbs rfl hr2 (by simpa [iosOf] using h4)
          cases e : vs[k] <;> simpa [ioAs, e] using q
        | true =>
          obtain ⟨a, ha⟩ := hr k hb
          have e : vs[k] = .ref a := by
            have : vs[k]? = some vs[k] := by simp [hvk]
            rw [this] at ha
            exact Option.some.inj ha
          rw [e]
          cases s with
          | io d =>
            simp only [iosOf] at h4
            cases q : iosOf bs r with
            | none => rw [q] at h4; cases h4
            | some ios' =>
              rw [q] at h4
              have h5 : d :: ios' = ios := Option.some.inj h4
              subst h5
              obtain ⟨l, z1, z2, z3, z4⟩ := g.slot k _ hr1
              have m : (k, a) ∈ G.io := by
                rw [hG]
                have := ioAs_mem (i0 := 0) (vs := vs) (k := k) (a := a) hb ha
                rwa [Nat.zero_add] at this
              have : l = a := g.ioU k l a z2 m
              subst this
              exact ⟨⟨z3, z4⟩, ih (k + 1) (vs.drop (k + 1)) r ios' hbs rfl hr2 q⟩
          | _ => simp [iosOf] at h4
  exact gen fl 0 vs ρ ios (by simp) (by simp) (by simp) h
end
section
variable {P : Program} {w : World} {K : Frag} {mg : MG} {base : Heap}
theorem start_le {N ps : List Str} {fl : List Bool} {body : M Fl} {vs : List V} {H : Hp} {Q : VK} {E : XK} (hp : N.take ps.length = ps) (hl : fl.length = ps.length) (h : spV K mg fl (defn N.length fl body) vs H Q E) :
    liftS ⟨K, mg, fun _ => E⟩ body { nx := fun _ H' => Q .non H', rt := Q } (start N vs) H := by
  obtain ⟨hv, F, ds, hs, ha, hd, h⟩ := h
  have hpn : fl.length ≤ N.length := by
    have := congrArg List.length hp
    rw [List.length_take] at this
    omega
  have g0 := good_start (N := N) hs ha hd hpn
  have hio : ∀ (k : Nat), fl[k]? = some true → ∃ a, vs[k]? = some (V.ref a) := fun k q => by
    have hk : k < fl.length := (List.getElem?_eq_some_iff.mp q).1
    obtain ⟨l1, l2⟩ := ha.len
    have hkv : k < vs.length := by omega
    have hkd : k < ds.length := by omega
    obtain ⟨l, e, _⟩ := (ha.get k true vs[k] ds[k] q (by simp [hkv]) (by simp [hkd])).2 rfl
    exact ⟨l, by rw [← e]; simp [hkv]⟩
  refine ⟨_, F, _, g0, ?_⟩
  unfold defn at h
  rw [if_pos ha.len.2] at h
  have aft : ∀ {F' H' : Hp} {σ' : St} {ρ' : Rho} {ios : List D}, Same F F' → Good K mg ⟨H, F, ioAs 0 fl vs⟩ F' H' σ' ρ' → iosOf fl ρ' = some ios → After K mg F H F' H' (ioAd fl vs) ios := fun {F' H' σ' ρ' ios} s g q =>
    ⟨s, g.sub, fun a o e n => g.old a o e fun i z => n (List.mem_map.mpr ⟨_, z, rfl⟩), g.new, iosOf_ok g rfl hv q hio⟩
  generalize body (startR N.length fl ds) = R at h
  cases R with
  | no => exact h
  | exc z ρ' =>
    cases q : iosOf fl ρ' with
    | none => simp only [q] at h
    | some ios =>
      simp only [q] at h
      exact fun F' H' σ' c dx s g r => h F' H' c dx (aft s g q) r
  | ok fl' ρ' =>
    cases fl' with
    | bk => exact h.elim
    | ct => exact h.elim
    | nx =>
      cases q : iosOf fl ρ' with
      | none => simp only [q] at h
      | some ios =>
        simp only [q] at h
        exact fun F' H' σ' s g => h F' H' .non (aft s g q) .non
    | rt d =>
      cases q : iosOf fl ρ' with
      | none => simp only [q] at h
      | some ios =>
        simp only [q] at h
        exact fun F' H' σ' v s g r => h F' H' v (aft s g q) r
theorem fn_ok {x qual : Str} {st : Stmt} {f : Addr} {fd : FuncData} {N ps : List Str} {k : Nat} {fl : List Bool} {body : M Fl} (Fu : Fun K x qual st f fd) (S : FnScope N ps (defScope st)) (hl : fl.length = ps.length)
    (hbody : ∀ (cdv : Value) (A : Around) (outer : List Env) (s : Shared) (H : Hp) (E : XK), Room k (A.deeper (envOfC qual (defScope st) s.heap.objs.size f cdv)) →
      PVSs (cxOf CX0 P w K mg base N qual (defScope st) f cdv A outer s H E).nox (fun _ => E) (defBody st) body) :
    FnOk P w K mg base CX0 (k + 1) f fd ps (spV K mg fl (defn N.length fl body)) := by
  refine Fu.ok S (fun vs H Q E h => by rw [h.1, hl]) fun cdv A outer s H vs Q E hr h => ?_
  exact ⟨_, hbody cdv A outer s H E hr, start_le S.pre hl h⟩
end
end VS

end
section
set_option linter.all false
set_option maxRecDepth 100000
namespace VS
open PySem PySem.Spec PyProof.Rows L2 VP
def retag (d : D) : Sl → Sl
  | .ow _ => .ow d
  | .io _ => .io d
  | s => s
theorem putS_get (j : Nat) (d : D) (r : Rho) (i : Nat) : (putS j d r)[i]? = if i = j then (r[i]?).map (retag d) else r[i]? := by
  unfold putS
  cases q : r[j]? with
  | none =>
    dsimp only
    split
    · rename_i e; subst e; rw [q]; rfl
    · rfl
  | some s =>
    have hj : j < r.length := (List.getElem?_eq_some_iff.mp q).1
    cases s with
    | no =>
      dsimp only
      split
      · rename_i e; subst e; rw [q]; rfl
      · rfl
    | sh e =>
      dsimp only
      split
      · rename_i e; subst e; rw [q]; rfl
      · rfl
    | ow e =>
      dsimp only
      split
      · rename_i e; subst e; rw [List.getElem?_set_self hj, q]; rfl
      · rename_i e; rw [List.getElem?_set_ne (Ne.symm e)]
    | io e =>
      dsimp only
      split
      · rename_i e; subst e; rw [List.getElem?_set_self hj, q]; rfl
      · rename_i e; rw [List.getElem?_set_ne (Ne.symm e)]
theorem putS_len (j : Nat) (d : D) (r : Rho) : (putS j d r).length = r.length := by
  unfold putS
  split <;> simp
theorem putAll_len : ∀ (js : List Nat) (ds : List D) (r : Rho), (putAll js ds r).length = r.length
  | [], _, _ => rfl
  | _ :: _, [], _ => rfl
  | j :: js, d :: ds, r => by
    show (putAll js ds (putS j d r)).length = _
    rw [putAll_len, putS_len]
theorem putAll_out : ∀ {js : List Nat} {ds : List D} {r : Rho} {i : Nat}, i ∉ js → (putAll js ds r)[i]? = r[i]?
  | [], _, _, _, _ => rfl
  | _ :: _, [], _, _, _ => rfl
  | j :: js, d :: ds, r, i, h => by
    show (putAll js ds (putS j d r))[i]? = _
    rw [putAll_out (fun z => h (List.mem_cons_of_mem _ z)), putS_get, if_neg (fun e => h (by rw [e]; exact List.mem_cons_self))]
theorem putAll_in : ∀ {js : List Nat} {ds : List D} {r : Rho} {k i : Nat} {d : D}, js.Nodup → js[k]? = some i → ds[k]? = some d → (putAll js ds r)[i]? = (r[i]?).map (retag d)
  | [], _, _, _, _, _, _, h, _ => by simp at h
  | _ :: _, [], _, _, _, _, _, _, h => by simp at h
  | j :: js, e :: ds, r, 0, i, d, nd, h1, h2 => by
    simp at h1 h2
    subst h1 h2
    show (putAll js ds (putS j e r))[j]? = _
    rw [putAll_out (List.nodup_cons.mp nd).1, putS_get, if_pos rfl]
  | j :: js, e :: ds, r, k + 1, i, d, nd, h1, h2 => by
    have h1' : js[k]? = some i := by simpa using h1
    have ne : i ≠ j := fun z => (List.nodup_cons.mp nd).1 (by rw [← z]; exact List.mem_of_getElem? h1')
    show (putAll js ds (putS j e r))[i]? = _
    rw [putAll_in (List.nodup_cons.mp nd).2 h1' (by simpa using h2), putS_get, if_neg ne]
section
variable {K : Frag} {mg : MG}
theorem IosR.get : ∀ {F H : Hp} {ls : List Addr} {ds : List D}, IosR K mg F H ls ds → ls.length = ds.length ∧ ∀ (k : Nat) (l : Addr) (d : D), ls[k]? = some l → ds[k]? = some d → F l = none ∧ Obj1 K mg F H l d
  | _, _, [], [], _ => ⟨rfl, fun k l d h => by simp at h⟩
  | _, _, [], _ :: _, h => (show False from h).elim
  | _, _, _ :: _, [], h => (show False from h).elim
  | F, H, l :: ls, d :: ds, h => by
    obtain ⟨h1, h2⟩ := IosR.get (F := F) (H := H) (ls := ls) (ds := ds) h.2
    refine ⟨by simp [h1], fun k l' d' e1 e2 => ?_⟩
    cases k with
    | zero => simp at e1 e2; subst e1 e2; exact h.1
    | succ k => exact h2 k l' d' (by simpa using e1) (by simpa using e2)
theorem Good.called {G : Fx} {F H F' H' : Hp} {σ : St} {ρ : Rho} {js : List Nat} {ls : List Addr} {ios : List D} (g : Good K mg G F H σ ρ) (hj : js.Nodup) (hl : js.length = ls.length)
    (hs : ∀ (k j : Nat) (l : Addr), js[k]? = some j → ls[k]? = some l → (∃ s, ρ[j]? = some s ∧ Owned s = true) ∧ σ[j]? = some (some (V.ref l))) (a : After K mg F H F' H' ls ios) : Good K mg G F' H' σ (putAll js ios ρ) := by
  obtain ⟨hi, ig⟩ := a.ios.get
  have inls : ∀ {l : Addr}, l ∈ ls → ∃ (k j : Nat) (s : Sl), js[k]? = some j ∧ ls[k]? = some l ∧ ρ[j]? = some s ∧ Owned s = true ∧ σ[j]? = some (some (V.ref l)) := fun {l} h => by
    obtain ⟨k, hk, e⟩ := List.mem_iff_getElem.mp h
    have e' : ls[k]? = some l := by rw [← e]; simp [hk]
    have hk' : k < js.length := by omega
    obtain ⟨⟨s, q1, q2⟩, q3⟩ := hs k js[k] l (by simp [hk']) e'
    exact ⟨k, js[k], s, by simp [hk'], e', q1, q2, q3⟩
  have nomix : ∀ a' o, F' a' = some o → F a' = some o ∨ H a' = none := a.new
  have keepF : ∀ {l : Addr}, F l = none → (∃ o, H l = some o) → F' l = none := fun {l} h ⟨o, ho⟩ => by
    cases q : F' l with
    | none => rfl
    | some u =>
      rcases a.new l u q with z | z
      · rw [h] at z; cases z
      · rw [ho] at z; cases z
  exact {
    sF := g.sF.trans a.sF
    sub := a.sub
    old := fun b o e n => by
      refine a.old b o (g.old b o e n) fun hb => ?_
      obtain ⟨k, j, s, q1, q2, q3, q4, q5⟩ := inls hb
      have t := g.slot j s q3
      cases s with
      | no => cases q4
      | sh d => cases q4
      | ow d =>
        obtain ⟨l, z1, z2, z3, z4⟩ := t
        rw [q5] at z1; cases z1
        rw [e] at z3; cases z3
      | io d =>
        obtain ⟨l, z1, z2, z3, z4⟩ := t
        rw [q5] at z1; cases z1
        exact n j z2
    new := fun b o e => by
      rcases a.new b o e with z | z
      · exact g.new b o z
      · exact .inr (g.new0 z)
    len := by rw [putAll_len]; exact g.len
    slot := fun i s h => by
      by_cases hi' : i ∈ js
      · obtain ⟨k, hk, e⟩ := List.mem_iff_getElem.mp hi'
        have e' : js[k]? = some i := by rw [← e]; simp [hk]
        have hkl : k < ls.length := by omega
        have hki : k < ios.length := by omega
        rw [putAll_in hj e' (d := ios[k]) (by simp [hki])] at h
        obtain ⟨⟨s0, q1, q2⟩, q3⟩ := hs k i ls[k] e' (by simp [hkl])
        rw [q1] at h
        have h' : retag ios[k] s0 = s := Option.some.inj h
        subst h'
        obtain ⟨y1, y2⟩ := ig k ls[k] ios[k] (by simp [hkl]) (by simp [hki])
        have t := g.slot i s0 q1
        cases s0 with
        | no => cases q2
        | sh d => cases q2
        | ow d =>
          obtain ⟨l, z1, z2, z3, z4⟩ := t
          rw [q3] at z1; cases z1
          rw [q3]
          exact ⟨ls[k], rfl, y1, z3, y2⟩
        | io d =>
          obtain ⟨l, z1, z2, z3, z4⟩ := t
          rw [q3] at z1; cases z1
          rw [q3]
          exact ⟨ls[k], rfl, z2, y1, y2⟩
      · rw [putAll_out hi'] at h
        refine (g.slot i s h).same a.sF (fun l _ _ f t => keepF f t) fun l o hv ow e => a.old l o e fun hb => ?_
        obtain ⟨k, j, s', q1, q2, q3, q4, q5⟩ := inls hb
        have : i = j := g.apart i j l s s' h q3 ow q4 (join_some hv) q5
        subst this
        exact hi' (List.mem_of_getElem? q1)
    apart := fun i j l s t h1 h2 o1 o2 e1 e2 => by
      have f : ∀ {i : Nat} {s : Sl}, (putAll js ios ρ)[i]? = some s → Owned s = true → ∃ s', ρ[i]? = some s' ∧ Owned s' = true := fun {i s} h o => by
        by_cases hi' : i ∈ js
        · obtain ⟨k, hk, e⟩ := List.mem_iff_getElem.mp hi'
          have e' : js[k]? = some i := by rw [← e]; simp [hk]
          obtain ⟨q1, _⟩ := hs k i (ls[k]'(by omega)) e' (by simp [show k < ls.length by omega])
          exact q1
        · rw [putAll_out hi'] at h; exact ⟨s, h, o⟩
      obtain ⟨s', a1, a2⟩ := f h1 o1
      obtain ⟨t', b1, b2⟩ := f h2 o2
      exact g.apart i j l s' t' a1 b1 a2 b2 e1 e2
    ioT := fun i b h => by
      obtain ⟨⟨o, q1⟩, q2, q3⟩ := g.ioT i b h
      refine ⟨?_, keepF q2 ⟨o, q1⟩, q3⟩
      by_cases hb : b ∈ ls
      · obtain ⟨k, j, s, z1, z2, _⟩ := inls hb
        have hk : k < ios.length := by
          have := (List.getElem?_eq_some_iff.mp z2).1
          omega
        exact (ig k b ios[k] z2 (by simp [hk])).2.has
      · exact ⟨o, a.old b o q1 hb⟩
    ioU := g.ioU }
end
def AvR (L : Lc) (F : Hp) (σ : St) : V → AV → Prop
  | v, .val d => Den L.K L.mg F v d
  | v, .io j => σ[j]? = some (some v)
inductive AvsR (L : Lc) (F : Hp) (σ : St) : List V → List AV → Prop where
  | nil : AvsR L F σ [] []
  | cons {v : V} {a : AV} {vs : List V} {as : List AV} (h : AvR L F σ v a) (t : AvsR L F σ vs as) : AvsR L F σ (v :: vs) (a :: as)
def RA (L : Lc) : Rl (List AV) (List V) := fun _ F _ σ _ vs as => AvsR L F σ vs as
theorem AvR.same {L : Lc} {F F' : Hp} {σ : St} {v : V} {a : AV} (e : Same F F') (h : AvR L F σ v a) : AvR L F' σ v a := by
  cases a with
  | val d => exact Den.same e h
  | io j => exact h
def PAs (X : Cx) (EX : XE) (es : List Expr) (as : List VP.Arg) : Prop := PA X es (lift (lc X EX) (RA (lc X EX)) (mArgs as))
section
variable {X : Cx} {EX : XE} {e a : Expr} {es : List Expr} {as : List VP.Arg} {fa : M D} {pos : Pos}
theorem pas_nil : PAs X EX [] [] := pa_nil.le fun σ H Q ⟨G, F, ρ, g0, o⟩ => o F H [] (Same.refl _) g0 .nil
theorem pas_val (ha : PV X EX a fa) (hr : PAs X EX es as) (hs : starEach (a :: es) X.env = (false, eval a X.env) :: starEach es X.env := by rfl) : PAs X EX (a :: es) (.val fa :: as) :=
  (pa_cons ha hr hs).le fun σ H Q ⟨G, F, ρ, g0, o⟩ => at_bnd g0 o (fun x r q => q) fun F1 H1 ρ1 d1 x s1 g1 r1 o1 =>
    at_bnd g1 o1 (fun x r q => q.same s1) fun F2 H2 ρ2 d2 y s2 g2 r2 o2 => o2 F2 H2 _ (s1.trans s2) g2 (.cons (AvR.same s2 (a := .val d1) r1) r2)
theorem pas_io (j : Nat) {x : Str} (hr : PAs X EX es as) (hN : X.N[j]? = some x := by rfl) (hv : Vis X.env.scope x := by first | exact Or.inl rfl | exact Or.inr (Or.inl rfl) | exact Or.inr (Or.inr rfl)) (hd : (x == ("__debug__" : Str)) = false := by decide)
    (hcd : (x == ("__classdict__" : Str)) = false := by decide) (hs : starEach (.Name x pos :: es) X.env = (false, eval (.Name x pos) X.env) :: starEach es X.env := by rfl) : PAs X EX (.Name x pos :: es) (.io j :: as) :=
  (pa_cons (pe_var hN hv hd hcd) hr hs).le fun σ H Q ⟨G, F, ρ, g0, o⟩ => by
    have o' : Out ((if (own ρ[j]?).isSome then bnd (mArgs as) (fun vs => ret (.io j :: vs)) ρ else .no)) (Post (lc X EX) (RA (lc X EX)) G F σ Q) (PostX (lc X EX) G F σ) := o
    cases q : ρ[j]? with
    | none => rw [q] at o'; exact o'.elim
    | some s =>
      rw [q] at o'
      have hv : ∃ v, σ[j]? = some (some v) := by
        have t := g0.slot j s q
        cases s with
        | no => exact o'.elim
        | sh d => exact o'.elim
        | ow d => obtain ⟨l, z, _⟩ := t; exact ⟨_, join_some z⟩
        | io d => obtain ⟨l, z, _⟩ := t; exact ⟨_, join_some z⟩
      obtain ⟨v, hv⟩ := hv
      have o2 : Out (bnd (mArgs as) (fun vs => ret (.io j :: vs)) ρ) (Post (lc X EX) (RA (lc X EX)) G F σ Q) (PostX (lc X EX) G F σ) := by
        cases s with
        | no => exact o'.elim
        | sh d => exact o'.elim
        | ow d => exact o'
        | io d => exact o'
      refine ⟨v, hv, at_bnd g0 o2 (fun x r q => q) fun F1 H1 ρ1 d1 x s1 g1 r1 o1 => o1 F1 H1 _ s1 g1 (.cons (show AvR (lc X EX) F1 σ v (.io j) from hv) r1)⟩
theorem avs_ok {L : Lc} {G : Fx} {F H : Hp} {σ : St} {ρ : Rho} (g : L.Good G F H σ ρ) : ∀ {vs : List V} {as : List AV} {ds : List D} {fl : List Bool}, AvsR L F σ vs as → avs as ρ = some ds → as.map (fun a => match a with | .val _ => false | .io _ => true) = fl →
    ArgsR L.K L.mg F H fl vs ds ∧ ∀ i0 : Nat, (ioSl as).length = ((ioAs i0 fl vs).map (·.2)).length ∧ ∀ (k j : Nat) (l : Addr), (ioSl as)[k]? = some j → ((ioAs i0 fl vs).map (·.2))[k]? = some l → (∃ s, ρ[j]? = some s ∧ Owned s = true) ∧ σ[j]? = some (some (V.ref l)) := by
  intro vs as
  induction as generalizing vs with
  | nil =>
    intro ds fl h1 h2 h3
    cases h1
    simp [avs] at h2
    subst h2 h3
    exact ⟨trivial, fun i0 => ⟨by simp [ioSl, ioAs], fun k j l e => by simp [ioSl] at e⟩⟩
  | cons a as ih =>
    intro ds fl h1 h2 h3
    cases h1 with
    | cons hv ht =>
      rename_i v vs
      subst h3
      cases a with
      | val d =>
        simp only [avs] at h2
        cases q : avs as ρ with
        | none => rw [q] at h2; cases h2
        | some ds' =>
          rw [q] at h2
          have h2' : d :: ds' = ds := Option.some.inj h2
          subst h2'
          obtain ⟨k1, k2⟩ := ih ht q rfl
          refine ⟨⟨hv, k1⟩, fun i0 => ?_⟩
          have e : ioAs i0 (List.map (fun a => match a with | .val _ => false | .io _ => true) (.val d :: as)) (v :: vs) = ioAs (i0 + 1) (List.map (fun a => match a with | .val _ => false | .io _ => true) as) vs := by
            cases v <;> rfl
          rw [e]
          exact k2 (i0 + 1)
      | io j =>
        simp only [avs] at h2
        cases q0 : own ρ[j]? with
        | none => rw [q0] at h2; cases h2
        | some d =>
          rw [q0] at h2
          simp only at h2
          cases q : avs as ρ with
          | none => rw [q] at h2; cases h2
          | some ds' =>
            rw [q] at h2
            have h2' : d :: ds' = ds := Option.some.inj h2
            subst h2'
            obtain ⟨k1, k2⟩ := ih ht q rfl
            have hv' : σ[j]? = some (some v) := hv
            have hl : ∃ l s, v = .ref l ∧ ρ[j]? = some s ∧ Owned s = true ∧ F l = none ∧ Obj1 L.K L.mg F H l d := by
              cases q1 : ρ[j]? with
              | none => rw [q1] at q0; cases q0
              | some s =>
                rw [q1] at q0
                have t := g.slot j s q1
                cases s with
                | no => cases q0
                | sh e => cases q0
                | ow e =>
                  have q0' : e = d := Option.some.inj q0
                  subst q0'
                  obtain ⟨l, z1, z2, z3, z4⟩ := t
                  rw [hv'] at z1
                  have z1' : v = V.ref l := Option.some.inj z1
                  exact ⟨l, _, z1', rfl, rfl, z2, z4⟩
                | io e =>
                  have q0' : e = d := Option.some.inj q0
                  subst q0'
                  obtain ⟨l, z1, z2, z3, z4⟩ := t
                  rw [hv'] at z1
                  have z1' : v = V.ref l := Option.some.inj z1
                  exact ⟨l, _, z1', rfl, rfl, z3, z4⟩
            obtain ⟨l, s, rfl, q1, q2, q3, q4⟩ := hl
            refine ⟨⟨⟨l, rfl, q3, q4⟩, k1⟩, fun i0 => ?_⟩
            obtain ⟨m1, m2⟩ := k2 (i0 + 1)
            refine ⟨by simpa [ioSl, ioAs] using m1, fun k j' l' e1 e2 => ?_⟩
            cases k with
            | zero =>
              simp [ioSl, ioAs] at e1 e2
              subst e1 e2
              exact ⟨⟨s, q1, q2⟩, hv'⟩
            | succ k => exact m2 k j' l' (by simpa [ioSl] using e1) (by simpa [ioAs] using e2)
variable {CX : CXT} {k : Nat} {fA : Addr} {fd : FuncData} {ps : List Str} {E : XK} {x : Str} {p : Pos} {fl : List Bool} {fs : Fn}
theorem ads_nodup {L : Lc} {G : Fx} {F H : Hp} {σ : St} {ρ : Rho} (g : L.Good G F H σ ρ) {js : List Nat} {ls : List Addr} (hj : js.Nodup) (hl : js.length = ls.length)
    (hs : ∀ (k j : Nat) (l : Addr), js[k]? = some j → ls[k]? = some l → (∃ s, ρ[j]? = some s ∧ Owned s = true) ∧ σ[j]? = some (some (V.ref l))) : ls.Nodup := by
  rw [List.nodup_iff_pairwise_ne, List.pairwise_iff_getElem]
  intro i j hi hj' hij e
  have hi2 : i < js.length := by omega
  have hj2 : j < js.length := by omega
  obtain ⟨⟨s, a1, a2⟩, a3⟩ := hs i js[i] ls[i] (by simp [hi2]) (by simp [hi])
  obtain ⟨⟨t, b1, b2⟩, b3⟩ := hs j js[j] ls[j] (by simp [hj2]) (by simp [hj'])
  rw [e] at a3
  have := g.apart js[i] js[j] ls[j] s t a1 b1 a2 b2 a3 b3
  have : i = j := (List.getElem_inj hj).mp this
  omega
theorem app_le {L : Lc} {G : Fx} {F H : Hp} {σ : St} {ρ : Rho} {vs : List V} {as : List AV} {Q : VK} {P : D → Rho → Prop} {Ex : Xn → Rho → Prop} (g : L.Good G F H σ ρ) (r : AvsR L F σ vs as)
    (hfl : as.map (fun a => match a with | .val _ => false | .io _ => true) = fl) (o : Out (mApp fs as ρ) P Ex) (hE : ∀ x r, Ex x r → PostX L G F σ x r)
    (hP : ∀ F' H' ρ' d v, Same F F' → L.Good G F' H' σ ρ' → Den L.K L.mg F' v d → P d ρ' → Q v H') : spV L.K L.mg fl fs vs H Q (L.EX σ) := by
  unfold mApp at o
  cases q : avs as ρ with
  | none => rw [q] at o; exact o.elim
  | some ds =>
    rw [q] at o
    dsimp only at o
    by_cases nd : (ioSl as).Nodup
    · rw [if_pos nd] at o
      obtain ⟨k1, k2⟩ := avs_ok g r q hfl
      obtain ⟨k3, k4⟩ := k2 0
      refine ⟨by rw [k1.len.1], F, ds, g.sub, k1, ads_nodup g nd k3 k4, ?_⟩
      cases q2 : fs ds with
      | no => rw [q2] at o; exact o.elim
      | ok d ios =>
        rw [q2] at o
        exact fun F' H' v a rd => hP F' H' _ d v a.sF (Good.called g nd k3 k4 a) rd o
      | exc xx ios =>
        rw [q2] at o
        exact fun F' H' c dx a rx => hE _ _ o F' H' c dx a.sF (Good.called g nd k3 k4 a) rx
    · rw [if_neg nd] at o; exact o.elim
def PassesAt (CX : CXT) (X : Cx) (EX : XE) : Prop := ∀ (pins : List (Addr × Obj)) (σ : St) (H : Hp) (s : Shared) (e : Value) (s' : Shared), Inv X pins σ H s → CX X.stack H s (EX σ) e s' → X.xe e s'
theorem run_fnv {pins : List (Addr × Obj)} {σ : St} {H : Hp} {s : Shared} {Q : VK} {us : List Value} {vs : List V} {sp : Sp} (F : FnOk X.prog X.w X.K X.mg X.base CX k fA fd ps sp) (hr : Room k X.A) (hb : Binds X.K fd ps []) (hx : PassesAt CX X EX)
    (I : Inv X pins σ H s) (r : Vals vs us) (h : sp vs H Q (EX σ)) : wpAny (model X.prog X.w) X.A (call (.ref fA) us) (EP X pins σ Q) X.xe s := by
  have hl : us.length = ps.length := by rw [← r.length]; exact F.len _ _ _ _ h
  have hb' := hb s us I.kIn (by simpa using hl)
  rw [List.append_nil] at hb'
  refine wpAny_call (codeAny_mono (F.run X.A X.stack s H ⟨us, []⟩ us vs Q (EX σ) hr I.env0 hb' r h) fun r s' hq => ?_)
  cases r with
  | error e => exact hx pins σ H s e s' I hq
  | ok fl =>
    cases fl with
    | ret u => exact I.after hq
    | next => exact False.elim hq
    | brk => exact False.elim hq
    | cont => exact False.elim hq
theorem mArgs_kinds : ∀ {as : List VP.Arg} {ρ ρ' : Rho} {vs : List AV}, mArgs as ρ = .ok vs ρ' → vs.map (fun a => match a with | .val _ => false | .io _ => true) = as.map VP.Arg.isIo
  | [], ρ, ρ', vs, h => by
    cases h; rfl
  | .val f :: as, ρ, ρ', vs, h => by
    simp only [mArgs, VP.bnd] at h
    cases q : f ρ with
    | ok d r =>
      simp only [q] at h
      cases q2 : mArgs as r with
      | ok ws r2 =>
        simp only [q2, VP.ret] at h
        cases h
        simp [VP.Arg.isIo, mArgs_kinds q2]
      | exc x r2 => simp only [q2] at h; cases h
      | no => simp only [q2] at h; cases h
    | exc x r2 => simp only [q] at h; cases h
    | no => simp only [q] at h; cases h
  | .io j :: as, ρ, ρ', vs, h => by
    simp only [mArgs, VP.bnd] at h
    split at h
    · cases q2 : mArgs as ρ with
      | ok ws r2 =>
        simp only [q2, VP.ret] at h
        cases h
        simp [VP.Arg.isIo, mArgs_kinds q2]
      | exc x r2 => simp only [q2] at h; cases h
      | no => simp only [q2] at h; cases h
    · cases h
theorem pv_call (F : FnOk X.prog X.w X.K X.mg X.base CX k fA fd ps (spV X.K X.mg fl fs)) (hr : Room k X.A) (hg : Gl X x) (hm : X.mg x = some (.ref fA)) (hk : PySem.W.keepIn X.K (.ref fA) = true) (hb : Binds X.K fd ps []) (hx : PassesAt CX X EX)
    (ha : PAs X EX (e :: es) as) (hfl : as.map VP.Arg.isIo = fl := by rfl) (hdb : (x == ("__debug__" : Str)) = false := by decide) (he : starEach (e :: es) X.env = (false, eval e X.env) :: starEach es X.env := by rfl) (hpl : (backTo pos (starEach es X.env)).any (·.1) = false := by rfl) :
    PV X EX (.Call (.Name x p) (e :: es) [] pos) (mCall fs as) := by
  intro pins s σ H Q I h
  obtain ⟨G, F0, ρ, g0, o⟩ := h
  refine wpAny_Call_Name_kw (ld_glob I hg hm ?_ hdb)
  refine PySem.W.callWith_K (h₀ := X.base) I.ok.mod.kin hk (thn (ha pos pins s σ H (fun vs H1 => spV X.K X.mg fl fs vs H1 Q (EX σ)) I ⟨G, F0, ρ, g0, ?_⟩) fun us s1 ⟨vs, H1, I1, r, q⟩ => ⟨I1.kIn, ?_⟩) he hpl
  · unfold mCall VP.bnd at o
    cases q : mArgs as ρ with
    | no => rw [q] at o; exact o.elim
    | exc xx ρ1 => rw [q] at o; exact o
    | ok av ρ1 =>
      rw [q] at o
      intro F1 H1 vs s1 g1 r1
      exact app_le (L := lc X EX) g1 r1 (by rw [mArgs_kinds q]; exact hfl) o (fun x r q => q.same s1) fun F' H' ρ' d v s' g' rd P => P F' H' v (s1.trans s') g' rd
  · exact run_fnv F hr hb hx I1 r q
theorem pv_call0 (F : FnOk X.prog X.w X.K X.mg X.base CX k fA fd ps (spV X.K X.mg [] fs)) (hr : Room k X.A) (hg : Gl X x) (hm : X.mg x = some (.ref fA)) (hk : PySem.W.keepIn X.K (.ref fA) = true) (hb : Binds X.K fd ps []) (hx : PassesAt CX X EX)
    (hdb : (x == ("__debug__" : Str)) = false := by decide) : PV X EX (.Call (.Name x p) [] [] pos) (mCall fs []) := by
  intro pins s σ H Q I h
  obtain ⟨G, F0, ρ, g0, o⟩ := h
  refine wpAny_Call_Name_kw (ld_glob I hg hm ?_ hdb)
  refine PySem.W.callWith_K0 I.kIn hk (run_fnv (us := []) (vs := []) F hr hb hx I .nil ?_)
  exact app_le (L := lc X EX) g0 .nil rfl (show Out (mApp fs [] ρ) _ _ from o) (fun x r q => q) fun F' H' ρ' d v s' g' rd P => P F' H' v s' g' rd
theorem pass0V : PassesAt CX0 X EX := fun _ _ _ _ _ _ _ h => h.elim
end
end VS

end
section
set_option linter.all false
set_option maxRecDepth 100000
namespace VS
open PySem PySem.Spec PyProof.Rows L2 VP
theorem LIM_eq : LIM = sizeLine := sizeLine_eq.symm
section
variable {X : Cx} {EX : XE} {L : Lc}
theorem g_int0 {gv : Int → Int → V} {gd : Int → Int → D} {g : D → D → Option D} (hd : ∀ F i j, Den L.K L.mg F (gv i j) (gd i j))
    (hg : ∀ x y d, g x y = some d → ∃ i j, x = .int i ∧ y = .int j ∧ d = gd i j) : OpG L (rI0 gv) g := fun G F H σ ρ x y dx dy d Q g0 rx ry e k => by
  obtain ⟨i, j, rfl, rfl, rfl⟩ := hg dx dy d e
  cases rx; cases ry
  exact ⟨i, j, rfl, rfl, k F H _ (Same.refl _) g0 (hd F i j)⟩
theorem g_add : OpG L (rI0 fun i j => .int (i + j)) addI := g_int0 (gd := fun i j => .int (i + j)) (fun F i j => .int _) fun x y d h => by
  cases x <;> cases y <;> simp [addI] at h
  exact ⟨_, _, rfl, rfl, h.symm⟩
theorem g_sub : OpG L (rI0 fun i j => .int (i - j)) subI := g_int0 (gd := fun i j => .int (i - j)) (fun F i j => .int _) fun x y d h => by
  cases x <;> cases y <;> simp [subI] at h
  exact ⟨_, _, rfl, rfl, h.symm⟩
theorem g_fdiv : OpG L (rI CDiv fun i j => .int (i / j)) fdivI := fun G F H σ ρ x y dx dy d Q g0 rx ry e k => by
  cases dx <;> cases dy <;> try (simp only [fdivI, reduceCtorEq] at e; done)
  rename_i i j
  simp only [fdivI] at e
  split at e
  · rename_i hc
    cases e
    cases rx; cases ry
    exact ⟨i, j, rfl, rfl, hc, k F H _ (Same.refl _) g0 (.int _)⟩
  · cases e
theorem g_mod : OpG L (rI (fun _ j => 0 < j) fun i j => .int (i % j)) modI := fun G F H σ ρ x y dx dy d Q g0 rx ry e k => by
  cases dx <;> cases dy <;> try (simp only [modI, reduceCtorEq] at e; done)
  rename_i i j
  simp only [modI] at e
  split at e
  · rename_i hc
    cases e
    cases rx; cases ry
    exact ⟨i, j, rfl, rfl, hc, k F H _ (Same.refl _) g0 (.int _)⟩
  · cases e
theorem g_lt : OpG L (rI0 fun i j => .bl (decide (i < j))) ltI := g_int0 (gd := fun i j => .bl (decide (i < j))) (fun F i j => .bl _) fun x y d h => by
  cases x <;> cases y <;> simp [ltI] at h
  exact ⟨_, _, rfl, rfl, h.symm⟩
theorem g_le : OpG L (rI0 fun i j => .bl (decide (i ≤ j))) leI := g_int0 (gd := fun i j => .bl (decide (i ≤ j))) (fun F i j => .bl _) fun x y d h => by
  cases x <;> cases y <;> simp [leI] at h
  exact ⟨_, _, rfl, rfl, h.symm⟩
theorem g_gt : OpG L (rI0 fun i j => .bl (decide (j < i))) gtI := g_int0 (gd := fun i j => .bl (decide (j < i))) (fun F i j => .bl _) fun x y d h => by
  cases x <;> cases y <;> simp [gtI] at h
  exact ⟨_, _, rfl, rfl, h.symm⟩
theorem isNon_den {K : Frag} {mg : MG} {F : Hp} {x : V} {dx : D} (rx : Den K mg F x dx) : isNon dx = decide (x = .non) := by
  cases rx <;> simp [isNon]
theorem g_isN : OpG L (fun x y H Q => y = .non ∧ Q (.bl (decide (x = .non))) H) isND := fun G F H σ ρ x y dx dy d Q g0 rx ry e k => by
  unfold isND at e
  split at e
  · rename_i hn
    cases e
    rw [isNon_den ry] at hn
    refine ⟨of_decide_eq_true hn, ?_⟩
    rw [← isNon_den rx]
    exact k F H _ (Same.refl _) g0 (.bl _)
  · cases e
theorem un_negG : UnG L (rU fun i => .int (-i)) negI := fun G F H σ ρ x dx d Q g0 rx e k => by
  cases dx <;> simp [negI] at e
  subst e
  rcases rx with rx | ⟨l, _, z⟩
  · cases rx
    exact ⟨_, rfl, k F H _ (Same.refl _) g0 (.int _)⟩
  · exact z.elim
def rCatA (K : Frag) : R2 := fun x y H Q => ∃ a b xs ys, x = .ref a ∧ y = .ref b ∧ SqT K H a xs ∧ SqT K H b ys ∧ xs.length + ys.length ≤ sizeLine ∧
  (ys = [] → Q (.ref a) H) ∧ (xs = [] → Q (.ref b) H) ∧ (∀ p, H p = none → Q (.ref p) (upd H p (.tup (xs ++ ys))))
theorem cat_nil {prog : Program} {w : World} {A : Around} {E : Value → Shared → Prop} {s : Shared} {t b : Addr} {ws : List Value} {Q : Value → Shared → Prop} (ht : IsTup s.heap t (#[] : Array Value)) (hb : IsTup s.heap b ws.toArray)
    (h1 : Q (.ref b) s) : wpAny (model prog w) A (binaryOp .Add (.ref t) (.ref b)) Q E s := by
  obtain ⟨⟨cls, dd, data, sl⟩, ho, hc, n, hd⟩ := id ht
  obtain ⟨⟨cls2, dd2, data2, sl2⟩, ho2, hc2, n2, hd2⟩ := id hb
  simp only at hc hd hc2 hd2
  subst hc hd hc2 hd2
  exact concat_meets ⟨_, ho, rfl⟩ ⟨_, ho2, rfl⟩ noFill_tuple_add seq_tuple_add PySem.F.slot_tuple_add PySem.F.entry_tuple_add (PySem.F.args_tuple_add_2 _ _)
      (tuple_addW0 t b #[] ws.toArray n n2 dd dd2 sl sl2 rfl) ⟨ho, ho2, h1⟩
theorem op_catA : OpR X (binaryOp .Add) (rCatA X.K) := by
  intro pins s σ H x y v u Q I rx ry h
  obtain ⟨a, b, xs, ys, rfl, rfl, ha, hb, hz, q1, q2, q3⟩ := h
  by_cases hx : xs = []
  · cases rx
    cases ry
    obtain ⟨its, r1, p1, _⟩ := I.tuple ha
    obtain ⟨its2, r2, p2, _⟩ := I.tuple hb
    have : its = [] := r1.nil_iff.mpr hx
    subst this
    exact cat_nil p1 p2 ⟨.ref b, H, I, rfl, q2 hx⟩
  · exact op_catT pins s σ H _ _ v u Q I rx ry ⟨a, b, xs, ys, rfl, rfl, ha, hb, hx, hz, q1, fun _ => q3⟩
theorem g_addT : OpG L (rCatA L.K) addT := fun G F H σ ρ x y dx dy d Q g0 rx ry e k => by
  cases dx <;> cases dy <;> try (simp only [addT, reduceCtorEq] at e; done)
  rename_i xs ys
  simp only [addT] at e
  split at e
  · rename_i hl
    cases e
    cases rx with
    | tup h1 r1 => cases ry with
      | tup h2 r2 =>
        rename_i a vs b ws
        refine ⟨a, b, vs, ws, rfl, rfl, SqT.same h1 g0.sub, SqT.same h2 g0.sub, ?_, fun z => ?_, fun z => ?_, fun p hp => ?_⟩
        · rw [r1.length, r2.length, ← LIM_eq]; exact hl
        · subst z
          cases r2
          rw [List.append_nil] at k
          exact k F H _ (Same.refl _) g0 (.tup h1 r1)
        · subst z
          cases r1
          exact k F H _ (Same.refl _) g0 (.tup h2 r2)
        · have sF := same_upd (o := .tup (vs ++ ws)) (g0.sub.free hp)
          exact k _ _ _ sF (g0.laid hp) (.tup (SqT.of upd_same) (DenL.append (DenL.same sF r1) (DenL.same sF r2)))
  · cases e
theorem DenL.atI {K : Frag} {mg : MG} {F : Hp} {vs : List V} {ds : List D} {i : Int} {d : D} (h : DenL K mg F vs ds) (e : ixD ds i = some d) : ∃ v, atI vs i = some v ∧ Den K mg F v d := by
  unfold ixD at e
  unfold L2.atI
  rw [h.length]
  show ∃ v, (ixP ds.length i).bind _ = _ ∧ _
  cases q : ixP ds.length i with
  | none => rw [q] at e; cases e
  | some j =>
    rw [q] at e
    exact h.get e
theorem g_item : OpG L (rIx L.K) itemD := fun G F H σ ρ x y dx dy d Q g0 rx ry e k => by
  cases dx <;> cases dy <;> try (simp only [itemD, reduceCtorEq] at e; done)
  · cases ry
    cases rx with
    | tup h1 r1 =>
      obtain ⟨v, e1, e2⟩ := DenL.atI r1 e
      exact .inr (.inl ⟨_, _, _, v, rfl, rfl, SqT.same h1 g0.sub, e1, k F H v (Same.refl _) g0 e2⟩)
  · cases ry
    cases rx with
    | lst h1 r1 =>
      obtain ⟨v, e1, e2⟩ := DenL.atI r1 e
      exact .inl ⟨_, _, _, v, rfl, rfl, SqL.same h1 g0.sub, e1, k F H v (Same.refl _) g0 e2⟩
variable {a b e c : Expr} {fa fb : M D} {pos : Pos}
theorem pv_ix (ha : PV X EX a fa) (hb : PV X EX b fb) (hs : PlainIx b := by intro _ _; rfl) : PV X EX (.Subscript a b pos) (m2 itemD fa fb) :=
  (pe_ix ix_seq ha hb hs).le (op_le g_item (fun _ _ _ q => q) fun _ _ _ q => q)
theorem own_slot {L : Lc} {G : Fx} {F H : Hp} {σ : St} {ρ : Rho} {j : Nat} (g : L.Good G F H σ ρ) (h : (own ρ[j]?).isSome = true) : ∃ l d, σ[j]? = some (some (V.ref l)) ∧ own ρ[j]? = some d ∧ Obj1 L.K L.mg F H l d := by
  cases q : ρ[j]? with
  | none => rw [q] at h; cases h
  | some t =>
    rw [q] at h
    have sl := g.slot j t q
    cases t with
    | no => cases h
    | sh d => cases h
    | ow d => obtain ⟨l, z1, z2, z3, z4⟩ := sl; exact ⟨l, d, join_some z1, rfl, z4⟩
    | io d => obtain ⟨l, z1, z2, z3, z4⟩ := sl; exact ⟨l, d, join_some z1, rfl, z4⟩
theorem pv_ixO (j : Nat) {x : Str} {p : Pos} (hb : PV X EX b fb) (hs : PlainIx b := by intro _ _; rfl) (hN : X.N[j]? = some x := by rfl) (hv : Vis X.env.scope x := by first | exact Or.inl rfl | exact Or.inr (Or.inl rfl) | exact Or.inr (Or.inr rfl)) (hd : (x == ("__debug__" : Str)) = false := by decide)
    (hcd : (x == ("__classdict__" : Str)) = false := by decide) : PV X EX (.Subscript (.Name x p) b pos) (mIxO j fb) := by
  refine (pe_ix ix_seq (pe_var hN hv hd hcd) hb hs).le fun σ H Q ⟨G, F, ρ, g0, o⟩ => ?_
  unfold mIxO at o
  by_cases ho : (own ρ[j]?).isSome = true
  · rw [if_pos ho] at o
    obtain ⟨l, d0, hv', _, _⟩ := own_slot g0 ho
    refine ⟨_, hv', at_bnd g0 o (fun x r q => q) fun F1 H1 ρ1 d1 y s1 g1 r1 o1 => ?_⟩
    unfold ixAt at o1
    by_cases ho1 : (own ρ1[j]?).isSome = true
    · obtain ⟨l', d, hl', hd', ob⟩ := own_slot g1 ho1
      rw [hv'] at hl'
      cases hl'
      rw [hd'] at o1
      obtain ⟨d2, e2, q2⟩ := Out.opt o1
      cases d with
      | lst ds =>
        obtain ⟨vs, h1, h2⟩ := ob
        cases d1 with
        | int i =>
          cases r1
          obtain ⟨w, e1, e3⟩ := DenL.atI h2 e2
          exact .inl ⟨_, _, _, w, rfl, rfl, SqL.of h1, e1, q2 F1 H1 w s1 g1 e3⟩
        | _ => exact absurd e2 (by simp [itemD])
      | dct ks ds => cases d1 <;> exact absurd e2 (by simp [itemD])
      | ins c ns ds => cases d1 <;> exact absurd e2 (by simp [itemD])
      | _ => exact ob.elim
    · cases q : own ρ1[j]? with
      | none => rw [q] at o1; exact o1.elim
      | some d => rw [q] at ho1; exact absurd rfl ho1
  · rw [if_neg ho] at o; exact o.elim
end
end VS

end
section
set_option linter.all false
set_option maxRecDepth 100000
namespace VS
open PySem PySem.Spec PyProof.Rows L2 VP
def clOf (cells : List (Str × Addr)) : List (Str × NameKind) → List (Str × Addr) → List (Str × Addr)
  | [], acc => acc
  | (x, k) :: r, acc => if k == .free then
      (match cells.lookup x with
      | some c => clOf cells r ((x, c) :: acc)
      | none => clOf cells r acc)
    else clOf cells r acc
theorem clOf_mem {cells : List (Str × Addr)} : ∀ {names : List (Str × NameKind)} {acc : List (Str × Addr)} {p : Str × Addr}, p ∈ clOf cells names acc → p ∈ acc ∨ cells.lookup p.1 = some p.2
  | [], _, _, h => .inl h
  | (x, k) :: r, acc, p, h => by
    unfold clOf at h
    split at h
    · cases q : cells.lookup x with
      | none => rw [q] at h; exact clOf_mem h
      | some c =>
        rw [q] at h
        rcases clOf_mem h with h | h
        · rcases List.mem_cons.mp h with h | h
          · subst h; exact .inr q
          · exact .inl h
        · exact .inr h
    · exact clOf_mem h
theorem clOf_keep {cells : List (Str × Addr)} : ∀ {names : List (Str × NameKind)} {acc : List (Str × Addr)} {p : Str × Addr}, p ∈ acc → p ∈ clOf cells names acc
  | [], _, _, h => h
  | (x, k) :: r, acc, p, h => by
    unfold clOf
    split
    · cases q : cells.lookup x with
      | none => exact clOf_keep h
      | some c => exact clOf_keep (List.mem_cons_of_mem _ h)
    · exact clOf_keep h
theorem clOf_has {cells : List (Str × Addr)} {x : Str} {c : Addr} (hc : cells.lookup x = some c) : ∀ {names : List (Str × NameKind)} {acc : List (Str × Addr)}, (x, NameKind.free) ∈ names → (x, c) ∈ clOf cells names acc
  | (y, k) :: r, acc, h => by
    unfold clOf
    rcases List.mem_cons.mp h with h | h
    · cases h
      simp only [beq_self_eq_true, if_true, hc]
      exact clOf_keep List.mem_cons_self
    · split
      · cases q : cells.lookup y with
        | none => exact clOf_has hc h
        | some c' => exact clOf_has hc h
      · exact clOf_has hc h
theorem lookup_some_of_mem {α : Type} {x : Str} {a : α} : ∀ {l : List (Str × α)}, (x, a) ∈ l → ∃ b, l.lookup x = some b
  | (y, b) :: r, h => by
    by_cases e : (x == y) = true
    · exact ⟨b, by simp [List.lookup_cons, e]⟩
    · have e' : (x == y) = false := by simpa using e
      rcases List.mem_cons.mp h with h | h
      · cases h; simp at e'
      · obtain ⟨c, hc⟩ := lookup_some_of_mem h
        exact ⟨c, by simp [List.lookup_cons, e', hc]⟩
theorem clOf_lookup {cells : List (Str × Addr)} {names : List (Str × NameKind)} {x : Str} {c : Addr} (h : (clOf cells names []).lookup x = some c) : cells.lookup x = some c := by
  rcases clOf_mem (PySem.mem_of_lookup h) with h | h
  · cases h
  · exact h
theorem clOf_some {cells : List (Str × Addr)} {names : List (Str × NameKind)} {x : Str} {c : Addr} (hc : cells.lookup x = some c) (h : (x, NameKind.free) ∈ names) : (clOf cells names []).lookup x = some c := by
  obtain ⟨b, hb⟩ := lookup_some_of_mem (clOf_has (acc := []) hc h)
  have := clOf_lookup hb
  rw [hc] at this
  cases this
  exact hb
theorem closureFor_clOf {scope : Scope} {env : Env} (h : ∀ p ∈ scope.names, p.2 = .free → ∃ c, env.cells.lookup p.1 = some c) : closureFor scope env = pure (clOf env.cells scope.names []) := by
  have gen : ∀ (names : List (Str × NameKind)) (acc : List (Str × Addr)), (∀ p ∈ names, p.2 = .free → ∃ c, env.cells.lookup p.1 = some c) →
      (forIn names acc fun (x : Str × NameKind) r => (if x.2 == .free then (do let c ← cellOf env x.1; pure (ForInStep.yield ((x.1, c) :: r))) else pure (ForInStep.yield r) : Sem _)) = pure (clOf env.cells names acc) := by
    intro names
    induction names with
    | nil => intro acc _; rfl
    | cons p r ih =>
      intro acc hp
      obtain ⟨x, k⟩ := p
      rw [List.forIn_cons]
      unfold clOf
      by_cases hk : k = .free
      · subst hk
        obtain ⟨c, hc⟩ := hp (x, .free) List.mem_cons_self rfl
        have e : cellOf env x = pure c := by unfold cellOf; rw [show env.cells.lookup x = some c from hc]
        simp only [beq_self_eq_true, if_true, e, hc]
        exact ih _ fun q hq => hp q (List.mem_cons_of_mem _ hq)
      · have hb : (k == NameKind.free) = false := by simpa using hk
        simp only [hb, Bool.false_eq_true, if_false]
        exact ih _ fun q hq => hp q (List.mem_cons_of_mem _ hq)
  have := gen scope.names [] h
  unfold closureFor
  simpa using this
theorem relabel_lookup {scope : Scope} {env : Env} {x : Str} : (relabel scope env).names.lookup x = (scope.names.lookup x).map fun k => if (k == .free && env.scope.kind == .function && env.kindOf x == some .cell) then .cell else k := by
  unfold relabel
  generalize scope.names = l
  induction l with
  | nil => rfl
  | cons p r ih =>
    obtain ⟨n, k⟩ := p
    simp only [List.map_cons]
    by_cases hx : (x == n) = true
    · have e : x = n := by simpa using hx
      subst e
      simp only [List.lookup_cons, beq_self_eq_true, Option.map_some]
      split <;> simp [List.lookup_cons]
    · have e' : (x == n) = false := by simpa using hx
      have e2 : List.lookup x ((n, k) :: r) = List.lookup x r := by simp [List.lookup_cons, e']
      rw [e2, ← ih]
      split <;> simp [List.lookup_cons, e']
def compChk (outer inner : List (Str × NameKind)) (N N' : List Str) : Bool :=
  inner.all (fun p => p.2 != .cell && (p.2 != .free || outer.lookup p.1 == some .cell || outer.lookup p.1 == some .free) && (p.2 != .local || inner.lookup p.1 == some .local)) &&
  decide (N.length ≤ N'.length) && (List.range N.length).all (fun i => match N'[i]? with
    | some x => inner.lookup x != some .local && (inner.lookup x == none || N[i]? == some x)
    | none => true) && (match N'[N'.length - 1]? with
    | some x => inner.lookup x == none
    | none => false) && decide (N.length + 1 ≤ N'.length)
def compCx (X : Cx) (scope : Scope) (C : Addr) (N' : List Str) (s : Shared) (H : Hp) (ex : List Addr) : Cx :=
  { X with env := compEnvC scope (clOf X.env.cells scope.names []) C X.env, N := N', s₀ := s, H₀ := H, outer := X.stack, ex := ex, fn := fun _ => false, pn := [], xe := fun _ _ => False }
structure CompOk (X : Cx) (scope : Scope) (N' : List Str) : Prop where
  kind : scope.kind = .function
  chk : compChk X.env.scope.names scope.names X.N N' = true
section
variable {X : Cx} {scope : Scope} {N' : List Str}
theorem CompOk.free (c : CompOk X scope N') {p : Str × NameKind} (hp : p ∈ scope.names) (hf : p.2 = .free) : X.env.kindOf p.1 = some .cell ∨ X.env.kindOf p.1 = some .free := by
  have h := c.chk
  unfold compChk at h
  simp only [Bool.and_eq_true, List.all_eq_true] at h
  have q := (h.1.1.1.1 p hp).1.2
  rw [hf] at q
  simp at q
  exact q
theorem CompOk.nocell (c : CompOk X scope N') {p : Str × NameKind} (hp : p ∈ scope.names) : p.2 ≠ .cell := by
  have h := c.chk
  unfold compChk at h
  simp only [Bool.and_eq_true, List.all_eq_true] at h
  have q := (h.1.1.1.1 p hp).1.1
  simpa using q
theorem CompOk.names (c : CompOk X scope N') {p : Str × NameKind} (hp : p ∈ scope.names) (hl : p.2 = .local) : scope.names.lookup p.1 = some .local := by
  have h := c.chk
  unfold compChk at h
  simp only [Bool.and_eq_true, List.all_eq_true] at h
  have q := (h.1.1.1.1 p hp).2
  rw [hl] at q
  simpa using q
theorem CompOk.len (c : CompOk X scope N') : X.N.length + 1 ≤ N'.length := by
  have h := c.chk
  unfold compChk at h
  simp only [Bool.and_eq_true] at h
  exact of_decide_eq_true h.2
theorem CompOk.acc (c : CompOk X scope N') {x : Str} (hx : N'[N'.length - 1]? = some x) : scope.names.lookup x = none := by
  have h := c.chk
  unfold compChk at h
  simp only [Bool.and_eq_true] at h
  have q := h.1.2
  rw [hx] at q
  simpa using q
theorem CompOk.at (c : CompOk X scope N') {i : Nat} {x : Str} (hi : i < X.N.length) (hx : N'[i]? = some x) : scope.names.lookup x ≠ some .local ∧ (scope.names.lookup x = none ∨ X.N[i]? = some x) := by
  have h := c.chk
  unfold compChk at h
  simp only [Bool.and_eq_true, List.all_eq_true] at h
  have q := h.1.1.2 i (List.mem_range.mpr hi)
  rw [hx] at q
  simp only [Bool.and_eq_true, Bool.or_eq_true] at q
  refine ⟨by simpa using q.1, ?_⟩
  rcases q.2 with z | z
  · exact .inl (by simpa using z)
  · exact .inr (by simpa using z)
theorem CompOk.clos (c : CompOk X scope N') (ok : X.Ok) : closureFor scope X.env = pure (clOf X.env.cells scope.names []) :=
  closureFor_clOf fun p hp hf => ok.has p.1 (c.free hp hf)
theorem CompOk.look (c : CompOk X scope N') (ok : X.Ok) {x : Str} (hx : scope.names.lookup x = some .free) :
    ((relabel scope X.env).names.lookup x = some .cell ∨ (relabel scope X.env).names.lookup x = some .free) ∧ (X.env.kindOf x = some .cell ∨ X.env.kindOf x = some .free) ∧ ∃ a, X.env.cells.lookup x = some a ∧ (clOf X.env.cells scope.names []).lookup x = some a := by
  have hm := PySem.mem_of_lookup hx
  have hk := c.free hm rfl
  obtain ⟨a, ha⟩ := ok.has x hk
  refine ⟨?_, hk, a, ha, clOf_some ha hm⟩
  rw [relabel_lookup, hx]
  simp only [Option.map_some]
  split
  · exact .inl rfl
  · exact .inr rfl
theorem comp_start {pins : List (Addr × Obj)} {σ : St} {H : Hp} {s : Shared} {fp : List Addr} {h₁ : Heap} {D C : Addr} {tk : Nat} (c : CompOk X scope N') (I : Inv X pins σ H s) (hf : ∀ b ∈ fp, FpOk X pins H b) (hfp : ∀ b ∈ fp, b < s.heap.objs.size)
    (hD : D = s.heap.objs.size) (hC : C = s.heap.objs.size + 1) (old : ∀ b o, s.heap.get? b = some o → h₁.get? b = some o) (hns : h₁.Ns C fun _ => none) (hl : h₁.get? D = some { cls := .type "list", data := .seq #[] 0 }) :
    Inv (compCx X scope C N' s H fp) [] (σ ++ List.replicate (N'.length - 1 - σ.length) none ++ [some (V.ref D)]) (upd H D (.lst [])) { s with heap := h₁, toks := tk } := by
  have hDn : H D = none := I.hok.fresh (by rw [hD]; exact Nat.le_refl _)
  have hCn : H C = none := I.hok.fresh (by rw [hC]; exact Nat.le_succ _)
  have hDC : C ≠ D := by rw [hC, hD]; exact Nat.ne_of_gt (Nat.lt_succ_self _)
  have hok1 : HOk X.prog X.w (upd H D (.lst [])) h₁ := I.hok.laid old (by rw [hD]; exact Nat.le_refl _) ⟨Nat.zero_le _, [], 0, .nil, hl⟩
  have cellLt : ∀ x a, X.env.cells.lookup x = some a → a < s.heap.objs.size := fun x a e => by
    obtain ⟨v, q⟩ := I.cell x a e
    exact q.lt
  have lenN : σ.length = X.N.length := I.len
  refine ⟨⟨I.ok.mod, ?_, I.ok.glob, I.ok.blt, ?_, ?_, ?_, ?_, I.ok.hd, I.ok.frames, .inl rfl, ?_, I.bs, Nat.le_trans I.ok.bsz I.sz, ?_, ?_, I.stack, I.stkFree⟩, rfl, I.bare, Un.laid old (by rw [hD]; exact Nat.le_refl _) hDn, ⟨_, hns, ?_⟩, ?_, ?_, ?_, ?_, hok1, ?_⟩
  · show (relabel scope X.env).kind = _
    exact c.kind
  · show s.heap.objs.size ≤ C
    rw [hC]; exact Nat.le_succ _
  · intro x y a h1 h2
    exact I.ok.inj x y a (clOf_lookup h1) (clOf_lookup h2)
  · intro x hx
    have hx' : (relabel scope X.env).names.lookup x = some .cell ∨ (relabel scope X.env).names.lookup x = some .free := hx
    rw [relabel_lookup] at hx'
    cases q : scope.names.lookup x with
    | none => rw [q] at hx'; rcases hx' with z | z <;> cases z
    | some k =>
      rw [q] at hx'
      have hk : k = .free := by
        have nc := c.nocell (PySem.mem_of_lookup q)
        simp only [Option.map_some] at hx'
        split at hx'
        · rename_i hh
          simp at hh
          exact hh.1.1
        · rcases hx' with z | z
          · exact absurd (Option.some.inj z) nc
          · exact Option.some.inj z
      subst hk
      obtain ⟨_, _, a, _, z⟩ := c.look I.ok q
      exact ⟨a, z⟩
  · intro x a hx _
    exact absurd (show false = true from hx) Bool.false_ne_true
  · intro b hb
    refine ⟨?_, fun x a e => ?_⟩
    · show b ≠ C
      rw [hC]; exact Nat.ne_of_lt (Nat.lt_succ_of_lt (hfp b hb))
    · exact (hf b hb).2.2.2.2.1 x a (clOf_lookup e)
  · intro b o e hb
    rcases (hf b hb).2.2.2.1 with z | z
    · exact I.ok.noex b o e z
    · exact absurd (Nat.lt_of_lt_of_le (Heap.lt_size e) (Nat.le_trans I.ok.bsz z)) (Nat.lt_irrefl _)
  · intro b hb hb2
    rcases List.mem_cons.mp (I.stkSub b hb2) with z | z
    · exact (hf b hb).2.1 z
    · exact (hf b hb).2.2.1 z
  · intro i x v h1 h2 h3
    by_cases hi : i < σ.length
    · rw [List.getElem?_append_left (by simp; omega), List.getElem?_append_left hi] at h2
      obtain ⟨n1, n2⟩ := c.at (by omega) h1
      have h3' : (relabel scope X.env).names.lookup x = some .local ∨ (relabel scope X.env).names.lookup x = some .cell ∨ (relabel scope X.env).names.lookup x = some .free := h3
      rw [relabel_lookup] at h3'
      cases q : scope.names.lookup x with
      | none => rw [q] at h3'; rcases h3' with z | z | z <;> cases z
      | some k =>
        have hk : k = .free := by
          rw [q] at h3' n1
          have nc := c.nocell (PySem.mem_of_lookup q)
          simp only [Option.map_some] at h3'
          split at h3'
          · rename_i hh
            simp at hh
            exact hh.1.1
          · rcases h3' with z | z | z
            · exact absurd z n1
            · exact absurd (Option.some.inj z) nc
            · exact Option.some.inj z
        subst hk
        have hN : X.N[i]? = some x := by
          rcases n2 with z | z
          · rw [q] at z; cases z
          · exact z
        obtain ⟨k1, k2, a, k3, k4⟩ := c.look I.ok q
        obtain ⟨m, hm, hl'⟩ := I.loc
        have vis : Vis X.env.scope x := k2.elim (fun z => .inr (.inl z)) fun z => .inr (.inr z)
        obtain ⟨u, ru, lk⟩ := hl' i x v hN h2 vis
        refine ⟨u, ru, .inr ⟨k1, a, k4, ?_⟩⟩
        rcases lk with ⟨z, _⟩ | ⟨_, a', z1, z2⟩
        · rcases k2 with k2 | k2 <;> (rw [k2] at z; cases z)
        · rw [k3] at z1; cases z1
          obtain ⟨ob, y1, y2⟩ := z2
          exact ⟨ob, old _ _ y1, y2⟩
    · by_cases hi2 : i < N'.length - 1
      · rw [List.getElem?_append_left (by simp; omega), List.getElem?_append_right (by omega), List.getElem?_replicate] at h2
        split at h2 <;> cases h2
      · have hi3 : i < N'.length := (List.getElem?_eq_some_iff.mp h1).1
        have e : i = N'.length - 1 := by omega
        rw [e] at h1
        have z := c.acc h1
        have h3' : (relabel scope X.env).names.lookup x = some .local ∨ (relabel scope X.env).names.lookup x = some .cell ∨ (relabel scope X.env).names.lookup x = some .free := h3
        rw [relabel_lookup, z] at h3'
        rcases h3' with y | y | y <;> cases y
  · intro x a e
    obtain ⟨v, ob, y1, y2⟩ := I.cell x a (clOf_lookup e)
    exact ⟨v, ob, old _ _ y1, y2⟩
  · show upd H D (.lst []) C = none
    rw [upd_ne hDC]; exact hCn
  · intro x a e
    have e' := clOf_lookup e
    have : a ≠ D := by rw [hD]; exact Nat.ne_of_lt (cellLt x a e')
    rw [upd_ne this]
    exact I.freeC x a e'
  · intro p hp
    exact absurd (show p ∈ ([] : List (Addr × Obj)) from hp) (by simp)
  · show (σ ++ _ ++ _).length = N'.length
    have := c.len
    simp
    omega
def PTs (X : Cx) (EX : XE) (ifs : List Expr) (f : M Bool) : Prop :=
  ∀ (pins : List (Addr × Obj)) (s : Shared) (σ : St) (H : Hp) (Q : Bool → Hp → Prop), Inv X pins σ H s → lift (lc X EX) RB f σ H Q →
    wpAny (model X.prog X.w) X.A (forIn ifs true fun c r => if r = true then do let ok ← isTrue c X.env (eval c X.env); pure (ForInStep.yield ok) else pure (ForInStep.yield r)) (TP X pins σ Q) X.xe s
theorem pts_nil {EX : XE} : PTs X EX [] (ret true) := fun pins s σ H Q I ⟨G, F, ρ, g, o⟩ => wpAny_tests_nil ⟨H, I, o F H true (Same.refl _) g rfl⟩
theorem Good.take {K : Frag} {mg : MG} {G : Fx} {F H : Hp} {σ : St} {ρ : Rho} (g : Good K mg G F H σ ρ) (n : Nat) : Good K mg G F H (σ.take n) (ρ.take n) where
  sF := g.sF
  sub := g.sub
  old := g.old
  new := g.new
  len := by simp [g.len]
  slot := fun i s h => by
    by_cases hi : i < n
    · rw [List.getElem?_take_of_lt hi] at h ⊢
      exact g.slot i s h
    · rw [List.getElem?_take_eq_none (by omega)] at h
      cases h
  apart := fun i j l s t h1 h2 o1 o2 e1 e2 => by
    by_cases hi : i < n
    · by_cases hj : j < n
      · rw [List.getElem?_take_of_lt hi] at h1 e1
        rw [List.getElem?_take_of_lt hj] at h2 e2
        exact g.apart i j l s t h1 h2 o1 o2 e1 e2
      · rw [List.getElem?_take_eq_none (by omega)] at h2; cases h2
    · rw [List.getElem?_take_eq_none (by omega)] at h1; cases h1
  ioT := g.ioT
  ioU := g.ioU
theorem Good.more {K : Frag} {mg : MG} {G : Fx} {F H : Hp} {σ : St} {ρ : Rho} {D : Addr} (g : Good K mg G F H σ ρ) (n : Nat) (hD : H D = none) : Good K mg G F (upd H D (.lst [])) (σ ++ List.replicate n none ++ [some (V.ref D)]) (ρ ++ List.replicate n .no ++ [.ow (.lst [])]) := by
  have g1 : Good K mg G F (upd H D (.lst [])) σ ρ := g.made hD
  have at_ : ∀ {i : Nat} {s : Sl}, (ρ ++ List.replicate n .no ++ [.ow (.lst [])])[i]? = some s → (i < ρ.length ∧ ρ[i]? = some s ∧ (σ ++ List.replicate n none ++ [some (V.ref D)])[i]? = σ[i]?) ∨ (s = .no) ∨ (i = ρ.length + n ∧ s = .ow (.lst []) ∧ (σ ++ List.replicate n none ++ [some (V.ref D)])[i]? = some (some (V.ref D))) := fun {i s} h => by
    by_cases hi : i < ρ.length
    · rw [List.getElem?_append_left (by simp; omega), List.getElem?_append_left hi] at h
      exact .inl ⟨hi, h, by rw [List.getElem?_append_left (by simp [g.len]; omega), List.getElem?_append_left (by rw [g.len]; exact hi)]⟩
    · by_cases hi2 : i < ρ.length + n
      · rw [List.getElem?_append_left (by simp; omega), List.getElem?_append_right (by omega), List.getElem?_replicate] at h
        split at h
        · exact .inr (.inl (Option.some.inj h).symm)
        · cases h
      · rw [List.getElem?_append_right (by simp; omega)] at h
        have e : i = ρ.length + n := by
          have := (List.getElem?_eq_some_iff.mp h).1
          simp at this
          omega
        subst e
        simp at h
        refine .inr (.inr ⟨rfl, h.symm, ?_⟩)
        rw [List.getElem?_append_right (by simp [g.len])]
        simp [g.len]
  have noD : ∀ {i : Nat} {s : Sl}, ρ[i]? = some s → Owned s = true → σ[i]? ≠ some (some (V.ref D)) := fun {i s} h o e => by
    obtain ⟨l, d, h1, h2, h3, h4⟩ := (g.slot i s h).own o
    rw [e] at h1
    cases h1
    obtain ⟨u, hu⟩ := h3.has
    rw [hD] at hu; cases hu
  exact {
    sF := g1.sF
    sub := g1.sub
    old := g1.old
    new := g1.new
    len := by simp [g.len]
    slot := fun i s h => by
      rcases at_ h with ⟨h1, h2, h3⟩ | rfl | ⟨h1, rfl, h3⟩
      · rw [h3]; exact g1.slot i s h2
      · trivial
      · rw [h3]
        exact ⟨D, rfl, g.sub.free hD, g.new0 hD, [], upd_same, .nil⟩
    apart := fun i j l s t h1 h2 o1 o2 e1 e2 => by
      rcases at_ h1 with ⟨a1, a2, a3⟩ | rfl | ⟨a1, rfl, a3⟩
      · rcases at_ h2 with ⟨b1, b2, b3⟩ | rfl | ⟨b1, rfl, b3⟩
        · rw [a3] at e1; rw [b3] at e2
          exact g.apart i j l s t a2 b2 o1 o2 e1 e2
        · cases o2
        · rw [a3] at e1; rw [b3] at e2
          cases e2
          exact absurd e1 (noD a2 o1)
      · cases o1
      · rcases at_ h2 with ⟨b1, b2, b3⟩ | rfl | ⟨b1, rfl, b3⟩
        · rw [a3] at e1; rw [b3] at e2
          cases e1
          exact absurd e2 (noD b2 o2)
        · cases o2
        · rw [a1, b1]
    ioT := g1.ioT
    ioU := g1.ioU }
theorem upd_good {L : Lc} {G : Fx} {F H : Hp} {σ : St} {ρ : Rho} {k : Nat} {x : D} {v : V} {P : Unit → Rho → Prop} {E : Xn → Rho → Prop} (g : L.Good G F H σ ρ) (r : Den L.K L.mg F v x) (o : Out (mUpd k (appD x) ρ) P E) :
    ∃ l vs ρ', σ[k]? = some (some (V.ref l)) ∧ H l = some (.lst vs) ∧ vs.length < sizeLine ∧ L.Good G F (upd H l (.lst (vs ++ [v]))) σ ρ' ∧ P () ρ' := by
  unfold mUpd at o
  cases q : own ρ[k]? with
  | none => rw [q] at o; exact o.elim
  | some d =>
    rw [q] at o
    dsimp only at o
    cases q2 : appD x d with
    | none => rw [q2] at o; exact o.elim
    | some d' =>
      rw [q2] at o
      have o' : P () (putS k d' ρ) := o
      cases d with
      | lst ds =>
        simp only [appD] at q2
        split at q2
        · rename_i hl
          cases q2
          cases q3 : ρ[k]? with
          | none => rw [q3] at q; cases q
          | some s =>
            rw [q3] at q
            have sl := g.slot k s q3
            have fin : ∀ l s', σ[k]? = some (some (V.ref l)) → Owned s = true → Obj1 L.K L.mg F H l (.lst ds) → ((∃ e, s = .ow e ∧ s' = .ow (.lst (ds ++ [x]))) ∨ (∃ e, s = .io e ∧ s' = .io (.lst (ds ++ [x])))) → putS k (.lst (ds ++ [x])) ρ = ρ.set k s' →
                ∃ l vs ρ', σ[k]? = some (some (V.ref l)) ∧ H l = some (.lst vs) ∧ vs.length < sizeLine ∧ L.Good G F (upd H l (.lst (vs ++ [v]))) σ ρ' ∧ P () ρ' := fun l s' z1 z2 z3 z4 z5 => by
              obtain ⟨vs, y1, y2⟩ := z3
              refine ⟨l, vs, _, z1, y1, by rw [y2.length, sizeLine_eq]; exact hl, Good.write g q3 z2 z1 z4 ⟨_, upd_same, y2.append (.cons r .nil)⟩, ?_⟩
              rw [← z5]; exact o'
            cases s with
            | no => cases q
            | sh e => cases q
            | ow e =>
              cases q
              obtain ⟨l, z1, z2, z3, z4⟩ := sl
              exact fin l _ (join_some z1) rfl z4 (.inl ⟨_, rfl, rfl⟩) (by unfold putS; rw [q3])
            | io e =>
              cases q
              obtain ⟨l, z1, z2, z3, z4⟩ := sl
              exact fin l _ (join_some z1) rfl z4 (.inr ⟨_, rfl, rfl⟩) (by unfold putS; rw [q3])
        · cases q2
      | _ => cases q2
variable {X : Cx} {EX : XE} {elt tg iter : Expr} {ifs : List Expr} {pos : Pos} {it : M (List D)} {gf : D → M Unit} {ft : M Bool} {fe : M D} {js : List Nat} {scope : Scope} {N' : List Str}
theorem comp_core (n : Nat) {use : Option (Value → Sem Unit)} {QQ : Value → Shared → Prop} {pins : List (Addr × Obj)} {s : Shared} {σ : St} {H F : Hp} {G : Fx} {ρ : Rho} {P : D → Rho → Prop} {Ex : Xn → Rho → Prop}
    (hc : X.calm = true) (c : CompOk X scope N') (hn : X.N.length + n + 1 = N'.length) (hi : PVI X EX tg iter it) (hgx : ∀ d r x r', gf d r ≠ .exc x r') (hjs : ∀ j ∈ js, X.N.length ≤ j ∧ j < X.N.length + n)
    (hg : ∀ C s H ex, PVG (compCx X scope C N' s H ex) EX tg js gf) (ht : ∀ C s H ex, PTs (compCx X scope C N' s H ex) EX ifs ft) (he : ∀ C s H ex, PV (compCx X scope C N' s H ex) EX elt fe)
    (hs : ∀ x, foldedSetIterable iter X.env x = pure x) (I : Inv X pins σ H s) (g0 : (lc X EX).Good G F H σ ρ) (o : Out (mComp n it gf ft fe ρ) P Ex) (hE : ∀ x r, Ex x r → PostX (lc X EX) G F σ x r)
    (hend : ∀ (F4 H4 : Hp) (s5 : Shared) (ρ5 : Rho) (d : D) (l C : Addr) (mm : Str → Option Value), Same F F4 → (lc X EX).Good G F4 H4 σ ρ5 → Loose X.K X.mg G F4 H4 σ ρ5 l d → P d ρ5 → Inv X pins σ H4 s5 → s5.heap.Ns C mm → FpOk X pins H4 C →
      compPost (model X.prog X.w) X.A X.xe use QQ (.ref l) C (.ok .next) s5) :
    wpAny (model X.prog X.w) X.A (comprehension (.ListComp elt [⟨tg, iter, ifs, 0⟩] scope pos) scope X.env (firstIterPos [⟨tg, iter, ifs, 0⟩] pos) (newList []) (firstAsync [⟨tg, iter, ifs, 0⟩]) (firstIter [⟨tg, iter, ifs, 0⟩] X.env) use) QQ X.xe s := by
  refine wpAny_comprehension_free (use := use) rfl hs (c.clos I.ok) c.kind (fun y hy hl => c.names hy hl) ?_
  refine thn (hi pins s σ H (fun J H1 => ∃ F1 ρ1 ds, Same F F1 ∧ (lc X EX).Good G F1 H1 σ ρ1 ∧ ItR (lc X EX) G F1 J ds ∧ Out (inner n (fun k => turns k gf ft fe ds) ρ1) P Ex) I
    (at_bnd g0 o hE fun F1 H1 ρ1 ds J s1 g1 r1 o1 => ⟨F1, ρ1, ds, s1, g1, r1, o1⟩)) fun xv s1 h1 => thn h1 fun itv s2 h2 => ?_
  obtain ⟨ita, fp, tn, J, H2, e, I2, T, st2, f2, F1, ρ1, ds, e1, g1, r1, o1⟩ := h2
  subst e
  refine wpAny_newObj_type (wpAny_newFunctionEnv (fun y hy => c.nocell hy) (by intro y hy; simp at hy) (fun h₁ hns₁ hsb₁ => ?_) c.kind)
  dsimp only at hns₁ hsb₁ ⊢
  generalize hH2 : s2.heap.push { cls := .type "list", dict := none, data := .seq ([] : List Value).toArray } = HP at hns₁ hsb₁ ⊢
  have hC : HP.objs.size = s2.heap.objs.size + 1 := by rw [← hH2, Heap.size_push]
  have hDC : s2.heap.objs.size ≠ HP.objs.size := by rw [hC]; exact Nat.ne_of_lt (Nat.lt_succ_self _)
  have old : ∀ b o, s2.heap.get? b = some o → h₁.get? b = some o := fun b o e => hsb₁.extBut b o (by have := Heap.lt_size e; rw [hC]; exact Nat.ne_of_lt (Nat.lt_succ_of_lt this)) (Heap.get?_push_of_some _ (hH2 ▸ Heap.get?_push_of_some _ e))
  have hl : h₁.get? s2.heap.objs.size = some { cls := .type "list", data := .seq #[] 0 } := hsb₁.extBut _ _ hDC (Heap.get?_push_of_some _ (hH2 ▸ Heap.get?_push_size _ rfl))
  have hfp : ∀ b ∈ fp, b < s2.heap.objs.size := fun b hb => by
    obtain ⟨ob, e, _⟩ := T.obj 0 _ st2 b hb
    exact Heap.lt_size e
  have hns : h₁.Ns HP.objs.size fun _ => none := by simpa using hns₁
  have hDn : H2 s2.heap.objs.size = none := I2.hok.fresh (Nat.le_refl _)
  have lenσ : σ.length = X.N.length := I.len
  have lenρ : ρ1.length = σ.length := g1.len.symm
  have hn' : N'.length - 1 - σ.length = n := by omega
  have I3 := comp_start (tk := s2.toks + ([] : List (Str × Value)).length) c I2 f2 hfp rfl hC old hns hl
  rw [hn'] at I3
  have g2 := Good.more g1 n hDn
  rw [show inner n (fun k => turns k gf ft fe ds) ρ1 = _ from rfl] at o1
  unfold inner at o1
  rw [lenρ] at o1
  let XX := compCx X scope HP.objs.size N' s2 H2 fp
  have loopAll : ∀ s3 : Shared, s3 = { s2 with heap := h₁, toks := s2.toks + ([] : List (Str × Value)).length } →
      codeAny (model X.prog X.w) X.A (.compLoop (.ListComp elt [⟨tg, iter, ifs, 0⟩] scope pos) 0 (.ref ita) (.ref s2.heap.objs.size) XX.env)
        (compPost (model X.prog X.w) X.A X.xe use QQ (.ref s2.heap.objs.size) HP.objs.size) s3 := by
    rintro s3 rfl
    have hEX : ∀ {α : Type} {t : Sem α} {Q' : α → Shared → Prop} {E' : Value → Shared → Prop} {s' : Shared}, wpAny (model X.prog X.w) X.A t Q' (fun _ _ => False) s' → wpAny (model X.prog X.w) X.A t Q' E' s' := fun h => wpAny_mono h (fun _ _ q => q) fun _ _ z => z.elim
    refine codeAny_loop rfl (fun m s' => ∃ i σ' H' F' ρ', m = ds.length - i ∧ i ≤ ds.length ∧ Inv XX [] σ' H' s' ∧ tn i s'.heap ∧ (∀ b ∈ fp, H' b = none) ∧ Same F1 F' ∧ Good X.K X.mg G F' H' σ' ρ' ∧ (∀ j, j < σ.length → σ'[j]? = σ[j]?) ∧ σ'[σ.length + n]? = some (some (V.ref s2.heap.objs.size)) ∧
      Out (turns (σ.length + n) gf ft fe (ds.drop i) ρ') (fun _ r => ∃ d, r[σ.length + n]? = some (.ow d) ∧ P d (r.take σ.length)) (fun _ _ => False)) (fun m s4 hI => ?_) ds.length
      ⟨0, _, _, F1, _, by simp, Nat.zero_le _, I3, T.keep _ _ _ st2 (fun b _ ob e => old b ob e), fun b hb => ?_, Same.refl _, g2, fun j hj => ?_, ?_, ?_⟩
    · show wpAny _ X.A ((compTurn (.ListComp elt [⟨tg, iter, ifs, 0⟩] scope pos) 0 (.ref ita) (.ref s2.heap.objs.size) XX.env).onRaise (fun x => do noteFrame x XX.env; theTreesLotGoes x)) _ _ s4
      refine wpAny_noted ?_
      rw [compTurn_list]
      obtain ⟨i, σ4, H4, F4, ρ4, rfl, hi4, I4, st4, fr4, e4, g4, hσ4, hD4, o4⟩ := hI
      have stat : ∀ {H' : Hp}, (∀ b ∈ fp, H' b = none) → ∀ b ∈ fp, FpOk XX [] H' b := fun {H'} hz b hb =>
        ⟨hz b hb, (I3.ok.exf b hb).1, I3.ok.exfs b hb, .inl hb, fun x a e => (I3.ok.exf b hb).2 x a e, fun p hp => absurd (show p ∈ ([] : List (Addr × Obj)) from hp) (by simp)⟩
      obtain ⟨t1, t2, t3⟩ := r1 σ4 i F4 H4 ρ4 e4 g4
      by_cases hlt : i < ds.length
      · have ed : ds.drop i = ds[i] :: ds.drop (i + 1) := List.drop_eq_getElem_cons hlt
        rw [ed] at o4
        refine wpAny_bind (wpAny_standAt (wpAny_bind (thn (T.item XX rfl rfl rfl hc i [] s4 σ4 H4 _ I4 (stat fr4) st4 (t1 hlt)) fun r s5 ⟨u, hr, h5⟩ => ?_)))
        subst hr
        refine wpAny_bind (thn h5 fun _ s6 ⟨x, H6, I6, r6, y6, st6, fr6⟩ => ?_)
        obtain ⟨F6, e6, g6, q6⟩ := t3 x H6 y6
        have I6' := I6.pinned (stat fr6) (T.obj _ _ st6)
        have again : ∀ {s7 : Shared} {σ7 : St} {H7 F7 : Hp} {ρ7 : Rho}, Inv XX ([] ++ pinsAt fp s6.heap) σ7 H7 s7 → Same F6 F7 → Good X.K X.mg G F7 H7 σ7 ρ7 → (∀ j, j ∉ js → σ7[j]? = σ4[j]?) →
            Out (turns (σ.length + n) gf ft fe (ds.drop (i + 1)) ρ7) (fun _ r => ∃ d, r[σ.length + n]? = some (.ow d) ∧ P d (r.take σ.length)) (fun _ _ => False) →
            ∃ m, m < ds.length - i ∧ ∃ i σ' H' F' ρ', m = ds.length - i ∧ i ≤ ds.length ∧ Inv XX [] σ' H' s7 ∧ tn i s7.heap ∧ (∀ b ∈ fp, H' b = none) ∧ Same F1 F' ∧ Good X.K X.mg G F' H' σ' ρ' ∧ (∀ j, j < σ.length → σ'[j]? = σ[j]?) ∧ σ'[σ.length + n]? = some (some (V.ref s2.heap.objs.size)) ∧
              Out (turns (σ.length + n) gf ft fe (ds.drop i) ρ') (fun _ r => ∃ d, r[σ.length + n]? = some (.ow d) ∧ P d (r.take σ.length)) (fun _ _ => False) := fun {s7 σ7 H7 F7 ρ7} I7 e7 g7 hj7 o7 => by
          refine ⟨ds.length - (i + 1), by omega, i + 1, σ7, H7, F7, ρ7, rfl, hlt, I7.unpinned, T.keep _ _ _ st6 fun b hb ob e => (I7.pin (b, ob) (List.mem_append_right _ (List.mem_append_right _ (mem_pinsAt hb e)))).1, fun b hb => ?_, e4.trans (e6.trans e7), g7, fun j hj => ?_, ?_, o7⟩
          · obtain ⟨ob, e, d⟩ := T.obj _ _ st6 b hb
            exact (I7.pin (b, ob) (List.mem_append_right _ (List.mem_append_right _ (mem_pinsAt hb e)))).2.1
          · rw [hj7 j fun m => by have := (hjs j m).1; omega]
            exact hσ4 j hj
          · rw [hj7 _ fun m => by have := (hjs _ m).2; omega]
            exact hD4
        refine wpAny_bind (hEX (thn (hg HP.objs.size s2 H2 fp _ s6 σ4 H6 x u (fun σ' H' => ∃ F' ρ', Same F6 F' ∧ Good X.K X.mg G F' H' σ' ρ' ∧ (∀ j, j ∉ js → σ'[j]? = σ4[j]?) ∧
          Out (bnd ft (fun b => if b then bnd fe fun x => bnd (mUpd (σ.length + n) (appD x)) fun _ => turns (σ.length + n) gf ft fe (ds.drop (i + 1)) else turns (σ.length + n) gf ft fe (ds.drop (i + 1))) ρ') (fun _ r => ∃ d, r[σ.length + n]? = some (.ow d) ∧ P d (r.take σ.length)) (fun _ _ => False)) I6' r6
          ⟨G, F6, ρ4, ds[i], g6, q6 _ (by simp [hlt]), (Out.bnd o4).mono (fun _ r z F' H' σ' s g hj => ⟨F', r, s, g, hj, z⟩) fun _ _ z => z⟩) fun _ s7 ⟨σ7, H7, I7, F7, ρ7, e7, g7, hj7, o7⟩ => ?_))
        refine wpAny_bind (hEX (thn (ht HP.objs.size s2 H2 fp _ s7 σ7 H7 (fun b H' => ∃ F' ρ', Same F7 F' ∧ Good X.K X.mg G F' H' σ7 ρ' ∧
          Out ((if b then bnd fe fun x => bnd (mUpd (σ.length + n) (appD x)) fun _ => turns (σ.length + n) gf ft fe (ds.drop (i + 1)) else turns (σ.length + n) gf ft fe (ds.drop (i + 1))) ρ') (fun _ r => ∃ d, r[σ.length + n]? = some (.ow d) ∧ P d (r.take σ.length)) (fun _ _ => False)) I7
          ⟨G, F7, ρ7, g7, (Out.bnd o7).mono (fun a r z F' H' b s g e => by cases e; exact ⟨F', r, s, g, z⟩) fun _ _ z => z.elim⟩) fun ok s8 ⟨H8, I8, F8, ρ8, e8, g8, o8⟩ => ?_))
        cases ok with
        | false => exact wpAny_pure ⟨rfl, again I8 (e7.trans e8) g8 hj7 o8⟩
        | true =>
          refine wpAny_bind (wpAny_bind (hEX (thn (he HP.objs.size s2 H2 fp _ s8 σ7 H8 (fun v H' => ∃ F' ρ' d, Same F8 F' ∧ Good X.K X.mg G F' H' σ7 ρ' ∧ Den X.K X.mg F' v d ∧
            Out (bnd (mUpd (σ.length + n) (appD d)) (fun _ => turns (σ.length + n) gf ft fe (ds.drop (i + 1))) ρ') (fun _ r => ∃ d, r[σ.length + n]? = some (.ow d) ∧ P d (r.take σ.length)) (fun _ _ => False)) I8
            ⟨G, F8, ρ8, g8, (Out.bnd o8).mono (fun a r z F' H' b s g e => ⟨F', r, a, s, g, e, z⟩) fun _ _ z => z.elim⟩) fun xv s9 ⟨y, H9, I9, r9, F9, ρ9, d9, e9, g9, dn9, o9⟩ => ?_)))
          obtain ⟨l, vs, ρ10, hσ, hHl, hlen, g10, o10⟩ := upd_good (L := lc X EX) g9 dn9 (Out.bnd o9)
          rw [hj7 _ fun m => by have := (hjs _ m).2; omega, hD4] at hσ
          cases hσ
          refine wpAny_bind (hEX (thn (mt_append (X := XX) _ s9 σ7 H9 (.ref s2.heap.objs.size) [y] (.ref s2.heap.objs.size) [xv] (fun _ H' => H' = upd H9 s2.heap.objs.size (.lst (vs ++ [y]))) I9 rfl (.cons r9 .nil) ⟨_, vs, y, rfl, rfl, hHl, hlen, rfl⟩) fun _ s10 ⟨_, H10, I10, _, e10⟩ => ?_))
          subst e10
          exact wpAny_pure (wpAny_pure ⟨rfl, again I10 ((e7.trans e8).trans e9) g10 hj7 o10⟩)
      · have e : i = ds.length := by omega
        subst e
        refine wpAny_bind (wpAny_standAt (wpAny_bind (thn (T.done XX rfl rfl rfl hc _ [] s4 σ4 H4 _ I4 (stat fr4) st4 (t2 rfl)) fun r s5 ⟨hr, I5⟩ => ?_)))
        subst hr
        refine wpAny_pure ?_
        obtain ⟨mm, hmm, _⟩ := id I5.loc
        rw [List.drop_length] at o4
        obtain ⟨d, hd, post⟩ : ∃ d, ρ4[σ.length + n]? = some (.ow d) ∧ P d (ρ4.take σ.length) := o4
        have IX : Inv X pins σ H4 s5 := I2.call' (s' := s5) I5.os I5.base I5.hok I5.bare fun b hb => ⟨(f2 b hb).2.2.2.1, (f2 b hb).2.1, (f2 b hb).2.2.2.2.1, (f2 b hb).2.2.2.2.2⟩
        have FC : FpOk X pins H4 HP.objs.size := I2.fpOk (by rw [hC]; exact Nat.le_succ _) I5.free
        have eσ : σ4.take σ.length = σ := by
          refine List.ext_getElem? fun j => ?_
          by_cases hj : j < σ.length
          · rw [List.getElem?_take_of_lt hj]; exact hσ4 j hj
          · rw [List.getElem?_take_eq_none (by omega), List.getElem?_eq_none (by omega)]
        obtain ⟨l, z1, z2, z3, z4⟩ := g4.slot _ _ hd
        rw [hD4] at z1
        cases z1
        refine hend F4 H4 s5 _ d _ _ mm (e1.trans e4) (by have := Good.take g4 σ.length; rw [eσ] at this; exact this) ⟨z2, z3, z4, fun j t hj ho hne => ?_⟩ post IX hmm FC
        have hjl : j < σ.length := by
          have := (List.getElem?_eq_some_iff.mp hj).1
          simp at this
          omega
        rw [List.getElem?_take_of_lt hjl] at hj
        have := g4.apart j (σ.length + n) s2.heap.objs.size t _ hj hd ho rfl (by rw [hσ4 j hjl]; exact hne) hD4
        omega
    · rw [upd_ne (Nat.ne_of_lt (hfp b hb))]
      exact (f2 b hb).1
    · rw [List.getElem?_append_left (by simp; omega), List.getElem?_append_left hj]
    · rw [List.getElem?_append_right (by simp)]
      simp
    · simp only [List.drop_zero]
      cases q : turns (σ.length + n) gf ft fe ds (ρ1 ++ List.replicate n .no ++ [.ow (.lst [])]) with
      | no => simp only [q] at o1; exact o1.elim
      | exc x r => simp only [q] at o1; exact o1.elim
      | ok u r =>
        simp only [q] at o1
        show ∃ d, r[σ.length + n]? = some (.ow d) ∧ _
        cases q2 : r[σ.length + n]? with
        | none => simp only [q2] at o1; exact o1.elim
        | some t =>
          simp only [q2] at o1
          cases t with
          | ow d => exact ⟨d, rfl, o1⟩
          | no => exact o1.elim
          | sh d => exact o1.elim
          | io d => exact o1.elim
  exact codeAny_compStart_list (loopAll _ rfl) (T.self _ _ _ _ _ (T.keep _ _ _ st2 fun b _ ob e => old b ob e) (loopAll _ rfl))
theorem pf_comp (n : Nat) (hc : X.calm = true) (c : CompOk X scope N') (hn : X.N.length + n + 1 = N'.length) (hi : PVI X EX tg iter it) (hgx : ∀ d r x r', gf d r ≠ .exc x r') (hjs : ∀ j ∈ js, X.N.length ≤ j ∧ j < X.N.length + n)
    (hg : ∀ C s H ex, PVG (compCx X scope C N' s H ex) EX tg js gf) (ht : ∀ C s H ex, PTs (compCx X scope C N' s H ex) EX ifs ft) (he : ∀ C s H ex, PV (compCx X scope C N' s H ex) EX elt fe)
    (hs : ∀ x, foldedSetIterable iter X.env x = pure x := by intro _; rfl) : PF X EX (.ListComp elt [⟨tg, iter, ifs, 0⟩] scope pos) (mComp n it gf ft fe) := by
  intro pins s σ H Q I h
  obtain ⟨G, F, ρ, g0, o⟩ := h
  rw [eval_ListComp]
  refine comp_core (use := none) n hc c hn hi hgx hjs hg ht he hs I g0 o (fun x r q => q) fun F4 H4 s5 ρ5 d l C mm e4 g4 lo post IX hmm FC => ?_
  refine ⟨mm, hmm, fun h' hs' => ⟨.ref l, H4, ?_, rfl, post F4 H4 _ e4 g4 ⟨l, rfl, lo⟩⟩⟩
  exact IX.turned (t' := s5.toks) (fun b ob hb e => hs'.extBut b ob hb e) FC.1 FC.2.1 FC.2.2.2.1 FC.2.2.2.2.1 FC.2.2.2.2.2
theorem comp_store (n i : Nat) {y : Str} {py spos : Pos} {f : D → M Fl} (hc : X.calm = true) (c : CompOk X scope N') (hn : X.N.length + n + 1 = N'.length) (hi : PVI X EX tg iter it) (hgx : ∀ d r x r', gf d r ≠ .exc x r') (hjs : ∀ j ∈ js, X.N.length ≤ j ∧ j < X.N.length + n)
    (hg : ∀ C s H ex, PVG (compCx X scope C N' s H ex) EX tg js gf) (ht : ∀ C s H ex, PTs (compCx X scope C N' s H ex) EX ifs ft) (he : ∀ C s H ex, PV (compCx X scope C N' s H ex) EX elt fe)
    (hN : X.N.Nodup) (hy : X.N[i]? = some y) (hx : Loc X.env.scope y) (hsw : swapsWith (.ListComp elt [⟨tg, iter, ifs, 0⟩] scope pos) (some (.Name y py)) spos.line X.env = pure true)
    (hf : ∀ {G : Fx} {F4 H4 F : Hp} {σ : St} {ρ5 : Rho} {l : Addr} {d : D} {E : Ends}, (lc X EX).Good G F4 H4 σ ρ5 → Loose X.K X.mg G F4 H4 σ ρ5 l d → Same F F4 → Out (f d ρ5) (PostS (lc X EX) G F E) (PostXS (lc X EX) G F) → E.nx (σ.set i (some (.ref l))) H4)
    (hs : ∀ x, foldedSetIterable iter X.env x = pure x) (hfn : X.fn y = true ∨ X.env.scope.names.lookup y = some .local) : PVS X EX (.Assign [.Name y py] (.ListComp elt [⟨tg, iter, ifs, 0⟩] scope pos) spos) (bnd (mComp n it gf ft fe) f) := by
  intro pins s σ H E I h
  obtain ⟨G, F, ρ, g0, o⟩ := h
  rw [exec_Assign_Name_used _ _ _ _ hsw]
  refine wpAny_bind (wpAny_standAt (wpAny_bind ?_))
  show wpAny _ X.A (do let _ ← comprehension (.ListComp elt [⟨tg, iter, ifs, 0⟩] scope pos) scope X.env _ (newList []) false (firstIter [⟨tg, iter, ifs, 0⟩] X.env) (some (assign (.Name y py) X.env))) _ _ s
  refine wpAny_bind (wpAny_mono (comp_core (use := some (assign (.Name y py) X.env)) (QQ := fun _ s' => SP X pins E .next s') n hc c hn hi hgx hjs hg ht he hs I g0 (Out.bnd o) (fun x r q => q.x) fun F4 H4 s5 ρ5 d l C mm e4 g4 lo post IX hmm FC => ?_) (fun _ s' hq => wpAny_pure (wpAny_pure hq)) fun _ _ e => e)
  show wpAny _ X.A (assign (.Name y py) X.env (.ref l)) _ _ s5
  refine wpAny_assign_Name (store_ok2 IX hN hy hx (v := .ref l) rfl (fun s6 I6 ⟨a, sb, ha⟩ => ?_) hfn)
  have hCa : C ≠ a := by
    rcases ha with rfl | ha
    · exact FC.2.1
    · exact fun z => FC.2.2.2.2.1 _ _ ha z.symm
  refine ⟨mm, hmm.sameBut sb hCa, fun h' hs' => ⟨σ.set i (some (.ref l)), H4, ?_, hf g4 lo e4 post⟩⟩
  exact I6.turned (t' := s6.toks) (fun b ob hb e => hs'.extBut b ob hb e) FC.1 FC.2.1 FC.2.2.2.1 FC.2.2.2.2.1 FC.2.2.2.2.2
theorem vs_setC (n i : Nat) {y : Str} {py spos : Pos} (hN : X.N.Nodup) (hy : X.N[i]? = some y) (hx : Loc X.env.scope y) (hc : X.calm = true) (c : CompOk X scope N') (hn : X.N.length + n + 1 = N'.length) (hi : PVI X EX tg iter it) (hgx : ∀ d r x r', gf d r ≠ .exc x r') (hjs : ∀ j ∈ js, X.N.length ≤ j ∧ j < X.N.length + n)
    (hg : ∀ C s H ex, PVG (compCx X scope C N' s H ex) EX tg js gf) (ht : ∀ C s H ex, PTs (compCx X scope C N' s H ex) EX ifs ft) (he : ∀ C s H ex, PV (compCx X scope C N' s H ex) EX elt fe)
    (hsw : swapsWith (.ListComp elt [⟨tg, iter, ifs, 0⟩] scope pos) (some (.Name y py)) spos.line X.env = pure true := by rfl) (hs : ∀ x, foldedSetIterable iter X.env x = pure x := by intro _; rfl)
    (hfn : X.fn y = true ∨ X.env.scope.names.lookup y = some .local := by first | exact .inl rfl | exact .inr rfl | assumption) : PVS X EX (.Assign [.Name y py] (.ListComp elt [⟨tg, iter, ifs, 0⟩] scope pos) spos) (sSet i (mComp n it gf ft fe)) :=
  comp_store n i (f := fun d => sDo (mSet i d)) hc c hn hi hgx hjs hg ht he hN hy hx hsw (fun {G F4 H4 F σ ρ5 l d E} g4 lo e4 o => by
    obtain ⟨F5, e5, g5, dn⟩ := lo.fast g4
    obtain ⟨ρ2, g2, q⟩ := set_good (L := lc X EX) g5 dn (Out.bnd o)
    exact q F5 H4 _ (e4.trans e5) g2) hs hfn
end
end VS

end
section
set_option linter.all false
set_option maxRecDepth 100000
namespace VS
open PySem PySem.Spec PyProof.Rows L2 VP
section
variable {X : Cx} {EX : XE} {L : Lc} {tg e a b : Expr} {fa fb fe : M D} {G : Fx} {F : Hp}
theorem itr_tup {p : Addr} {vs : List V} {ds : List D} (h : SqT L.K F p vs) (r : DenL L.K L.mg F vs ds) : ItR L G F (Itt L.K p) ds := fun σ i F' H' ρ s g => by
  have sq : SqT L.K H' p vs := SqT.same (SqT.same h s) g.sub
  have hl := r.length
  refine ⟨fun hi => ⟨vs, vs[i]'(by omega), sq, by simp [show i < vs.length by omega]⟩, fun hi => ⟨vs, sq, by omega⟩, fun x H'' ⟨e, y⟩ => ?_⟩
  subst e
  refine ⟨F', Same.refl _, g, fun d hd => ?_⟩
  obtain ⟨v, h1, h2⟩ := (r.same s).get hd
  rw [y vs sq] at h1
  cases h1
  exact h2
theorem itr_lst {p : Addr} {vs : List V} {ds : List D} (h : SqL L.K F p vs) (r : DenL L.K L.mg F vs ds) : ItR L G F (Itl L.K p) ds := fun σ i F' H' ρ s g => by
  have sq : SqL L.K H' p vs := SqL.same (SqL.same h s) g.sub
  have hl := r.length
  refine ⟨fun hi => ⟨vs, vs[i]'(by omega), sq, by simp [show i < vs.length by omega]⟩, fun hi => ⟨vs, sq, by omega⟩, fun x H'' ⟨e, y⟩ => ?_⟩
  subst e
  refine ⟨F', Same.refl _, g, fun d hd => ?_⟩
  obtain ⟨v, h1, h2⟩ := (r.same s).get hd
  rw [y vs sq] at h1
  cases h1
  exact h2
theorem itr_rng (lo : Int) (n : Nat) : ItR L G F (Itr lo n) ((List.range n).map fun (k : Nat) => .int (lo + k)) := fun σ i F' H' ρ s g => by
  refine ⟨fun hi => (by simpa using hi : i < n), fun hi => (Nat.le_of_eq (by simpa using hi.symm) : n ≤ i), fun x H'' ⟨e, y⟩ => ?_⟩
  subst e y
  refine ⟨F', Same.refl _, g, fun d hd => ?_⟩
  rw [List.getElem?_map] at hd
  cases q : (List.range n)[i]? with
  | none => rw [q] at hd; cases hd
  | some k =>
    rw [q] at hd
    have : k = i := by
      have := List.getElem?_eq_some_iff.mp q
      obtain ⟨h1, h2⟩ := this
      simp at h2
      exact h2.symm
    subst this
    cases hd
    exact .int _
def iSeq (K : Frag) (tl : TE) : TI := fun σ H R => tl σ H fun x H1 => ∃ p, x = .ref p ∧ (((∃ xs, SqL K H1 p xs) ∧ R (Itl K p) H1) ∨ ((∃ xs, SqT K H1 p xs) ∧ R (Itt K p) H1))
theorem pi_seq {l : Expr} {tl : TE} (hl : PE X l tl) : PI X tg l (iSeq X.K tl) := by
  intro pins s σ H R I h
  refine thn (hl pins s σ H _ I h) fun v s1 ⟨x, H1, I1, r1, q1⟩ => ?_
  obtain ⟨p, e, q1⟩ := q1
  subst e
  cases r1
  rcases q1 with ⟨⟨xs, hq⟩, q⟩ | ⟨⟨xs, hq⟩, q⟩
  · obtain ⟨its, rv, pl, hz⟩ := I1.list hq
    refine wpAny_pyIter_list pl.isList ?_
    refine ⟨s1.heap.objs.size, [s1.heap.objs.size], _, _, H1, rfl, I1.kept (t' := s1.toks) fun b o e => Heap.get?_push_of_some _ e, turn_list p _, ⟨_, Heap.get?_push_size _ rfl, rfl, rfl⟩, fun b hb => ?_, q⟩
    have e : b = s1.heap.objs.size := by simpa using hb
    subst e
    exact I1.fpOk (Nat.le_refl _) (I1.hok.fresh (Nat.le_refl _))
  · obtain ⟨its, rv, pl, hz⟩ := I1.tuple hq
    refine wpAny_pyIter_tuple (show s1.heap.IsTuple p its.toArray from pl) ?_
    refine ⟨s1.heap.objs.size, [s1.heap.objs.size], _, _, H1, rfl, I1.kept (t' := s1.toks) fun b o e => Heap.get?_push_of_some _ e, turn_tuple p _, ⟨_, Heap.get?_push_size _ rfl, rfl, rfl⟩, fun b hb => ?_, q⟩
    have e : b = s1.heap.objs.size := by simpa using hb
    subst e
    exact I1.fpOk (Nat.le_refl _) (I1.hok.fresh (Nat.le_refl _))
theorem vi_seq (h : PV X EX e fe) : PVI X EX tg e (mSeq fe) :=
  (pi_seq h).le fun σ H Q ⟨G, F, ρ, g0, o⟩ => at_bnd g0 o (fun x r q => q) fun F1 H1 ρ1 d1 x s1 g1 r1 o1 => by
    obtain ⟨ds, e, q⟩ := o1.opt
    cases r1 with
    | tup h1 r1 =>
      cases e
      exact ⟨_, rfl, .inr ⟨⟨_, SqT.same h1 g1.sub⟩, q F1 H1 _ s1 g1 (itr_tup h1 r1)⟩⟩
    | lst h1 r1 =>
      cases e
      exact ⟨_, rfl, .inl ⟨⟨_, SqL.same h1 g1.sub⟩, q F1 H1 _ s1 g1 (itr_lst h1 r1)⟩⟩
    | _ => cases e
theorem vi_range1 {fl : List (M D)} {p pos : Pos} (hg : Gl X "range") (hm : X.mg "range" = none) (ha : PLs X EX [a] (mL fl)) (hs : starEach [a] X.env = [(false, eval a X.env)] := by rfl) : PVI X EX tg (.Call (.Name "range" p) [a] [] pos) (mRng1 fl) :=
  (pi_range1 hg hm ha hs).le fun σ H Q ⟨G, F, ρ, g0, o⟩ => at_bnd g0 o (fun x r q => q) fun F1 H1 ρ1 d1 xs s1 g1 r1 o1 => by
    obtain ⟨ds, e, q⟩ := o1.opt
    match d1, r1, e with
    | [.int j], .cons h .nil, e =>
      cases h
      simp only [rng1] at e
      split at e
      · rename_i hb
        cases e
        refine ⟨j, rfl, hb.1, hb.2, q F1 H1 _ s1 g1 ?_⟩
        have := itr_rng (L := lc X EX) (G := G) (F := F1) 0 j.toNat
        simp only [Int.zero_add] at this
        exact this
      · cases e
end
section
variable {X : Cx} {EX : XE} {L : Lc} {e a b : Expr} {fa fb fe : M D} {pos p : Pos} {x : Str} {id T : String}
def F1G (L : Lc) (r : List V → Hp → VK → Prop) (g : D → Option D) : Prop := ∀ G F H σ ρ x dx d Q, L.Good G F H σ ρ → RR L G F H σ ρ x dx → g dx = some d → Then L G F σ ρ d Q → r [x] H Q
theorem pa_one (ha : PR X EX a fa) (hs : starEach [a] X.env = (false, eval a X.env) :: starEach [] X.env := by rfl) : PA X [a] (fun σ H Q => lift (lc X EX) (RR (lc X EX)) fa σ H fun v H' => Q [v] H') := (pa_cons ha pa_nil hs).le fun σ H Q h => h
theorem pv_call1B {r : List V → Hp → VK → Prop} {g : D → Option D} (hc : CallR X (.builtin id) r) (hg : F1G (lc X EX) r g) (hgl : Gl X x) (hm : X.mg x = none) (hv : bootBuiltins x = some (.builtin id)) (ha : PR X EX a fa) (hn : x ≠ "__name__" := by decide) (hdb : (x == ("__debug__" : Str)) = false := by decide)
    (hs : starEach [a] X.env = (false, eval a X.env) :: starEach [] X.env := by rfl) : PV X EX (.Call (.Name x p) [a] [] pos) (m1 g fa) :=
  (pe_callB hc hgl hm hv (pa_one ha hs) hn hdb hs rfl).le fun σ H Q ⟨G, F, ρ, g0, o⟩ => at_bnd g0 o (fun x r q => q) fun F1 H1 ρ1 d1 x s1 g1 r1 o1 => by
    obtain ⟨d, e, q⟩ := o1.opt
    exact hg G F1 H1 σ ρ1 x d1 d Q g1 r1 e (Post.same s1 q)
theorem pv_call1T {r : List V → Hp → VK → Prop} {g : D → Option D} (hc : CallR X (.type T) r) (hg : F1G (lc X EX) r g) (hgl : Gl X x) (hm : X.mg x = none) (hv : bootBuiltins x = some (.type T)) (ha : PR X EX a fa) (hn : x ≠ "__name__" := by decide) (hdb : (x == ("__debug__" : Str)) = false := by decide)
    (hs : starEach [a] X.env = (false, eval a X.env) :: starEach [] X.env := by rfl) : PV X EX (.Call (.Name x p) [a] [] pos) (m1 g fa) :=
  (pe_callTy hc hgl hm hv (pa_one ha hs) hn hdb hs rfl).le fun σ H Q ⟨G, F, ρ, g0, o⟩ => at_bnd g0 o (fun x r q => q) fun F1 H1 ρ1 d1 x s1 g1 r1 o1 => by
    obtain ⟨d, e, q⟩ := o1.opt
    exact hg G F1 H1 σ ρ1 x d1 d Q g1 r1 e (Post.same s1 q)
theorem RR.seq {G : Fx} {F H : Hp} {σ : St} {ρ : Rho} {v : V} {d : D} {ds : List D} (h : RR L G F H σ ρ v d) (g : L.Good G F H σ ρ) (e : seqD d = some ds) :
    ∃ p vs, v = .ref p ∧ DenL L.K L.mg F vs ds ∧ ((d = .lst ds ∧ SqL L.K H p vs) ∨ (d = .tup ds ∧ SqT L.K H p vs ∧ SqT L.K F p vs)) := by
  rcases h with h | ⟨l, rfl, h⟩
  · cases h with
    | tup h1 r1 => cases e; exact ⟨_, _, rfl, r1, .inr ⟨rfl, SqT.same h1 g.sub, h1⟩⟩
    | lst h1 r1 => cases e; exact ⟨_, _, rfl, r1, .inl ⟨rfl, SqL.same h1 g.sub⟩⟩
    | _ => cases e
  · cases d with
    | lst xs => cases e; obtain ⟨vs, h1, h2⟩ := h; exact ⟨l, vs, rfl, h2, .inl ⟨rfl, SqL.of h1⟩⟩
    | dct ks xs => cases e
    | ins c ns xs => cases e
    | _ => exact h.elim
theorem g_len : F1G L (fun xs H Q => ∃ p ys, xs = [.ref p] ∧ (SqL L.K H p ys ∨ SqT L.K H p ys) ∧ Q (.int ys.length) H) lenD := fun G F H σ ρ x dx d Q g0 rx e k => by
  have hs : ∃ ds, seqD dx = some ds ∧ d = .int ds.length := by cases dx <;> cases e <;> exact ⟨_, rfl, rfl⟩
  obtain ⟨ds, h1, rfl⟩ := hs
  obtain ⟨p, vs, rfl, r, q⟩ := RR.seq rx g0 h1
  refine ⟨p, vs, rfl, q.elim (fun z => .inl z.2) (fun z => .inr z.2.1), ?_⟩
  rw [r.length]
  exact k F H _ (Same.refl _) g0 (.int _)
theorem g_tupOf : F1G L (fun xs H Q => ∃ p ys, xs = [.ref p] ∧ ((SqL L.K H p ys ∧ ∀ l, H l = none → Q (.ref l) (upd H l (.tup ys))) ∨ (SqT L.K H p ys ∧ Q (.ref p) H))) tupOf := fun G F H σ ρ x dx d Q g0 rx e k => by
  have hs : ∃ ds, seqD dx = some ds ∧ d = .tup ds := by cases dx <;> cases e <;> exact ⟨_, rfl, rfl⟩
  obtain ⟨ds, h1, rfl⟩ := hs
  obtain ⟨p, vs, rfl, r, q⟩ := RR.seq rx g0 h1
  refine ⟨p, vs, rfl, ?_⟩
  rcases q with ⟨rfl, q⟩ | ⟨rfl, q, q2⟩
  · refine .inl ⟨q, fun l hl => ?_⟩
    have sF := same_upd (o := .tup vs) (g0.sub.free hl)
    exact k _ _ _ sF (g0.laid hl) (.tup (SqT.of upd_same) (r.same sF))
  · exact .inr ⟨q, k F H _ (Same.refl _) g0 (.tup q2 r)⟩
theorem pf_list {x : Str} (hgl : Gl X x) (hm : X.mg x = none) (hv : bootBuiltins x = some (.type "list")) (ha : PR X EX a fa) (hn : x ≠ "__name__" := by decide) (hdb : (x == ("__debug__" : Str)) = false := by decide)
    (hs : starEach [a] X.env = (false, eval a X.env) :: starEach [] X.env := by rfl) : PF X EX (.Call (.Name x p) [a] [] pos) (m1 lstOf fa) :=
  (pe_callTy call_list_of hgl hm hv (pa_one ha hs) hn hdb hs rfl).le fun σ H Q ⟨G, F, ρ, g0, o⟩ => at_bnd g0 o (fun x r q => q) fun F1 H1 ρ1 d1 x s1 g1 r1 o1 => by
    obtain ⟨d, e, q⟩ := o1.opt
    have hs : ∃ ds, seqD d1 = some ds ∧ d = .lst ds := by cases d1 <;> cases e <;> exact ⟨_, rfl, rfl⟩
    obtain ⟨ds, h1, rfl⟩ := hs
    obtain ⟨p, vs, rfl, r, z⟩ := RR.seq r1 g1 h1
    refine ⟨p, vs, rfl, z.elim (fun z => .inl z.2) (fun z => .inr z.2.1), fun l hl => ?_⟩
    exact q _ _ _ s1 (g1.made hl) ⟨l, rfl, g1.loose hl ⟨vs, upd_same, r⟩⟩
end
mutual
def toPy : D → PyData
  | .non => .none
  | .bl b => .bool b
  | .int i => .int i
  | .str x => .str x
  | .tup xs => .tuple (toPys xs)
  | .lst xs => .list (toPys xs)
  | .dct _ _ => .none
  | .ins _ _ _ => .none
  | .exn _ _ _ => .none
def toPys : List D → List PyData
  | [] => []
  | x :: xs => toPy x :: toPys xs
end
mutual
theorem eqv_eqB : ∀ (n m : Nat) (x y : D), plain n x = true → plain m y = true → PyData.eqv (toPy x) (toPy y) = eqB x y
  | n, m, .tup xs, .tup ys, h1, h2 => by
    cases n with
    | zero => cases h1
    | succ n => cases m with
      | zero => cases h2
      | succ m => exact eqv_eqBs n m xs ys h1 h2
  | n, m, .lst xs, .lst ys, h1, h2 => by
    cases n with
    | zero => cases h1
    | succ n => cases m with
      | zero => cases h2
      | succ m => exact eqv_eqBs n m xs ys h1 h2
  | n, m, .non, y, h1, h2 => by cases y <;> first | rfl | (cases m <;> cases h2)
  | n, m, .bl _, y, h1, h2 => by cases y <;> first | rfl | (cases m <;> cases h2)
  | n, m, .int _, y, h1, h2 => by cases y <;> first | rfl | (cases m <;> cases h2)
  | n, m, .str _, y, h1, h2 => by cases y <;> first | rfl | (cases m <;> cases h2)
  | n, m, .dct _ _, y, h1, h2 => by cases n <;> cases h1
  | n, m, .ins _ _ _, y, h1, h2 => by cases n <;> cases h1
  | n, m, .exn _ _ _, y, h1, h2 => by cases n <;> cases h1
  | n, m, .tup xs, .non, h1, h2 => rfl
  | n, m, .tup xs, .bl _, h1, h2 => rfl
  | n, m, .tup xs, .int _, h1, h2 => rfl
  | n, m, .tup xs, .str _, h1, h2 => rfl
  | n, m, .tup xs, .lst _, h1, h2 => rfl
  | n, m, .tup xs, .dct _ _, h1, h2 => by cases m <;> cases h2
  | n, m, .tup xs, .ins _ _ _, h1, h2 => by cases m <;> cases h2
  | n, m, .tup xs, .exn _ _ _, h1, h2 => by cases m <;> cases h2
  | n, m, .lst xs, .non, h1, h2 => rfl
  | n, m, .lst xs, .bl _, h1, h2 => rfl
  | n, m, .lst xs, .int _, h1, h2 => rfl
  | n, m, .lst xs, .str _, h1, h2 => rfl
  | n, m, .lst xs, .tup _, h1, h2 => rfl
  | n, m, .lst xs, .dct _ _, h1, h2 => by cases m <;> cases h2
  | n, m, .lst xs, .ins _ _ _, h1, h2 => by cases m <;> cases h2
  | n, m, .lst xs, .exn _ _ _, h1, h2 => by cases m <;> cases h2
theorem eqv_eqBs : ∀ (n m : Nat) (xs ys : List D), plains n xs = true → plains m ys = true → PyData.eqvAll (toPys xs) (toPys ys) = eqBs xs ys
  | n, m, [], [], _, _ => rfl
  | n, m, [], _ :: _, _, _ => rfl
  | n, m, _ :: _, [], _, _ => rfl
  | n, m, x :: xs, y :: ys, h1, h2 => by
    simp only [plains, Bool.and_eq_true] at h1 h2
    show (PyData.eqv (toPy x) (toPy y) && PyData.eqvAll (toPys xs) (toPys ys)) = (eqB x y && eqBs xs ys)
    rw [eqv_eqB n m x y h1.1 h2.1, eqv_eqBs n m xs ys h1.2 h2.2]
end
mutual
theorem plain_lay : ∀ (n : Nat) (x : D), plain n x = true → (toPy x).canLay0 = true ∧ (toPy x).depth ≤ n
  | n, .non, _ => ⟨rfl, Nat.zero_le _⟩
  | n, .bl _, _ => ⟨rfl, Nat.zero_le _⟩
  | n, .int _, _ => ⟨rfl, Nat.zero_le _⟩
  | n, .str x, h => ⟨by cases n <;> exact h, Nat.zero_le _⟩
  | n, .tup xs, h => by
    cases n with
    | zero => cases h
    | succ n =>
      obtain ⟨h1, h2⟩ := plains_lay n xs h
      exact ⟨h1, Nat.succ_le_succ h2⟩
  | n, .lst xs, h => by
    cases n with
    | zero => cases h
    | succ n =>
      obtain ⟨h1, h2⟩ := plains_lay n xs h
      exact ⟨h1, Nat.succ_le_succ h2⟩
  | n, .dct _ _, h => by cases n <;> cases h
  | n, .ins _ _ _, h => by cases n <;> cases h
  | n, .exn _ _ _, h => by cases n <;> cases h
theorem plains_lay : ∀ (n : Nat) (xs : List D), plains n xs = true → PyData.canLayAll0 (toPys xs) = true ∧ PyData.depthAll (toPys xs) ≤ n
  | n, [], _ => ⟨rfl, Nat.zero_le _⟩
  | n, x :: xs, h => by
    simp only [plains, Bool.and_eq_true] at h
    obtain ⟨h1, h2⟩ := plain_lay n x h.1
    obtain ⟨h3, h4⟩ := plains_lay n xs h.2
    refine ⟨?_, ?_⟩
    · show ((toPy x).canLay0 && PyData.canLayAll0 (toPys xs)) = true
      rw [h1, h3]; rfl
    · show max (toPy x).depth (PyData.depthAll (toPys xs)) ≤ n
      omega
end
section
variable {X : Cx} {EX : XE} {L : Lc} {pins : List (Addr × Obj)} {σ : St} {H F : Hp} {s : Shared}
mutual
theorem Den.reads (I : Inv X pins σ H s) (sub : Same F H) : ∀ {v : V} {d : D} {n : Nat} {u : Value}, Den X.K X.mg F v d → plain n d = true → RelV v u → ∃ as, Reads s.heap u (toPy d) as
  | _, _, _, _, .non, _, r => by cases r; exact ⟨_, .none⟩
  | _, _, _, _, .bl b, _, r => by cases r; exact ⟨_, .bool b⟩
  | _, _, _, _, .int i, _, r => by obtain ⟨t, rfl⟩ := r; exact ⟨_, .int i t⟩
  | _, _, _, _, .str x, _, r => by obtain ⟨t, rfl⟩ := r; exact ⟨_, .str x t⟩
  | _, _, n, _, .tup h q, hp, r => by
    cases r
    cases n with
    | zero => cases hp
    | succ n =>
      obtain ⟨its, rv, ⟨o, ho, hc, m, hd⟩, _⟩ := I.tuple (SqT.same h sub)
      obtain ⟨as, ha⟩ := DenL.reads I sub q hp rv
      exact ⟨_, .tuple ho hc hd (by simpa using ha)⟩
  | _, _, n, _, .lst h q, hp, r => by
    cases r
    cases n with
    | zero => cases hp
    | succ n =>
      obtain ⟨its, rv, pl, _⟩ := I.list (SqL.same h sub)
      obtain ⟨o, ho, hc, m, hd⟩ := pl.isList
      obtain ⟨as, ha⟩ := DenL.reads I sub q hp rv
      exact ⟨_, .list ho hc hd (by simpa using ha)⟩
  | _, _, n, _, .dct h q, hp, r => by cases n <;> cases hp
  | _, _, n, _, .ins h hc q, hp, r => by cases n <;> cases hp
  | _, _, n, _, .exn h hc hf q, hp, r => by cases n <;> cases hp
theorem DenL.reads (I : Inv X pins σ H s) (sub : Same F H) : ∀ {vs : List V} {ds : List D} {n : Nat} {us : List Value}, DenL X.K X.mg F vs ds → plains n ds = true → Vals vs us → ∃ as, ReadsAll s.heap us (toPys ds) as
  | _, _, _, _, .nil, _, r => by cases r; exact ⟨_, .nil⟩
  | _, _, n, _, .cons h t, hp, r => by
    cases r with
    | cons r1 r2 =>
      simp only [plains, Bool.and_eq_true] at hp
      obtain ⟨as, ha⟩ := Den.reads I sub h hp.1 r1
      obtain ⟨bs, hb⟩ := DenL.reads I sub t hp.2 r2
      exact ⟨_, .cons ha hb⟩
end
def rEqD (K : Frag) (mg : MG) (neg : Bool) : R2 := fun x y H Q => ∃ F dx dy, Same F H ∧ Den K mg F x dx ∧ Den K mg F y dy ∧ plain 60 dx = true ∧ plain 60 dy = true ∧ Q (.bl (if neg then !eqB dx dy else eqB dx dy)) H
theorem shaped_of {d : D} (h : plain 60 d = true) : SeqAt.shaped (toPy d) = true := by
  obtain ⟨h1, h2⟩ := plain_lay 60 d h
  unfold SeqAt.shaped
  rw [h1, decide_eq_true (by omega)]
  rfl
theorem op_eqD (hu : X.A.units + 64 < cLine) : OpR X (compareOp .Eq) (rEqD X.K X.mg false) := by
  intro pins s σ H x y v u Q I rx ry h
  obtain ⟨F, dx, dy, sub, h1, h2, p1, p2, q⟩ := h
  obtain ⟨as, ra⟩ := Den.reads I sub h1 p1 rx
  obtain ⟨bs, rb⟩ := Den.reads I sub h2 p2 ry
  exact SeqAt.compareEq_shaped ra rb (shaped_of p1) (shaped_of p2) hu (by rw [eqv_eqB 60 60 dx dy p1 p2]; exact ⟨.bl _, H, I, rfl, q⟩)
theorem op_neD (hu : X.A.units + 64 < cLine) : OpR X (compareOp .NotEq) (rEqD X.K X.mg true) := by
  intro pins s σ H x y v u Q I rx ry h
  obtain ⟨F, dx, dy, sub, h1, h2, p1, p2, q⟩ := h
  obtain ⟨as, ra⟩ := Den.reads I sub h1 p1 rx
  obtain ⟨bs, rb⟩ := Den.reads I sub h2 p2 ry
  exact SeqAt.compareNe_shaped ra rb (shaped_of p1) (shaped_of p2) hu (by rw [eqv_eqB 60 60 dx dy p1 p2]; exact ⟨.bl _, H, I, rfl, q⟩)
theorem g_eqD : OpG L (rEqD L.K L.mg false) eqG := fun G F H σ ρ x y dx dy d Q g0 rx ry e k => by
  unfold eqG at e
  split at e
  · rename_i hp
    cases e
    rw [Bool.and_eq_true] at hp
    exact ⟨F, dx, dy, g0.sub, rx, ry, hp.1, hp.2, k F H _ (Same.refl _) g0 (.bl _)⟩
  · cases e
theorem g_neD : OpG L (rEqD L.K L.mg true) neG := fun G F H σ ρ x y dx dy d Q g0 rx ry e k => by
  unfold neG at e
  split at e
  · rename_i hp
    cases e
    rw [Bool.and_eq_true] at hp
    exact ⟨F, dx, dy, g0.sub, rx, ry, hp.1, hp.2, k F H _ (Same.refl _) g0 (.bl _)⟩
  · cases e
end
end VS

end
section
set_option linter.all false
set_option maxRecDepth 100000
namespace VS
open PySem PySem.Spec PyProof.Rows L2 VP
section
variable {prog : Program} {w : World} {A : Around} {E : Value → Shared → Prop} {s : Shared}
theorem nextOf_tuple_item {it t : Addr} {i : Nat} {items} {x : Value} {Q : Value → Shared → Prop} (hit : s.heap.IsTupleIter it t i)
    (ht : s.heap.IsTuple t items) (hx : items[i]? = some x)
    (hQ : ∀ h', h'.IsTupleIter it t (i + 1) → Heap.SameBut it s.heap h' → Q x { s with heap := h' }) :
    wpAny (model prog w) A (Builtin.SmallTypes.nextOf (.ref it)) Q E s := by
  obtain ⟨o, ho, hc, hd⟩ := id hit
  obtain ⟨ol, hol, _, nl, hdl⟩ := ht
  unfold Builtin.SmallTypes.nextOf
  refine wpAny_bind (wpAny_callSpecial?_slot (name := Str.ofString "__next__") hit.typeIs PySem.F.slot_tuple_iterator_next
    (wpAny_call_entry PySem.F.slot_tuple_iterator_next hit.typeIs PySem.F.entry_tuple_iterator_next ?_ (PySem.F.args_tuple_iterator_next_1 _)))
  show wpAny _ _ (field (.ref it) 0 >>= _) _ _ s
  refine wpAny_bind (wpAny_field ho hd (x := .ref t) rfl ?_)
  show wpAny _ _ (if (Value.ref t == Value.none) = true then _ else _) _ _ s
  rw [if_neg (show ¬ ((Value.ref t == Value.none) = true) from Bool.false_ne_true)]
  show wpAny _ _ (field (.ref it) 1 >>= _) _ _ s
  refine wpAny_bind (wpAny_field ho hd (x := .int i 0) rfl ?_)
  show wpAny _ _ (seqItems? (.ref t) >>= _) _ _ s
  refine wpAny_bind (wpAny_seqItems hol hdl ?_)
  simp only [Int.toNat_natCast, hx]
  refine wpAny_bind (wpAny_setField ho hd (by simp) (wpAny_pure ⟨x, rfl, wpAny_pure (hQ _ ?_ (Heap.SameBut.update ..))⟩))
  exact ⟨_, Heap.get?_update_self _ ho (Obj.isFreed_of_fields (Obj.data_mapFields hd _)), (Obj.cls_mapFields ..).trans hc, by
    rw [Obj.data_mapFields hd]; simp [rawInt]⟩
theorem nextOf_tuple_end {it t : Addr} {i : Nat} {items} {Q : Value → Shared → Prop} (hh : A.handled = none)
    (hit : s.heap.IsTupleIter it t i) (ht : s.heap.IsTuple t items) (hx : items[i]? = none)
    (hE : ∀ h' e, Heap.ExtBut it s.heap h' → (∃ o, h'.get? e = some o ∧ o.cls = .type "StopIteration") → E (.ref e) { s with heap := h' }) :
    wpAny (model prog w) A (Builtin.SmallTypes.nextOf (.ref it)) Q E s := by
  obtain ⟨o, ho, hc, hd⟩ := id hit
  obtain ⟨ol, hol, _, nl, hdl⟩ := ht
  unfold Builtin.SmallTypes.nextOf
  refine wpAny_bind (wpAny_callSpecial?_slot (name := Str.ofString "__next__") hit.typeIs PySem.F.slot_tuple_iterator_next
    (wpAny_call_entry PySem.F.slot_tuple_iterator_next hit.typeIs PySem.F.entry_tuple_iterator_next ?_ (PySem.F.args_tuple_iterator_next_1 _)))
  show wpAny _ _ (field (.ref it) 0 >>= _) _ _ s
  refine wpAny_bind (wpAny_field ho hd (x := .ref t) rfl ?_)
  show wpAny _ _ (if (Value.ref t == Value.none) = true then _ else _) _ _ s
  rw [if_neg (show ¬ ((Value.ref t == Value.none) = true) from Bool.false_ne_true)]
  show wpAny _ _ (field (.ref it) 1 >>= _) _ _ s
  refine wpAny_bind (wpAny_field ho hd (x := .int i 0) rfl ?_)
  show wpAny _ _ (seqItems? (.ref t) >>= _) _ _ s
  refine wpAny_bind (wpAny_seqItems hol hdl ?_)
  simp only [Int.toNat_natCast, hx]
  refine wpAny_bind (wpAny_rule (wpAny_bind (wpAny_setField ho hd (by simp) ?_)))
  show wpAny _ _ (newExc (.type "StopIteration") [] >>= _) _ _ _
  refine wpAny_bind ?_
  simp only [newExc, newTuple]
  refine wpAny_bind (wpAny_newObj_type ?_ (by size_fits))
  refine wpAny_bind (m := firstArgMember _ _) (wpAny_of_eq (a := Value.none) (by first | rfl | (simp only [firstArgMember]; rfl)) ?_)
  refine wpAny_newObj_type ?_ (by size_fits)
  simp only [raiseNew]
  refine wpAny_bind (wpAny_handled ?_)
  first | rw [show A.in1.handled = none from hh] | rw [hh]
  refine wpAny_bind (wpAny_pure (wpAny_throw ?_))
  exact hE _ _ (((Heap.SameBut.update ..).extBut.push _).push _) ⟨_, Heap.get?_push_size _ rfl, rfl⟩
end
def SeqIt (t : Bool) (it a : Addr) (i : Nat) (h : Heap) : Prop := if t then h.IsTupleIter it a i else h.IsListIter it a i
def IsSeq (t : Bool) (h : Heap) (a : Addr) (items : Array Value) : Prop := if t then h.IsTuple a items else h.IsList a items
theorem SeqIt.at {t : Bool} {it a : Addr} {i : Nat} {h h' : Heap} (x : SeqIt t it a i h) (e : ∀ o, h.get? it = some o → h'.get? it = some o) : SeqIt t it a i h' := by
  cases t
  · exact Heap.IsListIter.at (h := h) (h' := h') x e
  · exact Heap.IsTupleIter.at (h := h) (h' := h') x e
theorem SeqIt.obj {t : Bool} {it a : Addr} {i : Nat} {h : Heap} (x : SeqIt t it a i h) : ∃ o, h.get? it = some o ∧ ∀ v, o.data ≠ .cell v := by
  cases t
  · obtain ⟨o, e, c, d⟩ := (show h.IsListIter it a i from x); exact ⟨o, e, fun v z => by rw [d] at z; cases z⟩
  · obtain ⟨o, e, c, d⟩ := (show h.IsTupleIter it a i from x); exact ⟨o, e, fun v z => by rw [d] at z; cases z⟩
theorem draws_seq {prog : Program} {w : World} {A : Around} (hh : A.handled = none) (t : Bool) (it l : Addr) (hne : l ≠ it) (items : Array Value) :
    Draws prog w A it [it, l] items.size (fun i v => items[i]? = some v) (fun i h => SeqIt t it l i h ∧ IsSeq t h l items) := by
  cases t with
  | false => exact Draws.list hh it l hne items
  | true => exact {
      live := fun _ _ st => let ⟨o, ho, _⟩ := st.1; ⟨o, ho⟩
      frame := fun _ _ _ st hk => ⟨Heap.IsTupleIter.at st.1 fun o e => hk it (by simp) o e, by
        obtain ⟨o, e, r⟩ := (show Heap.IsTuple _ l items from st.2)
        exact ⟨o, hk l (by simp) o e, r⟩⟩
      item := fun i s Q E hi st hQ => by
        refine nextOf_tuple_item (show s.heap.IsTupleIter it l i from st.1) (show s.heap.IsTuple l items from st.2) (x := items[i]) (by simp [hi]) fun h' hit' hs' => ?_
        refine hQ _ h' s.toks (by simp [hi]) ⟨hit', ?_⟩ hs'
        obtain ⟨o, e, r⟩ := (show Heap.IsTuple _ l items from st.2)
        exact ⟨o, hs'.extBut l o hne e, r⟩
      done := fun s Q E st hE => nextOf_tuple_end hh (show s.heap.IsTupleIter it l _ from st.1) (show s.heap.IsTuple l items from st.2) (by simp) hE }
section
variable {prog : Program} {w : World} {A : Around} {E : Value → Shared → Prop} {s : Shared} {z TI TO i1 i2 : Addr} {fp1 fp2 : List Addr} {n1 n2 k : Nat} {P1 P2 : Nat → Value → Prop} {St1 St2 : Nat → Heap → Prop} {a b : Value}
structure ZApart (z TI TO i1 i2 : Addr) (fp1 fp2 : List Addr) : Prop where
  TIz : TI ≠ z
  TOz : TO ≠ z
  i1z : i1 ≠ z
  i2z : i2 ≠ z
  TITO : TI ≠ TO
  TIi1 : TI ≠ i1
  TIi2 : TI ≠ i2
  TOi1 : TO ≠ i1
  TOi2 : TO ≠ i2
  i12 : i1 ≠ i2
  z1 : z ∉ fp1
  z2 : z ∉ fp2
  o1 : TO ∉ fp1
  o2 : TO ∉ fp2
  x12 : i1 ∉ fp2
  x21 : i2 ∉ fp1
theorem zipD_item {Q : Value → Shared → Prop} (D1 : Draws prog w A i1 fp1 n1 P1 St1) (D2 : Draws prog w A i2 fp2 n2 P2 St2) (D : ZApart z TI TO i1 i2 fp1 fp2)
    (hz : IsZip s.heap z TI TO .none) (hTI : IsPair s.heap TI (.ref i1) (.ref i2)) (hTO : IsPair s.heap TO a b) (h1 : St1 k s.heap) (h2 : St2 k s.heap) (k1 : k < n1) (k2 : k < n2)
    (hQ : ∀ x y h' tk, P1 k x → P2 k y → IsZip h' z TI TO (rawInt s.heap.objs.size) → IsPair h' TO x y → St1 (k + 1) h' → St2 (k + 1) h' → IsPair h' s.heap.objs.size x y →
      (∀ c o, c ≠ z → c ≠ TO → c ≠ i1 → c ≠ i2 → s.heap.get? c = some o → h'.get? c = some o) → Q (.ref s.heap.objs.size) { s with heap := h', toks := tk }) :
    wpAny (model prog w) A (Builtin.«zip.__next__» ⟨[.ref z], []⟩) (fun fin s' => ∃ v, fin = .done (.ret v) ∧ Q v s') E s := by
  show wpAny _ _ (field (.ref z) 2 >>= _) _ _ _
  refine wpAny_bind (wpAny_field hz rfl (x := .bool false) rfl ?_)
  show wpAny _ _ (field (.ref z) 3 >>= _) _ _ _
  refine wpAny_bind (wpAny_field hz rfl (x := .ref TI) rfl ?_)
  refine wpAny_bind (wpAny_seqItems hTI rfl ?_)
  show wpAny _ _ (Builtin.SmallTypes.ownedTupleIsFree (.ref z) >>= _) _ _ _
  refine wpAny_bind ?_
  unfold Builtin.SmallTypes.ownedTupleIsFree
  refine wpAny_bind (wpAny_field hz rfl (x := .none) rfl (wpAny_pure ?_))
  simp only [if_true]
  refine wpAny_bind (wpAny_rule ?_)
  refine wpAny_bind (wpAny_field hz rfl (x := .ref TO) rfl ?_)
  refine wpAny_bind (wpAny_setField_rec hz (by simp) fun h₁ hz₁ hs₁ => ?_)
  replace hz₁ : IsZip h₁ z TI TO .ellipsis := hz₁
  refine wpAny_bind ?_
  simp only [List.zipIdx_cons, List.zipIdx_nil, List.forIn_cons, List.forIn_nil]
  refine wpAny_bind (wpAny_bind (wpAny_onRaise ?_))
  show wpAny _ _ (Builtin.SmallTypes.nextOf (.ref i1) >>= _) _ _ _
  refine wpAny_bind (D1.item k _ _ _ k1 (D1.frame k _ h₁ h1 fun b hb o e => hs₁.extBut b o (fun q => D.z1 (q ▸ hb)) e) fun x h₂ tk₂ px h1₂ hs₂ => wpAny_pure ?_)
  replace hs₂ : Heap.SameBut i1 h₁ h₂ := hs₂
  have hTO₂ : IsPair h₂ TO a b := hs₂.extBut _ _ D.TOi1 (hs₁.extBut _ _ D.TOz hTO)
  refine wpAny_bind (wpAny_seqItems hTO₂ rfl ?_)
  refine wpAny_bind (wpAny_updateSeq_pair hTO₂ fun h₃ hTO₃ hs₃ => ?_)
  replace hTO₃ : IsPair h₃ TO x b := hTO₃
  replace hs₃ : Heap.SameBut TO h₂ h₃ := hs₃
  refine wpAny_bind (wpAny_letGo (wpAny_pure ?_))
  refine wpAny_bind (wpAny_bind (wpAny_onRaise ?_))
  show wpAny _ _ (Builtin.SmallTypes.nextOf (.ref i2) >>= _) _ _ _
  refine wpAny_bind (D2.item k _ _ _ k2 (D2.frame k _ h₃ h2 fun b hb o e => hs₃.extBut b o (fun q => D.o2 (q ▸ hb)) (hs₂.extBut b o (fun q => D.x12 (q ▸ hb)) (hs₁.extBut b o (fun q => D.z2 (q ▸ hb)) e))) fun y h₄ tk₄ py h2₄ hs₄ => wpAny_pure ?_)
  replace hs₄ : Heap.SameBut i2 h₃ h₄ := hs₄
  have hTO₄ : IsPair h₄ TO x b := hs₄.extBut _ _ D.TOi2 hTO₃
  refine wpAny_bind (wpAny_seqItems hTO₄ rfl ?_)
  refine wpAny_bind (wpAny_updateSeq_pair hTO₄ fun h₅ hTO₅ hs₅ => ?_)
  replace hTO₅ : IsPair h₅ TO x y := hTO₅
  replace hs₅ : Heap.SameBut TO h₄ h₅ := hs₅
  refine wpAny_bind (wpAny_letGo (wpAny_pure (wpAny_pure ?_)))
  refine wpAny_bind (wpAny_seqItems hTO₅ rfl ?_)
  refine wpAny_bind (wpAny_newTuple ?_)
  have hsz : h₅.objs.size = s.heap.objs.size := by rw [hs₅.1, hs₄.1, hs₃.1, hs₂.1, hs₁.1]
  have hz₅ : IsZip h₅ z TI TO .ellipsis := hs₅.extBut _ _ D.TOz.symm (hs₄.extBut _ _ D.i2z.symm (hs₃.extBut _ _ D.TOz.symm (hs₂.extBut _ _ D.i1z.symm hz₁)))
  have hk₅ : ∀ c o, c ≠ z → c ≠ TO → c ≠ i1 → c ≠ i2 → s.heap.get? c = some o → h₅.get? c = some o := fun c o c1 c2 c3 c4 e =>
    hs₅.extBut _ _ c2 (hs₄.extBut _ _ c4 (hs₃.extBut _ _ c2 (hs₂.extBut _ _ c3 (hs₁.extBut _ _ c1 e))))
  have hzlt : z < h₅.objs.size := Heap.lt_size hz₅
  show wpAny _ _ (Builtin.SmallTypes.ownedTupleHandOut (.ref z) (.ref h₅.objs.size) >>= _) _ _ _
  refine wpAny_bind ?_
  unfold Builtin.SmallTypes.ownedTupleHandOut
  have hz₆ : IsZip (h₅.push { cls := .type "tuple", data := .seq #[x, y] }) z TI TO .ellipsis := Heap.get?_push_of_some _ hz₅
  refine wpAny_bind (wpAny_setField_rec hz₆ (by simp) fun h₇ hz₇ hs₇ => ?_)
  replace hz₇ : IsZip h₇ z TI TO (rawInt h₅.objs.size) := hz₇
  refine wpAny_setField_rec hz₇ (by simp) fun h₈ hz₈ hs₈ => ?_
  replace hz₈ : IsZip h₈ z TI TO (rawInt h₅.objs.size) := hz₈
  have up : ∀ c o, c ≠ z → h₅.get? c = some o → h₈.get? c = some o := fun c o c1 e => hs₈.extBut _ _ c1 (hs₇.extBut _ _ c1 (Heap.get?_push_of_some _ e))
  have hT₈ : IsPair h₈ h₅.objs.size x y := hs₈.extBut _ _ (Nat.ne_of_gt hzlt) (hs₇.extBut _ _ (Nat.ne_of_gt hzlt) (Heap.get?_push_size _ rfl))
  rw [hsz] at hz₈ hT₈
  refine wpAny_pure ⟨_, rfl, ?_⟩
  show Q (.ref h₅.objs.size) _
  rw [hsz]
  refine hQ x y h₈ _ px py hz₈ (up _ _ D.TOz hTO₅) (D1.frame _ h₂ h₈ h1₂ fun b hb o e => up b o (fun q => D.z1 (q ▸ hb)) (hs₅.extBut b o (fun q => D.o1 (q ▸ hb)) (hs₄.extBut b o (fun q => D.x21 (q ▸ hb)) (hs₃.extBut b o (fun q => D.o1 (q ▸ hb)) e))))
    (D2.frame _ h₄ h₈ h2₄ fun b hb o e => up b o (fun q => D.z2 (q ▸ hb)) (hs₅.extBut b o (fun q => D.o2 (q ▸ hb)) e)) hT₈ fun c o c1 c2 c3 c4 e => up c o c1 (hk₅ c o c1 c2 c3 c4 e)
theorem zipD_end {Q : Fin → Shared → Prop} {m : Nat} (hh : A.handled = none) (D1 : Draws prog w A i1 fp1 n1 P1 St1) (D2 : Draws prog w A i2 fp2 n2 P2 St2) (D : ZApart z TI TO i1 i2 fp1 fp2)
    (hz : IsZip s.heap z TI TO .none) (hTI : IsPair s.heap TI (.ref i1) (.ref i2)) (hTO : IsPair s.heap TO a b) (h1 : St1 k s.heap) (h2 : St2 k s.heap) (hend : k = n1 ∨ (k < n1 ∧ k = n2))
    (hE : ∀ h' e tk, (∀ c o, c ≠ z → c ≠ TO → c ≠ i1 → c ≠ i2 → s.heap.get? c = some o → h'.get? c = some o) → (∃ o, h'.get? e = some o ∧ o.cls = .type "StopIteration") → E (.ref e) { s with heap := h', toks := tk }) :
    wpAny (model prog w) A (Builtin.«zip.__next__» ⟨[.ref z], []⟩) Q E s := by
  show wpAny _ _ (field (.ref z) 2 >>= _) _ _ _
  refine wpAny_bind (wpAny_field hz rfl (x := .bool false) rfl ?_)
  show wpAny _ _ (field (.ref z) 3 >>= _) _ _ _
  refine wpAny_bind (wpAny_field hz rfl (x := .ref TI) rfl ?_)
  refine wpAny_bind (wpAny_seqItems hTI rfl ?_)
  show wpAny _ _ (Builtin.SmallTypes.ownedTupleIsFree (.ref z) >>= _) _ _ _
  refine wpAny_bind ?_
  unfold Builtin.SmallTypes.ownedTupleIsFree
  refine wpAny_bind (wpAny_field hz rfl (x := .none) rfl (wpAny_pure ?_))
  simp only [if_true]
  refine wpAny_bind (wpAny_rule ?_)
  refine wpAny_bind (wpAny_field hz rfl (x := .ref TO) rfl ?_)
  refine wpAny_bind (wpAny_setField_rec hz (by simp) fun h₁ hz₁ hs₁ => ?_)
  replace hz₁ : IsZip h₁ z TI TO .ellipsis := hz₁
  refine wpAny_bind ?_
  simp only [List.zipIdx_cons, List.zipIdx_nil, List.forIn_cons, List.forIn_nil]
  refine wpAny_bind (wpAny_bind (wpAny_onRaise ?_))
  show wpAny _ _ (Builtin.SmallTypes.nextOf (.ref i1) >>= _) _ _ _
  have st1 : St1 k h₁ := D1.frame k _ h₁ h1 fun b hb o e => hs₁.extBut b o (fun q => D.z1 (q ▸ hb)) e
  rcases hend with rfl | ⟨k1, rfl⟩
  · refine wpAny_bind (D1.done _ _ _ st1 fun h₂ e hs₂ he => ?_)
    obtain ⟨oe, hoe, hce⟩ := he
    have hz₂ : IsZip h₂ z TI TO .ellipsis := hs₂ _ _ D.i1z.symm hz₁
    have hez : e ≠ z := fun x => by subst x; rw [hz₂] at hoe; cases hoe; simp at hce
    refine wpAny_setField_rec hz₂ (by simp) fun h₃ _ hs₃ => hE h₃ e _ (fun c o c1 _ c3 _ x => hs₃.extBut _ _ c1 (hs₂ _ _ c3 (hs₁.extBut _ _ c1 x))) ⟨oe, hs₃.extBut _ _ hez hoe, hce⟩
  · refine wpAny_bind (D1.item k _ _ _ k1 st1 fun x h₂ tk₂ px h1₂ hs₂ => wpAny_pure ?_)
    replace hs₂ : Heap.SameBut i1 h₁ h₂ := hs₂
    have hTO₂ : IsPair h₂ TO a b := hs₂.extBut _ _ D.TOi1 (hs₁.extBut _ _ D.TOz hTO)
    refine wpAny_bind (wpAny_seqItems hTO₂ rfl ?_)
    refine wpAny_bind (wpAny_updateSeq_pair hTO₂ fun h₃ hTO₃ hs₃ => ?_)
    replace hs₃ : Heap.SameBut TO h₂ h₃ := hs₃
    refine wpAny_bind (wpAny_letGo (wpAny_pure ?_))
    refine wpAny_bind (wpAny_bind (wpAny_onRaise ?_))
    show wpAny _ _ (Builtin.SmallTypes.nextOf (.ref i2) >>= _) _ _ _
    refine wpAny_bind (D2.done _ _ _ (D2.frame k _ h₃ h2 fun b hb o e => hs₃.extBut b o (fun q => D.o2 (q ▸ hb)) (hs₂.extBut b o (fun q => D.x12 (q ▸ hb)) (hs₁.extBut b o (fun q => D.z2 (q ▸ hb)) e))) fun h₄ e hs₄ he => ?_)
    replace hs₄ : Heap.ExtBut i2 h₃ h₄ := hs₄
    obtain ⟨oe, hoe, hce⟩ := he
    have hz₄ : IsZip h₄ z TI TO .ellipsis := hs₄ _ _ D.i2z.symm (hs₃.extBut _ _ D.TOz.symm (hs₂.extBut _ _ D.i1z.symm hz₁))
    have hez : e ≠ z := fun x => by subst x; rw [hz₄] at hoe; cases hoe; simp at hce
    refine wpAny_setField_rec hz₄ (by simp) fun h₅ _ hs₅ => hE h₅ e _ (fun c o c1 c2 c3 c4 x => hs₅.extBut _ _ c1 (hs₄ _ _ c4 (hs₃.extBut _ _ c2 (hs₂.extBut _ _ c3 (hs₁.extBut _ _ c1 x))))) ⟨oe, hs₅.extBut _ _ hez hoe, hce⟩
end
abbrev itObj (t : Bool) (l : Addr) : Obj := { cls := .type (if t then "tuple_iterator" else "list_iterator"), data := .fields #[.ref l, .int 0 0] }
abbrev zH1 (h : Heap) (t1 : Bool) (l1 : Addr) : Heap := h.push (itObj t1 l1)
abbrev zH2 (h : Heap) (t1 t2 : Bool) (l1 l2 : Addr) : Heap := (zH1 h t1 l1).push (itObj t2 l2)
abbrev zH3 (h : Heap) (t1 t2 : Bool) (l1 l2 : Addr) : Heap := (zH2 h t1 t2 l1 l2).push { cls := .type "tuple", data := .seq #[.ref h.objs.size, .ref (zH1 h t1 l1).objs.size] }
abbrev zH4 (h : Heap) (t1 t2 : Bool) (l1 l2 : Addr) : Heap := (zH3 h t1 t2 l1 l2).push { cls := .type "tuple", data := .seq #[.none, .none] }
abbrev zH5 (h : Heap) (t1 t2 : Bool) (l1 l2 : Addr) : Heap := (zH4 h t1 t2 l1 l2).push { cls := .type "zip", data := .fields #[.none, .bool false, .bool false, .ref (zH2 h t1 t2 l1 l2).objs.size, .ref (zH3 h t1 t2 l1 l2).objs.size] }
theorem IsTuple.push {h : Heap} {a : Addr} {items : Array Value} (x : h.IsTuple a items) (o : Obj) : (h.push o).IsTuple a items := let ⟨ob, e, r⟩ := x; ⟨ob, Heap.get?_push_of_some _ e, r⟩
set_option maxHeartbeats 4000000 in
theorem meets_zip (t1 t2 : Bool) (l1 l2 : Addr) (xs ys : Array Value) :
    Meets (Builtin.«zip.__new__» ⟨[.type "zip", .ref l1, .ref l2], []⟩) (fun _ R s => IsSeq t1 s.heap l1 xs ∧ IsSeq t2 s.heap l2 ys ∧
      R (.ok (.ret (.ref (zH4 s.heap t1 t2 l1 l2).objs.size))) { s with heap := zH5 s.heap t1 t2 l1 l2 }) :=
  .of_wp fun prog w A R s h => by
    obtain ⟨hp, g, d, tk, os⟩ := s; obtain ⟨hl1, hl2, h⟩ := h
    have hsub := sub_zip
    cases t1 with
    | false =>
      have hL1 : Heap.IsList (Shared.heap ⟨hp, g, d, tk, os⟩) l1 xs := hl1
      cases t2 with
      | false =>
        have hL2 : Heap.IsList (Shared.heap ⟨hp.push { cls := .type "list_iterator", data := .fields #[.ref l1, .int 0 0] }, g, d, tk, os⟩) l2 ys := Heap.IsList.push hl2 _
        wp_walk using wpAny_pyIter_list hL1, wpAny_pyIter_list hL2
        exact ⟨_, rfl, h⟩
      | true =>
        have hL2 : Heap.IsTuple (Shared.heap ⟨hp.push { cls := .type "list_iterator", data := .fields #[.ref l1, .int 0 0] }, g, d, tk, os⟩) l2 ys := IsTuple.push hl2 _
        wp_walk using wpAny_pyIter_list hL1, wpAny_pyIter_tuple hL2
        exact ⟨_, rfl, h⟩
    | true =>
      have hL1 : Heap.IsTuple (Shared.heap ⟨hp, g, d, tk, os⟩) l1 xs := hl1
      cases t2 with
      | false =>
        have hL2 : Heap.IsList (Shared.heap ⟨hp.push { cls := .type "tuple_iterator", data := .fields #[.ref l1, .int 0 0] }, g, d, tk, os⟩) l2 ys := Heap.IsList.push hl2 _
        wp_walk using wpAny_pyIter_tuple hL1, wpAny_pyIter_list hL2
        exact ⟨_, rfl, h⟩
      | true =>
        have hL2 : Heap.IsTuple (Shared.heap ⟨hp.push { cls := .type "tuple_iterator", data := .fields #[.ref l1, .int 0 0] }, g, d, tk, os⟩) l2 ys := IsTuple.push hl2 _
        wp_walk using wpAny_pyIter_tuple hL1, wpAny_pyIter_tuple hL2
        exact ⟨_, rfl, h⟩
theorem seqIt_new {h : Heap} {t : Bool} {it l : Addr} (e : h.get? it = some (itObj t l)) : SeqIt t it l 0 h := by
  cases t
  · exact ⟨_, e, rfl, rfl⟩
  · exact ⟨_, e, rfl, rfl⟩
theorem call_zip {prog : Program} {w : World} {A : Around} {E : Value → Shared → Prop} {s : Shared} {t1 t2 : Bool} {l1 l2 : Addr} {xs ys : Array Value} {Q : Value → Shared → Prop} (hl1 : IsSeq t1 s.heap l1 xs) (hl2 : IsSeq t2 s.heap l2 ys)
    (h : ∀ h', IsZip h' (s.heap.objs.size + 4) (s.heap.objs.size + 2) (s.heap.objs.size + 3) .none → IsPair h' (s.heap.objs.size + 2) (.ref s.heap.objs.size) (.ref (s.heap.objs.size + 1)) →
      IsPair h' (s.heap.objs.size + 3) .none .none → SeqIt t1 s.heap.objs.size l1 0 h' → SeqIt t2 (s.heap.objs.size + 1) l2 0 h' →
      (∀ c o, s.heap.get? c = some o → h'.get? c = some o) → Q (.ref (s.heap.objs.size + 4)) { s with heap := h' }) :
    wpAny (model prog w) A (call (.type "zip") [.ref l1, .ref l2]) Q E s := by
  refine callType_new PySem.F.called_zip (by decide) (PySem.F.typeCall_zip_2 _ _) (PySem.F.newCall_zip_2 _ _) (fun obj => PySem.F.args_object_init_3 obj _ _) PySem.F.entry_zip_new
    (meets_zip t1 t2 l1 l2 xs ys) ⟨hl1, hl2, ?_⟩
  have z1 : (zH1 s.heap t1 l1).objs.size = s.heap.objs.size + 1 := Heap.size_push ..
  have z2 : (zH2 s.heap t1 t2 l1 l2).objs.size = s.heap.objs.size + 2 := by rw [Heap.size_push, z1]
  have z3 : (zH3 s.heap t1 t2 l1 l2).objs.size = s.heap.objs.size + 3 := by rw [Heap.size_push, z2]
  have z4 : (zH4 s.heap t1 t2 l1 l2).objs.size = s.heap.objs.size + 4 := by rw [Heap.size_push, z3]
  have g5 : (zH5 s.heap t1 t2 l1 l2).get? (zH4 s.heap t1 t2 l1 l2).objs.size = some _ := Heap.get?_push_size _ rfl
  have g4 : (zH5 s.heap t1 t2 l1 l2).get? (zH3 s.heap t1 t2 l1 l2).objs.size = some _ := Heap.get?_push_of_some _ (Heap.get?_push_size _ rfl)
  have g3 : (zH5 s.heap t1 t2 l1 l2).get? (zH2 s.heap t1 t2 l1 l2).objs.size = some _ := Heap.get?_push_of_some _ (Heap.get?_push_of_some _ (Heap.get?_push_size _ rfl))
  have g2 : (zH5 s.heap t1 t2 l1 l2).get? (zH1 s.heap t1 l1).objs.size = some _ := Heap.get?_push_of_some _ (Heap.get?_push_of_some _ (Heap.get?_push_of_some _ (Heap.get?_push_size _ rfl)))
  have g1 : (zH5 s.heap t1 t2 l1 l2).get? s.heap.objs.size = some _ := Heap.get?_push_of_some _ (Heap.get?_push_of_some _ (Heap.get?_push_of_some _ (Heap.get?_push_of_some _ (Heap.get?_push_size _ rfl))))
  show _ ∧ _
  rw [z2, z3, z4] at g5
  rw [z1, z2] at g3
  rw [z3] at g4
  rw [z1] at g2
  rw [z4]
  exact ⟨⟨_, g5, rfl⟩, h _ g5 g3 g4 (seqIt_new g1) (seqIt_new g2) fun c o x =>
    Heap.get?_push_of_some _ (Heap.get?_push_of_some _ (Heap.get?_push_of_some _ (Heap.get?_push_of_some _ (Heap.get?_push_of_some _ x))))⟩
def SqS (K : Frag) (H : Hp) (t : Bool) (p : Addr) (xs : List V) : Prop := if t then SqT K H p xs else SqL K H p xs
theorem Inv.seqS {X : Cx} {pins : List (Addr × Obj)} {σ : St} {H : Hp} {s : Shared} {t : Bool} {p : Addr} {xs : List V} (I : Inv X pins σ H s) (h : SqS X.K H t p xs) : ∃ its : List Value, Vals xs its ∧ IsSeq t s.heap p its.toArray := by
  cases t
  · obtain ⟨its, rv, pl, _⟩ := I.list (show SqL X.K H p xs from h); exact ⟨its, rv, pl.isList⟩
  · obtain ⟨its, rv, pl, _⟩ := I.tuple (show SqT X.K H p xs from h); exact ⟨its, rv, pl⟩
theorem Inv.seqS_inj {X : Cx} {pins : List (Addr × Obj)} {σ : St} {H : Hp} {s : Shared} {t : Bool} {p : Addr} {xs ys : List V} (I : Inv X pins σ H s) (h : SqS X.K H t p xs) (h' : SqS X.K H t p ys) : xs = ys := by
  cases t
  · exact I.list_inj h h'
  · exact I.tuple_inj h h'
def Itz (K : Frag) (t1 t2 : Bool) (p1 p2 : Addr) : It :=
  ⟨fun i H => ∃ xs ys x y, SqS K H t1 p1 xs ∧ SqS K H t2 p2 ys ∧ xs[i]? = some x ∧ ys[i]? = some y,
   fun i H v H' => ∃ q x y, H q = none ∧ v = .ref q ∧ H' = upd H q (.tup [x, y]) ∧ (∀ xs, SqS K H t1 p1 xs → xs[i]? = some x) ∧ (∀ ys, SqS K H t2 p2 ys → ys[i]? = some y),
   fun i H => ∃ xs ys, SqS K H t1 p1 xs ∧ SqS K H t2 p2 ys ∧ i ≤ xs.length ∧ i ≤ ys.length ∧ (xs.length ≤ i ∨ ys.length ≤ i)⟩
theorem Inv.pair {X : Cx} {pins : List (Addr × Obj)} {σ : St} {H : Hp} {s : Shared} {fp : List Addr} {h' : Heap} {tk : Nat} {x y : V} {u v : Value} (I : Inv X pins σ H s) (hf : ∀ b ∈ fp, FpOk X pins H b)
    (hk : ∀ c o, c ∉ fp → s.heap.get? c = some o → h'.get? c = some o) (hp : IsPair h' s.heap.objs.size u v) (rx : RelV x u) (ry : RelV y v) :
    Inv X pins σ (upd H s.heap.objs.size (.tup [x, y])) { s with heap := h', toks := tk } := by
  have hn : H s.heap.objs.size = none := I.hok.fresh (Nat.le_refl _)
  have trk : ∀ {b : Addr} {o : HO}, H b = some o → b ∉ fp := fun {b o} e hb => by rw [(hf b hb).1] at e; cases e
  refine I.call' (s' := { s with heap := h', toks := tk }) (ch := fp) rfl ⟨fun b o e n hb hx => hk b o hx e, fun b o e n hb hx => ⟨o.slots, by rw [hk b o hx e]⟩, fun b o e n hx => ?_, fun b o e hx => ⟨o, hk b o hx e⟩, fun b xs e => ?_, fun b o u e => ?_, fun b o e => ?_⟩ (fun b o e => ?_) I.bare fun b hb => ⟨(hf b hb).2.2.2.1, (hf b hb).2.1, (hf b hb).2.2.2.2.1, (hf b hb).2.2.2.2.2⟩
  · rw [upd_ne (Nat.ne_of_lt (Heap.lt_size e))]; exact n
  · rw [upd_ne (ne_of_none e hn)]; exact e
  · rw [upd_ne (ne_of_none e hn)]; exact e
  · exact ⟨#[], by rw [upd_ne (ne_of_none e hn), e]; simp⟩
  · by_cases hb : b = s.heap.objs.size
    · subst hb
      rw [upd_same] at e
      cases e
      exact ⟨by show 2 ≤ sizeLine; decide, [u, v], .cons rx (.cons ry .nil), ⟨_, hp, rfl, _, rfl⟩⟩
    · rw [upd_ne hb] at e
      refine (I.hok b o e).stay (fun c w' hc q => hk c w' ?_ q) (fun c q => by rw [upd_ne (ne_of_none q hn)]; exact q) fun c xs q => by rw [upd_ne (ne_of_none q hn)]; exact q
      rcases hc with rfl | hc
      · exact trk e
      · exact trk hc
theorem Inv.turnedL {X : Cx} {pins : List (Addr × Obj)} {σ : St} {H : Hp} {s : Shared} {fp : List Addr} {h' : Heap} {tk : Nat} (I : Inv X pins σ H s) (hf : ∀ b ∈ fp, FpOk X pins H b)
    (hk : ∀ c o, c ∉ fp → s.heap.get? c = some o → h'.get? c = some o) : Inv X pins σ H { s with heap := h', toks := tk } := by
  have trk : ∀ {b : Addr} {o : HO}, H b = some o → b ∉ fp := fun {b o} e hb => by rw [(hf b hb).1] at e; cases e
  refine I.call' (s' := { s with heap := h', toks := tk }) (ch := fp) rfl ⟨fun b o e n hb hx => hk b o hx e, fun b o e n hb hx => ⟨o.slots, by rw [hk b o hx e]⟩, fun b o e n hx => n, fun b o e hx => ⟨o, hk b o hx e⟩, fun b xs e => e, fun b o u e => e, fun b o e => ⟨#[], by rw [e]; simp⟩⟩ (fun b o e => ?_) I.bare fun b hb => ⟨(hf b hb).2.2.2.1, (hf b hb).2.1, (hf b hb).2.2.2.2.1, (hf b hb).2.2.2.2.2⟩
  refine (I.hok b o e).stay (fun c w' hc q => hk c w' ?_ q) (fun c q => q) fun c xs q => q
  rcases hc with rfl | hc
  · exact trk e
  · exact trk hc
theorem turn_zip {P : Program} {w : World} {K : Frag} {es : List Expr} {k : Nat} {tpos : Pos} (t1 t2 : Bool) {p1 p2 z TI TO i1 i2 : Addr} (D : ZApart z TI TO i1 i2 [i1, p1] [i2, p2]) (n1 : p1 ≠ i1) (n2 : p2 ≠ i2) :
    Turn P w K (.Tuple es k tpos) (Itz K t1 t2 p1 p2) [z, TI, TO, i1, i2] z (fun i h => IsZip h z TI TO .none ∧ IsPair h TI (.ref i1) (.ref i2) ∧ (∃ a b, IsPair h TO a b) ∧ SeqIt t1 i1 p1 i h ∧ SeqIt t2 i2 p2 i h) where
  mem := by simp
  obj := fun i h st b hb => by
    obtain ⟨hz, hTI, ⟨a, c, hTO⟩, h1, h2⟩ := st
    simp only [List.mem_cons, List.not_mem_nil, or_false] at hb
    rcases hb with rfl | rfl | rfl | rfl | rfl
    · exact ⟨_, hz, fun v q => by cases q⟩
    · exact ⟨_, hTI, fun v q => by cases q⟩
    · exact ⟨_, hTO, fun v q => by cases q⟩
    · exact h1.obj
    · exact h2.obj
  keep := fun i h h' st kk => by
    obtain ⟨hz, hTI, ⟨a, c, hTO⟩, h1, h2⟩ := st
    exact ⟨kk z (by simp) _ hz, kk TI (by simp) _ hTI, ⟨a, c, kk TO (by simp) _ hTO⟩, h1.at fun o e => kk i1 (by simp) o e, h2.at fun o e => kk i2 (by simp) o e⟩
  item := by
    intro X hP hw hK hc i pins s σ H E I hf st hg
    subst hP hw hK
    obtain ⟨hz, hTI, ⟨a, c, hTO⟩, h1, h2⟩ := st
    obtain ⟨xs, ys, x, y, q1, q2, e1, e2⟩ := hg
    obtain ⟨its1, rv1, s1⟩ := Inv.seqS I q1
    obtain ⟨its2, rv2, s2⟩ := Inv.seqS I q2
    obtain ⟨u, hu, ru⟩ := rv1.get e1
    obtain ⟨v, hv, rv⟩ := rv2.get e2
    have hh : X.A.handled = none := I.ok.hd hc
    have hT : s.TypeIs (.ref z) "zip" := ⟨_, hz, rfl⟩
    unfold pyNext
    have lt1 : i < its1.toArray.size := by have := (List.getElem?_eq_some_iff.mp hu).1; simpa using this
    have lt2 : i < its2.toArray.size := by have := (List.getElem?_eq_some_iff.mp hv).1; simpa using this
    refine wpAny_bind (wpAny_attempt (wpAny_callSpecial?_slot (name := Str.ofString "__next__") hT PySem.F.slot_zip_next
      (wpAny_call_entry PySem.F.slot_zip_next hT PySem.F.entry_zip_next
        (zipD_item (draws_seq (by exact hh) t1 i1 p1 n1 its1.toArray) (draws_seq (by exact hh) t2 i2 p2 n2 its2.toArray) D hz hTI hTO ⟨h1, s1⟩ ⟨h2, s2⟩ lt1 lt2 fun x' y' h' tk px py z1 o1 w1 w2 pr kp => wpAny_pure ?_) (PySem.F.args_zip_next_1 _))))
    have ex : x' = u := by have : its1.toArray[i]? = some u := by simpa using hu
                           rw [this] at px; exact (Option.some.inj px).symm
    have ey : y' = v := by have : its2.toArray[i]? = some v := by simpa using hv
                           rw [this] at py; exact (Option.some.inj py).symm
    subst ex ey
    refine ⟨_, rfl, wpAny_letOwnedTupleGo_zip z1 fun h'' z2 sb => ?_⟩
    replace sb : Heap.SameBut z h' h'' := sb
    have szlt : z ≠ s.heap.objs.size := Nat.ne_of_lt (Heap.lt_size hz)
    have kp2 : ∀ c o, c ∉ [z, TI, TO, i1, i2] → s.heap.get? c = some o → h''.get? c = some o := fun c o hc' e => by
      simp only [List.mem_cons, List.not_mem_nil, or_false, not_or] at hc'
      exact sb.extBut c o hc'.1 (kp c o hc'.1 hc'.2.2.1 hc'.2.2.2.1 hc'.2.2.2.2 e)
    have IX := Inv.pair (tk := tk) (h' := h'') (x := x) (y := y) I hf kp2 (sb.extBut _ _ (Ne.symm szlt) pr) ru rv
    refine ⟨.ref s.heap.objs.size, _, IX, rfl, ⟨_, x, y, I.hok.fresh (Nat.le_refl _), rfl, rfl, fun xs' hx' => by rw [Inv.seqS_inj I hx' q1]; exact e1, fun ys' hy' => by rw [Inv.seqS_inj I hy' q2]; exact e2⟩,
      ⟨z2, sb.extBut _ _ D.TIz (kp _ _ D.TIz D.TITO D.TIi1 D.TIi2 hTI), ⟨_, _, sb.extBut _ _ D.TOz o1⟩, w1.1.at fun o e => sb.extBut _ o D.i1z e, w2.1.at fun o e => sb.extBut _ o D.i2z e⟩, fun b hb => ?_⟩
    have hbs : b ≠ s.heap.objs.size := by
      obtain ⟨ob, e, _⟩ : ∃ o, s.heap.get? b = some o ∧ ∀ v, o.data ≠ .cell v := by
        simp only [List.mem_cons, List.not_mem_nil, or_false] at hb
        rcases hb with rfl | rfl | rfl | rfl | rfl
        · exact ⟨_, hz, fun v q => by cases q⟩
        · exact ⟨_, hTI, fun v q => by cases q⟩
        · exact ⟨_, hTO, fun v q => by cases q⟩
        · exact h1.obj
        · exact h2.obj
      exact Nat.ne_of_lt (Heap.lt_size e)
    rw [upd_ne hbs]
    exact (hf b hb).1
  done := by
    intro X hP hw hK hc i pins s σ H E I hf st hg
    subst hP hw hK
    obtain ⟨hz, hTI, ⟨a, c, hTO⟩, h1, h2⟩ := st
    obtain ⟨xs, ys, q1, q2, b1, b2, hend⟩ := hg
    obtain ⟨its1, rv1, s1⟩ := Inv.seqS I q1
    obtain ⟨its2, rv2, s2⟩ := Inv.seqS I q2
    have l1 := rv1.length
    have l2 := rv2.length
    have hh : X.A.handled = none := I.ok.hd hc
    have hT : s.TypeIs (.ref z) "zip" := ⟨_, hz, rfl⟩
    have he : i = its1.toArray.size ∨ (i < its1.toArray.size ∧ i = its2.toArray.size) := by simp; omega
    unfold pyNext
    refine wpAny_bind (wpAny_attempt (wpAny_callSpecial?_slot (name := Str.ofString "__next__") hT PySem.F.slot_zip_next
      (wpAny_call_entry PySem.F.slot_zip_next hT PySem.F.entry_zip_next
        (zipD_end (m := 0) (by exact hh) (draws_seq (by exact hh) t1 i1 p1 n1 its1.toArray) (draws_seq (by exact hh) t2 i2 p2 n2 its2.toArray) D hz hTI hTO ⟨h1, s1⟩ ⟨h2, s2⟩ he fun h' e tk hk he => ?_) (PySem.F.args_zip_next_1 _))))
    obtain ⟨o, ho, hc'⟩ := he
    refine wpAny_bind (wpAny_isInstance (T := "StopIteration") (b := true) ⟨o, ho, hc'⟩ isSubtype_stop ?_)
    refine wpAny_pure ⟨rfl, Inv.turnedL (h' := h') I hf fun c o hc'' e => ?_⟩
    simp only [List.mem_cons, List.not_mem_nil, or_false, not_or] at hc''
    exact hk c o hc''.1 hc''.2.2.1 hc''.2.2.2.1 hc''.2.2.2.2 e
  self := fun _ _ _ _ _ st h => wpAny_pyIter_zip st.1 h
end VS

end
section
set_option linter.all false
set_option maxRecDepth 100000
namespace VS
open PySem PySem.Spec PyProof.Rows L2 VP
section
variable {X : Cx} {EX : XE} {L : Lc} {e a b : Expr} {fa fb fe : M D} {pos p : Pos} {x : Str}
def iZip (K : Frag) (t : TA) : TI := fun σ H R => t σ H fun vs H1 => ∃ t1 t2 p1 p2, vs = [.ref p1, .ref p2] ∧ (∃ xs, SqS K H1 t1 p1 xs) ∧ (∃ ys, SqS K H1 t2 p2 ys) ∧ R (Itz K t1 t2 p1 p2) H1
theorem pi_zip {es : List Expr} {k : Nat} {tpos : Pos} {t : TA} (hg : Gl X "zip") (hm : X.mg "zip" = none) (ha : PA X [a, b] t) (hs : starEach [a, b] X.env = [(false, eval a X.env), (false, eval b X.env)] := by rfl) (hs2 : starEach [b] X.env = [(false, eval b X.env)] := by rfl) :
    PI X (.Tuple es k tpos) (.Call (.Name "zip" p) [a, b] [] pos) (iZip X.K t) := by
  intro pins s σ H R I h
  refine Call_ (ld_blt I hg hm boot_zip (PyProof.Rows.callWith_type1 (thn (ha pos pins s σ H _ I h) fun us s1 ⟨vs, H1, I1, r1, q1⟩ => ?_) (by rw [hs, hs2]) (by rw [hs2]; rfl)))
  obtain ⟨t1, t2, p1, p2, e, ⟨xs, h1⟩, ⟨ys, h2⟩, q⟩ := q1
  subst e
  cases r1 with
  | cons r rr =>
    cases rr with
    | cons r' rr =>
      cases rr
      cases r
      cases r'
      obtain ⟨its1, rv1, s1'⟩ := Inv.seqS I1 h1
      obtain ⟨its2, rv2, s2'⟩ := Inv.seqS I1 h2
      have lt : ∀ {t : Bool} {q : Addr} {its : Array Value}, IsSeq t s1.heap q its → q < s1.heap.objs.size := fun {t q its} z => by
        cases t
        · obtain ⟨o, e, _⟩ := (show Heap.IsList _ _ _ from z); exact Heap.lt_size e
        · obtain ⟨o, e, _⟩ := (show Heap.IsTuple _ _ _ from z); exact Heap.lt_size e
      have l1 := lt s1'
      have l2 := lt s2'
      refine call_zip s1' s2' fun h' hz hTI hTO hi1 hi2 hk => ?_
      refine wpAny_pyIter_zip hz ?_
      have IX : Inv X pins σ H1 { s1 with heap := h' } := I1.kept (t' := s1.toks) hk
      have ne : ∀ {q : Addr} (j : Nat), q < s1.heap.objs.size → q ≠ s1.heap.objs.size + j := fun {q} j hq => Nat.ne_of_lt (Nat.lt_of_lt_of_le hq (Nat.le_add_right _ _))
      have D : ZApart (s1.heap.objs.size + 4) (s1.heap.objs.size + 2) (s1.heap.objs.size + 3) s1.heap.objs.size (s1.heap.objs.size + 1) [s1.heap.objs.size, p1] [s1.heap.objs.size + 1, p2] := by
        have a1 := ne 4 l1; have a2 := ne 3 l1; have a3 := ne 1 l1
        have b1 := ne 4 l2; have b2 := ne 3 l2; have b3 := ne 0 l2
        refine ⟨by simp, by simp, by simp, by simp, by simp, by simp, by simp, by simp, by simp, by simp, ?_, ?_, ?_, ?_, ?_, ?_⟩
        · simp [Ne.symm a1]
        · simp [Ne.symm b1]
        · simp [Ne.symm a2]
        · simp [Ne.symm b2]
        · simp; exact Ne.symm b3
        · simp [Ne.symm a3]
      refine ⟨_, [s1.heap.objs.size + 4, s1.heap.objs.size + 2, s1.heap.objs.size + 3, s1.heap.objs.size, s1.heap.objs.size + 1], _, _, H1, rfl, IX, turn_zip t1 t2 D (ne 0 l1) (ne 1 l2), ⟨hz, hTI, ⟨_, _, hTO⟩, hi1, hi2⟩, fun c hc => ?_, q⟩
      have hle : s1.heap.objs.size ≤ c := by
        simp only [List.mem_cons, List.not_mem_nil, or_false] at hc
        rcases hc with rfl | rfl | rfl | rfl | rfl
        · exact Nat.le_add_right _ _
        · exact Nat.le_add_right _ _
        · exact Nat.le_add_right _ _
        · exact Nat.le_refl _
        · exact Nat.le_add_right _ _
      exact I1.fpOk hle (I1.hok.fresh hle)
theorem SqS.same {K : Frag} {F F' : Hp} {t : Bool} {q : Addr} {xs : List V} (h : SqS K F t q xs) (e : Same F F') : SqS K F' t q xs := by
  cases t
  · exact SqL.same h e
  · exact SqT.same h e
theorem Den.seq {K : Frag} {mg : MG} {F : Hp} {v : V} {d : D} {ds : List D} (h : Den K mg F v d) (e : seqD d = some ds) : ∃ t q vs, v = .ref q ∧ SqS K F t q vs ∧ DenL K mg F vs ds := by
  cases h with
  | tup h r => cases e; exact ⟨true, _, _, rfl, h, r⟩
  | lst h r => cases e; exact ⟨false, _, _, rfl, h, r⟩
  | _ => cases e
theorem itr_zip {G : Fx} {F : Hp} {t1 t2 : Bool} {p1 p2 : Addr} {vs ws : List V} {ds es : List D} (hinj : ∀ (σ : St) (F' H' : Hp) (ρ : Rho), Same F F' → L.Good G F' H' σ ρ → True) (h1 : SqS L.K F t1 p1 vs) (r1 : DenL L.K L.mg F vs ds) (h2 : SqS L.K F t2 p2 ws) (r2 : DenL L.K L.mg F ws es) :
    ItR L G F (Itz L.K t1 t2 p1 p2) (List.zipWith (fun x y => D.tup [x, y]) ds es) := fun σ i F' H' ρ s g => by
  have q1 : SqS L.K H' t1 p1 vs := (h1.same s).same g.sub
  have q2 : SqS L.K H' t2 p2 ws := (h2.same s).same g.sub
  have l1 := r1.length
  have l2 := r2.length
  refine ⟨fun hi => ?_, fun hi => ?_, fun x H'' y => ?_⟩
  · simp at hi
    exact ⟨vs, ws, vs[i]'(by omega), ws[i]'(by omega), q1, q2, by simp [show i < vs.length by omega], by simp [show i < ws.length by omega]⟩
  · simp at hi
    exact ⟨vs, ws, q1, q2, by omega, by omega, by omega⟩
  · obtain ⟨q, u, v, hq, rfl, rfl, y1, y2⟩ := y
    have sF := same_upd (o := .tup [u, v]) (g.sub.free hq)
    refine ⟨_, sF, g.laid hq, fun d hd => ?_⟩
    rw [List.getElem?_zipWith] at hd
    cases e1 : ds[i]? with
    | none => rw [e1] at hd; cases hd
    | some d1 =>
      cases e2 : es[i]? with
      | none => rw [e1, e2] at hd; cases hd
      | some d2 =>
        rw [e1, e2] at hd
        cases hd
        obtain ⟨u', a1, a2⟩ := (r1.same s).get e1
        obtain ⟨v', b1, b2⟩ := (r2.same s).get e2
        rw [y1 vs q1] at a1
        rw [y2 ws q2] at b1
        cases a1; cases b1
        exact .tup (SqT.of upd_same) (.cons (a2.same sF) (.cons (b2.same sF) .nil))
theorem vi_zip {es : List Expr} {k : Nat} {tpos : Pos} {fl : List (M D)} (hg : Gl X "zip") (hm : X.mg "zip" = none) (ha : PLs X EX [a, b] (mL fl)) (hs : starEach [a, b] X.env = [(false, eval a X.env), (false, eval b X.env)] := by rfl) (hs2 : starEach [b] X.env = [(false, eval b X.env)] := by rfl) :
    PVI X EX (.Tuple es k tpos) (.Call (.Name "zip" p) [a, b] [] pos) (mZip fl) :=
  (pi_zip hg hm ha hs hs2).le fun σ H Q ⟨G, F, ρ, g0, o⟩ => at_bnd g0 o (fun x r q => q) fun F1 H1 ρ1 d1 xs s1 g1 r1 o1 => by
    obtain ⟨ds, e, q⟩ := o1.opt
    match d1, r1, e with
    | [c, d], .cons h1 (.cons h2 .nil), e =>
      simp only [zipL] at e
      cases e1 : seqD c with
      | none => rw [e1] at e; cases e
      | some cs =>
        cases e2 : seqD d with
        | none => rw [e1, e2] at e; cases e
        | some es =>
          rw [e1, e2] at e
          cases e
          obtain ⟨t1, q1, vs, rfl, z1, y1⟩ := Den.seq h1 e1
          obtain ⟨t2, q2, ws, rfl, z2, y2⟩ := Den.seq h2 e2
          exact ⟨t1, t2, q1, q2, rfl, ⟨_, z1.same g1.sub⟩, ⟨_, z2.same g1.sub⟩, q F1 H1 _ s1 g1 (itr_zip (fun _ _ _ _ _ _ => trivial) z1 y1 z2 y2)⟩
theorem kit_own (K : Frag) : ∀ k ∈ ["NoneType", "bool", "int", "str", "tuple", "list", "dict"], ∀ T ∈ ["int", "bool", "tuple", "list", "str", "dict"],
    PySem.W.kitOne K (.type k) (.type T) = some (k == T || (k == "bool" && T == "int")) := by
  intro k hk T hT
  simp only [List.mem_cons, List.not_mem_nil, or_false] at hk hT
  rcases hk with rfl | rfl | rfl | rfl | rfl | rfl | rfl <;> rcases hT with rfl | rfl | rfl | rfl | rfl | rfl <;> first | rfl | decide +kernel | (show PySem.W.kitOne K _ _ = _; kernel_rfl)
def rIsa (L : Lc) (T : String) : List V → Hp → VK → Prop := fun xs H Q => ∃ x G F σ ρ d k b, xs = [x, .ty T] ∧ L.Good G F H σ ρ ∧ RR L G F H σ ρ x d ∧ kindD d = some k ∧ PySem.W.kitOne L.K (.type k) (.type T) = some b ∧ Q (.bl b) H
theorem call_isa (T : String) : CallR X (.builtin "isinstance") (rIsa (lc X EX) T) := by
  intro pins s σ0 H xs us Q I r h
  obtain ⟨x, G, F, σ, ρ, d, k, b, rfl, g, rx, hk, hb, q⟩ := h
  obtain ⟨u, c, rfl, ru, rc⟩ := vals2 r
  obtain rfl : c = Value.type T := rc
  have fin : ∀ tk, EP X pins σ0 Q (.bool b) { s with toks := tk } := fun tk => ⟨.bl b, H, I.tok tk, rfl, q⟩
  have obj : ∀ {l : Addr} {ds : List D}, seqD d = some ds → x = .ref l → (d = .lst ds → ∃ o, s.heap.get? l = some o ∧ o.cls = .type "list") ∧ (d = .tup ds → ∃ o, s.heap.get? l = some o ∧ o.cls = .type "tuple") := fun {l ds} e ex => by
    obtain ⟨q', vs, e2, _, z⟩ := RR.seq rx g e
    rw [ex] at e2
    cases e2
    rcases z with ⟨z1, z2⟩ | ⟨z1, z2, _⟩
    · refine ⟨fun _ => ?_, fun z => (by rw [z1] at z; cases z)⟩
      obtain ⟨its, _, pl, _⟩ := I.list z2
      obtain ⟨o, ho, hc, _⟩ := pl.isList
      exact ⟨o, ho, hc⟩
    · refine ⟨fun z => (by rw [z1] at z; cases z), fun _ => ?_⟩
      obtain ⟨its, _, ⟨o, ho, hc, _⟩, _⟩ := I.tuple z2
      exact ⟨o, ho, hc⟩
  cases d with
  | non =>
    cases hk
    rcases rx with rx | ⟨_, _, z⟩
    · cases rx; cases (show u = Value.none from ru); exact PySem.W.kia_one PySem.W.kitx_none I.kIn True.intro hb (fun z => nomatch z) fin
    · exact z.elim
  | bl v =>
    cases hk
    rcases rx with rx | ⟨_, _, z⟩
    · cases rx; cases (show u = Value.bool v from ru); exact PySem.W.kia_one PySem.W.kitx_bool I.kIn True.intro hb (fun z => nomatch z) fin
    · exact z.elim
  | int v =>
    cases hk
    rcases rx with rx | ⟨_, _, z⟩
    · cases rx; obtain ⟨t, q⟩ := (show ∃ t, u = Value.int v t from ru); cases q; exact PySem.W.kia_one PySem.W.kitx_int I.kIn True.intro hb (fun z => nomatch z) fin
    · exact z.elim
  | str v =>
    cases hk
    rcases rx with rx | ⟨_, _, z⟩
    · cases rx; obtain ⟨t, q⟩ := (show ∃ t, u = Value.str v t from ru); cases q; exact PySem.W.kia_one PySem.W.kitx_str I.kIn True.intro hb (fun z => nomatch z) fin
    · exact z.elim
  | tup ds =>
    cases hk
    obtain ⟨l, vs, e2, _⟩ := RR.seq rx g rfl
    obtain ⟨o, ho, hc⟩ := (obj rfl e2).2 rfl
    subst e2
    cases (show u = Value.ref l from ru)
    exact PySem.W.kia_one PySem.W.kitx_tuple I.kIn ⟨o, ho, hc⟩ hb (fun z => nomatch z) fin
  | lst ds =>
    cases hk
    obtain ⟨l, vs, e2, _⟩ := RR.seq rx g rfl
    obtain ⟨o, ho, hc⟩ := (obj rfl e2).1 rfl
    subst e2
    cases (show u = Value.ref l from ru)
    exact PySem.W.kia_one PySem.W.kitx_list I.kIn ⟨o, ho, hc⟩ hb (fun z => nomatch z) fin
  | dct ks ds =>
    cases hk
    have hd : ∃ l kvs, x = .ref l ∧ H l = some (.dK kvs) := by
      rcases rx with rx | ⟨l, e, z⟩
      · cases rx with
        | dct h r => exact ⟨_, _, rfl, g.sub _ _ h⟩
      · obtain ⟨kvs, z1, _⟩ := z; exact ⟨l, kvs, e, z1⟩
    obtain ⟨l, kvs, rfl, hl⟩ := hd
    cases (show u = Value.ref l from ru)
    obtain ⟨_, _, vs, _, p⟩ := (show ObjOk X.prog X.w H s.heap l (.dK kvs) from I.hok l _ hl)
    obtain ⟨o, es, ep, h1, h2, _⟩ := p
    exact PySem.W.kia_one PySem.W.kitx_dict I.kIn ⟨o, h1, h2.1⟩ hb (fun z => nomatch z) fin
  | ins c ns ds => cases hk
  | exn c ns ds => cases hk
theorem pv_isa (T : String) {xT : Str} {pT : Pos} (hT : T ∈ ["int", "bool", "tuple", "list", "str", "dict"]) (hg : Gl X "isinstance") (hm : X.mg "isinstance" = none) (hgT : Gl X xT) (hmT : X.mg xT = none) (hvT : bootBuiltins xT = some (.type T)) (ha : PR X EX a fa)
    (hn : xT ≠ "__name__" := by decide) (hdT : (xT == ("__debug__" : Str)) = false := by decide)
    (hs : starEach [a, .Name xT pT] X.env = (false, eval a X.env) :: starEach [.Name xT pT] X.env := by rfl) (hs2 : starEach [.Name xT pT] X.env = (false, eval (.Name xT pT) X.env) :: starEach [] X.env := by rfl) (hpl : (backTo pos (starEach [.Name xT pT] X.env)).any (·.1) = false := by rfl) :
    PV X EX (.Call (.Name "isinstance" p) [a, .Name xT pT] [] pos) (m1 (isaD T) fa) :=
  (pe_callB (call_isa (EX := EX) T) hg hm boot_isinstance (pa_cons ha (pa_cons (pe_bltn (v := .ty T) hgT hmT hvT rfl hn hdT) pa_nil hs2) hs) (by decide) (by decide) hs hpl).le fun σ H Q ⟨G, F, ρ, g0, o⟩ => at_bnd g0 o (fun x r q => q) fun F1 H1 ρ1 d1 x s1 g1 r1 o1 => by
    obtain ⟨d, e, q⟩ := o1.opt
    unfold isaD at e
    cases ek : kindD d1 with
    | none => rw [ek] at e; cases e
    | some k =>
      rw [ek] at e
      cases e
      have hk : k ∈ ["NoneType", "bool", "int", "str", "tuple", "list", "dict"] := by cases d1 <;> cases ek <;> simp
      exact ⟨x, G, F1, σ, ρ1, d1, k, _, rfl, g1, r1, ek, kit_own _ k hk T hT, q F1 H1 _ s1 g1 (.bl _)⟩
theorem isLst_slot {G : Fx} {F H : Hp} {σ : St} {ρ : Rho} {j : Nat} (g : L.Good G F H σ ρ) (h : isLst (own ρ[j]?) = true) : ∃ l vs, σ[j]? = some (some (V.ref l)) ∧ H l = some (.lst vs) := by
  have hs : (own ρ[j]?).isSome = true := by
    cases q : own ρ[j]? with
    | none => rw [q] at h; cases h
    | some d => rfl
  obtain ⟨l, d, h1, h2, h3⟩ := own_slot g hs
  rw [h2] at h
  cases d with
  | lst ds => obtain ⟨vs, z, _⟩ := h3; exact ⟨l, vs, h1, z⟩
  | _ => cases h
theorem vs_app (i : Nat) {apos cpos : Pos} (he : PV X EX e fe) (hN : X.N[i]? = some x := by rfl) (hv : Vis X.env.scope x := by first | exact Or.inl rfl | exact Or.inr (Or.inl rfl) | exact Or.inr (Or.inr rfl)) (hd : (x == ("__debug__" : Str)) = false := by decide)
    (hcd : (x == ("__classdict__" : Str)) = false := by decide)
    (hpe : ∀ {to : TE} {t : TA}, PE X (.Name x p) to → PA X [e] t → PE X (.Call (.Attribute (.Name x p) "append" apos) [e] [] cpos) (tBM X.K "list" rAppend to t))
    (hst : starEach [e] X.env = (false, eval e X.env) :: starEach [] X.env := by rfl) : PVS X EX (.Expr (.Call (.Attribute (.Name x p) "append" apos) [e] [] cpos) pos) (sApp i fe) :=
  (ps_expr (hpe (pe_var hN hv hd hcd) (pa_cons he pa_nil hst))).le fun E σ H ⟨G, F, ρ, g0, o⟩ => by
    unfold sApp at o
    by_cases hl : isLst (own ρ[i]?) = true
    · rw [if_pos hl] at o
      obtain ⟨l, vs, z1, z2⟩ := isLst_slot (L := lc X EX) g0 hl
      refine ⟨_, z1, .inl ⟨rfl, _, SqL.of z2⟩, at_bnd g0 o (fun x r q => q.x) fun F1 H1 ρ1 d1 v s1 g1 r1 o1 => ?_⟩
      obtain ⟨l', vs', ρ', y1, y2, y3, g2, q⟩ := upd_good (L := lc X EX) g1 r1 (Out.bnd o1)
      rw [z1] at y1
      cases y1
      exact ⟨l, vs', v, rfl, rfl, y2, y3, q F1 _ σ s1 g2⟩
    · rw [if_neg hl] at o; exact o.elim
def rCatL (K : Frag) : R2 := fun x y H Q => ∃ l b xs zs, x = .ref l ∧ y = .ref b ∧ SqL K H l xs ∧ SqL K H b zs ∧ xs.length + zs.length ≤ sizeLine ∧ ∀ p, H p = none → Q (.ref p) (upd H p (.lst (xs ++ zs)))
theorem op_catL : OpR X (binaryOp .Add) (rCatL X.K) := by
  intro pins s σ H x y v u Q I rx ry h
  obtain ⟨l, b, xs, zs, rfl, rfl, hH, hB, hz, q⟩ := h
  cases rx
  cases ry
  obtain ⟨its, r, ⟨⟨c1, d1, dt1, sl1⟩, n, e, hc, hd, hdt⟩, _⟩ := I.list hH
  obtain ⟨its2, r2, ⟨⟨c2, d2, dt2, sl2⟩, n2, e2, hc2, hd2, hdt2⟩, _⟩ := I.list hB
  simp only at hc hd hdt hc2 hd2 hdt2
  subst hc hdt hc2 hdt2
  refine concat_meets ⟨_, e, rfl⟩ ⟨_, e2, rfl⟩ noFill_list_add seq_list_add PySem.F.slot_list_add PySem.F.entry_list_add (PySem.F.args_list_add_2 _ _)
    (list_addW l b its.toArray its2.toArray n n2 d1 d2 sl1 sl2 (by rw [List.size_toArray, List.size_toArray, ← r.length, ← r2.length]; exact hz)) ⟨e, e2, ?_⟩
  have ea : its.toArray ++ its2.toArray = (its ++ its2).toArray := by simp
  rw [ea]
  exact ⟨.ref _, _, I.lnew (t' := s.toks) (r.append r2) (by rw [List.length_append]; omega), rfl, q _ I.fresh⟩
theorem g_addL : OpG L (rCatL L.K) addL := fun G F H σ ρ x y dx dy d Q g0 rx ry e k => by
  cases dx <;> cases dy <;> try (simp only [addL, reduceCtorEq] at e; done)
  rename_i xs ys
  simp only [addL] at e
  split at e
  · rename_i hl
    cases e
    cases rx with
    | lst h1 r1 => cases ry with
      | lst h2 r2 =>
        refine ⟨_, _, _, _, rfl, rfl, SqL.same h1 g0.sub, SqL.same h2 g0.sub, by rw [r1.length, r2.length, ← LIM_eq]; exact hl, fun p hp => ?_⟩
        have sF : ∀ o, Same F (upd F p o) := fun o => same_upd (o := o) (g0.sub.free hp)
        exact k _ _ _ (sF _) (g0.laid hp) (.lst (SqL.of upd_same) (DenL.append (DenL.same (sF _) r1) (DenL.same (sF _) r2)))
  · cases e
theorem op_addA : OpR X (binaryOp .Add) (fun x y H Q => (rI0 fun i j => .int (i + j)) x y H Q ∨ (rCatA X.K x y H Q ∨ rCatL X.K x y H Q)) := OpR.or op_add (OpR.or op_catA op_catL)
theorem g_addA : OpG L (fun x y H Q => (rI0 fun i j => .int (i + j)) x y H Q ∨ (rCatA L.K x y H Q ∨ rCatL L.K x y H Q)) addA := fun G F H σ ρ x y dx dy d Q g0 rx ry e k => by
  cases dx <;> cases dy <;> try (simp only [addA, reduceCtorEq] at e; done)
  · exact .inl (g_add G F H σ ρ x y _ _ d Q g0 rx ry e k)
  · exact .inr (.inl (g_addT G F H σ ρ x y _ _ d Q g0 rx ry e k))
  · exact .inr (.inr (g_addL G F H σ ρ x y _ _ d Q g0 rx ry e k))
def RO : Rl (Option Int) (Option Int) := fun _ _ _ _ _ b a => b = a
def PPart (X : Cx) (EX : XE) (e : Option Expr) (f : Option (M D)) : Prop := PO X e (lift (lc X EX) RO (mPart f))
theorem PO_le {X : Cx} {e : Option Expr} {t t' : TO} (h : PO X e t) (k : ∀ σ H Q, t' σ H Q → t σ H Q) : PO X e t' := fun pins s σ H Q I q => h pins s σ H Q I (k _ _ _ q)
theorem pp_none : PPart X EX none none := PO_le po_none fun σ H Q ⟨G, F, ρ, g0, o⟩ => o F H none (Same.refl _) g0 rfl
theorem pp_some (h : PV X EX e fe) : PPart X EX (some e) (some fe) := PO_le (po_some h) fun σ H Q ⟨G, F, ρ, g0, o⟩ => at_bnd g0 o (fun x r q => q) fun F1 H1 ρ1 d1 x s1 g1 r1 o1 => by
  cases d1 with
  | int i => cases r1; exact ⟨i, rfl, o1 F1 H1 _ s1 g1 rfl⟩
  | _ => exact o1.elim
theorem sIx_eq (n d : Nat) (o : Option Int) : HT.sIx n d o = sIxP n d o := by
  cases o with
  | none => rfl
  | some v =>
    unfold HT.sIx sIxP
    first | rfl | (split <;> first | rfl | omega)
theorem cut_den {K : Frag} {mg : MG} {F : Hp} {vs : List V} {ds : List D} (h : DenL K mg F vs ds) (lo hi : Option Int) : DenL K mg F (cutV vs lo hi) (VP.cutD ds lo hi) := by
  unfold cutV VP.cutD
  rw [h.length, sIx_eq, sIx_eq]
  exact (h.drop _).take _
end
theorem hjs_of {js : List Nat} {m n : Nat} (h : js.all (fun j => decide (m ≤ j) && decide (j < m + n)) = true) : ∀ j ∈ js, m ≤ j ∧ j < m + n := fun j hj => by
  have := List.all_eq_true.mp h j hj
  rw [Bool.and_eq_true] at this
  exact ⟨of_decide_eq_true this.1, of_decide_eq_true this.2⟩
structure DefF (K : Frag) (mg : MG) (x : Str) (st : Stmt) (ps : List Str) (f : Addr) (fd : FuncData) : Prop where
  fu : Fun K x x st f fd
  bi : Binds K fd ps []
  mg : mg x = some (.ref f)
end VS

end
section
set_option linter.all false
set_option maxRecDepth 100000
namespace VS
open PySem PySem.Spec PyProof.Rows L2 VP
section
variable {X : Cx} {EX : XE} {L : Lc} {e a b c : Expr} {fa fb fc fe : M D} {pos : Pos} {x : Str}
def FlatD : D → Value → Prop
  | .non, v => v = .none
  | .bl k, v => v = .bool k
  | .int i, v => ∃ t, v = .int i t
  | .str s, v => ∃ t, v = .str s t
  | _, _ => False
theorem FlatD.den {d : D} {v : Value} (h : FlatD d v) : ∃ u : V, RelV u v ∧ ∀ (K : Frag) (mg : MG) (F : Hp), Den K mg F u d := by
  cases d with
  | non => cases h; exact ⟨.non, rfl, fun _ _ _ => .non⟩
  | bl k => cases h; exact ⟨.bl k, rfl, fun _ _ _ => .bl k⟩
  | int i => obtain ⟨t, rfl⟩ := h; exact ⟨.int i, ⟨t, rfl⟩, fun _ _ _ => .int i⟩
  | str s => obtain ⟨t, rfl⟩ := h; exact ⟨.str s, ⟨t, rfl⟩, fun _ _ _ => .str s⟩
  | _ => exact h.elim
def GlF (mg : MG) (x : Str) (d : D) : Prop := ∃ v, mg x = some v ∧ FlatD d v
theorem pv_globF {d : D} (hm : GlF X.mg x d) (hg : Gl X x) (hd : (x == ("__debug__" : Str)) = false := by decide) : PV X EX (.Name x pos) (mC d) := by
  obtain ⟨v, h1, h2⟩ := hm
  obtain ⟨u, r, den⟩ := h2.den
  exact pv_of (pe_glob hg h1 r hd) (fun _ _ _ q => q) fun F => den _ _ F
theorem chain_le {r r' : R2} {g g' : D → D → Option D} (hg : OpG (lc X EX) r g) (hg' : OpG (lc X EX) r' g') {ta tb tc : TE} (ha : ∀ σ H Q, lift (lc X EX) (RV (lc X EX)) fa σ H Q → ta σ H Q) (hb : ∀ σ H Q, lift (lc X EX) (RV (lc X EX)) fb σ H Q → tb σ H Q)
    (hc : ∀ σ H Q, lift (lc X EX) (RV (lc X EX)) fc σ H Q → tc σ H Q) (σ : St) (H : Hp) (Q : VK) (h : lift (lc X EX) (RV (lc X EX)) (m3c g g' fa fb fc) σ H Q) : tChain r r' ta tb tc σ H Q := by
  obtain ⟨G, F, ρ, g0, o⟩ := h
  refine ha _ _ _ (at_bnd g0 o (fun x r q => q) fun F1 H1 ρ1 d1 x s1 g1 r1 o1 => ?_)
  refine hb _ _ _ (at_bnd g1 o1 (fun x r q => q.same s1) fun F2 H2 ρ2 d2 y s2 g2 r2 o2 => ?_)
  obtain ⟨d, e, q⟩ := o2.bnd.opt
  refine hg G F2 H2 σ ρ2 x y d1 d2 d _ g2 (r1.same s2) r2 e fun F3 H3 v s3 g3 r3 => ?_
  cases d with
  | bl k =>
    cases r3
    refine ⟨k, rfl, ?_⟩
    cases k with
    | true =>
      refine iteT (hc _ _ _ (at_bnd g3 q (fun x r q => q.same (s1.trans (s2.trans s3))) fun F4 H4 ρ4 d4 z s4 g4 r4 o4 => ?_))
      obtain ⟨d5, e5, q5⟩ := o4.opt
      exact hg' G F4 H4 σ ρ4 y z d2 d4 d5 Q g4 (r2.same (s3.trans s4)) r4 e5 (Post.same (s1.trans (s2.trans (s3.trans s4))) q5)
    | false => exact iteF (q F3 H3 _ (s1.trans (s2.trans s3)) g3 (.bl _))
  | _ => exact q.elim
theorem pb_chain {op op' : CmpOp} {r r' : R2} {g g' : D → D → Option D} (ho : OpR X (compareOp op) r) (ho' : OpR X (compareOp op') r') (hg : OpG (lc X EX) r g) (hg' : OpG (lc X EX) r' g') (ha : PV X EX a fa) (hb : PV X EX b fb) (hc : PV X EX c fc)
    (hm : lastMarks [op, op'] [b, c] = false := by with_unfolding_all rfl) : PB X EX (.Compare a [op, op'] [b, c] pos) (VP.tB (m3c g g' fa fb fc)) :=
  (pt_chain ho ho' ha hb hc hm).le fun σ H Q ⟨G, F, ρ, g0, o⟩ => by
    refine chain_le hg hg' (fun _ _ _ q => q) (fun _ _ _ q => q) (fun _ _ _ q => q) σ H _ (at_bnd g0 o (fun x r q => q) fun F1 H1 ρ1 d1 x s1 g1 r1 o1 => ?_)
    cases d1 with
    | bl k => cases r1; exact ⟨k, rfl, o1 F1 H1 k s1 g1 rfl⟩
    | _ => exact o1.elim
theorem getItem_tuple_whole {prog : Program} {w : World} {A : Around} {E : Value → Shared → Prop} {s : Shared} {t sl : Addr} {items : Array Value} {vl vu : Value} {lo hi : Option Int} {Q : Value → Shared → Prop} (ht : IsTup s.heap t items) (hs : s.heap.IsSliceOf sl vl vu .none) (pl : IsPart vl lo) (pu : IsPart vu hi)
    (hw : HT.sIx items.size 0 lo = 0 ∧ HT.sIx items.size items.size hi = items.size) (h : Q (.ref t) s) : wpAny (model prog w) A (getItem (.ref t) (.ref sl)) Q E s := by
  obtain ⟨os, hos, hcs, hds⟩ := id hs
  have hTs : s.TypeIs (.ref sl) "slice" := ⟨os, hos, hcs⟩
  unfold getItem
  try with_reducible refine wpAny_holding ?_
  first | refine wpAny_bind (wpAny_pure ?_) | skip
  refine wpAny_bind (wpAny_sequenceKey ht.typeIs (by decide) ?_)
  refine wpAny_bind (wpAny_callSpecial?_slot (name := Str.ofString "__getitem__") ht.typeIs PyProof.Rows.slot_tuple_getitem
    (wpAny_call_entry PyProof.Rows.slot_tuple_getitem ht.typeIs entry_tuple_getitem ?_ (args_tuple_getitem _ _)))
  show wpAny _ _ (Builtin.Tuple.tupleItemsOf (.ref t) >>= _) _ _ s
  refine wpAny_bind (PyProof.Rows.tupleItemsOf_ ht ?_)
  refine wpAny_bind (wpAny_typeOf hTs ?_)
  rw [if_pos (by decide)]
  refine wpAny_bind (HT.sliceApplied_gen hs pl pu ?_)
  have hyes : (((HT.sIx items.size 0 lo : Nat) : Int) == 0 && (1 : Int) == 1 && (HT.sIx items.size items.size hi - HT.sIx items.size 0 lo) == items.size) = true := by
    rw [hw.1, hw.2]; simp
  show wpAny _ _ (if (((HT.sIx items.size 0 lo : Nat) : Int) == 0 && (1 : Int) == 1 && (HT.sIx items.size items.size hi - HT.sIx items.size 0 lo) == items.size) = true then _ else _) _ _ s
  rw [if_pos hyes]
  refine wpAny_bind ?_
  unfold Builtin.Tuple.tupleIsExact
  refine wpAny_bind (wpAny_typeOf ht.typeIs (wpAny_pure ?_))
  rw [if_pos (by decide)]
  refine wpAny_bind (wpAny_rule (wpAny_pure ⟨_, rfl, wpAny_pure h⟩))
def rSlA (K : Frag) : V → Option Int → Option Int → Hp → VK → Prop := fun x lo hi H Q => ∃ q xs, x = .ref q ∧ SqT K H q xs ∧
  (cutV xs lo hi = xs → Q (.ref q) H) ∧ ∀ p, H p = none → Q (.ref p) (upd H p (.tup (cutV xs lo hi)))
theorem sl_tupA : L2.SlR X (rSlA X.K) := by
  intro pins s σ H x v vl vu lo hi sl Q I rx hs pl pu h
  obtain ⟨q, xs, rfl, hx, h1, h2⟩ := h
  by_cases hw : HT.sIx xs.length 0 lo = 0 ∧ HT.sIx xs.length xs.length hi = xs.length
  · cases rx
    obtain ⟨its, r, ht, hz⟩ := I.tuple hx
    have hlen : its.toArray.size = xs.length := by rw [List.size_toArray]; exact r.length.symm
    refine ⟨"tuple", _, PyProof.Rows.slot_tuple_getitem.lookup, ht.typeIs, getItem_tuple_whole ht hs pl pu (by rw [hlen]; exact hw) ⟨.ref q, H, I, rfl, h1 ?_⟩⟩
    unfold cutV
    rw [hw.1, hw.2]
    simp
  · exact sl_tup pins s σ H _ v vl vu lo hi sl Q I rx hs pl pu ⟨q, xs, rfl, hx, hw, h2⟩
theorem slicePick_gen (items : Array Value) (lo hi : Option Int) : slicePick items lo hi none = ((items.toList.drop (HT.sIx items.size 0 lo)).take (HT.sIx items.size items.size hi - HT.sIx items.size 0 lo)).toArray := by
  have e : sliceBounds lo hi none items.size = (((HT.sIx items.size 0 lo : Nat) : Int), ((HT.sIx items.size items.size hi : Nat) : Int), 1) := by
    simp only [sliceBounds, Option.getD_none]
    simp only [show (1 : Int) > 0 by decide, if_true]
    cases lo with
    | none => cases hi with
      | none => rfl
      | some j => simp only [HT.sIx]; congr 1; congr 1; split <;> omega
    | some i => cases hi with
      | none => simp only [HT.sIx]; congr 1; split <;> omega
      | some j => simp only [HT.sIx]; congr 1; (split <;> omega); congr 1; split <;> omega
  unfold slicePick
  rw [e]
  simp only [sliceRange_one, pick_run]
def rSlL (K : Frag) : V → Option Int → Option Int → Hp → VK → Prop := fun x lo hi H Q => ∃ q xs, x = .ref q ∧ SqL K H q xs ∧ ∀ p, H p = none → Q (.ref p) (upd H p (.lst (cutV xs lo hi)))
theorem sl_lst : L2.SlR X (rSlL X.K) := by
  intro pins s σ H x v vl vu lo hi sl Q I rx hs pl pu h
  obtain ⟨q, xs, rfl, hx, h1⟩ := h
  cases rx
  obtain ⟨its, r, ht, hz⟩ := I.list hx
  have hlen : its.toArray.size = xs.length := by rw [List.size_toArray]; exact r.length.symm
  refine ⟨"list", _, slot_list_getitem.lookup, ht.isList.typeIs, wpAny_getItem_list_slice ht.isList hs pl pu .none (by decide) ?_ (by rw [hlen]; exact hz)⟩
  rw [slicePick_gen, hlen]
  exact ⟨.ref _, _, I.lnew (t' := s.toks) ((r.drop (HT.sIx xs.length 0 lo)).take (HT.sIx xs.length xs.length hi - HT.sIx xs.length 0 lo)) (Nat.le_trans (cutV_length xs lo hi) hz), rfl, h1 _ I.fresh⟩
theorem pv_sl {lo hi : Option Expr} {fl fh : Option (M D)} {p2 : Pos} (he : PV X EX e fe) (hl : PPart X EX lo fl) (hh : PPart X EX hi fh) : PV X EX (.Subscript e (.Slice lo hi none p2) pos) (mSl cutA fe fl fh) :=
  (pe_slice (sl_tupA.or sl_lst) he hl hh).le fun σ H Q ⟨G, F, ρ, g0, o⟩ => at_bnd g0 o (fun x r q => q) fun F1 H1 ρ1 d1 x s1 g1 r1 o1 =>
    at_bnd g1 o1 (fun x r q => q.same s1) fun F2 H2 ρ2 l l' s2 g2 r2 o2 => at_bnd g2 o2 (fun x r q => q.same (s1.trans s2)) fun F3 H3 ρ3 h h' s3 g3 r3 o3 => by
      cases r2
      cases r3
      obtain ⟨d, e1, q⟩ := o3.opt
      have r1' := r1.same (s2.trans s3)
      cases d1 with
      | tup ds =>
        cases e1
        cases r1' with
        | tup hq rq =>
          refine .inl ⟨_, _, rfl, SqT.same hq g3.sub, fun e2 => ?_, fun p hp => ?_⟩
          · have := cut_den rq l h
            rw [e2] at this
            exact q F3 H3 _ (s1.trans (s2.trans s3)) g3 (.tup hq this)
          · rename_i vs
            have sF := same_upd (o := .tup (cutV vs l h)) (g3.sub.free hp)
            exact q _ _ _ (s1.trans (s2.trans (s3.trans sF))) (g3.laid hp) (.tup (SqT.of upd_same) ((cut_den rq l h).same sF))
      | lst ds =>
        cases e1
        cases r1' with
        | lst hq rq =>
          refine .inr ⟨_, _, rfl, SqL.same hq g3.sub, fun p hp => ?_⟩
          rename_i vs
          have sF := same_upd (o := .lst (cutV vs l h)) (g3.sub.free hp)
          exact q _ _ _ (s1.trans (s2.trans (s3.trans sF))) (g3.laid hp) (.lst (SqL.of upd_same) ((cut_den rq l h).same sF))
      | _ => cases e1
end
end VS

end
section
set_option linter.all false
set_option maxRecDepth 100000
namespace VS
open PySem PySem.Spec PyProof.Rows L2 VP
namespace RV
theorem slot_init : Slot "reversed" "__init__" "object.__init__" :=
  .of (owner := "object") (n := "__init__") (by rw [typeLookup_type, builtinLookup_eq_fast]; kernel_rfl) (by decide +kernel) (by decide +kernel) (by decide +kernel) (by first | exact .inl (by decide +kernel) | exact .inr (by decide +kernel)) (by rw [isSubtype_type]; kernel_rfl)
theorem called : TypeCalled "reversed" "reversed.__new__" "object.__init__" :=
  ⟨by decide +kernel, PySem.F.create_reversed, ⟨_, _, PySem.F.mro_reversed⟩, PySem.F.made_reversed, PySem.F.plain_reversed_new, PySem.F.sub_reversed_self, slot_init⟩
theorem no_rev_tuple : typeLookup (.type "tuple") "__reversed__" = pure none := by rw [typeLookup_type, builtinLookup_eq_fast]; kernel_rfl
theorem tuple_no_dict : isSubtype (.type "tuple") (.type "dict") = pure false := by rw [isSubtype_type]; kernel_rfl
section
variable {prog : Program} {w : World} {A : Around} {E : Value → Shared → Prop} {s : Shared}
def obj (t : Addr) (i : Int) : Obj := { cls := .type "reversed", data := .fields #[.ref t, rawInt i] }
def Is (h : Heap) (a t : Addr) (i : Int) : Prop := ∃ o, h.get? a = some o ∧ o.cls = .type "reversed" ∧ o.data = .fields #[.ref t, rawInt i]
theorem code_new {t : Addr} {items : Array Value} {Q₁ : Value → Shared → Prop} (ht : IsTup s.heap t items) (hz : items.size ≤ sizeLine)
    (h : ∀ tk, Q₁ (.ref s.heap.objs.size) { s with heap := s.heap.push (obj t ((items.size : Int) - 1)), toks := tk }) :
    codeAny (model prog w) A (.call (.builtin "reversed.__new__") ⟨[.type "reversed", .ref t], []⟩) (wants Q₁ E) s := by
  refine codeAny_of_tree ?_
  refine wpAny_bind (m := checkBuiltinCall "reversed.__new__" ⟨[.type "reversed", .ref t], []⟩) (wpAny_of_eq (PySem.F.newCall_reversed_1 _) (wpAny_pure ⟨plainId_quiet PySem.F.plain_reversed_new _, codeAny_builtin PySem.F.entry_reversed_new ?_⟩))
  rw [Around.under_plainId PySem.F.plain_reversed_new _]
  unfold Builtin.«reversed.__new__»
  refine wpAny_bind (wpAny_of_eq (newClass_reversed _) ?_)
  refine wpAny_bind (wpAny_of_eq (a := ()) (by first | rfl | kernel_rfl) ?_)
  refine wpAny_bind (wpAny_of_eq (a := ()) (by first | rfl | kernel_rfl) ?_)
  try dsimp only
  refine wpAny_bind (wpAny_specialOf ht.typeIs no_rev_tuple ?_)
  try dsimp only
  refine wpAny_bind (wpAny_bind (m := isInstance (.ref t) (.type "dict")) (wpAny_isInstance (b := false) ht.typeIs tuple_no_dict ?_))
  refine wpAny_bind (m := specialOf (.ref t) "__getitem__") (wpAny_specialOf ht.typeIs PyProof.Rows.slot_tuple_getitem.lookup ?_)
  refine wpAny_pure ?_
  refine wpAny_bind (m := call (Value.builtin "len") [Value.ref t]) (len_tuple ht (by rw [sizeLine_eq] at hz; omega) ?_)
  refine wpAny_bind (m := asInt? (.int items.size _)) (wpAny_pure ?_)
  refine wpAny_bind (m := newObj (.type "reversed") (.fields #[.ref t, rawInt ((items.size : Int) - 1)])) (wpAny_newObj_type (wpAny_pure (h _)))
theorem make {t : Addr} {items : Array Value} {Q : Value → Shared → Prop} (ht : IsTup s.heap t items) (hz : items.size ≤ sizeLine)
    (h : ∀ tk, Q (.ref s.heap.objs.size) { s with heap := s.heap.push (obj t ((items.size : Int) - 1)), toks := tk }) : wpAny (model prog w) A (call (.type "reversed") [.ref t]) Q E s := by
  refine callType_codes (Q₁ := fun o s₁ => s₁.TypeIs o "reversed" ∧ Q o s₁) called (PySem.F.typeCall_reversed_1 _) PySem.F.entry_object_init (code_new ht hz fun tk => ⟨⟨_, Heap.get?_push_size _ rfl, rfl⟩, h tk⟩) fun o s₁ h₁ => ?_
  exact ⟨h₁.1, PySem.F.args_object_init_2 o _, object_init_meets called.init.lookup called.made (by decide) prog w A.in1 _ s₁ ⟨h₁.1, rfl, h₁.2⟩⟩
theorem Is.typeIs {a t : Addr} {i : Int} (x : Is s.heap a t i) : s.TypeIs (.ref a) "reversed" := let ⟨o, ho, hc, _⟩ := x; ⟨o, ho, hc⟩
end
end RV
section
variable {X : Cx} {EX : XE} {L : Lc} {e a b tg : Expr} {fa fb fe : M D} {pos p : Pos} {x : Str}
end
end VS

end
section
set_option linter.all false
set_option maxRecDepth 100000
namespace VS
open PySem PySem.Spec PyProof.Rows L2 VP
namespace GA
section
variable {prog : Program} {w : World} {A : Around} {E : Value → Shared → Prop} {s : Shared} {I : Addr} {fp wr : List Addr} {n : Nat} {P : Nat → Value → Prop} {St : Nat → Heap → Prop} {T : String}
end
section
variable {prog : Program} {w : World} {A : Around}
end
end GA
section
variable {X : Cx} {EX : XE} {L : Lc} {e a b tg : Expr} {fa fb fe : M D} {pos p pos' p' : Pos}
end
end VS

end
section
set_option linter.all false
set_option maxRecDepth 100000
namespace VS
open PySem PySem.Spec PyProof.Rows L2 VP
namespace GA
section
variable {prog : Program} {w : World} {A : Around} {E : Value → Shared → Prop} {s : Shared} {I : Addr} {fp wr : List Addr} {n : Nat} {P : Nat → Value → Prop} {St : Nat → Heap → Prop} {T : String}
end
end GA
section
variable {X : Cx} {EX : XE} {L : Lc} {a : Expr} {fa : M D} {p pos p' pos' : Pos}
def rAll (K : Frag) (al : Bool) : List V → Hp → VK → Prop := fun xs H Q => ∃ (q : Addr) (bs : List Bool), xs = [.ref q] ∧ SqL K H q (bs.map V.bl) ∧ Q (.bl (if al then bs.all id else bs.any id)) H
theorem bools_are : ∀ {bs : List Bool} {us : List Value}, Vals (bs.map V.bl) us → us = bs.map Value.bool
  | [], _, h => by cases h; rfl
  | b :: bs, _, h => by
    cases h with
    | cons h1 h2 => rw [bools_are h2, List.map_cons]; cases (show _ = Value.bool b from h1); rfl
theorem range_all (bs : List Bool) : (List.range bs.length).all (fun i => bs.getD i false) = bs.all id ∧ (List.range bs.length).any (fun i => bs.getD i false) = bs.any id := by
  have e : (List.range bs.length).map (fun i => bs.getD i false) = bs := by
    apply List.ext_getElem
    · simp
    · intro i h1 h2; simp [h2]
  refine ⟨?_, ?_⟩
  · rw [show bs.all id = ((List.range bs.length).map fun i => bs.getD i false).all id by rw [e], List.all_map]; rfl
  · rw [show bs.any id = ((List.range bs.length).map fun i => bs.getD i false).any id by rw [e], List.any_map]; rfl
theorem call_allB (hc : X.calm = true) (al : Bool) : CallR X (.builtin (if al then "all" else "any")) (rAll X.K al) := by
  intro pins s σ H xs us Q I r h
  obtain ⟨q, bs, rfl, hq, k⟩ := h
  obtain ⟨u, rfl, ru⟩ := vals1 r
  cases ru
  obtain ⟨its, rv, pl, hz⟩ := I.list hq
  have e := bools_are rv
  subst e
  have lt : q < s.heap.objs.size := by obtain ⟨o, e, _⟩ := pl.isList; exact Heap.lt_size e
  have hh : X.A.in1.handled = none := I.ok.hd hc
  have W := Walks.list (prog := X.prog) (w := X.w) (A := X.A.in1) hh s.heap.objs.size q (Nat.ne_of_lt lt) (bs.map Value.bool).toArray
  have st : (fun i (h : Heap) => h.IsListIter s.heap.objs.size q i ∧ h.IsList q (bs.map Value.bool).toArray) 0 (s.heap.push { cls := .type "list_iterator", data := .fields #[.ref q, .int 0 0] }) :=
    ⟨⟨_, Heap.get?_push_size _ rfl, rfl, rfl⟩, pl.isList.push _⟩
  have tr : TruthOf X.prog X.w X.A.in1 (fun i v => (bs.map Value.bool).toArray[i]? = some v) (fun i => bs.getD i false) := fun i v s Q E hP hQ => by
    have hP' : bs[i]?.map Value.bool = some v := by simpa using hP
    cases e : bs[i]? with
    | none => rw [e] at hP'; cases hP'
    | some b =>
      rw [e] at hP'
      cases hP'
      have : bs.getD i false = b := by simp [e]
      dsimp only at hQ
      rw [this] at hQ
      exact wpAny_truthy_bool hQ
  have kp : ∀ (h' : Heap), (∀ b o, b ∉ [s.heap.objs.size] → (s.heap.push { cls := .type "list_iterator", data := .fields #[.ref q, .int 0 0] }).get? b = some o → h'.get? b = some o) → ∀ b o, s.heap.get? b = some o → h'.get? b = some o := fun h' hk b o e => by
    have lt := Heap.lt_size e
    have n1 : b ≠ s.heap.objs.size := Nat.ne_of_lt lt
    exact hk b o (by simp [n1]) (Heap.get?_push_of_some _ e)
  have hsz : (bs.map Value.bool).toArray.size = bs.length := by simp
  cases al with
  | true =>
    refine call_all_walk (wpAny_pyIter_list pl.isList ⟨_, _, _, _, _, _, _, rfl, W, st, tr, fun h' tk hk => ?_⟩)
    rw [hsz, (range_all bs).1]
    exact ⟨.bl _, H, I.kept (kp h' hk), rfl, k⟩
  | false =>
    refine call_any_walk (wpAny_pyIter_list pl.isList ⟨_, _, _, _, _, _, _, rfl, W, st, tr, fun h' tk hk => ?_⟩)
    rw [hsz, (range_all bs).2]
    exact ⟨.bl _, H, I.kept (kp h' hk), rfl, k⟩
theorem bls_of {K : Frag} {mg : MG} {F : Hp} : ∀ {vs : List V} {ds : List D} {bs : List Bool}, DenL K mg F vs ds → boolsD ds = some bs → vs = bs.map V.bl
  | _, _, _, .nil, e => by cases e; rfl
  | _, _, _, .cons (d := d) h t, e => by
    cases d with
    | bl b =>
      cases h
      simp only [boolsD] at e
      cases q : boolsD _ with
      | none => rw [q] at e; cases e
      | some bs =>
        rw [q] at e
        cases e
        rw [bls_of t q]; rfl
    | _ => cases e
theorem g_allB (al : Bool) : F1G L (rAll L.K al) (allD al) := fun G F H σ ρ x dx d Q g0 rx e k => by
  cases dx with
  | lst ds =>
    simp only [allD] at e
    cases e2 : boolsD ds with
    | none => rw [e2] at e; cases e
    | some bs =>
      rw [e2] at e
      cases e
      obtain ⟨q, vs, rfl, r, z⟩ := RR.seq rx g0 rfl
      rcases z with ⟨_, z⟩ | ⟨z, _⟩
      · rw [bls_of r e2] at z
        exact ⟨q, bs, rfl, z, k F H _ (Same.refl _) g0 (.bl _)⟩
      · cases z
  | _ => cases e
theorem call_allT (hc : X.calm = true) : CallR X (.builtin "all") (rAll X.K true) := call_allB hc true
theorem call_anyT (hc : X.calm = true) : CallR X (.builtin "any") (rAll X.K false) := call_allB hc false
theorem boot_all : bootBuiltins "all" = some (.builtin "all") := by kernel_rfl
theorem boot_any : bootBuiltins "any" = some (.builtin "any") := by kernel_rfl
theorem setAt_good {L : Lc} {G : Fx} {F H : Hp} {σ : St} {ρ : Rho} {k : Nat} {kd x : D} {v : V} {P : Unit → Rho → Prop} {E : Xn → Rho → Prop} (g : L.Good G F H σ ρ) (r : Den L.K L.mg F v x) (o : Out (mUpd k (setAt kd x) ρ) P E) :
    ∃ l vs i j ρ', kd = .int i ∧ σ[k]? = some (some (V.ref l)) ∧ H l = some (.lst vs) ∧ ixN vs.length i = some j ∧ L.Good G F (upd H l (.lst (vs.set j v))) σ ρ' ∧ P () ρ' := by
  unfold mUpd at o
  cases q : own ρ[k]? with
  | none => rw [q] at o; exact o.elim
  | some d =>
    rw [q] at o
    dsimp only at o
    cases q2 : setAt kd x d with
    | none => rw [q2] at o; exact o.elim
    | some d' =>
      rw [q2] at o
      have o' : P () (putS k d' ρ) := o
      cases d with
      | lst ds =>
        cases kd with
        | int i =>
          simp only [setAt] at q2
          cases q4 : ixP ds.length i with
          | none => rw [q4] at q2; cases q2
          | some j =>
            rw [q4] at q2
            cases q2
            cases q3 : ρ[k]? with
            | none => rw [q3] at q; cases q
            | some s =>
              rw [q3] at q
              have sl := g.slot k s q3
              have fin : ∀ l s', σ[k]? = some (some (V.ref l)) → Owned s = true → Obj1 L.K L.mg F H l (.lst ds) → ((∃ e, s = .ow e ∧ s' = .ow (.lst (ds.set j x))) ∨ (∃ e, s = .io e ∧ s' = .io (.lst (ds.set j x)))) → putS k (.lst (ds.set j x)) ρ = ρ.set k s' →
                  ∃ l vs i' j ρ', D.int i = .int i' ∧ σ[k]? = some (some (V.ref l)) ∧ H l = some (.lst vs) ∧ ixN vs.length i' = some j ∧ L.Good G F (upd H l (.lst (vs.set j v))) σ ρ' ∧ P () ρ' := fun l s' z1 z2 z3 z4 z5 => by
                obtain ⟨vs, y1, y2⟩ := z3
                refine ⟨l, vs, i, j, _, rfl, z1, y1, by rw [y2.length]; exact q4, Good.write g q3 z2 z1 z4 ⟨_, upd_same, y2.set j r⟩, ?_⟩
                rw [← z5]; exact o'
              cases s with
              | no => cases q
              | sh e => cases q
              | ow e =>
                cases q
                obtain ⟨l, z1, z2, z3, z4⟩ := sl
                exact fin l _ (join_some z1) rfl z4 (.inl ⟨_, rfl, rfl⟩) (by unfold putS; rw [q3])
              | io e =>
                cases q
                obtain ⟨l, z1, z2, z3, z4⟩ := sl
                exact fin l _ (join_some z1) rfl z4 (.inr ⟨_, rfl, rfl⟩) (by unfold putS; rw [q3])
        | _ => cases q2
      | _ => cases q2
variable {b value : Expr} {fk fv : M D} {x : Str}
theorem vs_setIx (i : Nat) {p1 p2 p3 : Pos} (hk : PV X EX b fk) (hv : PV X EX value fv) (hN : X.N[i]? = some x := by rfl) (hvs : Vis X.env.scope x := by first | exact Or.inl rfl | exact Or.inr (Or.inl rfl) | exact Or.inr (Or.inr rfl)) (hd : (x == ("__debug__" : Str)) = false := by decide)
    (hcd : (x == ("__classdict__" : Str)) = false := by decide) (hs : swapsWithSole [.Subscript (.Name x p1) b p2] value p3.line X.env = pure false := by rfl) (hw : swappedStores [.Subscript (.Name x p1) b p2] value X.env = pure none := by rfl)
    (h1 : (assignEach [.Subscript (.Name x p1) b p2] X.env).map (·.2) = [assign (.Subscript (.Name x p1) b p2) X.env] := by rfl)
    (ha : ∀ v, assign (.Subscript (.Name x p1) b p2) X.env v = (do
      let ov ← holding [v] (eval (.Name x p1) X.env)
      let iv ← holding [v, ov] (eval b X.env)
      standAt p2
      holding [v, ov, iv] (setItem ov iv v)
      release [v, ov, iv] []) := by intro _; rfl) : PVS X EX (.Assign [.Subscript (.Name x p1) b p2] value p3) (sSetIx i fk fv) :=
  (ps_asg hv (pg_sub (pe_var hN hvs hd hcd) hk set_list ha) hs hw h1).le fun E σ H ⟨G, F, ρ, g0, o⟩ => at_bnd g0 o (fun x r q => q.x) fun F1 H1 ρ1 d1 v s1 g1 r1 o1 => by
    by_cases hl : isLst (own ρ1[i]?) = true
    · rw [if_pos hl] at o1
      obtain ⟨l, vs, z1, z2⟩ := isLst_slot (L := lc X EX) g1 hl
      refine ⟨_, z1, at_bnd g1 o1 (fun x r q => (q.same s1).x) fun F2 H2 ρ2 d2 y s2 g2 r2 o2 => ?_⟩
      obtain ⟨l', vs', k, j, ρ', y0, y1, y2, y3, g3, q⟩ := setAt_good (L := lc X EX) g2 (r1.same s2) (Out.bnd o2)
      rw [z1] at y1
      cases y1
      subst y0
      cases r2
      exact ⟨l, vs', k, j, rfl, rfl, y2, y3, q F2 _ σ (s1.trans s2) g3⟩
    · rw [if_neg hl] at o1; exact o1.elim
end
end VS

end
section
set_option linter.all false
set_option maxRecDepth 100000
namespace VS
open PySem PySem.Spec PyProof.Rows L2 VP
section
variable {X : Cx} {EX : XE} {L : Lc} {e a b c : Expr} {fa fb fc fe : M D} {pos : Pos} {x : Str}
theorem FlatD.dens : ∀ {ds : List D} {us : List Value}, Paired FlatD ds us → ∃ vs : List V, Vals vs us ∧ ∀ (K : Frag) (mg : MG) (F : Hp), DenL K mg F vs ds
  | _, _, .nil => ⟨[], .nil, fun _ _ _ => .nil⟩
  | _, _, .cons h t => by
    obtain ⟨v, r, d⟩ := h.den
    obtain ⟨vs, rs, es⟩ := FlatD.dens t
    exact ⟨v :: vs, .cons r rs, fun K mg F => .cons (d K mg F) (es K mg F)⟩
def ValK (K : Frag) (d : D) (v : Value) : Prop := FlatD d v ∨ ∃ (ds : List D) (q : Addr) (its : Array Value) (n : Nat), d = .tup ds ∧ v = .ref q ∧ K.lookup q = some ⟨.type "tuple", none, .seq its n, #[]⟩ ∧ its.size ≤ sizeLine ∧ Paired FlatD ds its.toList
theorem ValK.den {K : Frag} {d : D} {v : Value} (h : ValK K d v) : ∃ u : V, RelV u v ∧ ∀ (mg : MG) (F : Hp), Den K mg F u d := by
  rcases h with h | ⟨ds, q, its, n, rfl, rfl, hl, hz, hp⟩
  · obtain ⟨u, r, d⟩ := h.den
    exact ⟨u, r, fun mg F => d K mg F⟩
  · obtain ⟨vs, rs, es⟩ := FlatD.dens hp
    exact ⟨.ref q, rfl, fun mg F => .tup (.inr ⟨_, its, n, hl, rfl, rfl, hz, rs⟩) (es K mg F)⟩
theorem valT {K : Frag} {ds : List D} {q : Addr} {its : Array Value} {n : Nat} (hl : K.lookup q = some ⟨.type "tuple", none, .seq its n, #[]⟩) (hz : its.size ≤ sizeLine) (hp : Paired FlatD ds its.toList) : ValK K (.tup ds) (.ref q) := .inr ⟨ds, q, its, n, rfl, rfl, hl, hz, hp⟩
structure TabT (w : World) (K : Frag) (mg : MG) (x : Str) (t : List (Str × D)) (ab : List Str) : Prop where
  ex : ∃ (q : Addr) (es : Array DictEntry) (n : Nat), mg x = some (.ref q) ∧ (q == sysModules) = false ∧ K.lookup q = some ⟨.type "dict", none, .dict es n, #[]⟩ ∧ PySem.W.KeysLit w.params es.toList ∧ (∀ k d, t.lookup k = some d → ∃ v, PySem.W.nsIn K q k = some (some v) ∧ ValK K d v) ∧ ∀ k ∈ ab, PySem.W.nsIn K q k = some none
theorem tabT_all {K : Frag} {q : Addr} {t : List (Str × D)} (h : ∀ p ∈ t, ∃ v, PySem.W.nsIn K q p.1 = some (some v) ∧ ValK K p.2 v) : ∀ k d, t.lookup k = some d → ∃ v, PySem.W.nsIn K q k = some (some v) ∧ ValK K d v :=
  fun k d e => h (k, d) (PySem.mem_of_lookup e)
theorem pv_tabT {t : List (Str × D)} {ab : List Str} {p : Pos} (T : TabT X.w X.K X.mg x t ab) (hg : Gl X x) (hb : PV X EX b fb) (hdb : (x == ("__debug__" : Str)) = false := by decide)
    (hs : ∀ (q : Addr) (k : Str) (tk : Tok), subscripted b false (.ref q) (.str k tk) = operate [.ref q, .str k tk] (getItem (.ref q) (.str k tk)) := by intro _ _ _; with_unfolding_all rfl) :
    PV X EX (.Subscript (.Name x p) b pos) (m1 (tabD t) fb) := by
  intro pins s σ H Q I h
  obtain ⟨G, F, ρ, g0, o⟩ := h
  obtain ⟨q, es, n, hm, _, hl, hk, hv, _⟩ := T.ex
  refine Subscript_ (ld_glob I hg hm ?_ hdb)
  refine thn (hb pins s σ H _ I (at_bnd g0 o (fun x r q => q) fun F1 H1 ρ1 d1 y s1 g1 r1 o1 => (⟨F1, ρ1, d1, s1, g1, r1, o1⟩ : ∃ F1 ρ1 d1, Same F F1 ∧ (lc X EX).Good G F1 H1 σ ρ1 ∧ Den X.K X.mg F1 y d1 ∧ Out (opt (tabD t d1) ρ1) (Post (lc X EX) (RV (lc X EX)) G F σ Q) (PostX (lc X EX) G F σ)))) fun u s2 ⟨y, H2, I2, r2, F1, ρ1, d1, s1, g1, den, o1⟩ => ?_
  obtain ⟨d, e1, q1⟩ := o1.opt
  cases d1 with
  | str k =>
    cases den
    obtain ⟨tk, rfl⟩ := r2
    obtain ⟨v, hn, fl⟩ := hv k d e1
    obtain ⟨u2, ru, den2⟩ := fl.den
    have hm2 := PySem.W.mapOf_K (prog := X.prog) (w := X.w) I2.kIn hl hk
    refine PyProof.Rows.tail_any hm2.typeIs slot_dict_getitem.lookup (wpAny_getItem_of (strKind_is X.prog X.w k tk) hm2 (PySem.W.find_K hl hn) ?_) (hs q k tk)
    exact ⟨u2, H2, I2.tok _, ru, q1 F1 H2 u2 s1 g1 (den2 _ F1)⟩
  | _ => cases e1
def rInTab (w : World) (K : Frag) (neg : Bool) : R2 := fun x y H Q => ∃ (k : Str) (q : Addr) (es : Array DictEntry) (n : Nat) (r : Option Value), x = .str k ∧ y = .ref q ∧ (q == sysModules) = false ∧ K.lookup q = some ⟨.type "dict", none, .dict es n, #[]⟩ ∧ PySem.W.KeysLit w.params es.toList ∧
  PySem.W.nsIn K q k = some r ∧ Q (.bl (if neg then !r.isSome else r.isSome)) H
theorem op_inTab : OpR X (compareOp .In) (rInTab X.w X.K false) := by
  intro pins s σ H x y v u Q I rx ry h
  obtain ⟨k, q, es, n, r, rfl, rfl, lo, hl, hk, hn, hq⟩ := h
  obtain ⟨tk, rfl⟩ := rx
  cases ry
  have hm2 := PySem.W.mapOf_K (prog := X.prog) (w := X.w) I.kIn hl hk
  refine wpAny_in_of (strKind_is X.prog X.w k tk) lo hm2 ?_
  rw [PySem.W.find_K hl hn]
  exact ⟨.bl _, H, I.tok _, rfl, hq⟩
theorem op_notInTab : OpR X (compareOp .NotIn) (rInTab X.w X.K true) := by
  intro pins s σ H x y v u Q I rx ry h
  obtain ⟨k, q, es, n, r, rfl, rfl, lo, hl, hk, hn, hq⟩ := h
  obtain ⟨tk, rfl⟩ := rx
  cases ry
  have hm2 := PySem.W.mapOf_K (prog := X.prog) (w := X.w) I.kIn hl hk
  refine wpAny_notIn_of (strKind_is X.prog X.w k tk) lo hm2 ?_
  rw [PySem.W.find_K hl hn]
  exact ⟨.bl _, H, I.tok _, rfl, hq⟩
theorem inTab_le {neg : Bool} {t : List (Str × D)} {ab : List Str} {q : Addr} {es : Array DictEntry} {n : Nat} (lo : (q == sysModules) = false) (hl : X.K.lookup q = some ⟨.type "dict", none, .dict es n, #[]⟩) (hk : PySem.W.KeysLit X.w.params es.toList)
    (hv : ∀ k d, t.lookup k = some d → ∃ v, PySem.W.nsIn X.K q k = some (some v) ∧ ValK X.K d v) (hab : ∀ k ∈ ab, PySem.W.nsIn X.K q k = some none) (σ : St) (H : Hp) (Q : VK)
    (h : lift (lc X EX) (RV (lc X EX)) (m1 (tabInD neg t ab) fa) σ H Q) : tOp (rInTab X.w X.K neg) (lift (lc X EX) (RV (lc X EX)) fa) (tC (.ref q)) σ H Q := by
  obtain ⟨G, F, ρ, g0, o⟩ := h
  refine at_bnd g0 o (fun x r q => q) fun F1 H1 ρ1 d1 x s1 g1 r1 o1 => ?_
  obtain ⟨d, e1, q1⟩ := o1.opt
  cases d1 with
  | str k =>
    cases r1
    simp only [tabInD] at e1
    cases e2 : t.lookup k with
    | some d2 =>
      rw [e2] at e1
      cases e1
      obtain ⟨v, hn, _⟩ := hv k d2 e2
      exact ⟨k, q, es, n, some v, rfl, rfl, lo, hl, hk, hn, by cases neg <;> exact q1 F1 H1 _ s1 g1 (.bl _)⟩
    | none =>
      rw [e2] at e1
      dsimp only at e1
      split at e1
      · rename_i hm
        cases e1
        exact ⟨k, q, es, n, none, rfl, rfl, lo, hl, hk, hab k (by simpa using hm), by cases neg <;> exact q1 F1 H1 _ s1 g1 (.bl _)⟩
      · cases e1
  | _ => cases e1
theorem tB_of {e : Expr} {f : M D} {t : TE} {tt : TT} (hp : PT X e tt) (k : ∀ σ H Q, t σ H (fun v H1 => ∃ b, v = .bl b ∧ Q b H1) → tt σ H Q) (hl : ∀ σ H Q, lift (lc X EX) (RV (lc X EX)) f σ H Q → t σ H Q) : PB X EX e (VP.tB f) :=
  hp.le fun σ H Q ⟨G, F, ρ, g0, o⟩ => k σ H Q (hl σ H _ (at_bnd g0 o (fun x r q => q) fun F1 H1 ρ1 d1 x s1 g1 r1 o1 => by
    cases d1 with
    | bl k => cases r1; exact ⟨k, rfl, o1 F1 H1 k s1 g1 rfl⟩
    | _ => exact o1.elim))
theorem pb_inTab {t : List (Str × D)} {ab : List Str} {p : Pos} (T : TabT X.w X.K X.mg x t ab) (hg : Gl X x) (ha : PV X EX a fa) (hm : behindInMarks .In (.Name x p) = false) (hdb : (x == ("__debug__" : Str)) = false := by decide) : PB X EX (.Compare a [.In] [.Name x p] pos) (VP.tB (m1 (tabInD false t ab) fa)) := by
  obtain ⟨q, es, n, h1, lo, hl, hk, hv, hab⟩ := T.ex
  exact tB_of (pt_cmpR op_inTab ha (pe_glob (v := .ref q) hg h1 rfl hdb) hm) (fun _ _ _ h => h) (inTab_le lo hl hk hv hab)
theorem pb_notInTab {t : List (Str × D)} {ab : List Str} {p : Pos} (T : TabT X.w X.K X.mg x t ab) (hg : Gl X x) (ha : PV X EX a fa) (hm : behindInMarks .NotIn (.Name x p) = false) (hdb : (x == ("__debug__" : Str)) = false := by decide) : PB X EX (.Compare a [.NotIn] [.Name x p] pos) (VP.tB (m1 (tabInD true t ab) fa)) := by
  obtain ⟨q, es, n, h1, lo, hl, hk, hv, hab⟩ := T.ex
  exact tB_of (pt_cmpR op_notInTab ha (pe_glob (v := .ref q) hg h1 rfl hdb) hm) (fun _ _ _ h => h) (inTab_le lo hl hk hv hab)
theorem flat_den {K : Frag} {mg : MG} {F : Hp} {v : V} {d : D} (r : Den K mg F v d) (f : flatD d = true) : flatV v = true := by
  cases r <;> first | rfl | cases f
theorem eqV_den {K : Frag} {mg : MG} {F : Hp} {v w : V} {d e : D} (r : Den K mg F v d) (q : Den K mg F w e) (f : flatD d = true) (f2 : flatD e = true) : eqV v w = eqB d e := by
  cases r <;> cases q <;> first | rfl | cases f | cases f2
theorem inV_den {K : Frag} {mg : MG} {F : Hp} {v : V} {d : D} (r : Den K mg F v d) (f : flatD d = true) : ∀ {vs : List V} {ds : List D}, DenL K mg F vs ds → ds.all flatD = true → vs.all flatV = true ∧ inV v vs = ds.any fun y => eqB y d
  | _, _, .nil, _ => ⟨rfl, rfl⟩
  | _, _, .cons h t, fs => by
    rw [List.all_cons, Bool.and_eq_true] at fs
    obtain ⟨i1, i2⟩ := inV_den r f t fs.2
    refine ⟨?_, ?_⟩
    · rw [List.all_cons, flat_den h fs.1, i1]; rfl
    · unfold inV at i2 ⊢
      rw [List.any_cons, List.any_cons, i2, eqV_den h r fs.1 f]
theorem g_in (neg : Bool) : OpG L (rIn L.K neg) (inD neg) := fun G F H σ ρ x y dx dy d Q g0 rx ry e k => by
  unfold inD at e
  cases e1 : seqD dy with
  | none => rw [e1] at e; cases e
  | some ds =>
    rw [e1] at e
    dsimp only at e
    split at e
    · rename_i hf
      rw [Bool.and_eq_true] at hf
      cases e
      obtain ⟨t, q, vs, rfl, hq, r⟩ := Den.seq ry e1
      obtain ⟨i1, i2⟩ := inV_den rx hf.1 r hf.2
      refine ⟨q, vs, rfl, ?_, flat_den rx hf.1, i1, ?_⟩
      · have := SqS.same hq g0.sub
        cases t
        · exact .inl this
        · exact .inr this
      · rw [i2]; exact k F H _ (Same.refl _) g0 (.bl _)
    · cases e
end
end VS

end
section
set_option linter.all false
set_option maxRecDepth 100000
namespace VS
open PySem PySem.Spec PyProof.Rows L2 VP
section
variable {K : Frag} {mg : MG} {G : Fx} {F H : Hp} {σ : St} {ρ : Rho}
end
section
variable {X : Cx} {EX : XE} {L : Lc} {e a b o value : Expr} {es : List Expr} {fa fe fo : M D} {as : List VP.Arg} {pos p apos : Pos} {x c m : Str}
variable {CX : CXT} {k : Nat} {fA C : Addr} {fd : FuncData} {ps : List Str} {fl : List Bool} {fs : Fn} {cs : List Str} {f : Str}
end
end VS

end
section
set_option linter.all false
set_option maxRecDepth 100000
namespace VS
open PySem PySem.Spec PyProof.Rows L2 VP
def Ite (K : Frag) (p : Addr) : It :=
  ⟨fun i H => ∃ xs x, SqL K H p xs ∧ xs[i]? = some x,
   fun i H v H' => ∃ q x, H q = none ∧ v = .ref q ∧ H' = upd H q (.tup [.int i, x]) ∧ ∀ xs, SqL K H p xs → xs[i]? = some x,
   fun i H => ∃ xs, SqL K H p xs ∧ i = xs.length⟩
theorem turn_enum {P : Program} {w : World} {K : Frag} {es : List Expr} {k : Nat} {tpos : Pos} {p e it : Addr} (n1 : p ≠ it) (n2 : e ≠ it) (n3 : e ≠ p) :
    Turn P w K (.Tuple es k tpos) (Ite K p) [e, it] e (fun i h => (∃ old, IsEnum h e it i old) ∧ h.IsListIter it p i) where
  mem := by simp
  obj := fun i h st b hb => by
    obtain ⟨⟨old, he⟩, o, hi, hc, hd⟩ := st
    simp only [List.mem_cons, List.not_mem_nil, or_false] at hb
    rcases hb with rfl | rfl
    · exact ⟨_, he, fun v q => by cases q⟩
    · exact ⟨_, hi, fun v q => by rw [hd] at q; cases q⟩
  keep := fun i h h' st kk => by
    obtain ⟨⟨old, he⟩, hi⟩ := st
    exact ⟨⟨old, kk e (by simp) _ he⟩, hi.at fun o q => kk it (by simp) o q⟩
  item := by
    intro X hP hw hK hc i pins s σ H E I hf st hg
    subst hP hw hK
    obtain ⟨⟨old, he⟩, hi⟩ := st
    obtain ⟨xs, x, q1, e1⟩ := hg
    obtain ⟨its, rv, pl, _⟩ := I.list q1
    obtain ⟨u, hu, ru⟩ := rv.get e1
    have hh : X.A.handled = none := I.ok.hd hc
    have lt1 : i < its.toArray.size := by have := (List.getElem?_eq_some_iff.mp hu).1; simpa using this
    refine wpAny_pyNext_enum_itemD (Draws.list (by exact hh) it p n1 its.toArray) he ⟨hi, pl.isList⟩ lt1 n2 (by simp [n2, n3]) fun x' h' tk px ho st' pr hsz kp => ?_
    have ex : x' = u := by
      have : its.toArray[i]? = some u := by simpa using hu
      rw [this] at px; exact (Option.some.inj px).symm
    subst ex
    refine ⟨_, rfl, wpAny_letOwnedTupleGo_enum ho fun h'' z2 sb => ?_⟩
    replace sb : Heap.SameBut e h' h'' := sb
    have szlt : e ≠ s.heap.objs.size := Nat.ne_of_lt (Heap.lt_size he)
    have kp2 : ∀ c o, c ∉ [e, it] → s.heap.get? c = some o → h''.get? c = some o := fun c o hc' q => by
      simp only [List.mem_cons, List.not_mem_nil, or_false, not_or] at hc'
      exact sb.extBut c o hc'.1 (kp c o hc'.1 hc'.2 q)
    have IX := Inv.pair (tk := tk + 1) (h' := h'') (x := .int i) (y := x) I hf kp2 (sb.extBut _ _ (Ne.symm szlt) pr) ⟨_, rfl⟩ ru
    refine ⟨.ref s.heap.objs.size, _, IX, rfl, ⟨_, x, I.hok.fresh (Nat.le_refl _), rfl, rfl, fun xs' hx' => by rw [I.list_inj hx' q1]; exact e1⟩, ⟨⟨_, by simpa using z2⟩, st'.1.at fun o q => sb.extBut _ o (Ne.symm n2) q⟩, fun b hb => ?_⟩
    have hbs : b ≠ s.heap.objs.size := by
      simp only [List.mem_cons, List.not_mem_nil, or_false] at hb
      rcases hb with rfl | rfl
      · exact szlt
      · obtain ⟨o, q, _⟩ := hi; exact Nat.ne_of_lt (Heap.lt_size q)
    rw [upd_ne hbs]
    exact (hf b hb).1
  done := by
    intro X hP hw hK hc i pins s σ H E I hf st hg
    subst hP hw hK
    obtain ⟨⟨old, he⟩, hi⟩ := st
    obtain ⟨xs, q1, hend⟩ := hg
    obtain ⟨its, rv, pl, _⟩ := I.list q1
    have l1 := rv.length
    have hh : X.A.handled = none := I.ok.hd hc
    have ee : i = its.toArray.size := by simp; omega
    rw [ee] at he hi
    refine wpAny_pyNext_enum_endD (Draws.list (by exact hh) it p n1 its.toArray) he ⟨hi, pl.isList⟩ fun h' hk => ⟨rfl, Inv.turnedL (h' := h') I hf fun c o hc'' q => ?_⟩
    simp only [List.mem_cons, List.not_mem_nil, or_false, not_or] at hc''
    exact hk c o hc''.2 q
  self := fun _ _ _ _ _ st h => by
    obtain ⟨⟨old, he⟩, _⟩ := st
    exact wpAny_pyIter_enum he h
theorem meets_enum (l : Addr) (xs : Array Value) (n : Nat) (sl : Array (Option Value)) : Meets (Builtin.«enumerate.__new__» ⟨[.type "enumerate", .ref l], []⟩) (fun _ R s => s.heap.get? l = some { cls := .type "list", dict := none, data := .seq xs n, slots := sl } ∧
    R (.ok (.ret (.ref (s.heap.push { cls := .type "list_iterator", data := .fields #[.ref l, .int 0 0] }).objs.size))) { s with heap := (s.heap.push { cls := .type "list_iterator", data := .fields #[.ref l, .int 0 0] }).push { cls := .type "enumerate", data := .fields #[.none, .bool false, .ref s.heap.objs.size, rawInt 0, .none, .none] } }) :=
  .of_wp fun prog w A R s z => by
    obtain ⟨hp, g, d, tk, os⟩ := s
    obtain ⟨q1, q2⟩ := z
    have z1 := sub_enumerate
    have z2 : Heap.IsList (Shared.heap ⟨hp, g, d, tk, os⟩) l xs := ⟨_, q1, rfl, n, rfl⟩
    wp_walk using AutoSeq1.wpAny_loadPart' q1
    refine wpAny_stack_any fun st => wpAny_pure ?_
    split
    · rename_i c _ _ _ _ _
      cases (c == Value.type "enumerate") <;> (wp_walk using AutoSeq1.wpAny_loadPart' q1, wpAny_pyIter_list z2; exact ⟨_, rfl, q2⟩)
    · wp_walk using AutoSeq1.wpAny_loadPart' q1, wpAny_pyIter_list z2
      exact ⟨_, rfl, q2⟩
section
variable {X : Cx} {EX : XE} {L : Lc} {e a b : Expr} {fa fb fe : M D} {pos p : Pos} {x : Str}
theorem boot_enumerate : bootBuiltins "enumerate" = some (.type "enumerate") := by kernel_rfl
def iEnum (K : Frag) (t : TA) : TI := fun σ H R => t σ H fun vs H1 => ∃ q, vs = [.ref q] ∧ (∃ xs, SqL K H1 q xs) ∧ R (Ite K q) H1
theorem pi_enum {es : List Expr} {k : Nat} {tpos : Pos} {t : TA} (hg : Gl X "enumerate") (hm : X.mg "enumerate" = none) (ha : PA X [a] t) (hs : starEach [a] X.env = [(false, eval a X.env)] := by rfl) :
    PI X (.Tuple es k tpos) (.Call (.Name "enumerate" p) [a] [] pos) (iEnum X.K t) := by
  intro pins s σ H R I h
  refine Call_ (ld_blt I hg hm boot_enumerate (PyProof.Rows.callWith_type1 (thn (ha pos pins s σ H _ I h) fun us s1 ⟨vs, H1, I1, r1, q1⟩ => ?_) hs rfl))
  obtain ⟨q, e, ⟨xs, h1⟩, hR⟩ := q1
  subst e
  obtain ⟨u, rfl, ru⟩ := vals1 r1
  cases ru
  obtain ⟨its, rv, pl, _⟩ := I1.list h1
  obtain ⟨⟨c0, d0, dt0, sl0⟩, n, hq, hc0, hd0, hdt0⟩ := pl
  simp only at hc0 hd0 hdt0
  subst hc0 hd0 hdt0
  have lt : q < s1.heap.objs.size := Heap.lt_size hq
  refine callType_new PySem.F.called_enumerate (by decide) (PySem.F.typeCall_enumerate_1 _) (PySem.F.newCall_enumerate_1 _) (fun obj => PySem.F.args_object_init_2 obj _) PySem.F.entry_enumerate_new (meets_enum q its.toArray n sl0) ⟨hq, ⟨_, Heap.get?_push_size _ rfl, rfl⟩, ?_⟩
  have sz : (s1.heap.push { cls := .type "list_iterator", data := .fields #[.ref q, .int 0 0] }).objs.size = s1.heap.objs.size + 1 := Heap.size_push ..
  have he : IsEnum ((s1.heap.push { cls := .type "list_iterator", data := .fields #[.ref q, .int 0 0] }).push { cls := .type "enumerate", data := .fields #[.none, .bool false, .ref s1.heap.objs.size, rawInt 0, .none, .none] }) (s1.heap.objs.size + 1) s1.heap.objs.size 0 .none := by
    rw [← sz]; exact Heap.get?_push_size _ rfl
  rw [sz]
  refine wpAny_pyIter_enum he ?_
  have IX : Inv X pins σ H1 { s1 with heap := (s1.heap.push { cls := .type "list_iterator", data := .fields #[.ref q, .int 0 0] }).push { cls := .type "enumerate", data := .fields #[.none, .bool false, .ref s1.heap.objs.size, rawInt 0, .none, .none] } } :=
    I1.kept (t' := s1.toks) fun b o e => Heap.get?_push_of_some _ (Heap.get?_push_of_some _ e)
  refine ⟨_, [s1.heap.objs.size + 1, s1.heap.objs.size], _, _, H1, rfl, IX, turn_enum (Nat.ne_of_lt lt) (by simp) (Nat.ne_of_gt (Nat.lt_succ_of_lt lt)), ⟨⟨_, he⟩, ⟨_, Heap.get?_push_of_some _ (Heap.get?_push_size _ rfl), rfl, rfl⟩⟩, fun c hc => ?_, hR⟩
  have hle : s1.heap.objs.size ≤ c := by
    simp only [List.mem_cons, List.not_mem_nil, or_false] at hc
    rcases hc with rfl | rfl
    · exact Nat.le_add_right _ _
    · exact Nat.le_refl _
  exact I1.fpOk hle (I1.hok.fresh hle)
theorem itr_enum {G : Fx} {F : Hp} {q : Addr} {vs : List V} {ds : List D} (h1 : SqL L.K F q vs) (r1 : DenL L.K L.mg F vs ds) :
    ItR L G F (Ite L.K q) (enumL ds) := fun σ i F' H' ρ s g => by
  have q1 : SqL L.K H' q vs := SqL.same (SqL.same h1 s) g.sub
  have l1 := r1.length
  have le : (enumL ds).length = ds.length := by simp [enumL]
  refine ⟨fun hi => ?_, fun hi => ?_, fun x H'' y => ?_⟩
  · exact ⟨vs, vs[i]'(by omega), q1, by simp [show i < vs.length by omega]⟩
  · exact ⟨vs, q1, by omega⟩
  · obtain ⟨b, u, hq, rfl, rfl, y1⟩ := y
    have sF := same_upd (o := .tup [.int i, u]) (g.sub.free hq)
    refine ⟨_, sF, g.laid hq, fun d hd => ?_⟩
    unfold enumL at hd
    rw [List.getElem?_zipWith] at hd
    cases e1 : ds[i]? with
    | none => rw [e1] at hd; cases e2 : (List.range ds.length)[i]? <;> rw [e2] at hd <;> cases hd
    | some d1 =>
      have hi : i < ds.length := (List.getElem?_eq_some_iff.mp e1).1
      rw [e1, List.getElem?_range hi] at hd
      cases hd
      obtain ⟨u', a1, a2⟩ := (r1.same s).get e1
      rw [y1 vs q1] at a1
      cases a1
      exact .tup (SqT.of upd_same) (.cons (.int i) (.cons (a2.same sF) .nil))
theorem vi_enum {es : List Expr} {k : Nat} {tpos : Pos} {fl : List (M D)} (hg : Gl X "enumerate") (hm : X.mg "enumerate" = none) (ha : PLs X EX [a] (mL fl)) (hs : starEach [a] X.env = [(false, eval a X.env)] := by rfl) :
    PVI X EX (.Tuple es k tpos) (.Call (.Name "enumerate" p) [a] [] pos) (mEnum fl) :=
  (pi_enum hg hm ha hs).le fun σ H Q ⟨G, F, ρ, g0, o⟩ => at_bnd g0 o (fun x r q => q) fun F1 H1 ρ1 d1 xs s1 g1 r1 o1 => by
    obtain ⟨ds, e, q⟩ := o1.opt
    match d1, r1, e with
    | [.lst cs], .cons h1 .nil, e =>
      cases e
      cases h1 with
      | lst h r => exact ⟨_, rfl, ⟨_, SqL.same h g1.sub⟩, q F1 H1 _ s1 g1 (itr_enum h r)⟩
end
end VS

end
section
set_option linter.all false
set_option maxRecDepth 100000
namespace VS
open PySem PySem.Spec PyProof.Rows L2 VP
section
variable {X : Cx} {EX : XE} {L : Lc} {e a b : Expr} {fa fb fe : M D} {pos p : Pos} {x c : Str}
structure MetF (K : Frag) (x qual : Str) (st : Stmt) (ps : List Str) (f : Addr) (fd : FuncData) : Prop where
  fu : Fun K x qual st f fd
  bi : Binds K fd ps []
end
end VS

end
section
set_option linter.all false
set_option maxRecDepth 100000
namespace VS
open PySem PySem.Spec PyProof.Rows L2 VP
section
variable {X : Cx} {EX : XE} {L : Lc} {tg a b c : Expr} {p pos : Pos}
end
end VS

end
section
set_option linter.all false
set_option maxRecDepth 100000
namespace VS
open PySem PySem.Spec PyProof.Rows L2 VP
open AutoSeq1 (wpAny_loadPart')
section
variable {X : Cx} {EX : XE} {L : Lc} {a b : Expr} {fa fb : M D} {pos : Pos}
theorem Obj1.now {K : Frag} {mg : MG} {F H : Hp} {l : Addr} {d : D} (sub : Same F H) (o : Obj1 K mg F H l d) : ∃ F', Same F F' ∧ Same F' H ∧ Den K mg F' (.ref l) d := by
  obtain ⟨u, hu⟩ := o.has
  have s1 : Same F (upd F l u) := fun a v e => by
    by_cases z : a = l
    · subst z; rw [upd_same, ← hu]; exact sub _ _ e
    · rw [upd_ne z]; exact e
  refine ⟨upd F l u, s1, fun a v e => ?_, o.den hu s1 upd_same⟩
  by_cases z : a = l
  · subst z; rw [upd_same] at e; rw [hu]; exact e
  · rw [upd_ne z] at e; exact sub _ _ e
end
end VS

end
section
set_option linter.all false
set_option maxRecDepth 100000
namespace VS
open PySem PySem.Spec PyProof.Rows L2 VP
structure DM (K : Frag) (x qn : Str) (st : Stmt) (f : Addr) : Prop where
  l : ∃ (oc : Value) (od : Option Addr) (kV doc pm : Value) (an : Option Addr) (cd ct : Value) (sl : Array (Option Value)), K.lookup f = some ⟨oc, od, .func (PySem.W.fnOf x qn (defArgs st) (defBody st) (defScope st) .none kV doc pm an cd ct), sl⟩ ∧ PySem.W.codeIn K cd qn = true
  k : PySem.W.keepIn K (.ref f) = true
structure DH (K : Frag) (x : Str) (st : Stmt) (f : Addr) : Prop where
  a : PySem.W.nsIn K mainGlobals x = some (some (.ref f))
  m : DM K x x st f
abbrev BiH (x qn : Str) (st : Stmt) (ps : List Str) : Prop := ∀ (kV doc pm : Value) (an : Option Addr) (cd ct : Value) (us : List Value), us.length = ps.length → bindArgs (PySem.W.fnOf x qn (defArgs st) (defBody st) (defScope st) .none kV doc pm an cd ct) ⟨us, []⟩ = pure (ps.zip us)
section
variable {K : Frag} {mg : MG} {h : Heap} {x qn : Str} {st : Stmt} {f : Addr} {ps : List Str}
theorem DM.is (d : DM K x qn st f) (b : BiH x qn st ps) : ∃ fd, Fun K x qn st f fd ∧ Binds K fd ps [] := by
  obtain ⟨⟨oc, od, kV, doc, pm, an, cd, ct, sl, l, c⟩, k⟩ := d
  exact ⟨_, fun_mk l c k, (fun_mk l c k).binds b⟩
theorem DH.is (d : DH K x st f) (X : K.In h) (G : h.Ns mainGlobals mg) (b : BiH x x st ps) : ∃ fd, DefF K mg x st ps f fd := by
  obtain ⟨fd, F, B⟩ := d.m.is b
  exact ⟨fd, F, B, PySem.W.mg_of X G d.a⟩
theorem DH.law {p : Str} (d : DH K x st f) (X : K.In h) (G : h.Ns mainGlobals mg) (b : BiH x x st [p])
    (c : ∀ (kV doc pm : Value) (an : Option Addr) (cd ct : Value) (s : Shared) (v : Value), BindsTo s (PySem.W.fnOf x x (defArgs st) (defBody st) (defScope st) .none kV doc pm an cd ct) ⟨[v], []⟩ [(p, v)]) :
    ∃ fd, DefF K mg x st [p] f fd ∧ ∀ (s : Shared) (v : Value), BindsTo s fd ⟨[v], []⟩ [(p, v)] := by
  obtain ⟨a, ⟨oc, od, kV, doc, pm, an, cd, ct, sl, l, e⟩, k⟩ := d
  exact ⟨_, ⟨fun_mk l e k, (fun_mk l e k).binds b, PySem.W.mg_of X G a⟩, fun s v => c _ _ _ _ _ _ s v⟩
end
section
variable {X : Cx} {EX : XE} {fA : Addr} {fd : FuncData} {x : Str} {st : Stmt} {ps : List Str} {fl : List Bool} {fs : Fn} {k n : Nat} {e : Expr} {es : List Expr} {as : List VP.Arg} {p pos : Pos}
theorem pc (D : DefF X.K X.mg x st ps fA fd) (F : FnOk X.prog X.w X.K X.mg X.base CX0 k fA fd ps (spV X.K X.mg fl fs)) (hr : Room n X.A) (hg : Gl X x) (ha : PAs X EX (e :: es) as) (hk : k ≤ n := by decide) (hfl : as.map VP.Arg.isIo = fl := by rfl) (hdb : (x == ("__debug__" : Str)) = false := by decide)
    (he : starEach (e :: es) X.env = (false, eval e X.env) :: starEach es X.env := by rfl) (hpl : (backTo pos (starEach es X.env)).any (·.1) = false := by rfl) : PV X EX (.Call (.Name x p) (e :: es) [] pos) (mCall fs as) :=
  pv_call F (hr.mono hk) hg D.mg D.fu.kp D.bi pass0V ha hfl hdb he hpl
end
theorem bi1 {x qn : Str} {st : Stmt} {p0 : Str} (h : ∀ (kV doc pm : Value) (an : Option Addr) (cd ct : Value) (a0 : Value), bindArgs (PySem.W.fnOf x qn (defArgs st) (defBody st) (defScope st) .none kV doc pm an cd ct) ⟨[a0], []⟩ = pure ([p0].zip [a0]) := by intros; rfl) : BiH x qn st [p0] :=
  fun _ _ _ _ _ _ us hl => match us, hl with | [_], _ => h _ _ _ _ _ _ _
theorem bi2 {x qn : Str} {st : Stmt} {p0 p1 : Str} (h : ∀ (kV doc pm : Value) (an : Option Addr) (cd ct : Value) (a0 a1 : Value), bindArgs (PySem.W.fnOf x qn (defArgs st) (defBody st) (defScope st) .none kV doc pm an cd ct) ⟨[a0, a1], []⟩ = pure ([p0, p1].zip [a0, a1]) := by intros; rfl) : BiH x qn st [p0, p1] :=
  fun _ _ _ _ _ _ us hl => match us, hl with | [_, _], _ => h _ _ _ _ _ _ _ _
theorem bi4 {x qn : Str} {st : Stmt} {p0 p1 p2 p3 : Str} (h : ∀ (kV doc pm : Value) (an : Option Addr) (cd ct : Value) (a0 a1 a2 a3 : Value), bindArgs (PySem.W.fnOf x qn (defArgs st) (defBody st) (defScope st) .none kV doc pm an cd ct) ⟨[a0, a1, a2, a3], []⟩ = pure ([p0, p1, p2, p3].zip [a0, a1, a2, a3]) := by intros; rfl) : BiH x qn st [p0, p1, p2, p3] :=
  fun _ _ _ _ _ _ us hl => match us, hl with | [_, _, _, _], _ => h _ _ _ _ _ _ _ _ _ _
theorem scs {N P : List Str} {sc : Scope} (h1 : sc.kind = .function := by rfl) (h2 : sc.isCoroutine = false := by rfl) (h3 : sc.isGenerator = false := by rfl) (h4 : N.Nodup := by decide +kernel) (h5 : N.take P.length = P := by rfl)
    (h6 : ∀ x ∈ P, sc.names.lookup x = some .local ∨ sc.names.lookup x = some .cell := by decide +kernel) (h7 : ∀ y ∈ sc.names, y.2 ≠ .free := by decide +kernel) : FnScope N P sc := ⟨h1, h2, h3, h4, h5, h6, h7⟩
theorem ndk (l : List Str) (h : l.Nodup := by decide +kernel) : List.Nodup l := h
end VS

end
section
set_option linter.all false
set_option maxRecDepth 100000
namespace VS
open PySem PySem.Spec PyProof.Rows L2 VP
section
variable {X : Cx} {EX : XE} {L : Lc} {a b : Expr} {fa fb : M D} {pos : Pos}
end
end VS
namespace VS
open PySem PySem.Spec PyProof.Rows L2 VP
theorem pv_strE {X : Cx} {EX : XE} {x y : Str} {j} {pos : Pos} (h : x = y := by decide +kernel) : PV X EX (.Constant (.str x) j pos) (mC (.str y)) := h ▸ pv_str
end VS

end
section
set_option linter.all false
set_option maxRecDepth 100000
namespace VS
open PySem PySem.Spec PyProof.Rows L2 VP
section
variable {prog : Program} {w : World} {A : Around} {E : Value → Shared → Prop} {s : Shared}
end
section
variable {X : Cx} {EX : XE} {L : Lc} {a : Expr} {fa : M D} {p pos p' pos' : Pos}
theorem vals_ints : ∀ {us : List Value} {ns : List Int}, IntsAre us ns → Vals (ns.map V.int) us
  | _, _, .nil => .nil
  | _, _, .cons n t h => .cons ⟨t, rfl⟩ (vals_ints h)
end
end VS

end
section
set_option linter.all false
set_option maxRecDepth 100000
namespace VS
open PySem PySem.Spec PyProof.Rows L2 VP
section
variable {X : Cx} {EX : XE} {L : Lc} {o e a b : Expr} {fo fa fb fe : M D} {pos apos cpos p : Pos} {name : Str} {id : String}
theorem strs_of {K : Frag} {mg : MG} {F : Hp} : ∀ {vs : List V} {ds : List D} {ss : List Str}, DenL K mg F vs ds → strsD ds = some ss → vs = ss.map V.str
  | _, _, _, .nil, e => by cases e; rfl
  | _, _, _, .cons (d := d) h t, e => by
    cases d with
    | str x =>
      cases h
      simp only [strsD] at e
      cases q : strsD _ with
      | none => rw [q] at e; cases e
      | some ss => rw [q] at e; cases e; rw [strs_of t q]; rfl
    | _ => cases e
theorem vals_strs : ∀ {ss : List Str} {us : List Value}, Vals (ss.map V.str) us → ∃ l : List (Str × Tok), us = strValues l ∧ l.map (·.1) = ss
  | [], _, .nil => ⟨[], rfl, rfl⟩
  | s :: ss, _, .cons h t => by
    obtain ⟨u, rfl⟩ := h
    obtain ⟨l, rfl, e⟩ := vals_strs t
    exact ⟨(s, u) :: l, rfl, by simp [e]⟩
theorem strs_vals : ∀ (l : List (Str × Tok)), Vals (l.map fun q => V.str q.1) (strValues l)
  | [] => .nil
  | (s, u) :: l => .cons ⟨u, rfl⟩ (strs_vals l)
def MtG (L : Lc) (r : V → List V → Hp → VK → Prop) (g : D → D → Option D) : Prop := ∀ G F H σ ρ z y dy d Q, L.Good G F H σ ρ → Den L.K L.mg F y dy → g (.str z) dy = some d → Then L G F σ ρ d Q → r (.str z) [y] H Q
theorem pa_oneV (ha : PV X EX a fa) (hs : starEach [a] X.env = (false, eval a X.env) :: starEach [] X.env := by rfl) : PA X [a] (fun σ H Q => lift (lc X EX) (RV (lc X EX)) fa σ H fun v H' => Q [v] H') := (pa_cons ha pa_nil hs).le fun σ H Q h => h
theorem pv_mt {r : V → List V → Hp → VK → Prop} {g : D → D → Option D} (slot : Slot "str" name id) (hty : typeOf (.builtin id) = pure (.type "method_descriptor")) (hm : MtR X id r) (hg : MtG (lc X EX) r g) (ho : PV X EX o fo) (he : PV X EX e fe)
    (hbase : attributeBase o name X.env (eval o X.env) = eval o X.env := by rfl)
    (hfew : ((backTo cpos (starEach [e] X.env)).all (fun x => !x.1) && (backToKw cpos (keywordEach [] X.env)).all (fun x => x.1.isSome)
      && decide ([e].length + ([] : List Keyword).length + (if ([] : List Keyword).isEmpty then 0 else 1) < 30)) = true := by rfl)
    (hline : (apos.endLine == cpos.line) = true := by rfl) (hs : starEach [e] X.env = (false, eval e X.env) :: starEach [] X.env := by rfl) (hplain : (backTo cpos (starEach [] X.env)).any (·.1) = false := by rfl) :
    PV X EX (.Call (.Attribute o name apos) [e] [] cpos) (mMt g fo fe) :=
  (pe_bm F.plainAttrs_str slot hty hm ho (pa_oneV he hs) hbase hfew hline hs hplain).le fun σ H Q ⟨G, F, ρ, g0, o⟩ => at_bnd g0 o (fun x r q => q) fun F1 H1 ρ1 d1 x s1 g1 r1 o1 => by
    cases d1 with
    | str z =>
      have hx : x = .str z := by cases r1; rfl
      subst hx
      refine ⟨rfl, ⟨G, F1, ρ1, g1, ?_⟩⟩
      have o2 := Out.bnd (show Out (bnd fe (fun y => opt (g (.str z) y)) ρ1) _ _ from o1)
      refine o2.mono (fun dy r2 o3 F2 H2 y s2 g2 ry => ?_) fun x r2 q => PostX.same s1 q
      obtain ⟨d, e, q⟩ := o3.opt
      exact hg G F2 H2 σ r2 z y dy d Q g2 ry e (Post.same (s1.trans s2) q)
    | _ => exact (show False from o1).elim
def rJoin (K : Frag) : V → List V → Hp → VK → Prop := fun x xs H Q => ∃ sep q ss, x = .str sep ∧ xs = [.ref q] ∧ SqL K H q (ss.map V.str) ∧ JoinOk sep ss = true ∧ Q (.str (Txt.join sep ss)) H
theorem mt_join : MtR X "str.join" (rJoin X.K) := by
  intro pins s σ H x xs v us Q I rx rs h
  obtain ⟨sep, q, ss, rfl, rfl, hq, ok, k⟩ := h
  obtain ⟨t, rfl⟩ := rx
  obtain ⟨u, rfl, ru⟩ := vals1 rs
  cases ru
  obtain ⟨its, rv, pl, hz⟩ := I.list hq
  obtain ⟨l, rfl, e⟩ := vals_strs rv
  exact SC.join pl.isList e ok fun t' k' => ⟨.str (Txt.join sep ss), H, I.kept (t' := k') fun _ _ e => e, ⟨_, rfl⟩, k⟩
theorem g_join : MtG L (rJoin L.K) joinD := fun G F H σ ρ z y dy d Q g0 ry e k => by
  cases dy with
  | lst ds =>
    simp only [joinD] at e
    cases q : strsD ds with
    | none => rw [q] at e; cases e
    | some ss =>
      rw [q] at e
      dsimp only at e
      split at e
      · rename_i ok
        cases e
        cases ry with
        | lst h1 r1 =>
          have ev := strs_of r1 q
          subst ev
          exact ⟨z, _, ss, rfl, rfl, SqL.same h1 g0.sub, ok, k F H _ (Same.refl _) g0 (.str _)⟩
      · cases e
  | _ => cases e
def rSplit : V → List V → Hp → VK → Prop := fun x xs H Q => ∃ z y, x = .str z ∧ xs = [.str y] ∧ y.length ≠ 0 ∧ z.length ≤ 1000000 ∧ ∀ p, H p = none → Q (.ref p) (upd H p (.lst ((Txt.split z y).map V.str)))
theorem mt_split : MtR X "str.split" rSplit := by
  intro pins s σ H x xs v us Q I rx rs h
  obtain ⟨z, y, rfl, rfl, hy, hz, k⟩ := h
  obtain ⟨t, rfl⟩ := rx
  obtain ⟨u, rfl, ru⟩ := vals1 rs
  obtain ⟨t', rfl⟩ := ru
  have hl : (Txt.split z y).length ≤ sizeLine := by
    have := PyProof.Rows.split_le z y
    rw [sizeLine_eq]; omega
  have fin : ∀ (l : List (Str × Tok)) (tk : Nat), l.map (·.1) = Txt.split z y → EP X pins σ Q (.ref s.heap.objs.size) { s with heap := s.heap.push { cls := .type "list", data := .seq (strValues l).toArray }, toks := tk } := fun l tk e => by
    have ev : (Txt.split z y).map V.str = l.map fun q => V.str q.1 := by rw [← e, List.map_map]; rfl
    exact ⟨.ref s.heap.objs.size, _, I.lnew (t' := tk) (ys := (Txt.split z y).map V.str) (its := strValues l) (by rw [ev]; exact strs_vals l) (by rw [List.length_map]; exact hl), rfl, k _ I.fresh⟩
  have hy' : (y.length == 0) = false := by simpa using hy
  have hsz : z.length ≤ sizeLine := by rw [sizeLine_eq]; omega
  cases h1 : (decide (z.length < y.length) || decide (Builtin.Str.strKind z < Builtin.Str.strKind y))
  · cases hf : (Builtin.Str.occurrences z y 0 z.length (z.length + 1)).isEmpty
    · have hsz2 : (Builtin.Str.partsBetween z (Builtin.Str.occurrences z y 0 z.length (z.length + 1)) y.length).length ≤ sizeLine := by
        have e : Txt.split z y = _ := (if_neg (ne_true_of_eq_false h1)).trans (if_neg (ne_true_of_eq_false hf))
        rw [e] at hl; exact hl
      refine call_meets F.slot_str_split (typeIs_str _ _ _) F.entry_str_split (F.args_str_split_2 _ _) (meets_str_split_sep z y t t' h1 hy' hf hsz hsz2) ?_
      show wants _ _ _ { s with toks := _, heap := s.heap.push { cls := .type "list", data := .seq (strsFrom s.toks (Builtin.Str.partsBetween z (Builtin.Str.occurrences z y 0 z.length (z.length + 1)) y.length)).toArray } }
      rw [strsFrom_eq]
      exact fin (numbered s.toks _) _ ((numbered_texts _ _).trans ((if_neg (ne_true_of_eq_false h1)).trans (if_neg (ne_true_of_eq_false hf))).symm)
    · exact call_meets F.slot_str_split (typeIs_str _ _ _) F.entry_str_split (F.args_str_split_2 _ _) (meets_str_split_not_found z y t t' h1 hy' hf)
        (fin [(z, t)] _ ((if_neg (ne_true_of_eq_false h1)).trans (if_pos hf)).symm)
  · exact call_meets F.slot_str_split (typeIs_str _ _ _) F.entry_str_split (F.args_str_split_2 _ _) (meets_str_split_cannot_occur z y t t' h1)
      (fin [(z, t)] _ (if_pos h1).symm)
theorem g_split : MtG L rSplit splitD := fun G F H σ ρ z y dy d Q g0 ry e k => by
  cases dy with
  | str w =>
    simp only [splitD] at e
    split at e
    · rename_i hb
      cases e
      cases ry
      refine ⟨z, w, rfl, rfl, hb.1, hb.2, fun l hl => ?_⟩
      have sF := same_upd (o := .lst ((Txt.split z w).map V.str)) (g0.sub.free hl)
      exact k _ _ _ sF (g0.laid hl) (.lst (SqL.of upd_same) (DenL.map (fun (x : Str) => Den.str x) _))
    · cases e
  | _ => cases e
theorem mt_starts : MtR X "str.startswith" (fun x xs H Q => ∃ z y, x = .str z ∧ xs = [.str y] ∧ Q (.bl (Txt.startswith z y)) H) := by
  intro pins s σ H x xs v us Q I rx rs h
  obtain ⟨z, y, rfl, rfl, k⟩ := h
  obtain ⟨t, rfl⟩ := rx
  obtain ⟨u, rfl, ru⟩ := vals1 rs
  obtain ⟨t', rfl⟩ := ru
  exact SC.startswith ⟨.bl _, H, I, rfl, k⟩
theorem g_starts : MtG L (fun x xs H Q => ∃ z y, x = .str z ∧ xs = [.str y] ∧ Q (.bl (Txt.startswith z y)) H) startsD := fun G F H σ ρ z y dy d Q g0 ry e k => by
  cases dy with
  | str w => cases e; cases ry; exact ⟨z, w, rfl, rfl, k F H _ (Same.refl _) g0 (.bl _)⟩
  | _ => cases e
theorem call_text : CallR X (.type "str") (fun xs H Q => (∃ i, xs = [.int i] ∧ i.natAbs.log2 < 1920 ∧ Q (.str (toString i)) H) ∨ ∃ x, xs = [.str x] ∧ Q (.str x) H) := by
  intro pins s σ H xs us Q I r h
  rcases h with h | ⟨x, rfl, k⟩
  · exact call_str_int pins s σ H xs us Q I r h
  · obtain ⟨u, rfl, ru⟩ := vals1 r
    obtain ⟨t, rfl⟩ := ru
    exact PySem.P.str_of_str ⟨.str x, H, I, ⟨_, rfl⟩, k⟩
theorem g_text : F1G L (fun xs H Q => (∃ i, xs = [.int i] ∧ i.natAbs.log2 < 1920 ∧ Q (.str (toString i)) H) ∨ ∃ x, xs = [.str x] ∧ Q (.str x) H) textD := fun G F H σ ρ x dx d Q g0 rx e k => by
  cases dx with
  | int i =>
    simp only [textD] at e
    split at e
    · rename_i hb
      cases e
      rcases rx with rx | ⟨l, rfl, ob⟩
      · cases rx
        refine .inl ⟨i, rfl, ?_, k F H _ (Same.refl _) g0 (.str _)⟩
        by_cases h0 : i.natAbs = 0
        · rw [h0]; decide
        · have := (Nat.log2_lt h0).mpr hb; omega
      · exact ob.elim
    · cases e
  | str w =>
    cases e
    rcases rx with rx | ⟨l, rfl, ob⟩
    · cases rx; exact .inr ⟨w, rfl, k F H _ (Same.refl _) g0 (.str _)⟩
    · exact ob.elim
  | _ => cases e
theorem call_num : CallR X (.type "int") (fun xs H Q => ∃ x n, xs = [.str x] ∧ x.length ≤ 640 ∧ intText? x = some n ∧ Q (.int n) H) := by
  intro pins s σ H xs us Q I r h
  obtain ⟨x, n, rfl, hl, hn, k⟩ := h
  obtain ⟨u, rfl, ru⟩ := vals1 r
  obtain ⟨t, rfl⟩ := ru
  exact PySem.W.KIN.call_text hn hl ⟨.int n, H, I.tok _, ⟨_, rfl⟩, k⟩
theorem g_num : F1G L (fun xs H Q => ∃ x n, xs = [.str x] ∧ x.length ≤ 640 ∧ intText? x = some n ∧ Q (.int n) H) numD := fun G F H σ ρ x dx d Q g0 rx e k => by
  cases dx with
  | str w =>
    simp only [numD] at e
    split at e
    · rename_i hb
      cases q : intText? w with
      | none => rw [q] at e; cases e
      | some n =>
        rw [q] at e; cases e
        rcases rx with rx | ⟨l, rfl, ob⟩
        · cases rx; exact ⟨w, n, rfl, hb, q, k F H _ (Same.refl _) g0 (.int _)⟩
        · exact ob.elim
    · cases e
  | _ => cases e
theorem g_lenS : F1G L (fun xs H Q => ∃ z : Str, xs = [.str z] ∧ z.length ≤ sizeLine ∧ Q (.int z.length) H) lenS := fun G F H σ ρ x dx d Q g0 rx e k => by
  cases dx with
  | str w =>
    simp only [lenS] at e
    split at e
    · rename_i hb
      cases e
      rcases rx with rx | ⟨l, rfl, ob⟩
      · cases rx; exact ⟨w, rfl, by rw [sizeLine_eq]; exact hb, k F H _ (Same.refl _) g0 (.int _)⟩
      · exact ob.elim
    · cases e
  | _ => cases e
theorem g_itemS : OpG L rIxS itemS := fun G F H σ ρ x y dx dy d Q g0 rx ry e k => by
  cases dx with
  | str w =>
    cases dy with
    | int i =>
      simp only [itemS] at e
      split at e
      · rename_i hb
        cases rx; cases ry
        cases q : w.cps.toList[i.toNat]? with
        | none => rw [q] at e; cases e
        | some c =>
          rw [q] at e; cases e
          have hi : i.toNat < w.cps.toList.length := (List.getElem?_eq_some_iff.mp q).1
          refine ⟨w, i, c, rfl, rfl, by rw [sizeLine_eq]; exact hb.1, ?_, k F H _ (Same.refl _) g0 (.str _)⟩
          unfold atI ixN
          rw [if_pos hb.2, if_pos (by omega)]
          exact q
      · cases e
    | _ => cases e
  | _ => cases e
theorem pv_ixS (ha : PV X EX a fa) (hb : PV X EX b fb) (hs : PlainIx b := by intro _ _; rfl) : PV X EX (.Subscript a b pos) (m2 itemS fa fb) :=
  (pe_ix ix_str ha hb hs).le (op_le g_itemS (fun _ _ _ q => q) fun _ _ _ q => q)
theorem g_inS : OpG L (fun x y H Q => ∃ i j, x = .str i ∧ y = .str j ∧ Q (.bl (!(Builtin.Str.occurrences j i 0 j.length 1).isEmpty)) H) inS := fun G F H σ ρ x y dx dy d Q g0 rx ry e k => by
  cases dx with
  | str w =>
    cases dy with
    | str z => cases e; cases rx; cases ry; exact ⟨w, z, rfl, rfl, k F H _ (Same.refl _) g0 (.bl _)⟩
    | _ => cases e
  | _ => cases e
def rSlS : V → Option Int → Option Int → Hp → VK → Prop := fun x lo hi H Q => ∃ z i, x = .str z ∧ lo = some i ∧ hi = none ∧ z.length ≤ sizeLine ∧ Q (.str (Txt.slice z (some i) none)) H
theorem sl_str : L2.SlR X rSlS := by
  intro pins s σ H x v vl vu lo hi sl Q I rx hs pl pu h
  obtain ⟨z, i, rfl, rfl, rfl, hz, k⟩ := h
  obtain ⟨t, rfl⟩ := rx
  cases pl with
  | int i t' =>
    cases pu
    refine ⟨"str", _, F.slot_str_getitem.lookup, typeIs_str _ _ _, ?_⟩
    refine wpAny_getItem_str_slice (l := some (i, t')) (u := none) (st := none) (by obtain ⟨o, h1, h2, h3⟩ := hs; exact ⟨o, h1, h2, h3⟩) rfl ?_
    exact post_val_or_str ⟨Nat.le_trans (Txt.slice_le z _ _) hz, fun t' k' => ⟨.str _, H, I.kept (t' := k') fun _ _ e => e, ⟨_, rfl⟩, k⟩⟩
theorem pv_fromS {p2 : Pos} (ha : PV X EX a fa) (hb : PV X EX b fb) : PV X EX (.Subscript a (.Slice (some b) none none p2) pos) (m2 fromS fa fb) :=
  (pe_slice sl_str ha (po_some hb) po_none).le fun σ H Q ⟨G, F, ρ, g0, o⟩ => at_bnd g0 o (fun x r q => q) fun F1 H1 ρ1 d1 x s1 g1 r1 o1 => by
    refine at_bnd (L := lc X EX) (Ra := RV (lc X EX)) g1 o1 (fun x r q => PostX.same s1 q) fun F2 H2 ρ2 d2 y s2 g2 r2 o2 => ?_
    obtain ⟨d, e, q⟩ := o2.opt
    cases d1 with
    | str w =>
      cases d2 with
      | int i =>
        simp only [fromS] at e
        split at e
        · rename_i hb
          cases e
          cases r1; cases r2
          exact ⟨i, rfl, w, i, rfl, rfl, rfl, by rw [sizeLine_eq]; exact hb, q F2 H2 _ (s1.trans s2) g2 (.str _)⟩
        · cases e
      | _ => cases e
    | _ => cases e
theorem g_pow : OpG L (rI CPow fun i j => .int (i ^ j.toNat)) powI := fun G F H σ ρ x y dx dy d Q g0 rx ry e k => by
  cases dx with
  | int i =>
    cases dy with
    | int j =>
      simp only [powI] at e
      split at e
      · rename_i hb
        cases e; cases rx; cases ry
        exact ⟨i, j, rfl, rfl, ⟨hb.1, by omega, hb.2.2⟩, k F H _ (Same.refl _) g0 (.int _)⟩
      · cases e
    | _ => cases e
  | _ => cases e
theorem bi0 {x qn : Str} {st : Stmt} (h : ∀ (kV doc pm : Value) (an : Option Addr) (cd ct : Value), bindArgs (PySem.W.fnOf x qn (defArgs st) (defBody st) (defScope st) .none kV doc pm an cd ct) ⟨[], []⟩ = pure (([] : List Str).zip []) := by intros; rfl) : BiH x qn st [] :=
  fun _ _ _ _ _ _ us hl => match us, hl with | [], _ => h _ _ _ _ _ _
def Its (x : Str) : It := ⟨fun i _ => i < x.cps.size, fun i H v H' => H' = H ∧ ∃ c, x.cps[i]? = some c ∧ v = .str ⟨#[c]⟩, fun i _ => x.cps.size ≤ i⟩
theorem turn_str {P : Program} {w : World} {K : Frag} {tg : Expr} (it : Addr) (x : Str) (t : Tok) (n : String) (hn : n = "str_ascii_iterator" ∨ n = "str_iterator") : Turn P w K tg (Its x) [it] it (fun i h => h.IsStrIter it n x t i) where
  mem := by simp
  obj := fun i h st b hb => by
    have e : b = it := by simpa using hb
    subst e
    obtain ⟨o, e, c, d⟩ := st
    exact ⟨o, e, fun v z => by rw [d] at z; cases z⟩
  keep := fun i h h' st k => by
    obtain ⟨o, e, r⟩ := st
    exact ⟨o, k it (by simp) o e, r⟩
  item := by
    intro X hP hw hK hc i pins s σ H E I hf st hg
    subst hP hw hK
    obtain ⟨f0, f1, f2, f3, f4, f5⟩ := hf it (by simp)
    have hg' : i < x.cps.size := hg
    have hx : x.cps[i]? = some x.cps[i] := by simp [hg']
    have fin : ∀ h', h'.IsStrIter it n x t (i + 1) → Heap.SameBut it s.heap h' → ∃ u, some (Value.str ⟨#[x.cps[i]]⟩ s.toks) = some u ∧ wpAny (model X.prog X.w) X.A (letOwnedTupleGo tg (.ref it) u) (fun _ s2 => ∃ v H', Inv X pins σ H' s2 ∧ RelV v u ∧ (Its x).yld i H v H' ∧ s2.heap.IsStrIter it n x t (i + 1) ∧ ∀ b ∈ [it], H' b = none) E { s with heap := h', toks := s.toks + 1 } := fun h' st' sb => by
      have I1 : Inv X pins σ H { s with heap := h', toks := s.toks + 1 } := I.turned (t' := s.toks + 1) (fun b o hb e => (sb.2 b hb).trans e) f0 f1 f3 f4 f5
      obtain ⟨o, e, c, d⟩ := id st'
      refine ⟨_, rfl, go_of (s := { s with heap := h', toks := s.toks + 1 }) e c d (by rcases hn with rfl | rfl <;> decide) ⟨.str ⟨#[x.cps[i]]⟩, H, I1, ⟨_, rfl⟩, ⟨rfl, _, hx, rfl⟩, st', fun b hb => (hf b hb).1⟩⟩
    rcases hn with rfl | rfl
    · exact wpAny_pyNext_ascii_item st hx fin
    · exact wpAny_pyNext_wide_item st hx fin
  done := by
    intro X hP hw hK hc i pins s σ H E I hf st hg
    subst hP hw hK
    obtain ⟨f0, f1, f2, f3, f4, f5⟩ := hf it (by simp)
    have hx : x.cps[i]? = none := by have : x.cps.size ≤ i := hg; simp [this]
    rcases hn with rfl | rfl
    · exact wpAny_pyNext_ascii_end (I.ok.hd hc) st hx fun h' eb => ⟨rfl, I.turned (t' := s.toks) (fun b o hb e => eb b o hb e) f0 f1 f3 f4 f5⟩
    · exact wpAny_pyNext_wide_end (I.ok.hd hc) st hx fun h' eb => ⟨rfl, I.turned (t' := s.toks) (fun b o hb e => eb b o hb e) f0 f1 f3 f4 f5⟩
  self := fun _ _ _ _ _ st h => by
    rcases hn with rfl | rfl
    · exact wpAny_pyIter_striter_ascii st h
    · exact wpAny_pyIter_striter_wide st h
theorem pi_signs {tg l : Expr} {tl : TE} (hl : PE X l tl) : PI X tg l (fun σ H R => tl σ H fun x H1 => ∃ z, x = .str z ∧ R (Its z) H1) := by
  intro pins s σ H R I h
  refine thn (hl pins s σ H _ I h) fun v s1 ⟨x, H1, I1, r1, q1⟩ => ?_
  obtain ⟨z, rfl, q⟩ := q1
  obtain ⟨t, rfl⟩ := r1
  have fp : ∀ b ∈ [s1.heap.objs.size], FpOk X pins H1 b := fun b hb => by
    have e : b = s1.heap.objs.size := by simpa using hb
    subst e
    exact I1.fpOk (Nat.le_refl _) (I1.hok.fresh (Nat.le_refl _))
  cases ha : z.cps.all (· < 128)
  · exact wpAny_pyIter_wide ha ⟨s1.heap.objs.size, [s1.heap.objs.size], _, _, H1, rfl, I1.kept (t' := s1.toks) fun b o e => Heap.get?_push_of_some _ e, turn_str _ z t _ (.inr rfl), ⟨_, Heap.get?_push_size _ rfl, rfl, rfl⟩, fp, q⟩
  · exact wpAny_pyIter_ascii ha ⟨s1.heap.objs.size, [s1.heap.objs.size], _, _, H1, rfl, I1.kept (t' := s1.toks) fun b o e => Heap.get?_push_of_some _ e, turn_str _ z t _ (.inl rfl), ⟨_, Heap.get?_push_size _ rfl, rfl, rfl⟩, fp, q⟩
theorem itr_signs {G : Fx} {F : Hp} (z : Str) : ItR L G F (Its z) (z.cps.toList.map fun c => D.str ⟨#[c]⟩) := fun σ i F' H' ρ s g => by
  refine ⟨fun hi => (by simpa using hi : i < z.cps.size), fun hi => (Nat.le_of_eq (by simpa using hi.symm) : z.cps.size ≤ i), fun x H'' ⟨e, c, hc, y⟩ => ?_⟩
  subst e y
  refine ⟨F', Same.refl _, g, fun d hd => ?_⟩
  rw [List.getElem?_map, Array.getElem?_toList, hc] at hd
  cases hd
  exact .str _
theorem vi_signs {tg : Expr} (h : PV X EX e fe) : PVI X EX tg e (mSigns fe) :=
  (pi_signs h).le fun σ H Q ⟨G, F, ρ, g0, o⟩ => at_bnd g0 o (fun x r q => q) fun F1 H1 ρ1 d1 x s1 g1 r1 o1 => by
    obtain ⟨ds, e, q⟩ := o1.opt
    cases d1 with
    | str z =>
      simp only [signsD] at e
      split at e
      · cases e; cases r1
        exact ⟨z, rfl, q F1 H1 _ s1 g1 (itr_signs z)⟩
      · cases e
    | _ => cases e
end
end VS

end
section
set_option linter.all false
set_option maxRecDepth 100000
namespace VS
open PySem PySem.Spec PyProof.Rows L2 VP
def XRaw (h : Heap) (e : Addr) (c : Value) (dx : Option Addr) : Prop := ∃ vs sl, h.get? e = some ⟨c, dx, .fields vs, sl⟩ ∧ vs[2]? = some .none ∧ vs[1]? = some .none
def XTb (h0 : Heap) (H : Hp) (h : Heap) (e : Addr) (c : Value) (dx : Option Addr) (v : Value) : Prop :=
  ∃ vs sl T ot ts, h.get? e = some ⟨c, dx, .fields vs, sl⟩ ∧ vs[2]? = some .none ∧ vs[1]? = some (.ref T) ∧ T ≠ e ∧ h0.get? T = none ∧ H T = none ∧ h.get? T = some ot ∧ ot.data = .fields ts ∧ ts[3]? = some v
structure Xo (h0 : Heap) (H : Hp) (h : Heap) (e : Addr) (c : Value) (dx : Option Addr) : Prop where
  lo : h0.get? e = none
  nt : H e = none
  st : XRaw h e c dx ∨ ∃ v, XTb h0 H h e c dx v
theorem HOk.keepT {P : Program} {w : World} {H : Hp} {h h' : Heap} (x : HOk P w H h) (k : ∀ b o u, H b = some u → h.get? b = some o → h'.get? b = some o) : HOk P w H h' := fun a o e => by
  refine (x a o e).stay (fun c v hc q => ?_) (fun _ q => q) fun _ _ q => q
  rcases hc with z | z
  · subst z; exact k _ _ _ e q
  · exact k _ _ _ z q
theorem ObjOk.there {P : Program} {w : World} {H : Hp} {h : Heap} {a : Addr} {o : HO} (x : ObjOk P w H h a o) : ∃ ob, h.get? a = some ob := by
  cases o with
  | lst xs => obtain ⟨_, _, _, _, e⟩ := x; exact ⟨_, e⟩
  | tup xs => obtain ⟨_, _, _, o, e, _⟩ := x; exact ⟨_, e⟩
  | dK kvs => obtain ⟨_, _, _, _, o, _, _, e, _⟩ := x; exact ⟨_, e⟩
  | dT kvs => obtain ⟨_, _, _, _, o, _, _, e, _⟩ := x; exact ⟨_, e⟩
  | set S n => obtain ⟨o, _, _, _, e, _⟩ := x; exact ⟨_, e⟩
  | ins C dx fs => obtain ⟨_, _, _, e, _⟩ := x; exact ⟨_, e⟩
  | own y => exact x
  | xd fs => obtain ⟨_, ⟨_, _, _, e, _⟩, _⟩ := x; exact ⟨_, e⟩
  | rng lo hi => obtain ⟨_, _, _, e⟩ := x; exact ⟨_, e⟩
  | frz ob u => exact ⟨_, x.1⟩
  | tbl ps => exact ⟨_, x⟩
  | met f y => exact ⟨_, x⟩
  | ext φ => exact x.2.1
theorem HOk.free {P : Program} {w : World} {H : Hp} {h : Heap} {a : Addr} (x : HOk P w H h) (e : h.get? a = none) : H a = none := by
  cases q : H a with
  | none => rfl
  | some o => obtain ⟨ob, z⟩ := ObjOk.there (x a o q); rw [e] at z; cases z
section
variable {X : Cx} {σ : St} {H : Hp} {s : Shared} {e : Addr} {c : Value} {dx : Option Addr}
theorem Inv.recs {h' : Heap} (I : Inv X [] σ H s) (hpn : X.pn = []) (ch : List Addr) (hlo : ∀ b ∈ ch, X.s₀.heap.get? b = none) (hnt : ∀ b ∈ ch, H b = none) (hrec : ∀ b ∈ ch, ∃ o vs, s.heap.get? b = some o ∧ o.data = .fields vs)
    (k1 : ∀ b o, b ∉ frs X.stack → b ∉ ch → s.heap.get? b = some o → h'.get? b = some o) (k2 : ∀ b o, b ∉ ch → s.heap.get? b = some o → ∃ sl, h'.get? b = some { o with slots := sl }) (k3 : ∀ b o, s.heap.get? b = some o → ∃ o', h'.get? b = some o') :
    Inv X [] σ H { s with heap := h' } := by
  have hok : HOk X.prog X.w H h' := HOk.keepT I.hok fun b o u hu q => k1 b o (fun z => by rw [I.stkFree b z] at hu; cases hu) (fun z => by rw [hnt b z] at hu; cases hu) q
  have neL : ∀ b o, X.s₀.heap.get? b = some o → b ≠ X.env.locals := fun b o e => Nat.ne_of_lt (Nat.lt_of_lt_of_le (Heap.lt_size e) I.ok.above)
  have neC : ∀ b o, X.s₀.heap.get? b = some o → b ∉ ch := fun b o e hb => by rw [hlo b hb] at e; cases e
  have nst : ∀ b, b ≠ X.env.locals → b ∉ X.fs → b ∉ frs X.stack := fun b h1 h2 z => (List.mem_cons.mp (I.stkSub b z)).elim h1 h2
  have nC : ∀ b o, s.heap.get? b = some o → (∀ vs, o.data ≠ .fields vs) → b ∉ ch := fun b o q hn z => by
    obtain ⟨o', vs, h1, h2⟩ := hrec b z
    rw [q] at h1
    cases h1
    exact hn vs h2
  have cellK : ∀ x c, X.env.cells.lookup x = some c → ∀ v, s.heap.IsCell c v → h'.IsCell c v := fun x c e v ⟨o, ho, hd⟩ => by
    obtain ⟨sl, q⟩ := k2 c o (nC c o ho fun vs z => by rw [hd] at z; cases z) ho
    exact ⟨_, q, hd⟩
  refine ⟨I.ok, I.os, I.bare, ⟨fun b o e n hb hx => ?_, fun b o e n hb hx => ?_, fun b o e n hx => I.base.free b o e n hx, fun b o e hx => ?_, I.base.tups, I.base.frzs, I.base.tbls⟩, ?_, fun x c e => ?_, I.free, I.freeC, fun p hp => ?_, hok, I.len⟩
  · exact k1 b o (nst b (neL b o e) hb) (neC b o e) (I.base.keep b o e n hb hx)
  · obtain ⟨sl, e1⟩ := I.base.slot b o e n hb hx
    obtain ⟨sl', e2⟩ := k2 b _ (neC b o e) e1
    exact ⟨sl', e2⟩
  · obtain ⟨o', e1⟩ := I.base.there b o e hx
    exact k3 b o' e1
  · obtain ⟨m, ⟨o, es, ep, ho, hd, r⟩, hl⟩ := I.loc
    obtain ⟨sl, q⟩ := k2 _ o (nC _ o ho fun vs z => by rw [hd] at z; cases z) ho
    refine ⟨m, ⟨_, es, ep, q, hd, r⟩, fun i x v e1 e2 e3 => ?_⟩
    obtain ⟨u, r, l⟩ := hl i x v e1 e2 e3
    refine ⟨u, r, ?_⟩
    rcases l with l | ⟨k, c, e, z⟩
    · exact .inl l
    · exact .inr ⟨k, c, e, cellK x c e _ z⟩
  · obtain ⟨v, z⟩ := I.cell x c e
    exact ⟨v, cellK x c e v z⟩
  · rw [hpn] at hp
    exact absurd hp (by simp)
theorem note_new {hadNext : Bool} {head : Value} {Q : Unit → Shared → Prop} {E : Value → Shared → Prop} {vs : Array Value} {sl : Array (Option Value)} (I : Inv X [] σ H s) (hpn : X.pn = []) (hs : X.stack = X.env :: X.outer) (hf : X.env.frame = some X.env.locals)
    (hlo : X.s₀.heap.get? e = none) (hnt : H e = none) (he : s.heap.get? e = some ⟨c, dx, .fields vs, sl⟩) (hv2 : vs[2]? = some .none) (hsz : 1 < vs.size)
    (hQ : ∀ h', Inv X [] σ H { s with heap := h' } → XTb X.s₀.heap H h' e c dx (rawInt X.env.locals) → Q () { s with heap := h' }) :
    wpAny (model X.prog X.w) X.A (do let a ← frameOf X.env; let pl ← entryPlaceOf X.env.locals hadNext; let b ← EntryCells.newEntry head a .none (rawInt X.env.locals) .none pl; setField (.ref e) 1 b) Q E s := by
  have hfr : X.A.frames = some (X.env :: X.outer) := by rw [← hs]; exact I.ok.frames
  have hl : s.heap.FunFrames X.base (X.env :: X.outer) := by rw [← hs]; exact I.stack
  have fe : frs X.stack = (X.env :: X.outer).filterMap (·.frame) := by rw [hs]; rfl
  have hene : e ∉ frs X.stack := fun hm => by
    rw [fe] at hm
    obtain ⟨_, o, ho, hnf⟩ := hl.mem hm
    rw [he] at ho; cases ho; exact hnf vs rfl
  refine wpAny_bind (wpAny_frameOf_fun hfr hl hf fun h₁ hs₁ => ?_)
  rw [← fe] at hs₁
  refine wpAny_bind (wpAny_entryPlaceOf fun pl hpl => ?_)
  unfold EntryCells.newEntry newFields
  refine wpAny_bind (wpAny_newObj_type ?_ (hpl.sizeOk5 _ _ _ _ _))
  have he₁ : h₁.get? e = some ⟨c, dx, .fields vs, sl⟩ := (hs₁.2.1 e hene).trans he
  have he₂ := Heap.get?_push_of_some (h := h₁) { cls := .type "traceback", dict := none, data := .fields ([head, .ref X.env.locals, .none, rawInt X.env.locals, .none] ++ (if pl.isEmpty then List.replicate 6 Value.none else pl)).toArray } he₁
  refine wpAny_setField he₂ rfl hsz (hQ _ ?_ ?_)
  · have keep : ∀ b o, b ≠ e → h₁.get? b = some o → ((h₁.push { cls := .type "traceback", dict := none, data := .fields ([head, .ref X.env.locals, .none, rawInt X.env.locals, .none] ++ (if pl.isEmpty then List.replicate 6 Value.none else pl)).toArray }).update e (Obj.mapFields (·.setIfInBounds 1 (Value.ref h₁.objs.size)))).get? b = some o := fun b o hbe hb => by
      rw [Heap.get?_update_other _ _ (Ne.symm hbe)]
      exact Heap.get?_push_of_some _ hb
    refine Inv.recs I hpn [e] (fun b hb => by cases List.mem_singleton.mp hb; exact hlo) (fun b hb => by cases List.mem_singleton.mp hb; exact hnt) (fun b hb => by cases List.mem_singleton.mp hb; exact ⟨_, vs, he, rfl⟩) (fun b o hb hc q => keep b o (fun z => hc (by simp [z])) ((hs₁.2.1 b hb).trans q)) (fun b o hc q => ?_) fun b o q => ?_
    · obtain ⟨sl', q'⟩ := hs₁.2.2 b o q
      exact ⟨sl', keep b _ (fun z => hc (by simp [z])) q'⟩
    · by_cases z : b = e
      · subst z; exact ⟨_, Heap.get?_update_self _ he₂ (Obj.isFreed_of_fields (Obj.data_mapFields rfl _))⟩
      · obtain ⟨sl', q'⟩ := hs₁.2.2 b o q
        exact ⟨_, keep b _ z q'⟩
  · have hTe : h₁.objs.size ≠ e := Nat.ne_of_gt (Heap.lt_size he₁)
    refine ⟨vs.setIfInBounds 1 (.ref h₁.objs.size), sl, h₁.objs.size, { cls := .type "traceback", dict := none, data := .fields ([head, .ref X.env.locals, .none, rawInt X.env.locals, .none] ++ (if pl.isEmpty then List.replicate 6 Value.none else pl)).toArray }, _, ?_, by rw [Array.getElem?_setIfInBounds_ne (by decide)]; exact hv2, by simp [hsz], hTe, ?_, ?_, ?_, rfl, ?_⟩
    · rw [Heap.get?_update_self _ he₂ (Obj.isFreed_of_fields (Obj.data_mapFields rfl _))]
      rfl
    · rw [hs₁.1]; exact Heap.get?_none_of_le I.sz
    · rw [hs₁.1]; exact I.fresh
    · rw [Heap.get?_update_other _ _ (Ne.symm hTe)]
      exact Heap.get?_push_size h₁ rfl
    · first | (simp; done) | (rcases hpl with rfl | ⟨_, _, _, _, _, _, _, rfl⟩ <;> simp)
theorem tb_set {v : Value} {i : Value} {Q : Unit → Shared → Prop} {E : Value → Shared → Prop} {T : Addr} {ot : Obj} {ts : Array Value} {vs : Array Value} {sl : Array (Option Value)} (I : Inv X [] σ H s) (hpn : X.pn = [])
    (he : s.heap.get? e = some ⟨c, dx, .fields vs, sl⟩) (hT : vs[1]? = some (.ref T)) (hTe : T ≠ e) (hlo : X.s₀.heap.get? T = none) (hnt : H T = none) (hot : s.heap.get? T = some ot) (hd : ot.data = .fields ts) (h3 : ts[3]? = some v)
    (hQ : ∀ h', Inv X [] σ H { s with heap := h' } → h'.get? e = some ⟨c, dx, .fields vs, sl⟩ → (∃ ot' ts', h'.get? T = some ot' ∧ ot'.data = .fields ts' ∧ ts'[3]? = some i) → Q () { s with heap := h' }) :
    wpAny (model X.prog X.w) X.A (setField (.ref T) 3 i) Q E s := by
  have hsz : 3 < ts.size := (Array.getElem?_eq_some_iff.mp h3).1
  have other : ∀ b o, b ≠ T → s.heap.get? b = some o → (s.heap.update T (Obj.mapFields (·.setIfInBounds 3 i))).get? b = some o := fun b o hb q => by
    rw [Heap.get?_update_other _ _ (Ne.symm hb)]; exact q
  have self := Heap.get?_update_self (Obj.mapFields (·.setIfInBounds 3 i)) hot (Obj.isFreed_of_fields (Obj.data_mapFields hd _))
  refine wpAny_setField hot hd hsz (hQ _ ?_ (other e _ (Ne.symm hTe) he) ⟨_, _, self, Obj.data_mapFields hd _, by simp [hsz]⟩)
  refine Inv.recs I hpn [T] (fun b hb => by cases List.mem_singleton.mp hb; exact hlo) (fun b hb => by cases List.mem_singleton.mp hb; exact hnt) (fun b hb => by cases List.mem_singleton.mp hb; exact ⟨_, ts, hot, hd⟩) (fun b o hb hc q => other b o (fun z => hc (by simp [z])) q) (fun b o hc q => ⟨o.slots, other b o (fun z => hc (by simp [z])) q⟩) fun b o q => ?_
  by_cases z : b = T
  · subst z; exact ⟨_, self⟩
  · exact ⟨_, other b o z q⟩
theorem note_x {Q : Unit → Shared → Prop} {E : Value → Shared → Prop} (I : Inv X [] σ H s) (hpn : X.pn = []) (hs : X.stack = X.env :: X.outer) (hf : X.env.frame = some X.env.locals) (x : Xo X.s₀.heap H s.heap e c dx)
    (hQ : ∀ h', Inv X [] σ H { s with heap := h' } → XTb X.s₀.heap H h' e c dx (rawInt X.env.locals) → Q () { s with heap := h' }) : wpAny (model X.prog X.w) X.A (noteFrame (.ref e) X.env) Q E s := by
  unfold noteFrame
  simp only [hf]
  rcases x.st with ⟨vs, sl, he, hv2, h1⟩ | ⟨v, vs, sl, T, ot, ts, he, hv2, h1, hTe, hTl, hTn, hot, hd, h3⟩
  · refine wpAny_bind (wpAny_field he rfl h1 ?_)
    rw [if_neg (by decide)]
    exact note_new I hpn hs hf x.lo x.nt he hv2 (Array.getElem?_eq_some_iff.mp h1).1 hQ
  · refine wpAny_bind (wpAny_field he rfl h1 ?_)
    rw [if_pos (show (Value.ref T != Value.none) = true from by simp)]
    refine wpAny_bind (wpAny_field hot hd h3 ?_)
    by_cases q : (v == rawInt X.env.locals) = true
    · rw [if_pos q]
      have : v = rawInt X.env.locals := by simpa using q
      subst this
      exact wpAny_pure (hQ s.heap I ⟨vs, sl, T, ot, ts, he, hv2, h1, hTe, hTl, hTn, hot, hd, h3⟩)
    · rw [if_neg q]
      refine wpAny_bind (tb_set (i := .none) I hpn he h1 hTe hTl hTn hot hd h3 fun h' I' he' _ => ?_)
      exact note_new I' hpn hs hf x.lo x.nt he' hv2 (Array.getElem?_eq_some_iff.mp h1).1 hQ
theorem flight_x {Q : Unit → Shared → Prop} {E : Value → Shared → Prop} {v : Value} (fr : Option Addr) (I : Inv X [] σ H s) (hpn : X.pn = []) (x : XTb X.s₀.heap H s.heap e c dx v)
    (hQ : ∀ h', Inv X [] σ H { s with heap := h' } → XTb X.s₀.heap H h' e c dx (fr.elim .none fun f => rawInt f) → Q () { s with heap := h' }) : wpAny (model X.prog X.w) X.A (setFlight (.ref e) fr) Q E s := by
  obtain ⟨vs, sl, T, ot, ts, he, hv2, h1, hTe, hTl, hTn, hot, hd, h3⟩ := x
  unfold setFlight
  refine wpAny_bind (wpAny_field he rfl h1 ?_)
  rw [if_pos (show (Value.ref T != Value.none) = true from by simp)]
  exact tb_set I hpn he h1 hTe hTl hTn hot hd h3 fun h' I' he' ⟨ot', ts', q1, q2, q3⟩ => hQ h' I' ⟨vs, sl, T, ot', ts', he', hv2, h1, hTe, hTl, hTn, q1, q2, q3⟩
def xeOf (X : Cx) (EX : XE) : Value → Shared → Prop := fun v s => ∃ e c dx σ H, v = .ref e ∧ Inv X.nox [] σ H s ∧ Xo X.s₀.heap H s.heap e c dx ∧ EX σ c dx H
theorem own_x {EX : XE} (hpn : X.pn = []) (hs : X.stack = X.env :: X.outer) (hf : X.env.frame = some X.env.locals) : PassesOwn (model X.prog X.w) X.A X.env (xeOf X EX) := by
  intro v s ⟨e, c, dx, σ, H, hv, I, x, q⟩
  subst hv
  refine note_x (X := X.nox) I hpn hs hf x fun h' I' x' => ?_
  obtain ⟨vs, sl, T, ot, ts, he, _, h1, hTe, hTl, hTn, hot, hd, h3⟩ := id x'
  refine wpAny_bind (wpAny_field he rfl h1 ?_)
  rw [if_neg (by simp)]
  exact flight_x (X := X.nox) _ I' hpn x' fun h2 I2 x2 => ⟨e, c, dx, σ, H, rfl, I2, ⟨x.lo, x.nt, .inr ⟨_, x2⟩⟩, q⟩
end
end VS

end
section
set_option linter.all false
set_option maxRecDepth 100000
namespace VS
open PySem PySem.Spec PyProof.Rows L2 VP
def CX1 (P : Program) (w : World) : CXT := fun outer H s E v s' => ∃ e c dx H', v = .ref e ∧ s'.os = s.os ∧ AllBare s'.gens ∧ Un (frs outer) [] H H' s.heap s'.heap ∧ HOk P w H' s'.heap ∧ Xo s.heap H' s'.heap e c dx ∧ E c dx H'
theorem Inv.nopin {X : Cx} {pins : List (Addr × Obj)} {σ : St} {H : Hp} {s : Shared} (I : Inv X pins σ H s) : Inv X [] σ H s :=
  ⟨I.ok, I.os, I.bare, I.base, I.loc, I.cell, I.free, I.freeC, fun p hp => I.pin p (List.mem_append_left _ (by simpa using hp)), I.hok, I.len⟩
theorem Xo.mono {h0 h1 : Heap} {H : Hp} {h : Heap} {e : Addr} {c : Value} {dx : Option Addr} (x : Xo h1 H h e c dx) (k : ∀ b, h1.get? b = none → h0.get? b = none) : Xo h0 H h e c dx :=
  ⟨k _ x.lo, x.nt, x.st.imp id fun ⟨v, vs, sl, T, ot, ts, a1, a0, a2, a3, a4, a5⟩ => ⟨v, vs, sl, T, ot, ts, a1, a0, a2, a3, k _ a4, a5⟩⟩
section
variable {X : Cx} {σ : St} {H : Hp} {s : Shared} {e : Addr} {c : Value} {dx : Option Addr} {EX : XE}
theorem leave_x {E : XK} {E' : Value → Shared → Prop} (I : Inv X [] σ H s) (hpn : X.pn = []) (hs : X.stack = X.env :: X.outer) (hf : X.env.frame = some X.env.locals) (hex : X.ex = []) (x : Xo X.s₀.heap H s.heap e c dx) (q : E c dx H) :
    wpAny (model X.prog X.w) X.A (leaving X.env (.ref e)) (fun _ s'' => CX1 X.prog X.w X.outer X.H₀ X.s₀ E (.ref e) s'') E' s := by
  unfold leaving
  refine wpAny_bind (note_x I hpn hs hf x fun h' I' x' => ?_)
  refine flight_x none I' hpn x' fun h2 I2 x2 => ⟨e, c, dx, H, rfl, I2.os, I2.bare, ?_, I2.hok, ⟨x.lo, x.nt, .inr ⟨_, x2⟩⟩, q⟩
  have b := I2.base
  rw [hex] at b
  exact b
theorem Inv.older {pins : List (Addr × Obj)} (I : Inv X pins σ H s) (hex : X.ex = []) (b : Addr) (h : s.heap.get? b = none) : X.s₀.heap.get? b = none := by
  cases q : X.s₀.heap.get? b with
  | none => rfl
  | some o =>
    obtain ⟨o', z⟩ := I.base.there b o q (by rw [hex]; simp)
    rw [h] at z
    cases z
theorem pass1 (hpn : X.pn = []) (hex : X.ex = []) : PassesAt (CX1 X.prog X.w) (X.wish (xeOf X EX)) EX := by
  intro pins σ H s v s' I ⟨e, c, dx, H', hv, ho, hg, un, hok, x, q⟩
  refine ⟨e, c, dx, σ, H', hv, ?_, x.mono fun b hb => (Inv.older (X := X) I.unwish hex b hb), q⟩
  have I1 : Inv X.nox [] σ H s := (Inv.nopin I.unwish).wish _
  exact I1.call' (ch := []) ho un hok hg fun b hb => absurd hb (by simp)
end
section
variable {P : Program} {w : World} {K : Frag} {mg : MG} {base : Heap}
abbrev cx1 (P : Program) (w : World) (K : Frag) (mg : MG) (base : Heap) (N : List Str) (qual : Str) (sc : Scope) (f : Addr) (cdv : Value) (A : Around) (outer : List Env) (s : Shared) (H : Hp) (E : XK) : Cx :=
  (cxOf (CX1 P w) P w K mg base N qual sc f cdv A outer s H E).wish (xeOf (cxOf (CX1 P w) P w K mg base N qual sc f cdv A outer s H E) fun _ => E)
theorem fn_okX {x qual : Str} {st : Stmt} {f : Addr} {fd : FuncData} {N ps : List Str} {k : Nat} {fl : List Bool} {body : M Fl} (Fu : Fun K x qual st f fd) (S : FnScope N ps (defScope st)) (hl : fl.length = ps.length)
    (hbody : ∀ (cdv : Value) (A : Around) (outer : List Env) (s : Shared) (H : Hp) (E : XK), Room k (A.deeper (envOfC qual (defScope st) s.heap.objs.size f cdv)) →
      PassesAt (CX1 P w) (cx1 P w K mg base N qual (defScope st) f cdv A outer s H E) (fun _ => E) →
      PassesOwn (model P w) (cx1 P w K mg base N qual (defScope st) f cdv A outer s H E).A (cx1 P w K mg base N qual (defScope st) f cdv A outer s H E).env (cx1 P w K mg base N qual (defScope st) f cdv A outer s H E).xe →
      PVSs (cx1 P w K mg base N qual (defScope st) f cdv A outer s H E) (fun _ => E) (defBody st) body) :
    FnOk P w K mg base (CX1 P w) (k + 1) f fd ps (spV K mg fl (defn N.length fl body)) := by
  obtain ⟨oc, od, kV, doc, pm, an, cdv, ct, osl, rfl, lk, hcd⟩ := Fu.ex
  refine fn_of lk hcd S (fun vs H Q E h => by rw [h.1, hl]) fun A outer s H vs Q E hr hsp => ?_
  refine ⟨_, fun pins s1 σ H1 D I q => ?_, start_le S.pre hl hsp⟩
  refine wpAny_mono (hbody cdv A outer s H E hr (pass1 rfl rfl) (own_x rfl rfl rfl) pins s1 σ H1 D (I.wish _) q) (fun fl s2 h2 => h2.unwish) fun v s2 h2 => ?_
  obtain ⟨e, c, dx, σ2, H2, rfl, I2, x2, q2⟩ := h2
  exact leave_x (X := cxOf (CX1 P w) P w K mg base N qual (defScope st) f cdv A outer s H E) I2.unwish rfl rfl rfl rfl x2 q2
end
abbrev vmro : List Value := [.type "ValueError", .type "Exception", .type "BaseException", .type "object"]
section
variable {X : Cx} {EX : XE} {C : Addr} {x : Str} {e : Expr} {es : List Expr} {fs : List (M D)} {np cpos pos : Pos}
end
end VS

end
section
set_option linter.all false
set_option maxRecDepth 100000
namespace VS
open PySem PySem.Spec PyProof.Rows L2 VP
structure ErrK (K : Frag) (C : Addr) : Prop where
  ga : PySem.W.findIn K (.ref C) "__getattribute__" = some (some (.builtin "BaseException.__getattribute__"))
  gh : PySem.W.findIn K (.ref C) "__getattr__" = some none
  mb : PySem.W.mroIn K C (.type "BaseException") = some true
  mo : PySem.W.mroIn K C (.type "object") = some true
section
variable {prog : Program} {w : World} {A : Around} {E : Value → Shared → Prop} {s : Shared} {K : Frag} {e C : Addr} {oe : Obj} {od : Option Obj} {name : Str}
theorem x_find {tk : Tok} {r : Builtin.ObjectAttr.Found} {Q : PySem.Fin → Shared → Prop} (kin : K.In s.heap) (I : PySem.W.InstAt s.heap e oe C od) (hf : PySem.W.findObj K C od name = some r)
    (h : match r with | .value v => Q (.done (.ret v)) s | .bind g a => wpAny (model prog w) A (call g [a, .ref e, .ref C]) (fun v s' => Q (.done (.ret v)) s') E s | _ => False) :
    wpAny (model prog w) A (Builtin.«object.__getattribute__» ⟨[.ref e, .str name tk], []⟩) Q E s := by
  obtain ⟨hh, gg, d, t, os⟩ := s
  have L0 := I.type (M := model prog w)
  have L1 := PySem.W.looks_find (M := model prog w) kin I hf
  unfold Builtin.«object.__getattribute__»
  refine wpAny_bind (wpAny_pure ?_)
  refine wpAny_bind (wpAny_pure ?_)
  refine wpAny_bind (L0.at (wpAny_bind (L1.at ?_)))
  cases r with
  | value v => exact wpAny_pure h
  | bind g a =>
    show wpAny _ _ (holding [a] (call g [a, .ref e, .ref C]) >>= ret) _ _ _
    exact wpAny_bind (wpAny_holding (wpAny_mono h (fun v s' z => wpAny_pure z) fun _ _ z => z))
  | missing => exact h.elim
theorem x_check {tk : Tok} {Q : Unit → Shared → Prop} (kin : K.In s.heap) (I : PySem.W.InstAt s.heap e oe C od) (k : ErrK K C) (h : Q () s) : wpAny (model prog w) A (checkBuiltinCall "BaseException.__getattribute__" ⟨[.ref e, .str name tk], []⟩) Q E s := by
  obtain ⟨hh, gg, d, t, os⟩ := s
  have L0 := I.type (M := model prog w)
  have L1 := PySem.W.looks_mroIn (M := model prog w) kin k.mb
  have hk : builtinKind "BaseException.__getattribute__" = some .slot := by decide +kernel
  have hsplit : splitId "BaseException.__getattribute__" = some ("BaseException", "__getattribute__") := by decide +kernel
  have ha := PySem.F.args_bexc_ga (.ref e) (.str name tk)
  simp only [checkBuiltinCall, hk, hsplit]
  refine wpAny_bind ?_
  unfold isInstance
  refine wpAny_bind (L0.at (L1.at ?_))
  repeat (first | assumption | wp_step)
theorem x_by {tk : Tok} {fill ex : Bool} {r : Builtin.ObjectAttr.Found} {Q : Value → Shared → Prop} (kin : K.In s.heap) (I : PySem.W.InstAt s.heap e oe C od) (k : ErrK K C) (hf : PySem.W.findObj K C od name = some r)
    (h : match r with | .value v => wpAny (model prog w) A (handedOut v) Q E s | .bind g a => wpAny (model prog w) A.in1 (call g [a, .ref e, .ref C]) (fun v s' => wpAny (model prog w) A (handedOut v) Q E s') (fun _ _ => False) s | _ => False) :
    wpAny (model prog w) A (getAttrBy (.ref e) (.str name tk) fill ex) Q E s := by
  obtain ⟨hh, gg, d, t, os⟩ := s
  have L0 := I.type (M := model prog w)
  have L1 := PySem.W.looks_findIn (M := model prog w) kin k.ga
  have L2 := PySem.W.looks_findIn (M := model prog w) kin k.gh
  have f3 := PySem.F.excAttr_ValueError.ga.bind (.ref e)
  unfold getAttrBy
  refine wpAny_holding (wpAny_bind (L0.at (wpAny_bind (L1.at ?_))))
  have hx0 : (ex && onTheHeap (Value.builtin "BaseException.__getattribute__")) = false := by cases ex <;> rfl
  dsimp only
  rw [if_neg (by rw [show (Value.builtin "BaseException.__getattribute__" == Value.builtin "object.__getattribute__") = false by decide +kernel]; simp)]
  unfold getAttrByItsOwn hookBefore
  refine wpAny_bind ?_
  rw [if_pos (show onTheHeap (Value.ref C) = true from rfl)]
  refine L2.at ?_
  refine wpAny_bind (wpAny_attempt (wpAny_holding ?_))
  unfold callGetattribute
  rw [hx0, if_neg Bool.false_ne_true]
  unfold boundAndCalled
  rw [f3]
  refine wpAny_bind (wpAny_pure ?_)
  refine wpAny_call (codeAny_call_builtin PySem.F.excAttr_ValueError.ga.plain PySem.F.entry_bexc_ga (x_check kin I k (x_find kin I hf ?_)))
  cases r with
  | value v => exact h
  | bind g a => exact wpAny_mono h (fun v s' z => z) fun _ _ z => z.elim
  | missing => exact h.elim
def ErrAt (e C : Addr) (h : Heap) : Prop := ∃ oe od, PySem.W.InstAt h e oe C od
structure ErrC (K : Frag) (C : Addr) : Prop extends ErrK K C where
  cl : PySem.W.isClsIn K C = true
  fc : PySem.W.findIn K (.ref C) "__class__" = some (some (.builtin "object.__class__"))
theorem kitx_err (k : ErrC K C) (hn : PySem.W.specialIn K (.builtin "object.__class__") "__get__" = some (some (.builtin "getset_descriptor.__get__"))) (htk : PySem.W.takesIn K (.builtin "object.__class__") = some true) :
    PySem.W.KitX K (.ref e) (.ref C) (ErrAt e C) where
  ty := fun _ _ _ ⟨_, _, I⟩ => I.type
  it := fun _ _ kin _ => by
    have z : (PySem.W.clsIn K C).isSome = true := k.cl
    unfold PySem.W.clsIn at z
    split at z
    · rename_i ho
      intro A' Q' E' s' kk q
      unfold isType loadHead
      exact wpAny_bind (wpAny_loadPart (kk _ _ (kin _ _ ho)) (wpAny_pure q))
    · cases z
  ne := fun h tp dd its n sl kin htp => by
    refine Bool.eq_false_iff.mpr fun q => ?_
    have z : (PySem.W.clsIn K C).isSome = true := k.cl
    cases Value.ref.inj (beq_iff_eq.mp q)
    unfold PySem.W.clsIn at z
    split at z
    · rename_i ho
      have y := (kin _ _ ho).symm.trans htp
      cases y
    · cases z
  ca := fun {prog w A E Q s} kin ⟨oe, od, I⟩ h => by
    have hf : PySem.W.findObj K C od "__class__" = some (.bind (.builtin "getset_descriptor.__get__") (.builtin "object.__class__")) := by
      obtain ⟨cd, hc⟩ := Option.isSome_iff_exists.mp (show (PySem.W.clsIn K C).isSome = true from k.cl)
      unfold PySem.W.findObj
      simp [hc, k.fc, hn, htk]
    unfold getAttr? getAttrBy?
    refine wpAny_bind (wpAny_mkText (wpAny_bind (wpAny_attempt ?_)))
    refine x_by (s := { s with toks := s.toks + 1 }) kin I k.toErrK hf ?_
    exact wpAny_call (PySem.W.class_get (s := { s with toks := s.toks + 1 }) kin I k.mo (PySem.W.handed_on rfl (wpAny_pure h)))
end
end VS

end
section
set_option linter.all false
set_option maxRecDepth 100000
namespace VS
open PySem PySem.Spec PyProof.Rows L2 VP
open PySem.W (Looks)
abbrev hand (X : Cx) (e : Addr) : Cx := { X with A := X.A.mark (some (.ref e)), calm := false, xe := fun _ _ => False }
section
variable {X : Cx} {pins : List (Addr × Obj)} {σ : St} {H : Hp} {s : Shared} {e : Addr}
theorem Ok.hand (ok : X.Ok) (e : Addr) : (hand X e).Ok :=
  ⟨ok.mod, ok.kind, ok.glob, ok.blt, ok.above, ok.inj, ok.has, ok.cab, (fun z => nomatch z), ok.frames, ok.stk, ok.exf, ok.bs, ok.bsz, ok.noex, ok.exfs, ok.funs, ok.frf⟩
theorem Inv.hand (I : Inv X pins σ H s) (e : Addr) : Inv (hand X e) pins σ H s := ⟨Ok.hand I.ok e, I.os, I.bare, I.base, I.loc, I.cell, I.free, I.freeC, I.pin, I.hok, I.len⟩
theorem Inv.unhand (ok : X.Ok) (I : Inv (VS.hand X e) pins σ H s) : Inv X pins σ H s := ⟨ok, I.os, I.bare, I.base, I.loc, I.cell, I.free, I.freeC, I.pin, I.hok, I.len⟩
theorem Inv.track {o : HO} (I : Inv X [] σ H s) (hpn : X.pn = []) (hlo : X.s₀.heap.get? e = none) (hnt : H e = none) (hrec : ∃ ob vs, s.heap.get? e = some ob ∧ ob.data = .fields vs) (new : ObjOk X.prog X.w (upd H e o) s.heap e o) (hown : ∀ a, o ≠ .own a) :
    Inv X [] σ (upd H e o) s := by
  obtain ⟨ob, vs, h1, h2⟩ := hrec
  have ne : ∀ b u, H b = some u → b ≠ e := fun b u q z => by rw [z, hnt] at q; cases q
  refine ⟨I.ok, I.os, I.bare, ⟨I.base.keep, I.base.slot, fun b o' q n hx => ?_, I.base.there, fun b xs q => ?_, fun b o' u q => ?_, fun b ps q => ?_⟩, I.loc, I.cell, ?_, fun x c q => ?_, fun p hp => ?_, fun b u q => ?_, I.len⟩
  · rw [upd_ne (fun z => by rw [z, hlo] at q; cases q)]; exact I.base.free b o' q n hx
  · have := I.base.tups b xs q; rw [upd_ne (ne _ _ this)]; exact this
  · have := I.base.frzs b o' u q; rw [upd_ne (ne _ _ this)]; exact this
  · obtain ⟨m, this⟩ := I.base.tbls b ps q; exact ⟨m, by rw [upd_ne (ne _ _ this)]; exact this⟩
  · rw [upd_ne (fun z => ?_)]
    · exact I.free
    · obtain ⟨m, ⟨o', es, ep, h3, h4, _⟩, _⟩ := I.loc
      rw [z, h1] at h3; cases h3; rw [h2] at h4; cases h4
  · rw [upd_ne (fun z => ?_)]
    · exact I.freeC x c q
    · obtain ⟨v, o', h3, h4⟩ := I.cell x c q
      rw [z, h1] at h3; cases h3; rw [h2] at h4; cases h4
  · rw [hpn] at hp; exact absurd hp (by simp)
  · by_cases z : b = e
    · subst z
      rw [upd_same] at q
      cases q
      exact new
    · rw [upd_ne z] at q
      refine (I.hok b u q).stay (fun c v hc y => y) (fun c y => ?_) fun c xs y => ?_
      · rw [upd_ne (ne _ _ y)]; exact y
      · rw [upd_ne (ne _ _ y)]; exact y
theorem name_goes {M : Model} {A : Around} {E : Value → Shared → Prop} {Q : Unit → Shared → Prop} {j : Nat} {n : Str} {pos : Pos} (I : Inv X pins σ H s) (hN : X.N[j]? = some n) (hnd : X.N.Nodup) (hloc : X.env.scope.names.lookup n = some .local)
    (h : ∀ s', Inv X pins (σ.set j none) H s' → Q () s') : wpAny M A (do bindName X.env n .none; unbindBehindTheSuite X.env n pos) Q E s := by
  obtain ⟨m, hm, hl⟩ := id I.loc
  refine wpAny_nameGoes_keeps hloc hm (by rw [I.ok.kind]; rfl) fun h' v hn hs => h _ ?_
  have nl : ∀ b u, H b = some u → b ≠ X.env.locals := fun b u q z => by rw [z, I.free] at q; cases q
  have neL : ∀ b o, X.s₀.heap.get? b = some o → b ≠ X.env.locals := fun b o q => Nat.ne_of_lt (Nat.lt_of_lt_of_le (Heap.lt_size q) I.ok.above)
  refine ⟨I.ok, I.os, I.bare, ⟨fun b o q n hb hx => ?_, fun b o q n hb hx => ?_, I.base.free, fun b o q hx => ?_, I.base.tups, I.base.frzs, I.base.tbls⟩, ⟨_, hn, fun i x w e1 e2 e3 => ?_⟩, fun x c q => ?_, I.free, I.freeC, fun p hp => ?_, HOk.keepT I.hok fun b o u hu q => (hs.2 b (nl b u hu)).trans q, by simpa using I.len⟩
  · exact (hs.2 b (neL b o q)).trans (I.base.keep b o q n hb hx)
  · obtain ⟨sl, e1⟩ := I.base.slot b o q n hb hx
    exact ⟨sl, (hs.2 b (neL b o q)).trans e1⟩
  · obtain ⟨o', e1⟩ := I.base.there b o q hx
    exact ⟨o', (hs.2 b (neL b o q)).trans e1⟩
  · by_cases hj : i = j
    · subst hj
      by_cases hi : i < σ.length
      · rw [List.getElem?_set_self hi] at e2; cases e2
      · rw [List.getElem?_eq_none (by simpa using hi)] at e2; cases e2
    · rw [List.getElem?_set_ne (Ne.symm hj)] at e2
      obtain ⟨u, r, l⟩ := hl i x w e1 e2 e3
      have nx : x ≠ n := fun z => hj (nodup_ix hnd e1 (z ▸ hN))
      refine ⟨u, r, ?_⟩
      rcases l with ⟨k, q⟩ | ⟨k, c, q, z⟩
      · exact .inl ⟨k, by simp [nx, q]⟩
      · exact .inr ⟨k, c, q, z.sameBut hs (I.cne x c q)⟩
  · obtain ⟨w, z⟩ := I.cell x c q
    exact ⟨w, z.sameBut hs (I.cne x c q)⟩
  · obtain ⟨a1, a2, a3, a4, a5⟩ := I.pin p hp
    exact ⟨(hs.2 p.1 a3).trans a1, a2, a3, a4, a5⟩
end
section
variable {prog : Program} {w : World} {A : Around} {E : Value → Shared → Prop} {s : Shared} {K : Frag} {e C D : Addr} {oe : Obj} {b : Bool}
structure CatK (K : Frag) (D : Addr) : Prop where
  ty : PySem.W.typeIn K (.ref D) = some (.type "type")
  cl : PySem.W.isClsIn K D = true
  mb : PySem.W.mroIn K D (.type "BaseException") = some true
theorem looks_isType {M : Model} {h : Heap} (kin : K.In h) (cl : (PySem.W.clsIn K D).isSome = true) : PySem.W.Looks M h (isType (.ref D)) true := by
  unfold PySem.W.clsIn at cl
  split at cl
  · rename_i ho
    intro A' Q' E' s' kk q
    unfold isType loadHead
    exact wpAny_bind (wpAny_loadPart (kk _ _ (kin _ _ ho)) (wpAny_pure q))
  · cases cl
theorem x_matches {Q : Bool → Shared → Prop} (kin : K.In s.heap) (k : CatK K D) (he : s.heap.get? e = some oe) (hc : oe.cls = .ref C) (hm : PySem.W.mroIn K C (.ref D) = some b) (h : Q b s) : wpAny (model prog w) A (excMatches (.ref e) (.ref D)) Q E s := by
  obtain ⟨hh, gg, d, t, os⟩ := s
  have L1 := PySem.W.looks_typeIn (M := model prog w) kin k.ty
  have L2 := looks_isType (M := model prog w) kin k.cl
  have L3 := PySem.W.looks_mroIn (M := model prog w) kin k.mb
  have L4 := PySem.W.looks_mroIn (M := model prog w) kin hm
  have L0 : PySem.W.Looks (model prog w) hh (typeOf (.ref e)) (.ref C) := hc ▸ (PySem.W.Looks.ld he).andThen .now
  have f := tc_notTuple
  unfold excMatches isExcClass isInstance
  refine wpAny_bind (wpAny_bind (L1.at ?_))
  refine wpAny_of_eq f ?_
  repeat (first | lk | wp_step)
  cases b <;> (repeat (first | exact h | lk | wp_step))
end
def PS0 (X : Cx) (st : Stmt) (t : TS) : Prop := ∀ (s : Shared) (σ : St) (H : Hp) (D : Ends), Inv X [] σ H s → t D σ H → wpAny (model X.prog X.w) X.A (exec st X.env) (SP X [] D) X.xe s
def PSs0 (X : Cx) (st : List Stmt) (t : TS) : Prop := ∀ (s : Shared) (σ : St) (H : Hp) (D : Ends), Inv X [] σ H s → t D σ H → wpAny (model X.prog X.w) X.A (execs st X.env) (SP X [] D) X.xe s
def PVS0 (X : Cx) (EX : XE) (st : Stmt) (f : M Fl) : Prop := PS0 X st (liftS (lc X EX) f)
def PVSs0 (X : Cx) (EX : XE) (st : List Stmt) (f : M Fl) : Prop := PSs0 X st (liftS (lc X EX) f)
section
variable {X : Cx} {EX : XE} {st : Stmt} {rest : List Stmt} {f g : M Fl}
theorem vs_0 (h : PVS X EX st f) : PVS0 X EX st f := fun s σ H D I q => h [] s σ H D I q
theorem vss_0 (h : PVSs X EX rest f) : PVSs0 X EX rest f := fun s σ H D I q => h [] s σ H D I q
theorem vss_cons0 (h1 : PVS0 X EX st f) (h2 : PVSs0 X EX rest g) : PVSs0 X EX (st :: rest) (sSeq f g) := by
  intro s σ H D I ⟨G, F, ρ, g0, o⟩
  refine wpAny_execs_cons (thn (h1 s σ H { D with nx := liftS (lc X EX) g D } I ⟨G, F, ρ, g0, o.bnd.mono (fun k r q => ?_) fun _ _ q => q⟩) fun f s1 q => ?_)
  · cases k with
    | nx => exact fun F' H' σ' s g' => ⟨G, F', r, g', Out.mono q (fun _ _ => PostS.same s) fun _ _ => PostXS.same s⟩
    | bk => exact q
    | ct => exact q
    | rt d => exact q
  · cases f with
    | next => obtain ⟨σ', H', I', q⟩ := q; exact h2 s1 σ' H' D I' q
    | ret v => exact q
    | brk => exact q
    | cont => exact q
end
theorem Good.toNo {K : Frag} {mg : MG} {G : Fx} {F H : Hp} {σ : St} {ρ : Rho} {j : Nat} (g : Good K mg G F H σ ρ) : Good K mg G F H (σ.set j none) (ρ.set j .no) := by
  refine ⟨g.sF, g.sub, g.old, g.new, by simpa using g.len, fun i s hi => ?_, fun i k l s t hi hk oi ok si sk => ?_, g.ioT, g.ioU⟩
  · by_cases z : i = j
    · subst z
      by_cases hl : i < ρ.length
      · rw [List.getElem?_set_self hl] at hi; cases hi; trivial
      · rw [List.getElem?_eq_none (by simpa using hl)] at hi; cases hi
    · rw [List.getElem?_set_ne (Ne.symm z)] at hi
      have := g.slot i s hi
      rw [List.getElem?_set_ne (Ne.symm z)]; exact this
  · have ni : i ≠ j := fun z => by
      subst z
      by_cases hl : i < σ.length
      · rw [List.getElem?_set_self hl] at si; cases si
      · rw [List.getElem?_eq_none (by simpa using hl)] at si; cases si
    have nk : k ≠ j := fun z => by
      subst z
      by_cases hl : k < σ.length
      · rw [List.getElem?_set_self hl] at sk; cases sk
      · rw [List.getElem?_eq_none (by simpa using hl)] at sk; cases sk
    rw [List.getElem?_set_ne (Ne.symm ni)] at hi si
    rw [List.getElem?_set_ne (Ne.symm nk)] at hk sk
    exact g.apart i k l s t hi hk oi ok si sk
section
variable {X : Cx} {EX : XE} {body : List Stmt} {b₀ : Stmt} {suite : List Stmt} {fb fh : M Fl} {cn n : Str} {D : Addr} {j : Nat} {subs : List (Str × Bool)} {cp hp pos : Pos}
theorem vs_tryE (ct : CatK X.K D) (hg : Gl X cn) (hm : X.mg cn = some (.ref D)) (hsub : ∀ p ∈ subs, p.2 = true → ∃ C, X.mg p.1 = some (.ref C) ∧ PySem.W.mroIn X.K C (.ref D) = some true) (j : Nat) (hN : X.N[j]? = some n) (hnd : X.N.Nodup)
    (hloc : X.env.scope.names.lookup n = some .local) (hpn : X.pn = []) (hs : X.stack = X.env :: X.outer) (hf : X.env.frame = some X.env.locals) (hex : X.ex = [])
    (hb : ∀ EXb : XE, PassesAt (CX1 X.prog X.w) (X.wish (xeOf X EXb)) EXb → PassesOwn (model X.prog X.w) X.A X.env (xeOf X EXb) → PVSs (X.wish (xeOf X EXb)) EXb body fb) (hh : ∀ e : Addr, PSs (hand X e) (b₀ :: suite) (fun D σ H => σ[j]? = some (some (.ref e)) ∧ liftS (lc (hand X e) (fun _ _ _ _ => False)) fh D σ H))
    (hd : (cn == ("__debug__" : Str)) = false := by decide) :
    PVS0 X EX (.Try body [.ExceptHandler (some (.Name cn cp)) (some n) (b₀ :: suite) hp] [] [] pos) (sTry fb subs j fh) := by
  intro s σ H E I ⟨G, F, ρ, g0, o⟩
  refine wpAny_Try_except ?_
  have hB := hb (fun σ1 c dx H1 => ∃ x ρ1 F1, Same F F1 ∧ (lc X EX).Good G F1 H1 σ1 ρ1 ∧ XR X.K X.mg F1 H1 c dx x ∧ Out (sCatch subs j fh x ρ1) (PostS (lc X EX) G F E) (PostXS (lc X EX) G F)) (pass1 hpn hex) (own_x hpn hs hf)
  refine wpAny_mono (hB [] s σ H E (I.wish _) ⟨G, F, ρ, g0, ?_⟩) (fun k s1 h1 => ?_) fun v s1 h1 => ?_
  · unfold sTry at o
    cases q : fb ρ with
    | ok k r1 => rw [q] at o; exact o
    | exc x r1 => rw [q] at o; exact fun F' H' σ' c dx s' g' r' => ⟨x, r1, F', s', g', r', o⟩
    | no => rw [q] at o; exact o
  · have h2 := h1.unwish
    cases k with
    | next => exact wpAny_execs_nil h2
    | ret v => exact h2
    | brk => exact h2
    | cont => exact h2
  · obtain ⟨e, c, dx, σ1, H1, rfl, I1, x, xn, ρ1, F1, sF, g1, ⟨C, rfl, hC, fs, hfs, hns, hvs⟩, o1⟩ := h1
    unfold sCatch at o1
    split at o1
    · rename_i hl hj
      have hm2 := hsub (xn.cls, true) (PySem.mem_of_lookup hl) rfl
      obtain ⟨C', hC', hmr⟩ := hm2
      rw [hC] at hC'
      cases hC'
      refine note_x (X := X.nox) I1 hpn hs hf x fun h2 I2 x2 => ?_
      refine flight_x (X := X.nox) none I2 hpn x2 fun h3 I3 x3 => ?_
      obtain ⟨vs3, sl3, T3, ot3, ts3, ob3, _⟩ := id x3
      refine wpAny_handleBy_cons (codeAny_handlers_test (ld_glob (X := hand X e) (Inv.hand (X := X) I3.unwish e) hg hm ?_ hd)) (by intro q; cases q)
      refine x_matches I3.kIn ct ob3 rfl hmr (codeAny_handlers_suite_as ?_)
      refine flight_x (X := hand X e) none (Inv.hand (X := X) I3.unwish e) hpn x3 fun h4 I4 x4 => ?_
      obtain ⟨vs4, sl4, T4, ot4, ts4, ob4, v24, _⟩ := id x4
      have I5 := Inv.track (o := .ext (XOb e C dx)) I4 hpn x.lo x.nt ⟨_, vs4, ob4, rfl⟩ ⟨⟨vs4, sl4, ob4, v24⟩, ⟨_, ob4⟩, fun h1 h2 ⟨ws, zl, z, z2⟩ kk => ⟨ws, zl, kk _ z, z2⟩⟩ fun a z => nomatch z
      refine store_ok (X := hand X e) (i := j) I5 hnd hN (.inl hloc) (v := .ref e) rfl (fun s5 I6 => ?_) (.inr hloc)
      have fe : F1 e = none := g1.sub.free x.nt
      have sE : Same F1 (upd F1 e (.ext (XOb e C dx))) := same_upd fe
      have den : Den X.K X.mg (upd F1 e (.ext (XOb e C dx))) (.ref e) (.exn xn.cls xn.ns xn.vs) := by
        rw [← hns]
        exact .exn upd_same hC (hfs.imp id fun ⟨a, z1, z2⟩ => ⟨a, z1, sE _ _ z2⟩) (hvs.same sE)
      have oS : Out (mSet j (.exn xn.cls xn.ns xn.vs) ρ1) (fun _ r => r = ρ1.set j (.sh (.exn xn.cls xn.ns xn.vs))) (fun _ _ => False) := by
        unfold mSet
        rw [hj, if_pos (show free (some Sl.no) = true from rfl)]
        exact rfl
      obtain ⟨ρ2, g2, hρ⟩ := set_good (L := lc X EX) (v := .ref e) (Good.laid g1 x.nt) den oS
      subst hρ
      refine wpAny_mono (hh e [] s5 _ _ { nx := fun σ' H' => E.nx (σ'.set j none) H', rt := E.rt, bk := fun σ' H' => E.bk (σ'.set j none) H', ct := fun σ' H' => E.ct (σ'.set j none) H' } I6 ⟨List.getElem?_set_self (by have := (List.getElem?_eq_some_iff.mp hj).1; have := g1.len; omega), G, _, _, g2, ?_⟩) (fun k s6 h6 => ?_) fun _ _ z => z.elim
      · split at o1
        · rename_i k r2 hk
          rw [hk]
          have sA : ∀ {F' : Hp}, Same (upd F1 e (.ext (XOb e C dx))) F' → Same F F' := fun z => sF.trans (sE.trans z)
          cases k with
          | nx => exact fun F' H' σ' s' g' => o1 F' H' _ (sA s') (Good.toNo g')
          | bk => exact fun F' H' σ' s' g' => o1 F' H' _ (sA s') (Good.toNo g')
          | ct => exact fun F' H' σ' s' g' => o1 F' H' _ (sA s') (Good.toNo g')
          | rt d => exact fun F' H' σ' v s' g' r' => o1 F' H' _ v (sA s') (Good.toNo g') r'
        · exact o1.elim
      · have fin : ∀ {σ' : St} {H' : Hp} {Q : Shared → Prop}, Inv (hand X e) [] σ' H' s6 → (∀ s7, Inv X [] (σ'.set j none) H' s7 → Q s7) → wpAny (model X.prog X.w) X.A (do bindName X.env n .none; unbindBehindTheSuite X.env n hp) (fun _ s7 => Q s7) X.xe s6 := fun I7 q => name_goes (Inv.unhand I.ok I7) hN hnd hloc q
        cases k with
        | next => obtain ⟨σ', H', I7, q⟩ := h6; exact fin I7 fun s7 I8 => ⟨_, H', I8, q⟩
        | brk => obtain ⟨σ', H', I7, q⟩ := h6; exact fin I7 fun s7 I8 => ⟨_, H', I8, q⟩
        | cont => obtain ⟨σ', H', I7, q⟩ := h6; exact fin I7 fun s7 I8 => ⟨_, H', I8, q⟩
        | ret v => obtain ⟨u, σ', H', I7, r, q⟩ := h6; exact fin I7 fun s7 I8 => ⟨u, _, H', I8, r, q⟩
    · exact o1.elim
theorem vs_try (ct : CatK X.K D) (hg : Gl X cn) (hm : X.mg cn = some (.ref D)) (hsub : ∀ p ∈ subs, p.2 = true → ∃ C, X.mg p.1 = some (.ref C) ∧ PySem.W.mroIn X.K C (.ref D) = some true) (j : Nat) (hN : X.N[j]? = some n) (hnd : X.N.Nodup)
    (hloc : X.env.scope.names.lookup n = some .local) (hpn : X.pn = []) (hs : X.stack = X.env :: X.outer) (hf : X.env.frame = some X.env.locals) (hex : X.ex = [])
    (hb : ∀ EXb : XE, PassesAt (CX1 X.prog X.w) (X.wish (xeOf X EXb)) EXb → PassesOwn (model X.prog X.w) X.A X.env (xeOf X EXb) → PVSs (X.wish (xeOf X EXb)) EXb body fb) (hh : ∀ e : Addr, PVSs (hand X e) (fun _ _ _ _ => False) (b₀ :: suite) fh)
    (hd : (cn == ("__debug__" : Str)) = false := by decide) :
    PVS0 X EX (.Try body [.ExceptHandler (some (.Name cn cp)) (some n) (b₀ :: suite) hp] [] [] pos) (sTry fb subs j fh) :=
  vs_tryE ct hg hm hsub j hN hnd hloc hpn hs hf hex hb (fun e pins s σ H D I q => hh e pins s σ H D I q.2) hd
end
end VS

end
section
set_option linter.all false
set_option maxRecDepth 100000
namespace VS
open PySem PySem.Spec PyProof.Rows L2 VP
section
variable {X : Cx} {EX : XE} {e a b : Expr} {fa fb fe : M D} {pos p pT : Pos} {x c : Str}
structure IsaX (K : Frag) (mg : MG) (t : Value) (subs : List (Str × Bool)) : Prop where
  sp : PySem.W.specialIn K (.builtin "object.__class__") "__get__" = some (some (.builtin "getset_descriptor.__get__"))
  tk : PySem.W.takesIn K (.builtin "object.__class__") = some true
  ex : ∀ p ∈ subs, ∃ D, mg p.1 = some (.ref D) ∧ ErrC K D ∧ PySem.W.kitOne K (.ref D) t = some p.2
def rIsaX (K : Frag) (t : Value) (vt : V) : List V → Hp → VK → Prop := fun xs H Q => ∃ q D dx b, xs = [.ref q, vt] ∧ H q = some (.ext (XOb q D dx)) ∧ (∀ d, dx = some d → ∃ o, H d = some o) ∧ ErrC K D ∧ PySem.W.kitOne K (.ref D) t = some b ∧ Q (.bl b) H
theorem call_isaX {t : Value} {vt : V} (hr : ∀ u, RelV vt u → u = t) (sp : PySem.W.specialIn X.K (.builtin "object.__class__") "__get__" = some (some (.builtin "getset_descriptor.__get__"))) (tk : PySem.W.takesIn X.K (.builtin "object.__class__") = some true) :
    CallR X (.builtin "isinstance") (rIsaX X.K t vt) := by
  intro pins s σ H xs us Q I r h
  obtain ⟨q, D, dx, b, rfl, hq, hdx, f, hb, k⟩ := h
  obtain ⟨u, v, rfl, ru, rv⟩ := vals2 r
  cases ru
  cases hr v rv
  obtain ⟨⟨vs, sl, ho, _⟩, _, _⟩ := (show ObjOk X.prog X.w H s.heap q (.ext (XOb q D dx)) from I.hok q _ hq)
  have at_ : ErrAt q D s.heap := by
    cases dx with
    | none => exact ⟨_, none, ho, rfl, rfl, trivial⟩
    | some d =>
      obtain ⟨o, z⟩ := hdx d rfl
      obtain ⟨od, y⟩ := ObjOk.there (I.hok d o z)
      exact ⟨_, some od, ho, rfl, rfl, y⟩
  exact PySem.W.kia_one (kitx_err f sp tk) I.kIn at_ hb (fun z => nomatch z) fun tk => ⟨.bl b, H, I.tok tk, rfl, k⟩
theorem isaX_le {t : Value} {vt : V} {subs : List (Str × Bool)} (T : IsaX X.K X.mg t subs) {G : Fx} {F H : Hp} {σ : St} {ρ : Rho} {Q : VK} (g0 : (lc X EX).Good G F H σ ρ) (o : Out (m1 (isaX subs) fa ρ) (Post (lc X EX) (RV (lc X EX)) G F σ Q) (PostX (lc X EX) G F σ)) :
    lift (lc X EX) (RV (lc X EX)) fa σ H (fun x H1 => rIsaX X.K t vt [x, vt] H1 Q) :=
  at_bnd g0 o (fun x r q => q) fun F1 H1 ρ1 d1 x s1 g1 r1 o1 => by
    obtain ⟨d, e, q⟩ := o1.opt
    cases d1 with
    | exn c' ns vs =>
      simp only [isaX] at e
      cases e1 : subs.lookup c' with
      | none => rw [e1] at e; cases e
      | some b =>
        rw [e1] at e
        cases e
        obtain ⟨D, hD, f, hb⟩ := T.ex (c', b) (PySem.mem_of_lookup e1)
        cases r1 with
        | exn h hc hf r =>
          rw [show (lc X EX).mg c' = some (.ref D) from hD] at hc
          cases hc
          refine ⟨_, D, _, b, rfl, g1.sub _ _ h, fun d z => ?_, f, hb, q F1 H1 _ s1 g1 (.bl _)⟩
          rcases hf with ⟨z1, _⟩ | ⟨d', z1, z2⟩
          · rw [z1] at z; cases z
          · rw [z1] at z; cases z; exact ⟨_, g1.sub _ _ z2⟩
    | _ => cases e
theorem pv_isaX {C : Addr} {subs : List (Str × Bool)} (hC : X.mg c = some (.ref C)) (T : IsaX X.K X.mg (.ref C) subs) (hg : Gl X "isinstance") (hm : X.mg "isinstance" = none) (hgT : Gl X c) (ha : PV X EX a fa) (hdT : (c == ("__debug__" : Str)) = false := by decide)
    (hs : starEach [a, .Name c pT] X.env = (false, eval a X.env) :: starEach [.Name c pT] X.env := by rfl) (hs2 : starEach [.Name c pT] X.env = (false, eval (.Name c pT) X.env) :: starEach [] X.env := by rfl) (hpl : (backTo pos (starEach [.Name c pT] X.env)).any (·.1) = false := by rfl) :
    PV X EX (.Call (.Name "isinstance" p) [a, .Name c pT] [] pos) (m1 (isaX subs) fa) :=
  (pe_callB (call_isaX (vt := .ref C) (fun u h => by cases h; rfl) T.sp T.tk) hg hm boot_isinstance (pa_cons ha (pa_cons (pe_glob (v := .ref C) hgT hC rfl hdT) pa_nil hs2) hs) (by decide) (by decide) hs hpl).le fun σ H Q ⟨G, F, ρ, g0, o⟩ => isaX_le T g0 o
theorem pv_isaXT (T : String) {subs : List (Str × Bool)} (K : IsaX X.K X.mg (.type T) subs) (hg : Gl X "isinstance") (hm : X.mg "isinstance" = none) (hgT : Gl X c) (hmT : X.mg c = none) (hvT : bootBuiltins c = some (.type T)) (ha : PV X EX a fa) (hn : c ≠ "__name__" := by decide) (hdT : (c == ("__debug__" : Str)) = false := by decide)
    (hs : starEach [a, .Name c pT] X.env = (false, eval a X.env) :: starEach [.Name c pT] X.env := by rfl) (hs2 : starEach [.Name c pT] X.env = (false, eval (.Name c pT) X.env) :: starEach [] X.env := by rfl) (hpl : (backTo pos (starEach [.Name c pT] X.env)).any (·.1) = false := by rfl) :
    PV X EX (.Call (.Name "isinstance" p) [a, .Name c pT] [] pos) (m1 (isaX subs) fa) :=
  (pe_callB (call_isaX (vt := .ty T) (fun u h => h) K.sp K.tk) hg hm boot_isinstance (pa_cons ha (pa_cons (pe_bltn (v := .ty T) hgT hmT hvT rfl hn hdT) pa_nil hs2) hs) (by decide) (by decide) hs hpl).le fun σ H Q ⟨G, F, ρ, g0, o⟩ => isaX_le K g0 o
end
section
variable {P : Program} {w : World} {K : Frag} {mg : MG} {base : Heap}
theorem FnOk.no {k : Nat} {f : Addr} {fd : FuncData} {ps : List Str} {sp sp' : Sp} (F : FnOk P w K mg base (CX1 P w) k f fd ps sp) (h : ∀ vs H Q E, sp' vs H Q E → sp vs H Q fun _ _ _ => False) : FnOk P w K mg base CX0 k f fd ps sp' :=
  ⟨fun vs H Q E q => F.len _ _ _ _ (h vs H Q E q), fun A outer s H args us vs Q E hr e0 hb r hsp => codeAny_mono (F.run A outer s H args us vs Q (fun _ _ _ => False) hr e0 hb r (h _ _ _ _ hsp)) fun r s' hq => by
    cases r with
    | error e => obtain ⟨_, _, _, _, _, _, _, _, _, _, z⟩ := hq; exact z.elim
    | ok fl => cases fl <;> exact hq⟩
theorem fn_of0 {CX : CXT} {k : Nat} {f : Addr} {name qual : Str} {params : Arguments} {body : List Stmt} {scope : Scope} {dV kV doc pm cdv ct oc : Value} {an od : Option Addr} {osl : Array (Option Value)} {N ps : List Str} {sp : Sp}
    (lk : K.lookup f = some ⟨oc, od, .func (PySem.W.fnOf name qual params body scope dV kV doc pm an cdv ct), osl⟩) (hcd : PySem.W.codeIn K cdv qual = true) (S : FnScope N ps scope) (len : ∀ vs H Q E, sp vs H Q E → vs.length = ps.length)
    (hbody : ∀ (A : Around) (outer : List Env) (s : Shared) (H : Hp) (vs : List V) (Q : VK) (E : XK), Room k (A.deeper (envOfC qual scope s.heap.objs.size f cdv)) → sp vs H Q E →
      ∃ t, PSs0 (cxOf CX P w K mg base N qual scope f cdv A outer s H E) body t ∧ t { nx := fun _ H' => Q .non H', rt := Q } (start N vs) H) : FnOk P w K mg base CX (k + 1) f (PySem.W.fnOf name qual params body scope dV kV doc pm an cdv ct) ps sp := by
  refine ⟨len, fun A outer s H args us vs Q E hr e0 hb r hsp => ?_⟩
  have kx : K.In s.heap := e0.mod.kin.keeps fun b o e => (e0.bs b o e).1
  have lim : s.heap.NoLimit := e0.mod.nolimit.keeps fun b o e => (e0.bs b o e).1
  refine codeAny_call_function hr.depth (kx _ _ lk) rfl S.co S.gen rfl (PySem.W.codeRec_of kx hcd) (hb _ _ _ _ ?_)
  refine wpAny_newFunctionEnv_cells S.kind (fun ⟨n, v⟩ hy => (S.par n (List.of_mem_zip hy).1).imp id fun q => ⟨q, PySem.W.cellsFrom_some _ _ _ (.inl q)⟩) fun env he s1 x => ?_
  subst he
  refine ⟨lim.keeps x.toInCall.keep, codeAny_func ?_⟩
  obtain ⟨t, ht, hq⟩ := hbody A outer s H vs Q E (hr.deeper _) hsp
  refine wpAny_mono (ht s1 (start N vs) H _ (inv_start S hr.hd e0 (len _ _ _ _ hsp) r x) hq) (fun fl s' hs => ?_) fun e s' hs => hs
  cases fl with
  | ret u => obtain ⟨v, σ', H', J, rv, q⟩ := hs; exact ⟨v, H', J.os, J.bare, J.base, J.hok, rv, q⟩
  | next => obtain ⟨σ', H', J, q⟩ := hs; exact ⟨V.non, H', J.os, J.bare, J.base, J.hok, rfl, q⟩
  | brk => obtain ⟨_, _, _, q⟩ := hs; exact False.elim q
  | cont => obtain ⟨_, _, _, q⟩ := hs; exact False.elim q
theorem fn_okT {x qual : Str} {st : Stmt} {f : Addr} {fd : FuncData} {N ps : List Str} {k : Nat} {fl : List Bool} {body : M Fl} (Fu : Fun K x qual st f fd) (S : FnScope N ps (defScope st)) (hl : fl.length = ps.length)
    (hbody : ∀ (cdv : Value) (A : Around) (outer : List Env) (s : Shared) (H : Hp) (E : XK), Room k (A.deeper (envOfC qual (defScope st) s.heap.objs.size f cdv)) →
      PVSs0 (cxOf CX0 P w K mg base N qual (defScope st) f cdv A outer s H E).nox (fun _ => E) (defBody st) body) :
    FnOk P w K mg base CX0 (k + 1) f fd ps (spV K mg fl (defn N.length fl body)) := by
  obtain ⟨oc, od, kV, doc, pm, an, cdv, ct, osl, rfl, lk, hcd⟩ := Fu.ex
  refine fn_of0 lk hcd S (fun vs H Q E h => by rw [h.1, hl]) fun A outer s H vs Q E hr hsp => ⟨_, fun s1 σ H1 D I q => ?_, start_le S.pre hl hsp⟩
  exact wpAny_mono (hbody cdv A outer s H E hr s1 σ H1 D (I.wish _) q) (fun fl s2 h2 => h2.unwish) fun v s2 h2 => h2.elim
end
end VS

end
section
set_option linter.all false
set_option maxRecDepth 100000
namespace VS
open PySem PySem.Spec PyProof.Rows L2 VP
open PySem.W (Looks)
def exMro : List Value → Bool
  | .ref _ :: r => exMro r
  | l => l == vmro
theorem refuse_ex (self : Value) : ∀ {l : List Value}, exMro l = true → refuseLoop self "__setattr__" l = pure ()
  | [], e => by cases e
  | v :: r, e => by
    cases v with
    | ref c => rw [refuseLoop_ref]; exact refuse_ex self e
    | _ => rw [show _ :: r = vmro from beq_iff_eq.mp e]; exact PySem.F.store_ValueError.passes self
theorem ex_has : ∀ {l : List Value}, exMro l = true → l.contains (.type "object") = true
  | [], e => by cases e
  | v :: r, e => by
    cases v with
    | ref c => rw [List.contains_cons, ex_has (l := r) e, Bool.or_true]
    | _ => rw [show _ :: r = vmro from beq_iff_eq.mp e]; decide
def exOver (K : Frag) (C : Addr) : Bool := (PySem.W.clsIn K C).any fun cd => exMro cd.mro
section
variable {prog : Program} {w : World} {A : Around} {R : Result → Shared → Prop} {E : Value → Shared → Prop} {s : Shared} {K : Frag} {x e C dx : Addr} {name : Str} {v : Value}
theorem osa_openX {ox : Obj} {od : Option Obj} {tk : Tok} {r : Option Value} (X : K.In s.heap) (I : PySem.W.InstAt s.heap x ox C od) (hp : exOver K C = true) (ht : PySem.W.takerIn K C name = some r)
    (h : ∀ b, wpAny (model prog w) A.in1 (match r with | some a => Builtin.ObjectAttr.setByDescriptor a (.ref x) v | none => Builtin.ObjectAttr.storeInOwnDict (.ref x) (.ref C) (.str name tk) name v b)
      (fun fin s' => match fin with | .done f => R (.ok f) s' | .again c' => c'.quiet = true ∧ codeAny (model prog w) A c' R s') (fun e s' => R (.error e) s') s) :
    codeAny (model prog w) A (.call (.builtin "object.__setattr__") ⟨[.ref x, .str name tk, v], []⟩) R s := by
  have SF := PySem.F.store_object
  obtain ⟨cd, hc, ho⟩ := PySem.W.any_some hp
  have ne : cd.mro.isEmpty = false := by cases q : cd.mro with | nil => rw [q] at ho; cases ho | cons _ _ => rfl
  have sub : Looks (model prog w) s.heap (isInstance (.ref x) (.type "object")) true := I.type.andThen (PySem.W.looks_mroIn X (by unfold PySem.W.mroIn; rw [hc, Option.bind_some, if_neg (by rw [ne]; decide), ex_has ho]))
  refine codeAny_call_builtin SF.slot.plain SF.entry (@PySem.W.check_slot (model prog w) _ _ s "object.__setattr__" "object" "__setattr__" (.ref x) [.str name tk, v] [] _ SF.kind SF.split sub (SF.args (.ref x) (.str name tk) v) ?_)
  obtain ⟨attr, ha, hr⟩ := Option.bind_eq_some_iff.mp ht
  have hm : Looks (model prog w) s.heap (mroOf (.ref C)) cd.mro := (PySem.W.looks_clsIn X hc).andThen .now
  have L3 : Looks (model prog w) s.heap (Builtin.ObjectAttr.storeTaker? attr) r := by
    cases attr with
    | none => cases hr; exact .now
    | some a =>
      obtain ⟨b, hb, rfl⟩ := Option.map_eq_some_iff.mp hr
      refine (PySem.W.looks_takesIn X hb).andThen ?_
      cases b <;> exact .now
  rw [PySem.W.osa_eq, refuse_eq]
  refine wpAny_bind (wpAny_bind (I.type.here (wpAny_bind (hm.here ?_))))
  rw [refuse_ex _ ho]
  refine wpAny_pure (wpAny_bind (I.type.here (wpAny_bind ((PySem.W.looks_findIn X ha).here (wpAny_bind (L3.here ?_))))))
  exact h _
structure ErrS (K : Frag) (C : Addr) (f : Str) : Prop where
  sa : PySem.W.findIn K (.ref C) "__setattr__" = some (some (.builtin "object.__setattr__"))
  ov : exOver K C = true
  na : PySem.W.findIn K (.ref C) f = some none
  hd : PySem.W.hasDictIn K C = true
theorem ErrS.taker {f : Str} (k : ErrS K C f) : PySem.W.takerIn K C f = some none := by unfold PySem.W.takerIn; rw [k.na]; rfl
theorem x_set0 {vs : Array Value} {sl : Array (Option Value)} {Q : Unit → Shared → Prop} (X : K.In s.heap) (hx : s.heap.get? x = some ⟨.ref C, none, .fields vs, sl⟩) (k : ErrS K C name)
    (h : ∀ h', h'.get? x = some ⟨.ref C, some s.heap.objs.size, .fields vs, sl⟩ → h'.Ns1 s.heap.objs.size (fun y => if y = name then some v else none) → (∀ b o, b ≠ x → s.heap.get? b = some o → h'.get? b = some o) → Q () { s with heap := h', toks := s.toks + 2 }) :
    wpAny (model prog w) A (setAttr (.ref x) name v) Q E s := by
  have J : PySem.W.InstAt s.heap x ⟨.ref C, none, .fields vs, sl⟩ C none := ⟨hx, rfl, rfl, trivial⟩
  refine PySem.W.set_plain X J k.sa (osa_openX (s := { s with toks := s.toks + 1 }) (r := none) X J k.ov k.taker fun b => ?_)
  obtain ⟨cd, hc, hd'⟩ := PySem.W.any_some k.hd
  refine wpAny_bind (wpAny_pure (wpAny_bind (wpAny_bind (wpAny_loadPart hx (wpAny_bind (PySem.W.Looks.here (s := { s with toks := s.toks + 1 }) (PySem.W.looks_clsIn X hc) ?_))))))
  rw [hd']
  have hx₁ : (s.heap.push { cls := .type "dict", data := .dict #[] }).get? x = some ⟨.ref C, none, .fields vs, sl⟩ := Heap.get?_push_of_some _ hx
  have hxs : x ≠ s.heap.objs.size := Nat.ne_of_lt (Heap.lt_size hx)
  dsimp only
  refine wpAny_bind (wpAny_alloc' ?_)
  refine wpAny_bind (wpAny_update' hx₁ ?_)
  refine wpAny_pure ?_
  have hgd : ((s.heap.push { cls := .type "dict", data := .dict #[] }).update x fun o => { cls := o.cls, dict := some s.heap.objs.size, data := o.data, slots := o.slots }).get? s.heap.objs.size
      = some { cls := .type "dict", data := .dict #[] } :=
    (Heap.get?_update_ne _ _ _ _ hxs.symm).trans (Heap.get?_push_at rfl rfl)
  have hnd : ((s.heap.push { cls := .type "dict", data := .dict #[] }).update x fun o => { cls := o.cls, dict := some s.heap.objs.size, data := o.data, slots := o.slots }).Ns s.heap.objs.size (fun _ => none) :=
    ⟨_, #[], _, hgd, rfl, fun e he => absurd he (by simp), fun _ => rfl⟩
  refine wpAny_bind (wpAny_pure (wpAny_bind (wpAny_nsSet1 (s := { s with heap := _, toks := s.toks + 1 }) (Heap.Ns1.of_empty hnd) fun h' hn' hs => ?_)))
  obtain ⟨oD, esD, epD, hoD, hdD, hcD⟩ := hn'.count (PySem.Within.cons name v PySem.Within.nil)
  refine wpAny_bind (wpAny_lookBehind hoD (by rw [hdD]; exact pastItsLine_dict (Nat.le_trans hcD (by rw [List.length_cons, List.length_nil, sizeLine_eq]; omega))) ?_)
  refine wpAny_pure (h h' ?_ hn' fun b ob hbx hb => ?_)
  · exact (hs.2 x hxs).trans (Heap.get?_update_self _ hx₁ rfl)
  · exact (hs.2 b (Nat.ne_of_lt (Heap.lt_size hb))).trans ((Heap.get?_update_ne _ _ _ _ hbx).trans (Heap.get?_push_of_some _ hb))
end
end VS

end
section
set_option linter.all false
set_option maxRecDepth 100000
namespace VS
open PySem PySem.Spec PyProof.Rows L2 VP
def XNew (e C : Addr) (dx : Option Addr) : Heap → Prop := fun h => ∃ vs sl, h.get? e = some ⟨.ref C, dx, .fields vs, sl⟩ ∧ vs[1]? = some .none ∧ vs[2]? = some .none
def XDict (d : Addr) (fs : List (Str × V)) : Heap → Prop := fun h => ∃ mA, h.Ns1 d mA ∧ (∀ f, RelO (fs.lookup f) (mA f)) ∧ PySem.Within mA (fs.map (·.1))
section
variable {P : Program} {w : World} {H : Hp} {h : Heap} {e d C : Addr} {dx : Option Addr} {fs : List (Str × V)}
theorem ok_new (x : XNew e C dx h) : ObjOk P w H h e (.ext (XNew e C dx)) := by
  obtain ⟨vs, sl, h1, h2⟩ := x
  exact ⟨⟨vs, sl, h1, h2⟩, ⟨_, h1⟩, fun g1 g2 ⟨ws, zl, z1, z2⟩ kk => ⟨ws, zl, kk _ z1, z2⟩⟩
theorem ok_dict (x : XDict d fs h) : ObjOk P w H h d (.ext (XDict d fs)) := by
  obtain ⟨mA, ⟨o, es, ep, h1, c⟩, r, wi⟩ := x
  exact ⟨⟨mA, ⟨o, es, ep, h1, c⟩, r, wi⟩, ⟨_, h1⟩, fun g1 g2 ⟨mB, ⟨o', es', ep', z1, c'⟩, r', wi'⟩ kk => ⟨mB, ⟨o', es', ep', kk _ z1, c'⟩, r', wi'⟩⟩
end
section
variable {X : Cx} {pins : List (Addr × Obj)} {σ : St} {H : Hp} {s : Shared} {a C d : Addr} {f : Str} {y : V} {u : Value} {A : Around} {E : Value → Shared → Prop} {Q : Unit → Shared → Prop} {fs : List (Str × V)}
theorem setX0 (I : Inv X pins σ H s) (e : H a = some (.ext (XNew a C none))) (k : ErrS X.K C f) (ry : RelV y u)
    (h : ∀ s' d, H d = none → d ≠ a → Inv X pins σ (upd (upd H a (.ext (XNew a C (some d)))) d (.ext (XDict d [(f, y)]))) s' → Q () s') : wpAny (model X.prog X.w) A (setAttr (.ref a) f u) Q E s := by
  obtain ⟨⟨vs, sl, hx, h1⟩, _, _⟩ := (show ObjOk X.prog X.w H s.heap a (.ext (XNew a C none)) from I.hok a _ e)
  have fr := I.fresh
  have nda : s.heap.objs.size ≠ a := Nat.ne_of_gt (Heap.lt_size hx)
  refine x_set0 I.kIn hx k fun h' hx' hn' kk => h _ s.heap.objs.size fr nda ?_
  have na : ∀ b u', H b = some u' → (∀ φ, u' ≠ .ext φ) → b ≠ a := fun b u' q n z => by subst z; rw [e] at q; cases q; exact n _ rfl
  have nd : ∀ b u', H b = some u' → b ≠ s.heap.objs.size := fun b u' q z => by subst z; rw [fr] at q; cases q
  have ne0 : ∀ b, H b = none → b ≠ a := fun b q z => by subst z; rw [e] at q; cases q
  refine I.un (h' := h') (t' := s.toks + 2) ⟨fun b o q n _ _ => kk b o (ne0 b n) q, fun b o q n _ _ => ⟨o.slots, kk b o (ne0 b n) q⟩, fun b o q n _ => ?_, fun b o q _ => ?_, fun b xs q => ?_, fun b o u' q => ?_, fun b ps q => ⟨#[], ?_⟩⟩ fun b o q => ?_
  · rw [upd_ne (Nat.ne_of_lt (Heap.lt_size q)), upd_ne (ne0 b n)]; exact n
  · by_cases z : b = a
    · subst z; exact ⟨_, hx'⟩
    · exact ⟨o, kk b o z q⟩
  · rw [upd_ne (nd _ _ q), upd_ne (na _ _ q fun _ z => nomatch z)]; exact q
  · rw [upd_ne (nd _ _ q), upd_ne (na _ _ q fun _ z => nomatch z)]; exact q
  · rw [upd_ne (nd _ _ q), upd_ne (na _ _ q fun _ z => nomatch z), q]; simp
  · by_cases z1 : b = s.heap.objs.size
    · subst z1
      rw [upd_same] at q
      cases q
      refine ok_dict ⟨_, hn', fun g => ?_, fun g hg => ?_⟩
      · by_cases z : g = f
        · subst z
          simp only [List.lookup, beq_self_eq_true, if_true]
          exact ry
        · have : (g == f) = false := by simp [z]
          simp only [List.lookup, this, if_neg z]
          trivial
      · by_cases z : g = f
        · simp [z]
        · exact absurd (if_neg z) hg
    · rw [upd_ne z1] at q
      by_cases z2 : b = a
      · subst z2
        rw [upd_same] at q
        cases q
        exact ok_new ⟨vs, sl, hx', h1⟩
      · rw [upd_ne z2] at q
        refine (I.hok b o q).stay (fun c v hc y' => kk c v ?_ y') (fun c y' => ?_) fun c xs y' => ?_
        · rcases hc with rfl | hc
          · exact z2
          · exact na _ _ hc fun _ z => nomatch z
        · rw [upd_ne (nd _ _ y'), upd_ne (na _ _ y' fun _ z => nomatch z)]; exact y'
        · rw [upd_ne (nd _ _ y'), upd_ne (na _ _ y' fun _ z => nomatch z)]; exact y'
end
section
variable {X : Cx} {x z f : Str} {i j : Nat} {p1 p2 p3 p4 : Pos}
def sX0 (K : Frag) (i j : Nat) (f : Str) : TS := fun D σ H => ∃ y, σ[j]? = some (some y) ∧ ∃ a C, σ[i]? = some (some (.ref a)) ∧ H a = some (.ext (XNew a C none)) ∧ ErrS K C f ∧ ∀ d, H d = none → d ≠ a → D.nx σ (upd (upd H a (.ext (XNew a C (some d)))) d (.ext (XDict d [(f, y)])))
theorem ps_x0 (hi : X.N[i]? = some x) (hj : X.N[j]? = some z) (vi : Vis X.env.scope x) (vj : Vis X.env.scope z) (di : (x == ("__debug__" : Str)) = false) (dj : (z == ("__debug__" : Str)) = false) (ci : (x == ("__classdict__" : Str)) = false) (cj : (z == ("__classdict__" : Str)) = false)
    (hs : swapsWith (.Name z p3) (some (.Attribute (.Name x p1) f p2)) p4.line X.env = pure false) : PS X (.Assign [.Attribute (.Name x p1) f p2] (.Name z p3) p4) (sX0 X.K i j f) := by
  intro pins s σ H D I ⟨y, hy, a, C, ha, hH, k, q⟩
  refine plainObj_wpAny_Assign_Attribute (thn (pe_var hj vj dj cj pins s σ H (fun y' H1 => y' = y ∧ H1 = H) I ⟨y, hy, rfl, rfl⟩) fun u s1 ⟨y', H1, I1, ry, e1, e2⟩ => ?_) hs
  subst e1 e2
  refine thn (pe_var hi vi di ci pins s1 σ _ (fun x' H2 => x' = .ref a ∧ H2 = H1) I1 ⟨_, ha, rfl, rfl⟩) fun ov s2 ⟨x', H2, I2, rx, e3, e4⟩ => ?_
  subst e3 e4
  obtain rfl : ov = Value.ref a := rx
  exact setX0 I2 hH k ry fun s3 d hd hda I3 => ⟨σ, _, I3, q d hd hda⟩
end
def XFld (K : Frag) (mg : MG) (cs : List Str) (f : Str) : Prop := ∀ c ∈ cs, ∃ C, mg c = some (.ref C) ∧ ErrK K C ∧ PySem.W.findIn K (.ref C) f = some none ∧ PySem.W.hasDictIn K C = true
theorem lookup_zipX {K : Frag} {mg : MG} {F : Hp} {f : Str} {dv : D} : ∀ {fs : List (Str × V)} {ds : List D}, DenL K mg F (fs.map (·.2)) ds → ((fs.map (·.1)).zip ds).lookup f = some dv → ∃ v, fs.lookup f = some v ∧ Den K mg F v dv
  | [], _, r, e => by cases e
  | (g, v) :: fs, _, .cons h t, e => by
    simp only [List.map_cons, List.zip_cons_cons, List.lookup] at e ⊢
    cases q : f == g with
    | true => rw [q] at e; cases e; exact ⟨v, rfl, h⟩
    | false => rw [q] at e; exact lookup_zipX t e
section
variable {X : Cx} {EX : XE} {a : Expr} {fa : M D} {pos : Pos} {f : Str} {cs : List Str}
theorem pv_fldX (T : XFld X.K X.mg cs f) (ha : PV X EX a fa) (hb : attributeBase a f X.env (eval a X.env) = eval a X.env := by rfl) : PV X EX (.Attribute a f pos) (m1 (fldX cs f) fa) := by
  intro pins s σ H Q I ⟨G, F, ρ, g0, o⟩
  refine attr_of hb (thn (ha pins s σ H (fun x H1 => ∃ q D d fs v, x = .ref q ∧ H1 q = some (.ext (XOb q D (some d))) ∧ H1 d = some (.xd fs) ∧ fs.lookup f = some v ∧ ErrK X.K D ∧ PySem.W.findIn X.K (.ref D) f = some none ∧ PySem.W.hasDictIn X.K D = true ∧ Q v H1) I (at_bnd g0 o (fun x r q => q) fun F1 H1 ρ1 d1 x s1 g1 r1 o1 => by
    obtain ⟨dd, e, q⟩ := o1.opt
    cases d1 with
    | exn c ns vs =>
      simp only [fldX] at e
      split at e
      · rename_i hc
        obtain ⟨D, hD, k, na, hh⟩ := T c (by simpa using hc)
        cases r1 with
        | exn h hc' hf r =>
          rw [show (lc X EX).mg c = some (.ref D) from hD] at hc'
          cases hc'
          rcases hf with ⟨z1, z2⟩ | ⟨d', z1, z2⟩
          · subst z2; cases e
          · subst z1
            obtain ⟨v, hv, rv⟩ := lookup_zipX r e
            exact ⟨_, D, d', _, v, rfl, g1.sub _ _ h, g1.sub _ _ z2, hv, k, na, hh, q F1 H1 _ s1 g1 rv⟩
      · cases e
    | _ => cases e)) fun u s1 ⟨x, H1, I1, rx, q, D, d, fs, v, ex, h1, h2, hl, k, na, hh, hq⟩ => ?_)
  subst ex
  obtain rfl : u = Value.ref q := rx
  obtain ⟨⟨vs, sl, ho, _⟩, _, _⟩ := (show ObjOk X.prog X.w H1 s1.heap q (.ext (XOb q D (some d))) from I1.hok q _ h1)
  obtain ⟨mA, hn, r⟩ := (show ObjOk X.prog X.w H1 s1.heap d (.xd fs) from I1.hok d _ h2)
  obtain ⟨w', hw, rw_⟩ := RelO.some_of (v := v) (o := mA f) (by rw [← hl]; exact r f)
  obtain ⟨od, hod, hlk⟩ := lookIn_ns hn
  have J : PySem.W.InstAt s1.heap q ⟨.ref D, some d, .fields vs, sl⟩ D (some od) := ⟨ho, rfl, rfl, hod⟩
  unfold getAttr
  refine wpAny_bind (wpAny_mkText ?_)
  refine x_by (s := { s1 with toks := s1.toks + 1 }) I1.kIn J k (PySem.W.findObj_own hh na rfl (by rw [hlk, hw])) ?_
  exact PySem.W.handed_on (handed_of rw_) ⟨v, H1, I1.tok _, rw_, hq⟩
end
end VS

end
section
set_option linter.all false
set_option maxRecDepth 100000
namespace VS
open PySem PySem.Spec PyProof.Rows L2 VP
section
variable {prog : Program} {w : World} {A : Around} {E : Value → Shared → Prop} {h : Heap} {g : Array GenState} {d : Drawn} {t : Nat} {os : OsState} {env : Env} {s : Shared}
variable {nm q : Str} {C N : Addr} {bs bm bmB : List Value} {hdct : Bool} {sn : List Str} {sub : List Value} {ab : Bool} {col : Option Bool} {dd : Option Addr} {k0 k1 k2 k3 k5 : Option Value} {B Bn newId nid initId inN : String} {bmN : List Value}
theorem type_call_x (Fn : ExcBaseFacts Bn newId inN bmN) (hBn : bmB.contains (.type Bn) = true) (F : ExcBaseFacts B nid initId bmB) (T : OwnTail h bmB bm) {mN : Str → Option Value} {rest : List Value} {fI : Addr} {oI : Obj} {Q : PySem.Fin → Shared → Prop}
    (hC : h.get? C = some (excClassObj nm q C N bs bm hdct sn sub ab col dd k0 k1 k2 k3 k5 newId)) (hn : h.Ns N mN) (hi : mN "__init__" = some (.ref fI))
    (hfI : h.get? fI = some oI) (hfc : oI.cls = .type "function")
    (hq : ∀ h' e, Heap.MadeExcOf h h' e (.ref C) rest →
      wpAny (model prog w) A (call (.ref fI) (.ref e :: rest)) (fun r s' => r = .none ∧ Q (.done (.ret (.ref e))) s') E ⟨h', g, d, t, os⟩) (hrest : rest.length ≤ sizeLine) :
    wpAny (model prog w) A (Builtin.«type.__call__» ⟨.ref C :: rest, []⟩) Q E ⟨h, g, d, t, os⟩ := by
  repeat (first | with_reducible refine wpAny_loadPart_at hC ?_ | with_reducible refine wpAny_madeBy_exc hC ?_ | wp_step)
  refine codeAny_call_builtin_code (Code.quiet_builtin _ Fn.quiet) (wpAny_check_new_subU Fn hBn T hC ?_)
  refine codeAny_exc_new_subU Fn hBn F T hC ?_ hrest
  show wpAny _ _ _ _ _ _
  have hC₁ := Heap.get?_push_of_some { cls := .ref C, data := .fields #[.ref h.objs.size, .none, .none, .none, .bool false, .none] }
    (Heap.get?_push_of_some { cls := .type "tuple", data := .seq rest.toArray } hC)
  have hfI₁ := Heap.get?_push_of_some { cls := .ref C, data := .fields #[.ref h.objs.size, .none, .none, .none, .bool false, .none] }
    (Heap.get?_push_of_some { cls := .type "tuple", data := .seq rest.toArray } hfI)
  have hn₁ : ((h.push { cls := .type "tuple", data := .seq rest.toArray }).push { cls := .ref C, data := .fields #[.ref h.objs.size, .none, .none, .none, .bool false, .none] }).Ns N mN :=
    let ⟨o, es, ep, e, r⟩ := hn; ⟨o, es, ep, Heap.get?_push_of_some _ (Heap.get?_push_of_some _ e), r⟩
  have hget : ((h.push { cls := .type "tuple", data := .seq rest.toArray }).push
      { cls := .ref C, data := .fields #[.ref h.objs.size, .none, .none, .none, .bool false, .none] }).get? (h.objs.size + 1) = some
      { cls := .ref C, data := .fields #[.ref h.objs.size, .none, .none, .none, .bool false, .none] } := by heap_get
  have hcC : (Value.ref C :: bm).contains (.ref C) = true := by simp
  have T₁ := T.keeps (h' := (h.push { cls := .type "tuple", data := .seq rest.toArray }).push { cls := .ref C, data := .fields #[.ref h.objs.size, .none, .none, .none, .bool false, .none] })
    fun b o e => Heap.get?_push_of_some _ (Heap.get?_push_of_some _ e)
  unfold isInstance
  repeat (first | with_reducible refine wpAny_loadPart_at hget ?_ | (with_reducible refine wpAny_isSubtype_exc hC₁ ?_; rw [hcC]) | wp_step)
  show wpAny _ _ (typeLookup (.ref C) _) _ _ _
  refine wpAny_typeLookup_tail hC₁ hn₁ T₁ F.mroIs F.init.lookup ?_
  rw [hi]
  refine wpAny_holding (wpAny_bind ?_)
  unfold bindSpecial
  refine wpAny_bind (wpAny_typeOf (T := "function") ⟨_, hfI₁, hfc⟩ ?_)
  rw [if_pos (by decide)]
  refine wpAny_pure (wpAny_bind (wpAny_mono (hq _ (h.objs.size + 1) ⟨fun b o hb => Heap.get?_push_of_some _ (Heap.get?_push_of_some _ hb), Heap.get?_none_of_le (Nat.le_succ _), h.objs.size, hget, Heap.get?_none_of_le (Nat.le_refl _), ?_⟩) (fun r s' hr => ?_) fun _ _ x => x))
  · exact Heap.get?_push_of_some _ (Heap.get?_push_at rfl rfl)
  · obtain ⟨rfl, hQ⟩ := hr
    wp_walk
    exact hQ
theorem call_x (Fn : ExcBaseFacts Bn newId inN bmN) (hBn : bmB.contains (.type Bn) = true) (F : ExcBaseFacts B nid initId bmB) (T : OwnTail h bmB bm) {mN : Str → Option Value} {rest : List Value} {fI : Addr} {oI : Obj} {Q : Value → Shared → Prop}
    (hC : h.get? C = some (excClassObj nm q C N bs bm hdct sn sub ab col dd k0 k1 k2 k3 k5 newId)) (hn : h.Ns N mN) (hi : mN "__init__" = some (.ref fI))
    (hfI : h.get? fI = some oI) (hfc : oI.cls = .type "function")
    (hq : ∀ h' e, Heap.MadeExcOf h h' e (.ref C) rest →
      wpAny (model prog w) (A.under (.builtin "type.__call__" ⟨.ref C :: rest, []⟩)) (call (.ref fI) (.ref e :: rest)) (fun r s' => r = .none ∧ Q (.ref e) s') E ⟨h', g, d, t, os⟩) (hrest : rest.length ≤ sizeLine) :
    wpAny (model prog w) A (call (.ref C) rest) Q E ⟨h, g, d, t, os⟩ := by
  have f1 := tc_lookup
  have f2 := tc_bind (.ref C)
  have hT : (⟨h, g, d, t, os⟩ : Shared).TypeIs (.ref C) "type" := ⟨_, hC, rfl⟩
  refine wpAny_call (codeAny_of_tree ?_)
  show wpAny _ _ (callAny (.ref C) _) _ _ _
  repeat (any_goals (first | assumption | with_reducible refine wpAny_loadPart_at hC ?_ | wp_step))
  refine ⟨rfl, ?_⟩
  refine codeAny_call_builtin_at (Code.quiet_builtin _ (by decide +kernel)) entry_typeCall (wpAny_check_type_call_sub hC (type_call_x (hrest := hrest) Fn hBn F T hC hn hi hfI hfc fun h' e hm => ?_))
  exact hq h' e hm
theorem raiseStmt_x {M : Model} {x : Sem Value} {Q : Flow → Shared → Prop} (hbase : bm.contains (.type "BaseException") = true) (hh : A.handled = none)
    (h : wpAny M A x (fun v s₁ => ∃ e dx vs sl, v = .ref e ∧ s₁.heap.get? C = some (excClassObj nm q C N bs bm hdct sn sub ab col dd k0 k1 k2 k3 k5 newId) ∧
      s₁.heap.get? e = some ⟨.ref C, dx, .fields vs, sl⟩ ∧ vs[1]? = some .none ∧ E (.ref e) s₁) E s) :
    wpAny M A (raiseStmt env (some x) none) Q E s := by
  have hcB : (Value.ref C :: bm).contains (.type "BaseException") = true := by rw [List.contains_cons, hbase, Bool.or_true]
  unfold raiseStmt
  refine wpAny_bind (wpAny_mono h (fun v s₁ h₁ => ?_) fun _ _ x => x)
  obtain ⟨e, dx, vs, sl, rfl, hC, he, hv1, hE⟩ := h₁
  obtain ⟨hp, g, d, tk, os⟩ := s₁
  repeat (first | with_reducible refine wpAny_loadPart_at he ?_ | with_reducible refine wpAny_loadPart_at hC ?_ | (with_reducible refine wpAny_isSubtype_exc hC ?_; rw [hcB]) | rw [hv1] | wp_step)
  exact wpAny_raiseNew_none hh hE
theorem Raise_x (Fn : ExcBaseFacts Bn newId inN bmN) (hBn : bmB.contains (.type Bn) = true) (F : ExcBaseFacts B nid initId bmB) {mN : Str → Option Value} {x : Str} {np cpos pos : Pos} {args : List Expr} {fI : Addr} {oI : Obj} {Q : Flow → Shared → Prop}
    (hbase : bm.contains (.type "BaseException") = true) (hh : A.handled = none) (hplain : (backTo cpos (starEach args env)).any (·.1) = false) (hi : mN "__init__" = some (.ref fI)) (hfc : oI.cls = .type "function")
    (h : wpAny (model prog w) A (eval (.Name x np) env) (fun f s₁ => f = .ref C ∧ wpAny (model prog w) A (evalArgs (.ref C) true (backTo cpos (starEach args env)) [])
      (fun a s₂ => a.kw = [] ∧ a.pos.length ≤ sizeLine ∧ s₂.heap.get? C = some (excClassObj nm q C N bs bm hdct sn sub ab col dd k0 k1 k2 k3 k5 newId) ∧ s₂.heap.Ns N mN ∧ OwnTail s₂.heap bmB bm ∧ s₂.heap.get? fI = some oI ∧
        ∀ h' e, Heap.MadeExcOf s₂.heap h' e (.ref C) a.pos → wpAny (model prog w) (A.under (.builtin "type.__call__" ⟨.ref C :: a.pos, []⟩)) (call (.ref fI) (.ref e :: a.pos))
          (fun r s' => r = .none ∧ ∃ dx vs sl, s'.heap.get? C = some (excClassObj nm q C N bs bm hdct sn sub ab col dd k0 k1 k2 k3 k5 newId) ∧ s'.heap.get? e = some ⟨.ref C, dx, .fields vs, sl⟩ ∧ vs[1]? = some .none ∧ E (.ref e) s') E { s₂ with heap := h' }) E s₁) E s) :
    wpAny (model prog w) A (exec (.Raise (some (.Call (.Name x np) args [] cpos)) none pos) env) Q E s := by
  rw [arm_exec_Raise]
  first
    | refine wpAny_bind (wpAny_standAt (raiseStmt_x (C := C) (nm := nm) (q := q) (N := N) (bs := bs) (bm := bm) (hdct := hdct) (sn := sn) (sub := sub) (ab := ab) (col := col) (dd := dd) (k0 := k0) (k1 := k1) (k2 := k2) (k3 := k3) (k5 := k5) (newId := newId) hbase hh (wpAny_bind (wpAny_mono (wpAny_Call_ofName (wpAny_mono h (fun f s₁ h₁ => ?_) fun _ _ x => x)) (fun v s₃ h₃ => wpAny_bind (wpAny_standAt (wpAny_pure h₃))) fun _ _ x => x))))
    | (simp only [evalOpt, Option.map]; refine wpAny_bind (wpAny_standAt (raiseStmt_x (C := C) (nm := nm) (q := q) (N := N) (bs := bs) (bm := bm) (hdct := hdct) (sn := sn) (sub := sub) (ab := ab) (col := col) (dd := dd) (k0 := k0) (k1 := k1) (k2 := k2) (k3 := k3) (k5 := k5) (newId := newId) hbase hh (wpAny_bind (wpAny_mono (wpAny_Call_ofName (wpAny_mono h (fun f s₁ h₁ => ?_) fun _ _ x => x)) (fun v s₃ h₃ => wpAny_bind (wpAny_standAt (wpAny_pure h₃))) fun _ _ x => x)))))
    | (refine wpAny_bind (wpAny_standAt (raiseStmt_x (C := C) (nm := nm) (q := q) (N := N) (bs := bs) (bm := bm) (hdct := hdct) (sn := sn) (sub := sub) (ab := ab) (col := col) (dd := dd) (k0 := k0) (k1 := k1) (k2 := k2) (k3 := k3) (k5 := k5) (newId := newId) hbase hh ?_)); refine wpAny_bind (wpAny_mono (wpAny_Call_ofName (wpAny_mono h (fun f s₁ h₁ => ?_) fun _ _ x => x)) (fun v s₃ h₃ => wpAny_bind (wpAny_standAt (wpAny_pure h₃))) fun _ _ x => x))
  obtain ⟨rfl, h₁⟩ := h₁
  unfold callWith
  refine wpAny_bind (wpAny_holding (wpAny_mono h₁ (fun a s₂ h₂ => wpAny_bind (wpAny_standAt ?_)) fun _ _ x => x))
  obtain ⟨apos, akw⟩ := a
  obtain ⟨hkw, hlen, hC, hn, T, hfI, h₂⟩ := h₂
  obtain rfl : akw = [] := hkw
  obtain ⟨hp, g, d, tk, os⟩ := s₂
  simp only [hplain]
  refine wpAny_bind (wpAny_keeperOf_exc hC ?_)
  refine wpAny_bind (call_x (hrest := hlen) Fn hBn F T hC hn hi hfI hfc fun h' e hm => wpAny_mono (h₂ h' e hm) (fun r s' ⟨hr, dx, vs, sl, e1, e2, e4, e3⟩ => ⟨hr, wpAny_bind (wpAny_holding (wpAny_point (wpAny_pure ?_)))⟩) fun _ _ x => x)
  exact ⟨e, dx, vs, sl, rfl, e1, e2, e4, e3⟩
end
structure ExcI (K : Frag) (C fI : Addr) : Prop where
  ex : ∃ bm N nm qn bs hd sn sub ab col dd k0 k1 k2 k3 k5, K.lookup C = some (excClassObj nm qn C N bs bm hd sn sub ab col dd k0 k1 k2 k3 k5 "ValueError.__new__") ∧ PySem.W.nsOkIn K N = true ∧ PySem.W.nsIn K N "__init__" = some (some (.ref fI)) ∧ PySem.W.tailIn K vmro bm = true
  fn : PySem.W.isFn K (.ref fI) = true
theorem nsMap_of_in {K : Frag} {h : Heap} {N : Addr} {x : Str} {v : Value} (X : K.In h) (e : PySem.W.nsOkIn K N = true) (q : PySem.W.nsIn K N x = some (some v)) : h.nsMap N x = some v := by
  obtain ⟨o, es, ep, ho, hd, _, hf⟩ := Heap.Ns.of_isNs (PySem.W.isNs_of_in X e)
  unfold PySem.W.nsIn at q
  split at q
  · rename_i c d es' n' sl q'
    have := X _ _ q'
    rw [ho] at this
    cases this
    cases hd
    split at q
    · rename_i en he
      cases q
      rw [← hf]
      unfold nsFind findBy
      rw [← Array.find?_toList, he]
      rfl
    · split at q <;> cases q
  · cases q
theorem Inv.swap {X : Cx} {σ : St} {H H' : Hp} {s : Shared} {e d : Addr} {o : HO} {φ ψ : Heap → Prop} (I : Inv X [] σ H s) (hpn : X.pn = []) (he : H e = some (.ext φ)) (hd : H d = some (.ext ψ)) (le : X.s₀.heap.get? e = none) (ld : X.s₀.heap.get? d = none)
    (eq : ∀ b, b ≠ e → b ≠ d → H' b = H b) (he' : H' e = none) (hd' : H' d = some o) (new : ObjOk X.prog X.w H' s.heap d o) : Inv X [] σ H' s := by
  have ne : ∀ b u, H b = some u → (∀ φ, u ≠ .ext φ) → b ≠ e ∧ b ≠ d := fun b u q n => ⟨fun z => (by subst z; rw [he] at q; cases q; exact n _ rfl), fun z => (by subst z; rw [hd] at q; cases q; exact n _ rfl)⟩
  have n0 : ∀ b, H b = none → b ≠ e ∧ b ≠ d := fun b q => ⟨fun z => (by rw [z, he] at q; cases q), fun z => (by rw [z, hd] at q; cases q)⟩
  have st : ∀ b u, H b = some u → (∀ φ, u ≠ .ext φ) → H' b = some u := fun b u q n => by rw [eq b (ne b u q n).1 (ne b u q n).2]; exact q
  refine ⟨I.ok, I.os, I.bare, ⟨I.base.keep, I.base.slot, fun b o' q n hx => ?_, I.base.there, fun b xs q => ?_, fun b o' u q => ?_, fun b ps q => ?_⟩, I.loc, I.cell, ?_, fun x c q => ?_, fun p hp => ?_, fun b u q => ?_, I.len⟩
  · rw [eq b (fun z => by rw [z, le] at q; cases q) (fun z => by rw [z, ld] at q; cases q)]; exact I.base.free b o' q n hx
  · exact st _ _ (I.base.tups b xs q) fun _ z => nomatch z
  · exact st _ _ (I.base.frzs b o' u q) fun _ z => nomatch z
  · obtain ⟨m, z⟩ := I.base.tbls b ps q; exact ⟨m, st _ _ z fun _ z => nomatch z⟩
  · rw [eq _ (n0 _ I.free).1 (n0 _ I.free).2]; exact I.free
  · rw [eq _ (n0 _ (I.freeC x c q)).1 (n0 _ (I.freeC x c q)).2]; exact I.freeC x c q
  · rw [hpn] at hp; exact absurd hp (by simp)
  · by_cases z1 : b = d
    · subst z1; rw [hd'] at q; cases q; exact new
    · by_cases z2 : b = e
      · subst z2; rw [he'] at q; cases q
      · rw [eq b z2 z1] at q
        exact (I.hok b u q).stay (fun c v hc y => y) (fun c y => st _ _ y fun _ z => nomatch z) fun c xs y => st _ _ y fun _ z => nomatch z
section
variable {X : Cx} {EX : XE} {C : Addr} {x f1 f2 : Str} {e1 e2 : Expr} {fs : List (M D)} {np cpos pos : Pos} {n : Nat}
end
end VS

end
section
set_option linter.all false
set_option maxRecDepth 100000
namespace VS
open PySem PySem.Spec PyProof.Rows L2 VP
structure RoomH (k : Nat) (A : Around) : Prop where
  dp : A.depth + 3 * k + 5 < recursionLimit
  un : A.units + 16 * k + 200 < cLine
theorem RoomH.of {k n : Nat} {A : Around} {v : Option Value} (r : Room n A) (h : k ≤ n) : RoomH k (A.mark v) := ⟨by have := r.dp; show A.depth + 3 * k + 5 < _; omega, by have := r.un; show A.units + 16 * k + 200 < _; omega⟩
theorem RoomH.deeper {k : Nat} {A : Around} (r : RoomH (k + 1) A) (env : Env) : RoomH k (A.deeper env) :=
  ⟨by have := r.dp; show A.depth + 1 + 3 * k + 5 < _; omega, by have := r.un; show A.units + 3 + 16 * k + 200 < _; omega⟩
theorem RoomH.depth {k : Nat} {A : Around} (r : RoomH k A) : A.depth < recursionLimit := by have := r.dp; omega
structure FnOkH (P : Program) (w : World) (K : Frag) (mg : MG) (base : Heap) (k : Nat) (f : Addr) (fd : FuncData) (ps : List Str) (sp : Sp) : Prop where
  len : ∀ vs H Q E, sp vs H Q E → vs.length = ps.length
  run : ∀ (A : Around) (outer : List Env) (s : Shared) (H : Hp) (args : Args) (us : List Value) (vs : List V) (Q : VK) (E : XK), RoomH k A → Env0 P w K mg base A outer s H → BindsTo s fd args (ps.zip us) → Vals vs us → sp vs H Q E →
    codeAny (model P w) A (.call (.ref f) args) (CR CX0 outer P w H s Q E) s
section
variable {P : Program} {w : World} {K : Frag} {mg : MG} {base : Heap}
abbrev cxH (P : Program) (w : World) (K : Frag) (mg : MG) (base : Heap) (N : List Str) (qual : Str) (sc : Scope) (f : Addr) (cdv : Value) (A : Around) (outer : List Env) (s : Shared) (H : Hp) (E : XK) : Cx :=
  { (cxOf CX0 P w K mg base N qual sc f cdv A outer s H E).nox with calm := false }
theorem inv_startH {N ps : List Str} {qual : Str} {scope : Scope} {f : Addr} {cd : Value} {A : Around} {outer : List Env} {s s1 : Shared} {H : Hp} {E : XK} {us : List Value} {vs : List V}
    (S : FnScope N ps scope) (e0 : Env0 P w K mg base A outer s H) (hl : vs.length = ps.length) (r : Vals vs us)
    (x : InCallC s s.heap.objs.size (bindL (envOfC qual scope s.heap.objs.size f cd).kindOf (ps.zip us) fun _ => none) (cellsFrom (s.heap.objs.size + 1) scope.names []) (bindC (envOfC qual scope s.heap.objs.size f cd).kindOf (ps.zip us) fun _ => none) s1) :
    Inv (cxH P w K mg base N qual scope f cd A outer s H E) [] (start N vs) H s1 := by
  have e1 : Env0 P w K mg base { A with handled := none } outer s H := ⟨e0.frames, e0.mod, e0.bs, e0.bsz, e0.funs, e0.frf, e0.hok, e0.bare⟩
  have I := (inv_start (CX := CX0) (E := E) S (A := { A with handled := none }) rfl e1 hl r x).wish (fun _ _ => False)
  have ok := I.ok
  exact ⟨⟨ok.mod, ok.kind, ok.glob, ok.blt, ok.above, ok.inj, ok.has, ok.cab, (fun z => nomatch z), Around.frames_deeper e0.frames, ok.stk, ok.exf, ok.bs, ok.bsz, ok.noex, ok.exfs, ok.funs, ok.frf⟩, I.os, I.bare, I.base, I.loc, I.cell, I.free, I.freeC, I.pin, I.hok, I.len⟩
theorem fn_okH {x qual : Str} {st : Stmt} {f : Addr} {fd : FuncData} {N ps : List Str} {k : Nat} {fl : List Bool} {body : M Fl} (Fu : Fun K x qual st f fd) (S : FnScope N ps (defScope st)) (hl : fl.length = ps.length)
    (hbody : ∀ (cdv : Value) (A : Around) (outer : List Env) (s : Shared) (H : Hp) (E : XK), RoomH k (A.deeper (envOfC qual (defScope st) s.heap.objs.size f cdv)) →
      PVSs (cxH P w K mg base N qual (defScope st) f cdv A outer s H E) (fun _ => E) (defBody st) body) :
    FnOkH P w K mg base (k + 1) f fd ps (spV K mg fl (defn N.length fl body)) := by
  obtain ⟨oc, od, kV, doc, pm, an, cdv, ct, osl, rfl, lk, hcd⟩ := Fu.ex
  refine ⟨fun vs H Q E h => by rw [h.1, hl], fun A outer s H args us vs Q E hr e0 hb r hsp => ?_⟩
  have kx : K.In s.heap := e0.mod.kin.keeps fun b o e => (e0.bs b o e).1
  have lim : s.heap.NoLimit := e0.mod.nolimit.keeps fun b o e => (e0.bs b o e).1
  refine codeAny_call_function hr.depth (kx _ _ lk) rfl S.co S.gen rfl (PySem.W.codeRec_of kx hcd) (hb _ _ _ _ ?_)
  refine wpAny_newFunctionEnv_cells S.kind (fun ⟨n, v⟩ hy => (S.par n (List.of_mem_zip hy).1).imp id fun q => ⟨q, PySem.W.cellsFrom_some _ _ _ (.inl q)⟩) fun env he s1 x => ?_
  subst he
  refine ⟨lim.keeps x.toInCall.keep, codeAny_func ?_⟩
  refine wpAny_mono (hbody cdv A outer s H E (hr.deeper _) [] s1 (start N vs) H { nx := fun _ H' => Q .non H', rt := Q } (inv_startH S e0 (by rw [hsp.1, hl]) r x) (start_le S.pre hl hsp)) (fun fl s' hs => ?_) fun e s' hs => hs.elim
  cases fl with
  | ret u => obtain ⟨v, σ', H', J, rv, q⟩ := hs; exact ⟨v, H', J.os, J.bare, J.base, J.hok, rv, q⟩
  | next => obtain ⟨σ', H', J, q⟩ := hs; exact ⟨V.non, H', J.os, J.bare, J.base, J.hok, rfl, q⟩
  | brk => obtain ⟨_, _, _, q⟩ := hs; exact False.elim q
  | cont => obtain ⟨_, _, _, q⟩ := hs; exact False.elim q
end
section
variable {X : Cx} {EX : XE} {fA : Addr} {fd : FuncData} {x : Str} {st : Stmt} {ps : List Str} {fl : List Bool} {fs : Fn} {k n : Nat} {e : Expr} {es : List Expr} {as : List VP.Arg} {p pos : Pos}
theorem run_fnH {pins : List (Addr × Obj)} {σ : St} {H : Hp} {s : Shared} {Q : VK} {us : List Value} {vs : List V} {sp : Sp} (F : FnOkH X.prog X.w X.K X.mg X.base k fA fd ps sp) (hr : RoomH k X.A) (hb : Binds X.K fd ps [])
    (I : Inv X pins σ H s) (r : Vals vs us) (h : sp vs H Q (EX σ)) : wpAny (model X.prog X.w) X.A (call (.ref fA) us) (EP X pins σ Q) X.xe s := by
  have hl : us.length = ps.length := by rw [← r.length]; exact F.len _ _ _ _ h
  have hb' := hb s us I.kIn (by simpa using hl)
  rw [List.append_nil] at hb'
  refine wpAny_call (codeAny_mono (F.run X.A X.stack s H ⟨us, []⟩ us vs Q (EX σ) hr I.env0 hb' r h) fun r s' hq => ?_)
  cases r with
  | error e => exact hq.elim
  | ok fl =>
    cases fl with
    | ret u => exact I.after hq
    | next => exact False.elim hq
    | brk => exact False.elim hq
    | cont => exact False.elim hq
theorem pcH {A0 : Around} {v : Option Value} (D : DefF X.K X.mg x st ps fA fd) (F : FnOkH X.prog X.w X.K X.mg X.base k fA fd ps (spV X.K X.mg fl fs)) (hr : Room n A0) (hg : Gl X x) (ha : PAs X EX (e :: es) as) (hA : X.A = A0.mark v := by rfl) (hk : k ≤ n := by decide) (hfl : as.map VP.Arg.isIo = fl := by rfl) (hdb : (x == ("__debug__" : Str)) = false := by decide)
    (he : starEach (e :: es) X.env = (false, eval e X.env) :: starEach es X.env := by rfl) (hpl : (backTo pos (starEach es X.env)).any (·.1) = false := by rfl) : PV X EX (.Call (.Name x p) (e :: es) [] pos) (mCall fs as) := by
  intro pins s σ H Q I h
  obtain ⟨G, F0, ρ, g0, o⟩ := h
  refine wpAny_Call_Name_kw (ld_glob I hg D.mg ?_ hdb)
  refine PySem.W.callWith_K (h₀ := X.base) I.ok.mod.kin D.fu.kp (thn (ha pos pins s σ H (fun vs H1 => spV X.K X.mg fl fs vs H1 Q (EX σ)) I ⟨G, F0, ρ, g0, ?_⟩) fun us s1 ⟨vs, H1, I1, r, q⟩ => ⟨I1.kIn, ?_⟩) he hpl
  · unfold mCall VP.bnd at o
    cases q : mArgs as ρ with
    | no => rw [q] at o; exact o.elim
    | exc xx ρ1 => rw [q] at o; exact o
    | ok av ρ1 =>
      rw [q] at o
      intro F1 H1 vs s1 g1 r1
      exact app_le (L := lc X EX) g1 r1 (by rw [mArgs_kinds q]; exact hfl) o (fun x r q => q.same s1) fun F' H' ρ' d v s' g' rd P => P F' H' v (s1.trans s') g' rd
  · exact run_fnH F (by rw [hA]; exact RoomH.of hr hk) D.bi I1 r q
end
end VS

end
section
set_option linter.all false
set_option maxRecDepth 100000
namespace VS
open PySem PySem.Spec PyProof.Rows L2 VP
section
variable {prog : Program} {w : World} {A : Around} {E : Value → Shared → Prop} {s : Shared}
end
section
variable {X : Cx} {EX : XE} {e : Addr} {j : Nat} {tg iter : Expr} {body : List Stmt} {fi : M D} {gf : D → M Unit} {f : M Fl} {js : List Nat} {pos : Pos}
end
end VS

end
section
set_option linter.all false
set_option maxRecDepth 100000
namespace VS
open PySem PySem.Spec PyProof.Rows L2 VP
def spI1 (C : Addr) (f1 : Str) : Sp := fun vs H Q _ => ∃ e v1, vs = [.ref e, v1] ∧ H e = some (.ext (XNew e C none)) ∧ ∀ d, H d = none → d ≠ e → Q .non (upd (upd H e (.ext (XNew e C (some d)))) d (.ext (XDict d [(f1, v1)])))
theorem fn_init1 {P : Program} {w : World} {K : Frag} {mg : MG} {base : Heap} {qual : Str} {st : Stmt} {f C : Addr} {fd : FuncData} {x a1 f1 : Str} {p1 p2 p3 p4 : Pos} (Fu : Fun K "__init__" qual st f fd) (S : FnScope [x, a1] [x, a1] (defScope st))
    (hb : defBody st = [.Assign [.Attribute (.Name x p1) f1 p2] (.Name a1 p3) p4]) (k1 : ErrS K C f1)
    (vx : Vis (defScope st) x) (v1 : Vis (defScope st) a1) (hs1 : ∀ env, swapsWith (.Name a1 p3) (some (.Attribute (.Name x p1) f1 p2)) p4.line env = pure false)
    (dx : (x == ("__debug__" : Str)) = false := by decide) (d1 : (a1 == ("__debug__" : Str)) = false := by decide) (cx : (x == ("__classdict__" : Str)) = false := by decide) (c1 : (a1 == ("__classdict__" : Str)) = false := by decide) :
    FnOk P w K mg base CX0 1 f fd [x, a1] (spI1 C f1) := by
  obtain ⟨oc, od, kV, doc, pm, an, cdv, ct, osl, rfl, lk, hcd⟩ := Fu.ex
  refine fn_of lk hcd S (fun vs H Q E ⟨e, u1, h, _⟩ => by rw [h]; rfl) fun A outer s H vs Q E hr ⟨e, u1, hv, he, q⟩ => ?_
  subst hv
  refine ⟨sX0 K 0 1 f1, ?_, ?_⟩
  · rw [hb]
    exact pss_one (ps_x0 rfl rfl vx v1 dx d1 cx c1 (hs1 _))
  · exact ⟨u1, rfl, e, C, rfl, he, k1, fun d hd hde => q d hd hde⟩
structure InitOk1 (P : Program) (w : World) (K : Frag) (mg : MG) (base : Heap) (C : Addr) (f1 : Str) : Prop where
  ex : ∃ fI fd ps, ExcI K C fI ∧ FnOk P w K mg base CX0 1 fI fd ps (spI1 C f1) ∧ Binds K fd ps []
section
variable {X : Cx} {EX : XE} {C : Addr} {x f1 : Str} {e1 : Expr} {fs : List (M D)} {np cpos pos : Pos} {n : Nat}
theorem vs_raiseI1 (IO : InitOk1 X.prog X.w X.K X.mg X.base C f1) (hr : Room n X.A) (hg : Gl X x) (hm : X.mg x = some (.ref C)) (hpn : X.pn = []) (hex : X.ex = []) (hxe : X.xe = xeOf X EX) (hc : X.calm = true) (ha : PLs X EX [e1] (mL fs)) (hn2 : 2 ≤ n := by decide)
    (hd : (x == ("__debug__" : Str)) = false := by decide) (he : starEach [e1] X.env = (false, eval e1 X.env) :: starEach [] X.env := by rfl) (hpl : (backTo cpos (starEach [] X.env)).any (·.1) = false := by rfl) :
    PVS X EX (.Raise (some (.Call (.Name x np) [e1] [] cpos)) none pos) (sRaiseI x [f1] fs) := by
  intro pins s σ H D I ⟨G, F, ρ, g0, o⟩
  obtain ⟨fI, fd, ps, ⟨⟨bm, N, nm, qn, bs, hdc, sn, sub, ab, col, dd, k0, k1, k2, k3, k5, lkC, nsk, hinit, htail⟩, hfn⟩, FI, hb⟩ := IO
  obtain ⟨oI, lkI, hfc⟩ : ∃ oI, X.K.lookup fI = some oI ∧ oI.cls = .type "function" := by
    have z : (X.K.lookup fI).map (fun o => o.cls) = some (.type "function") := beq_iff_eq.mp hfn
    cases q : X.K.lookup fI with
    | none => rw [q] at z; cases z
    | some oI => rw [q] at z; exact ⟨oI, rfl, Option.some.inj z⟩
  have kin0 := I.ok.mod.kin
  have TL := PySem.W.tail_of_in kin0 htail
  have hN := Heap.Ns.of_isNs (PySem.W.isNs_of_in kin0 nsk)
  have hi : X.base.nsMap N "__init__" = some (.ref fI) := nsMap_of_in kin0 nsk hinit
  refine Raise_x (C := C) (nm := nm) (q := qn) (N := N) (bs := bs) (bm := bm) (hdct := hdc) (sn := sn) (sub := sub) (ab := ab) (col := col) (dd := dd) (k0 := k0) (k1 := k1) (k2 := k2) (k3 := k3) (k5 := k5) (fI := fI) (oI := oI)
    PySem.F.excBase_ValueError (by decide) PySem.F.excBase_ValueError (mN := X.base.nsMap N) (TL.hasType (by decide)) (I.ok.hd hc) (by rw [he]; show (false || (backTo cpos (starEach [] X.env)).any (·.1)) = false; rw [hpl]; rfl) hi hfc (ld_glob I hg hm ⟨rfl, ?_⟩ hd)
  have o' : Out (bnd (mL fs) (fun ds r => if ds.length = [f1].length then Res.exc ⟨x, [f1], ds⟩ r else .no) ρ) (PostS (lc X EX) G F D) (PostXS (lc X EX) G F) := o
  have h := ha cpos pins s σ H (fun vs H1 => ∃ F1 ρ1 ds, Same F F1 ∧ (lc X EX).Good G F1 H1 σ ρ1 ∧ DenL X.K X.mg F1 vs ds ∧ PostXS (lc X EX) G F ⟨x, [f1], ds⟩ ρ1 ∧ ds.length = 1) I (at_bnd g0 o' (fun x r q => q.x) fun F1 H1 ρ1 d1 v s1 g1 r1 o1 => by
    split at o1
    · rename_i hl
      exact ⟨F1, ρ1, d1, s1, g1, r1, o1, hl⟩
    · exact o1.elim)
  rw [he] at h ⊢
  refine Calls.evalArgs_plain (wpAny_mono h (fun us s2 h2 => ?_) fun _ _ y => y)
  obtain ⟨vs, H1, I1, r, F1, ρ1, ds, s1, g1, rd, hx, hlen⟩ := h2
  have hvl : vs.length = 1 := by rw [DenL.length rd]; exact hlen
  obtain ⟨v1, rfl⟩ : ∃ v1, vs = [v1] := by
    match vs, hvl with
    | [v1], _ => exact ⟨v1, rfl⟩
  refine ⟨rfl, ?_, I1.bk _ _ (kin0 _ _ lkC), hN.keeps I1.bk, TL.keeps I1.bk, I1.bk _ _ (kin0 _ _ lkI), fun h' a hmade => ?_⟩
  · show us.length ≤ sizeLine
    rw [← r.length]
    exact (show (1 : Nat) ≤ sizeLine by decide)
  · obtain ⟨t, h1, h2, h3⟩ := hmade.there
    have lo := Inv.older (X := X) I1 hex a hmade.new
    have nt : H1 a = none := HOk.free I1.hok hmade.new
    have I2 : Inv X [] σ H1 { s2 with heap := h' } := Inv.nopin (I1.kept (t' := s2.toks) hmade.keeps)
    have I3 := Inv.track (o := .ext (XNew a C none)) I2 hpn lo nt ⟨_, _, h1, rfl⟩ (ok_new ⟨_, _, h1, rfl, rfl⟩) fun b z => nomatch z
    have r3 : Vals (V.ref a :: [v1]) (Value.ref a :: us) := .cons rfl r
    have sp : spI1 C f1 (V.ref a :: [v1]) (upd H1 a (.ext (XNew a C none))) (fun v H' => v = .non ∧ ∃ d, upd H1 a (.ext (XNew a C none)) d = none ∧ d ≠ a ∧ H' = upd (upd (upd H1 a (.ext (XNew a C none))) a (.ext (XNew a C (some d)))) d (.ext (XDict d [(f1, v1)]))) (fun _ _ _ => False) :=
      ⟨a, v1, rfl, upd_same, fun d q1 q2 => ⟨rfl, d, q1, q2, rfl⟩⟩
    have hl : (Value.ref a :: us ++ []).length = ps.length := by
      rw [List.append_nil, ← r3.length]; exact FI.len _ _ _ _ sp
    have hb' := hb { s2 with heap := h' } (Value.ref a :: us) I3.kIn hl
    rw [List.append_nil] at hb'
    refine wpAny_call (codeAny_mono (FI.run _ X.stack _ _ ⟨Value.ref a :: us, []⟩ (Value.ref a :: us) _ _ _ ((hr.mono hn2).make C us []) (I3.env0.make C us []) hb' r3 sp) fun rr s' hq' => ?_)
    cases rr with
    | error e => exact hq'.elim
    | ok fl =>
      cases fl with
      | next => exact False.elim hq'
      | brk => exact False.elim hq'
      | cont => exact False.elim hq'
      | ret u =>
        obtain ⟨v, H', ho, hg', un, hok, rv, rfl, d, hdn, hda, rfl⟩ := hq'
        have I4 := I3.call' (ch := []) ho un hok hg' fun b hb => absurd hb (by simp)
        have dn : H1 d = none := by rw [upd_ne hda] at hdn; exact hdn
        have dfree : h'.get? d = none := by
          cases q : h'.get? d with
          | none => rfl
          | some od =>
            have z := un.free d od q hdn (by simp)
            rw [upd_same] at z
            cases z
        have ld := Inv.older (X := X) I3 hex d dfree
        have ea : upd (upd (upd H1 a (.ext (XNew a C none))) a (.ext (XNew a C (some d)))) d (.ext (XDict d [(f1, v1)])) a = some (.ext (XNew a C (some d))) := by
          rw [upd_ne (Ne.symm hda), upd_same]
        have ed : upd (upd (upd H1 a (.ext (XNew a C none))) a (.ext (XNew a C (some d)))) d (.ext (XDict d [(f1, v1)])) d = some (.ext (XDict d [(f1, v1)])) := upd_same
        obtain ⟨⟨ws, sl, ho1, ho2, ho3⟩, _, _⟩ := (show ObjOk X.prog X.w _ s'.heap a (.ext (XNew a C (some d))) from I4.hok a _ ea)
        obtain ⟨⟨mA, nA, rA, _⟩, _, _⟩ := (show ObjOk X.prog X.w _ s'.heap d (.ext (XDict d [(f1, v1)])) from I4.hok d _ ed)
        have I5 : Inv X [] σ (upd H1 d (.xd [(f1, v1)])) s' := Inv.swap I4 hpn ea ed lo ld (fun b q1 q2 => by rw [upd_ne q2, upd_ne q2, upd_ne q1, upd_ne q1]) (by rw [upd_ne (Ne.symm hda)]; exact nt) upd_same ⟨mA, nA, rA⟩
        refine ⟨rv, some d, ws, sl, I4.bk _ _ (kin0 _ _ lkC), ho1, ho2, ?_⟩
        rw [hxe]
        refine ⟨a, .ref C, some d, σ, _, rfl, I5.wish _, ⟨lo, by rw [upd_ne (Ne.symm hda)]; exact nt, .inl ⟨ws, sl, ho1, ho3, ho2⟩⟩, ?_⟩
        have fd : F1 d = none := g1.sub.free dn
        have sE : Same F1 (upd F1 d (.xd [(f1, v1)])) := same_upd fd
        exact hx _ _ σ (.ref C) (some d) (s1.trans sE) (Good.laid g1 dn) ⟨C, rfl, hm, _, .inr ⟨d, rfl, upd_same⟩, rfl, rd.same sE⟩
end
section
variable {X : Cx} {L : Lc}
theorem g_addS : OpG L (fun x y H Q => ∃ i j, x = .str i ∧ y = .str j ∧ i.length + j.length ≤ sizeLine ∧ Q (.str (i ++ j)) H) addS := fun G F H σ ρ x y dx dy d Q g0 rx ry e k => by
  cases dx <;> cases dy <;> try (simp only [addS, reduceCtorEq] at e; done)
  rename_i i j
  simp only [addS] at e
  split at e
  · rename_i hc
    cases e
    cases rx; cases ry
    exact ⟨i, j, rfl, rfl, by rw [sizeLine_eq]; exact hc, k F H _ (Same.refl _) g0 (.str _)⟩
  · cases e
theorem op_mulS : OpR X (binaryOp .Mult) (fun x y H Q => ∃ i n, x = .str i ∧ y = .int n ∧ 1 < n ∧ n ≤ 100 ∧ i.length ≤ 100 ∧ Q (.str (Txt.mul i n)) H) := by
  intro pins s σ H x y v u Q I rx ry h
  obtain ⟨i, n, rfl, rfl, h1, h2, h3, q⟩ := h
  obtain ⟨t, rfl⟩ := rx
  obtain ⟨t', rfl⟩ := ry
  refine SB.mul ⟨?_, fun _ _ => ?_, fun _ _ => ?_⟩ fun t' k => ⟨.str (Txt.mul i n), H, I.tok _, ⟨_, rfl⟩, q⟩
  · rw [decide_eq_false (by omega), decide_eq_false (by omega)]; rfl
  · have : (100 : Int) ≤ (2 ^ 63 - 1) / n := (Int.le_ediv_iff_mul_le (by omega)).mpr (by omega)
    omega
  · unfold Builtin.Str.tooLong
    have : i.length * n.toNat ≤ 100 * 100 := Nat.mul_le_mul h3 (by omega)
    have : sizeLine = 16777216 := sizeLine_eq
    rw [this]
    simp
    omega
theorem g_mulS : OpG L (fun x y H Q => ∃ i n, x = .str i ∧ y = .int n ∧ 1 < n ∧ n ≤ 100 ∧ i.length ≤ 100 ∧ Q (.str (Txt.mul i n)) H) mulS := fun G F H σ ρ x y dx dy d Q g0 rx ry e k => by
  cases dx <;> cases dy <;> try (simp only [mulS, reduceCtorEq] at e; done)
  rename_i i n
  simp only [mulS] at e
  split at e
  · rename_i hc
    cases e
    cases rx; cases ry
    exact ⟨i, n, rfl, rfl, hc.1, hc.2.1, hc.2.2, k F H _ (Same.refl _) g0 (.str _)⟩
  · cases e
end
end VS

end
section
namespace VP
open PySem
section
variable {α β : Type}
def Res.then {α β : Type} : Res α → (α → M β) → Res β
  | .ok a r, g => g a r
  | .exc x r, _ => .exc x r
  | .no, _ => .no
def Res.seq : Res Fl → M Fl → Res Fl
  | .ok .nx r, g => g r
  | .ok k r, _ => .ok k r
  | .exc x r, _ => .exc x r
  | .no, _ => .no
def Res.turn : Res Fl → M Fl → Res Fl
  | .ok .nx r, g => g r
  | .ok .ct r, g => g r
  | .ok .bk r, _ => .ok .nx r
  | .ok (.rt d) r, _ => .ok (.rt d) r
  | .exc x r, _ => .exc x r
  | .no, _ => .no
@[simp] theorem then_ok (a : α) (r : Rho) (g : α → M β) : (Res.ok a r).then g = g a r := Eq.trans rfl rfl
@[simp] theorem then_exc (x : Xn) (r : Rho) (g : α → M β) : (Res.exc x r : Res α).then g = .exc x r := Eq.trans rfl rfl
@[simp] theorem then_ite (c : Prop) [Decidable c] (a b : Res α) (g : α → M β) : (if c then a else b).then g = if c then a.then g else b.then g := by split <;> rfl
@[simp] theorem seq_nx (r : Rho) (g : M Fl) : (Res.ok .nx r).seq g = g r := Eq.trans rfl rfl
@[simp] theorem seq_bk (r : Rho) (g : M Fl) : (Res.ok .bk r).seq g = .ok .bk r := Eq.trans rfl rfl
@[simp] theorem seq_ct (r : Rho) (g : M Fl) : (Res.ok .ct r).seq g = .ok .ct r := Eq.trans rfl rfl
@[simp] theorem seq_rt (d : D) (r : Rho) (g : M Fl) : (Res.ok (.rt d) r).seq g = .ok (.rt d) r := Eq.trans rfl rfl
@[simp] theorem seq_exc (x : Xn) (r : Rho) (g : M Fl) : (Res.exc x r).seq g = .exc x r := Eq.trans rfl rfl
@[simp] theorem seq_ite (c : Prop) [Decidable c] (a b : Res Fl) (g : M Fl) : (if c then a else b).seq g = if c then a.seq g else b.seq g := by split <;> rfl
@[simp] theorem turn_nx (r : Rho) (g : M Fl) : (Res.ok .nx r).turn g = g r := Eq.trans rfl rfl
@[simp] theorem turn_bk (r : Rho) (g : M Fl) : (Res.ok .bk r).turn g = .ok .nx r := Eq.trans rfl rfl
@[simp] theorem turn_ct (r : Rho) (g : M Fl) : (Res.ok .ct r).turn g = g r := Eq.trans rfl rfl
@[simp] theorem turn_rt (d : D) (r : Rho) (g : M Fl) : (Res.ok (.rt d) r).turn g = .ok (.rt d) r := Eq.trans rfl rfl
@[simp] theorem turn_exc (x : Xn) (r : Rho) (g : M Fl) : (Res.exc x r).turn g = .exc x r := Eq.trans rfl rfl
@[simp] theorem turn_ite (c : Prop) [Decidable c] (a b : Res Fl) (g : M Fl) : (if c then a else b).turn g = if c then a.turn g else b.turn g := by split <;> rfl
@[simp] theorem ret_at (a : α) (r : Rho) : ret a r = .ok a r := Eq.trans rfl rfl
@[simp] theorem stuck_at (r : Rho) : (stuck : M α) r = .no := Eq.trans rfl rfl
@[simp] theorem opt_some (a : α) : opt (some a) = ret a := Eq.trans rfl rfl
@[simp] theorem opt_none : (opt none : M α) = stuck := Eq.trans rfl rfl
theorem bnd_at (f : M α) (g : α → M β) (r : Rho) : bnd f g r = (f r).then g := by unfold bnd; cases f r <;> rfl
@[simp] theorem mC_at (d : D) (r : Rho) : mC d r = .ok d r := Eq.trans rfl rfl
@[simp] theorem m1_at (g : D → Option D) (a : M D) (r : Rho) : m1 g a r = (a r).then fun x => opt (g x) := bnd_at _ _ _
@[simp] theorem m2_at (g : D → D → Option D) (a b : M D) (r : Rho) : m2 g a b r = (a r).then fun x r => (b r).then fun y => opt (g x y) := by
  unfold m2; rw [bnd_at]; congr; funext x r; exact bnd_at _ _ _
@[simp] theorem mL_nil (r : Rho) : mL [] r = .ok [] r := Eq.trans rfl rfl
@[simp] theorem mL_cons (f : M D) (fs : List (M D)) (r : Rho) : mL (f :: fs) r = (f r).then fun x r => (mL fs r).then fun xs => ret (x :: xs) := by
  conv => lhs; unfold mL
  rw [bnd_at]; congr; funext x r; exact bnd_at _ _ _
@[simp] theorem mF_at (g : List D → Option D) (as : List (M D)) (r : Rho) : mF g as r = (mL as r).then fun xs => opt (g xs) := bnd_at _ _ _
@[simp] theorem mTup_at (as : List (M D)) (r : Rho) : mTup as r = (mL as r).then fun xs => opt (tupD xs) := bnd_at _ _ _
@[simp] theorem mLst_at (as : List (M D)) (r : Rho) : mLst as r = (mL as r).then fun xs => opt (lstD xs) := bnd_at _ _ _
def boolOf : D → M Bool
  | .bl b => ret b
  | _ => stuck
@[simp] theorem boolOf_bl (b : Bool) : boolOf (.bl b) = ret b := Eq.trans rfl rfl
@[simp] theorem tB_at (a : M D) (r : Rho) : tB a r = (a r).then boolOf := by
  unfold tB; rw [bnd_at]; cases a r with
  | ok d r' => cases d <;> rfl
  | _ => rfl
@[simp] theorem tNot_at (a : M Bool) (r : Rho) : tNot a r = (a r).then fun b => ret (!b) := bnd_at _ _ _
@[simp] theorem tAnd_at (a b : M Bool) (r : Rho) : tAnd a b r = (a r).then fun x r => if x = true then b r else .ok false r := by
  unfold tAnd; rw [bnd_at]; congr; funext x r; cases x <;> rfl
@[simp] theorem tOr_at (a b : M Bool) (r : Rho) : tOr a b r = (a r).then fun x r => if x = true then .ok true r else b r := by
  unfold tOr; rw [bnd_at]; congr; funext x r; cases x <;> rfl
@[simp] theorem mOfT_at (a : M Bool) (r : Rho) : mOfT a r = (a r).then fun b => ret (.bl b) := bnd_at _ _ _
@[simp] theorem mIf_at (c : M Bool) (a b : M D) (r : Rho) : mIf c a b r = (c r).then fun x r => if x = true then a r else b r := by
  unfold mIf; rw [bnd_at]; congr; funext x r; cases x <;> rfl
@[simp] theorem mAndV_at (a b : M D) (r : Rho) : mAndV a b r = ((a r).then boolOf).then fun x r => if x = true then b r else .ok (.bl false) r := by
  unfold mAndV; rw [bnd_at]; cases a r with
  | ok d r' => cases d <;> try rfl
               rename_i b; cases b <;> rfl
  | _ => rfl
@[simp] theorem mOrV_at (a b : M D) (r : Rho) : mOrV a b r = ((a r).then boolOf).then fun x r => if x = true then .ok (.bl true) r else b r := by
  unfold mOrV; rw [bnd_at]; cases a r with
  | ok d r' => cases d <;> try rfl
               rename_i b; cases b <;> rfl
  | _ => rfl
@[simp] theorem sNx_at (r : Rho) : sNx r = .ok .nx r := Eq.trans rfl rfl
@[simp] theorem sBk_at (r : Rho) : sBk r = .ok .bk r := Eq.trans rfl rfl
@[simp] theorem sCt_at (r : Rho) : sCt r = .ok .ct r := Eq.trans rfl rfl
@[simp] theorem sSeq_at (f g : M Fl) (r : Rho) : sSeq f g r = (f r).seq g := by
  unfold sSeq bnd; cases f r with
  | ok k r' => cases k <;> rfl
  | _ => rfl
@[simp] theorem sDo_at (f : M Unit) (r : Rho) : sDo f r = (f r).then fun _ => ret .nx := bnd_at _ _ _
@[simp] theorem sDrop_at (f : M D) (r : Rho) : sDrop f r = (f r).then fun _ => ret .nx := bnd_at _ _ _
@[simp] theorem sRet_at (f : M D) (r : Rho) : sRet f r = (f r).then fun d => ret (.rt d) := bnd_at _ _ _
@[simp] theorem sIf_at (c : M Bool) (a b : M Fl) (r : Rho) : sIf c a b r = (c r).then fun x r => if x = true then a r else b r := by
  unfold sIf; rw [bnd_at]; congr; funext x r; cases x <;> rfl
@[simp] theorem sSet_at (i : Nat) (f : M D) (r : Rho) : sSet i f r = (f r).then fun d r => if free r[i]? = true then .ok .nx (r.set i (.sh d)) else .no := by
  unfold sSet; rw [bnd_at]; congr; funext d r; rw [sDo_at]; unfold mSet; split <;> rfl
@[simp] theorem sOwn_at (i : Nat) (f : M D) (r : Rho) : sOwn i f r = (f r).then fun d r => if free r[i]? = true then .ok .nx (r.set i (.ow d)) else .no := by
  unfold sOwn; rw [bnd_at]; congr; funext d r; rw [sDo_at]; unfold mOwn; split <;> rfl
@[simp] theorem sFz_at (i : Nat) (f : M Fl) (r : Rho) : sFz i f r = (mFz i r).then fun _ => f := bnd_at _ _ _
def shOf : Option Sl → Option D
  | some (.sh d) => some d
  | _ => none
def anyOf : Option Sl → Option D
  | some (.sh d) => some d
  | some (.ow d) => some d
  | some (.io d) => some d
  | _ => none
@[simp] theorem shOf_sh (d : D) : shOf (some (.sh d)) = some d := Eq.trans rfl rfl
@[simp] theorem anyOf_sh (d : D) : anyOf (some (.sh d)) = some d := Eq.trans rfl rfl
@[simp] theorem anyOf_ow (d : D) : anyOf (some (.ow d)) = some d := Eq.trans rfl rfl
@[simp] theorem anyOf_io (d : D) : anyOf (some (.io d)) = some d := Eq.trans rfl rfl
@[simp] theorem free_no : free (some .no) = true := Eq.trans rfl rfl
@[simp] theorem free_sh (d : D) : free (some (.sh d)) = true := Eq.trans rfl rfl
@[simp] theorem free_ow (d : D) : free (some (.ow d)) = true := Eq.trans rfl rfl
@[simp] theorem own_ow (d : D) : own (some (.ow d)) = some d := Eq.trans rfl rfl
@[simp] theorem own_io (d : D) : own (some (.io d)) = some d := Eq.trans rfl rfl
@[simp] theorem mVar_at (i : Nat) (r : Rho) : mVar i r = opt (shOf r[i]?) r := by
  unfold mVar; cases h : r[i]? with
  | none => rfl
  | some s => cases s <;> rfl
@[simp] theorem mRd_at (i : Nat) (r : Rho) : mRd i r = opt (anyOf r[i]?) r := by
  unfold mRd; cases h : r[i]? with
  | none => rfl
  | some s => cases s <;> rfl
def fzS (i : Nat) (r : Rho) : Option Sl → Res Unit
  | some (.ow d) => .ok () (r.set i (.sh d))
  | some (.sh _) => .ok () r
  | _ => .no
@[simp] theorem mFz_at (i : Nat) (r : Rho) : mFz i r = fzS i r r[i]? := by
  unfold mFz; cases h : r[i]? with
  | none => rfl
  | some s => cases s <;> rfl
@[simp] theorem fzS_ow (i : Nat) (r : Rho) (d : D) : fzS i r (some (.ow d)) = .ok () (r.set i (.sh d)) := Eq.trans rfl rfl
@[simp] theorem fzS_sh (i : Nat) (r : Rho) (d : D) : fzS i r (some (.sh d)) = .ok () r := Eq.trans rfl rfl
def putR (i : Nat) (r : Rho) : Option Sl → D → Rho
  | some (.ow _), d => r.set i (.ow d)
  | some (.io _), d => r.set i (.io d)
  | _, _ => r
@[simp] theorem putS_at (i : Nat) (d : D) (r : Rho) : putS i d r = putR i r r[i]? d := by
  unfold putS; cases h : r[i]? with
  | none => rfl
  | some s => cases s <;> rfl
@[simp] theorem putR_ow (i : Nat) (r : Rho) (e d : D) : putR i r (some (.ow e)) d = r.set i (.ow d) := Eq.trans rfl rfl
@[simp] theorem putR_io (i : Nat) (r : Rho) (e d : D) : putR i r (some (.io e)) d = r.set i (.io d) := Eq.trans rfl rfl
@[simp] theorem mUpd_at (i : Nat) (g : D → Option D) (r : Rho) : mUpd i g r = (opt (own r[i]?) r).then fun d r => (opt (g d) r).then fun d' r => .ok () (putS i d' r) := by
  unfold mUpd; cases own r[i]? with
  | none => rfl
  | some d => simp only [opt_some, ret_at, then_ok]; cases g d <;> rfl
@[simp] theorem sApp_at (i : Nat) (fe : M D) (r : Rho) : sApp i fe r = if isLst (own r[i]?) = true then (fe r).then fun x r => (mUpd i (appD x) r).then fun _ => ret .nx else .no := by
  unfold sApp; split
  · rw [bnd_at]; congr; funext x r; exact sDo_at _ _
  · rfl
@[simp] theorem isLst_lst (ds : List D) : isLst (some (.lst ds)) = true := Eq.trans rfl rfl
@[simp] theorem sSetIx_at (i : Nat) (fk fv : M D) (r : Rho) : sSetIx i fk fv r = (fv r).then fun v r => if isLst (own r[i]?) = true then (fk r).then fun k r => (mUpd i (setAt k v) r).then fun _ => ret .nx else .no := by
  unfold sSetIx; rw [bnd_at]; congr; funext v r; split
  · rw [bnd_at]; congr; funext k r; exact sDo_at _ _
  · rfl
@[simp] theorem gName_at (i : Nat) (d : D) (r : Rho) : gName i d r = if free r[i]? = true then .ok () (r.set i (.sh d)) else .no := Eq.trans rfl rfl
@[simp] theorem mSet_at (i : Nat) (d : D) (r : Rho) : mSet i d r = if free r[i]? = true then .ok () (r.set i (.sh d)) else .no := Eq.trans rfl rfl
@[simp] theorem gAll_nil (r : Rho) : gAll [] [] r = .ok () r := Eq.trans rfl rfl
@[simp] theorem gAll_cons (i : Nat) (is : List Nat) (d : D) (ds : List D) (r : Rho) : gAll (i :: is) (d :: ds) r = (mSet i d r).then fun _ => gAll is ds := bnd_at _ _ _
@[simp] theorem gTup_at (is : List Nat) (ds : List D) : gTup is (.tup ds) = gAll is ds := Eq.trans rfl rfl
@[simp] theorem sFor_at (it : M (List D)) (g : D → M Unit) (body : M Fl) (r : Rho) : sFor it g body r = (it r).then fun ds => loop g body ds := bnd_at _ _ _
@[simp] theorem loop_nil (g : D → M Unit) (body : M Fl) (r : Rho) : loop g body [] r = .ok .nx r := Eq.trans rfl rfl
@[simp] theorem loop_cons (g : D → M Unit) (body : M Fl) (d : D) (ds : List D) (r : Rho) : loop g body (d :: ds) r = (g d r).then fun _ r => (body r).turn (loop g body ds) := by
  conv => lhs; unfold loop
  rw [bnd_at]; congr; funext u r; rw [bnd_at]; cases body r with
  | ok k r' => cases k <;> rfl
  | _ => rfl
@[simp] theorem turns_nil (k : Nat) (g : D → M Unit) (test : M Bool) (elt : M D) (r : Rho) : turns k g test elt [] r = .ok () r := Eq.trans rfl rfl
@[simp] theorem turns_cons (k : Nat) (g : D → M Unit) (test : M Bool) (elt : M D) (d : D) (ds : List D) (r : Rho) : turns k g test elt (d :: ds) r =
    (g d r).then fun _ r => (test r).then fun b r => if b = true then (elt r).then fun x r => (mUpd k (appD x) r).then fun _ => turns k g test elt ds else turns k g test elt ds r := by
  conv => lhs; unfold turns
  rw [bnd_at]; congr; funext u r; rw [bnd_at]; congr; funext b r; cases b with
  | true => simp only [if_true]; rw [bnd_at]; congr; funext x r; exact bnd_at _ _ _
  | false => rfl
theorem mComp_at (n : Nat) (it : M (List D)) (g : D → M Unit) (test : M Bool) (elt : M D) (r : Rho) : mComp n it g test elt r = (it r).then fun ds => inner n fun k => turns k g test elt ds := bnd_at _ _ _
def fin (fl : List Bool) : Res Fl → FR
  | .ok (.rt d) r => match iosOf fl r with
    | some ios => .ok d ios
    | none => .no
  | .ok .nx r => match iosOf fl r with
    | some ios => .ok .non ios
    | none => .no
  | .exc x r => match iosOf fl r with
    | some ios => .exc x ios
    | none => .no
  | _ => .no
theorem defn_at (n : Nat) (fl : List Bool) (body : M Fl) (ds : List D) (h : ds.length = fl.length) : defn n fl body ds = fin fl (body (startR n fl ds)) := by
  unfold defn; rw [if_pos h]; cases body (startR n fl ds) with
  | ok k r => cases k <;> rfl
  | _ => rfl
def backR (js : List Nat) (r : Rho) : FR → Res D
  | .ok d ios => .ok d (putAll js ios r)
  | .exc x ios => .exc x (putAll js ios r)
  | .no => .no
@[simp] theorem backR_ok (js : List Nat) (r : Rho) (d : D) (ios : List D) : backR js r (.ok d ios) = .ok d (putAll js ios r) := Eq.trans rfl rfl
@[simp] theorem backR_exc (js : List Nat) (r : Rho) (x : Xn) (ios : List D) : backR js r (.exc x ios) = .exc x (putAll js ios r) := Eq.trans rfl rfl
@[simp] theorem putAll_nil (ds : List D) (r : Rho) : putAll [] ds r = r := Eq.trans rfl rfl
@[simp] theorem putAll_cons (j : Nat) (js : List Nat) (d : D) (ds : List D) (r : Rho) : putAll (j :: js) (d :: ds) r = putAll js ds (putS j d r) := Eq.trans rfl rfl
@[simp] theorem mArgs_nil (r : Rho) : mArgs [] r = .ok [] r := Eq.trans rfl rfl
@[simp] theorem mArgs_val (f : M D) (as : List Arg) (r : Rho) : mArgs (.val f :: as) r = (f r).then fun d r => (mArgs as r).then fun vs => ret (.val d :: vs) := by
  conv => lhs; unfold mArgs
  rw [bnd_at]; congr; funext x r; exact bnd_at _ _ _
@[simp] theorem mArgs_io (j : Nat) (as : List Arg) (r : Rho) : mArgs (.io j :: as) r = if (own r[j]?).isSome = true then (mArgs as r).then fun vs => ret (.io j :: vs) else .no := by
  conv => lhs; unfold mArgs
  split
  · exact bnd_at _ _ _
  · rfl
@[simp] theorem avs_nil (r : Rho) : avs [] r = some [] := Eq.trans rfl rfl
@[simp] theorem avs_val (d : D) (as : List AV) (r : Rho) : avs (.val d :: as) r = (avs as r).map (d :: ·) := Eq.trans rfl rfl
@[simp] theorem avs_io (j : Nat) (as : List AV) (r : Rho) : avs (.io j :: as) r = (own r[j]?).bind fun d => (avs as r).map (d :: ·) := by
  conv => lhs; unfold avs
  cases own r[j]? <;> rfl
@[simp] theorem ioSl_nil : ioSl [] = [] := Eq.trans rfl rfl
@[simp] theorem ioSl_val (d : D) (as : List AV) : ioSl (.val d :: as) = ioSl as := Eq.trans rfl rfl
@[simp] theorem ioSl_io (j : Nat) (as : List AV) : ioSl (.io j :: as) = j :: ioSl as := Eq.trans rfl rfl
@[simp] theorem mCall_at (f : Fn) (as : List Arg) (r : Rho) : mCall f as r = (mArgs as r).then fun vs => mApp f vs := bnd_at _ _ _
@[simp] theorem mApp_at (f : Fn) (vs : List AV) (r : Rho) : mApp f vs r = (opt (avs vs r) r).then fun ds r => if (ioSl vs).Nodup then backR (ioSl vs) r (f ds) else .no := by
  unfold mApp; cases avs vs r with
  | none => rfl
  | some ds =>
    simp only [opt_some, ret_at, then_ok]; split
    · cases f ds <;> rfl
    · rfl
@[simp] theorem startR_cons (n : Nat) (b : Bool) (bs : List Bool) (d : D) (ds : List D) : startR (n + 1) (b :: bs) (d :: ds) = (if b = true then .io d else .sh d) :: startR n bs ds := by
  cases b <;> rfl
@[simp] theorem startR_nil (n : Nat) : startR n [] [] = List.replicate n .no := Eq.trans rfl rfl
@[simp] theorem fin_rt0 (d : D) (r : Rho) : fin [] (.ok (.rt d) r) = .ok d [] := Eq.trans rfl rfl
@[simp] theorem addI_at (i j : Int) : addI (.int i) (.int j) = some (.int (i + j)) := Eq.trans rfl rfl
@[simp] theorem addA_int (i j : Int) : addA (.int i) (.int j) = some (.int (i + j)) := Eq.trans rfl rfl
@[simp] theorem subI_at (i j : Int) : subI (.int i) (.int j) = some (.int (i - j)) := Eq.trans rfl rfl
@[simp] theorem negI_at (i : Int) : negI (.int i) = some (.int (-i)) := Eq.trans rfl rfl
@[simp] theorem ltI_at (i j : Int) : ltI (.int i) (.int j) = some (.bl (decide (i < j))) := Eq.trans rfl rfl
@[simp] theorem leI_at (i j : Int) : leI (.int i) (.int j) = some (.bl (decide (i ≤ j))) := Eq.trans rfl rfl
@[simp] theorem gtI_at (i j : Int) : gtI (.int i) (.int j) = some (.bl (decide (j < i))) := Eq.trans rfl rfl
@[simp] theorem geI_at (i j : Int) : geI (.int i) (.int j) = some (.bl (decide (j ≤ i))) := Eq.trans rfl rfl
theorem modI_pos (i j : Int) (h : 0 < j) : modI (.int i) (.int j) = some (.int (i % j)) := if_pos h
theorem fdivI_pos (i j : Int) (h : 0 < j) (h2 : j < 1073741824) : fdivI (.int i) (.int j) = some (.int (i / j)) := if_pos ⟨h, h2⟩
@[simp] theorem eqG_int (i j : Int) : eqG (.int i) (.int j) = some (.bl (decide (i = j))) := by
  simp [eqG, plain, eqB]; rfl
@[simp] theorem neG_int (i j : Int) : neG (.int i) (.int j) = some (.bl (!decide (i = j))) := by
  simp [neG, plain, eqB]; rfl
@[simp] theorem isND_non (x : D) : isND x .non = some (.bl (isNon x)) := Eq.trans rfl rfl
@[simp] theorem notND_non (x : D) : notND x .non = some (.bl (!isNon x)) := Eq.trans rfl rfl
@[simp] theorem isNon_non : isNon .non = true := Eq.trans rfl rfl
@[simp] theorem isNon_tup (ds : List D) : isNon (.tup ds) = false := Eq.trans rfl rfl
@[simp] theorem isNon_int (i : Int) : isNon (.int i) = false := Eq.trans rfl rfl
@[simp] theorem lenD_tup (ds : List D) : lenD (.tup ds) = some (.int ds.length) := Eq.trans rfl rfl
@[simp] theorem lenD_lst (ds : List D) : lenD (.lst ds) = some (.int ds.length) := Eq.trans rfl rfl
@[simp] theorem tupOf_tup (ds : List D) : tupOf (.tup ds) = some (.tup ds) := Eq.trans rfl rfl
@[simp] theorem tupOf_lst (ds : List D) : tupOf (.lst ds) = some (.tup ds) := Eq.trans rfl rfl
@[simp] theorem lstOf_tup (ds : List D) : lstOf (.tup ds) = some (.lst ds) := Eq.trans rfl rfl
@[simp] theorem lstOf_lst (ds : List D) : lstOf (.lst ds) = some (.lst ds) := Eq.trans rfl rfl
@[simp] theorem maxD_at (i j : Int) : maxD [.int i, .int j] = some (.int (max i j)) := by
  simp only [maxD, Option.some.injEq, D.int.injEq]; split <;> omega
@[simp] theorem minD_at (i j : Int) : minD [.int i, .int j] = some (.int (min i j)) := by
  simp only [minD, Option.some.injEq, D.int.injEq]; split <;> omega
@[simp] theorem seqD_tup (ds : List D) : seqD (.tup ds) = some ds := Eq.trans rfl rfl
@[simp] theorem seqD_lst (ds : List D) : seqD (.lst ds) = some ds := Eq.trans rfl rfl
@[simp] theorem mSeq_at (f : M D) (r : Rho) : mSeq f r = (f r).then fun d => opt (seqD d) := bnd_at _ _ _
@[simp] theorem mRng1_at (fl : List (M D)) (r : Rho) : mRng1 fl r = (mL fl r).then fun xs => opt (rng1 xs) := bnd_at _ _ _
@[simp] theorem mRng2_at (fl : List (M D)) (r : Rho) : mRng2 fl r = (mL fl r).then fun xs => opt (rng2 xs) := bnd_at _ _ _
@[simp] theorem mZip_at (fl : List (M D)) (r : Rho) : mZip fl r = (mL fl r).then fun xs => opt (zipL xs) := bnd_at _ _ _
def intsL (n : Nat) : List D := (List.range n).map fun (i : Nat) => D.int i
theorem rng1_at (j : Int) (h : -(2 ^ 62) ≤ j) (h2 : j < 2 ^ 62) : rng1 [.int j] = some (intsL j.toNat) := if_pos ⟨h, h2⟩
@[simp] theorem tupD_nil : tupD [] = some (.tup []) := Eq.trans rfl rfl
@[simp] theorem lstD_nil : lstD [] = some (.lst []) := Eq.trans rfl rfl
@[simp] theorem tupD_1 (a : D) : tupD [a] = some (.tup [a]) := Eq.trans rfl rfl
@[simp] theorem lstD_1 (a : D) : lstD [a] = some (.lst [a]) := Eq.trans rfl rfl
@[simp] theorem tupD_2 (a b : D) : tupD [a, b] = some (.tup [a, b]) := Eq.trans rfl rfl
theorem appD_at (x : D) (xs : List D) (h : xs.length < 16777216) : appD x (.lst xs) = some (.lst (xs ++ [x])) := by show (if _ then _ else _) = _; rw [if_pos h]
theorem addA_tup (xs ys : List D) (h : xs.length + ys.length ≤ LIM) : addA (.tup xs) (.tup ys) = some (.tup (xs ++ ys)) := if_pos h
theorem addA_lst (xs ys : List D) (h : xs.length + ys.length ≤ LIM) : addA (.lst xs) (.lst ys) = some (.lst (xs ++ ys)) := if_pos h
theorem ixD_at (xs : List D) (i : Int) (d : D) (h0 : 0 ≤ i) (h : xs[i.toNat]? = some d) : ixD xs i = some d := by
  have hl := (List.getElem?_eq_some_iff.mp h).1
  unfold ixD ixP; rw [if_pos h0, if_pos (by omega)]; exact h
@[simp] theorem itemD_tup (xs : List D) (i : Int) : itemD (.tup xs) (.int i) = ixD xs i := Eq.trans rfl rfl
@[simp] theorem itemD_lst (xs : List D) (i : Int) : itemD (.lst xs) (.int i) = ixD xs i := Eq.trans rfl rfl
@[simp] theorem mPart_none (r : Rho) : mPart none r = .ok none r := Eq.trans rfl rfl
def intOf : D → M (Option Int)
  | .int i => ret (some i)
  | _ => stuck
@[simp] theorem intOf_int (i : Int) : intOf (.int i) = ret (some i) := Eq.trans rfl rfl
@[simp] theorem mPart_some (f : M D) (r : Rho) : mPart (some f) r = (f r).then intOf := by
  show bnd f _ r = _
  rw [bnd_at]; cases f r with
  | ok d r' => cases d <;> rfl
  | _ => rfl
@[simp] theorem mSl_at (g : D → Option Int → Option Int → Option D) (f : M D) (lo hi : Option (M D)) (r : Rho) : mSl g f lo hi r = (f r).then fun d r => (mPart lo r).then fun l r => (mPart hi r).then fun h => opt (g d l h) := by
  unfold mSl; rw [bnd_at]; congr; funext d r; rw [bnd_at]; congr; funext l r; exact bnd_at _ _ _
@[simp] theorem m3c_at (g g2 : D → D → Option D) (a b c : M D) (r : Rho) : m3c g g2 a b c r = (a r).then fun x r => (b r).then fun y r => ((opt (g x y) r).then boolOf).then fun k r => if k = true then (c r).then fun z => opt (g2 y z) else .ok (.bl false) r := by
  unfold m3c; rw [bnd_at]; congr; funext x r; rw [bnd_at]; congr; funext y r; rw [bnd_at]
  cases g x y with
  | none => rfl
  | some d =>
    cases d <;> try rfl
    rename_i k
    cases k
    · rfl
    · exact bnd_at _ _ _
@[simp] theorem mRev_at (f : M D) (r : Rho) : mRev f r = (f r).then fun d => opt ((seqD d).map List.reverse) := bnd_at _ _ _
@[simp] theorem cutA_tup (xs : List D) (lo hi : Option Int) : cutA (.tup xs) lo hi = some (.tup (cutD xs lo hi)) := Eq.trans rfl rfl
@[simp] theorem cutA_lst (xs : List D) (lo hi : Option Int) : cutA (.lst xs) lo hi = some (.lst (cutD xs lo hi)) := Eq.trans rfl rfl
@[simp] theorem tabD_str (t : List (Str × D)) (k : Str) : tabD t (.str k) = t.lookup k := Eq.trans rfl rfl
theorem set_at_len {r : Rho} {xs : Rho} {s s' : Sl} : (r ++ s :: xs).set r.length s' = r ++ s' :: xs := by
  rw [List.set_append_right _ _ (Nat.le_refl _)]; simp
theorem get_at_len {r : Rho} {xs : Rho} {s : Sl} : (r ++ s :: xs)[r.length]? = some s := by
  rw [List.getElem?_append_right (Nat.le_refl _)]; simp
theorem upd_last {r : Rho} {s : Sl} {acc : List D} {x : D} (h : acc.length < 16777216) : mUpd (r.length + 1) (appD x) (r ++ [s, .ow (.lst acc)]) = .ok () (r ++ [s, .ow (.lst (acc ++ [x]))]) := by
  have e : r ++ [s, Sl.ow (.lst acc)] = (r ++ [s]) ++ Sl.ow (.lst acc) :: [] := by simp
  have e2 : r.length + 1 = (r ++ [s]).length := by simp
  rw [e, e2, mUpd_at, get_at_len]
  simp only [own_ow, opt_some, ret_at, then_ok, appD_at x acc h, putS_at, get_at_len, putR_ow, set_at_len]
  simp
end
end VP

end
section
namespace VP
open PySem
@[simp] theorem iosOf_nil (r : Rho) : iosOf [] r = some [] := by cases r <;> rfl
@[simp] theorem iosOf_f (bs : List Bool) (s : Sl) (r : Rho) : iosOf (false :: bs) (s :: r) = iosOf bs r := Eq.trans rfl rfl
@[simp] theorem iosOf_t (bs : List Bool) (d : D) (r : Rho) : iosOf (true :: bs) (.io d :: r) = (iosOf bs r).map (d :: ·) := Eq.trans rfl rfl
def finI (d : D) : Option (List D) → FR
  | some ios => .ok d ios
  | none => .no
def finX (x : Xn) : Option (List D) → FR
  | some ios => .exc x ios
  | none => .no
@[simp] theorem finI_some (d : D) (l : List D) : finI d (some l) = .ok d l := Eq.trans rfl rfl
@[simp] theorem finX_some (d : Xn) (l : List D) : finX d (some l) = .exc d l := Eq.trans rfl rfl
@[simp] theorem fin_rt (fl : List Bool) (d : D) (r : Rho) : fin fl (.ok (.rt d) r) = finI d (iosOf fl r) := by unfold fin finI; first | (dsimp only; done) | (dsimp only; cases iosOf fl r <;> rfl)
@[simp] theorem fin_nx (fl : List Bool) (r : Rho) : fin fl (.ok .nx r) = finI .non (iosOf fl r) := by unfold fin finI; first | (dsimp only; done) | (dsimp only; cases iosOf fl r <;> rfl)
@[simp] theorem fin_exc (fl : List Bool) (x : Xn) (r : Rho) : fin fl (.exc x r) = finX x (iosOf fl r) := by unfold fin finX; first | (dsimp only; done) | (dsimp only; cases iosOf fl r <;> rfl)
@[simp] theorem fin_ite (fl : List Bool) (c : Prop) [Decidable c] (a b : Res Fl) : fin fl (if c then a else b) = if c then fin fl a else fin fl b := by split <;> rfl
@[simp] theorem rep_succ (n : Nat) : List.replicate (n + 1) Sl.no = .no :: List.replicate n .no := Eq.trans rfl rfl
@[simp] theorem rep_0 : List.replicate 0 Sl.no = [] := Eq.trans rfl rfl
def T (xs : List Int) : D := .tup (xs.map .int)
def Z (xs : List Int) : D := .lst (xs.map .int)
@[simp] theorem lenD_T (xs : List Int) : lenD (T xs) = some (.int xs.length) := by simp [T]
@[simp] theorem lenD_Z (xs : List Int) : lenD (Z xs) = some (.int xs.length) := by simp [Z]
@[simp] theorem seqD_T (xs : List Int) : seqD (T xs) = some (xs.map .int) := Eq.trans rfl rfl
@[simp] theorem seqD_Z (xs : List Int) : seqD (Z xs) = some (xs.map .int) := Eq.trans rfl rfl
@[simp] theorem lstOf_T (xs : List Int) : lstOf (T xs) = some (Z xs) := Eq.trans rfl rfl
@[simp] theorem lstOf_Z (xs : List Int) : lstOf (Z xs) = some (Z xs) := Eq.trans rfl rfl
@[simp] theorem tupOf_T (xs : List Int) : tupOf (T xs) = some (T xs) := Eq.trans rfl rfl
@[simp] theorem tupOf_Z (xs : List Int) : tupOf (Z xs) = some (T xs) := Eq.trans rfl rfl
@[simp] theorem isNon_T (xs : List Int) : isNon (T xs) = false := Eq.trans rfl rfl
@[simp] theorem isaD_T (k : String) (xs : List Int) : isaD k (T xs) = some (.bl ("tuple" == k)) := by
  simp only [isaD, T, kindD, Option.map_some]
  simp
@[simp] theorem isaD_int_int (i : Int) : isaD "int" (.int i) = some (.bl true) := Eq.trans rfl rfl
@[simp] theorem isaD_int_bool (i : Int) : isaD "bool" (.int i) = some (.bl false) := by simp [isaD, kindD]
@[simp] theorem itemD_T (xs : List Int) (i : Int) : itemD (T xs) (.int i) = ixD (xs.map .int) i := Eq.trans rfl rfl
@[simp] theorem itemD_Z (xs : List Int) (i : Int) : itemD (Z xs) (.int i) = ixD (xs.map .int) i := Eq.trans rfl rfl
theorem ix_ints (xs : List Int) (i : Int) (h0 : 0 ≤ i) (h : i < xs.length) : ixD (xs.map D.int) i = some (.int (xs.getD i.toNat 0)) := by
  refine ixD_at _ _ _ h0 ?_
  have h2 : i.toNat < xs.length := by omega
  simp [h2]
theorem tup0 : D.tup [] = T [] := Eq.trans rfl rfl
@[simp] theorem isLst_Z (xs : List Int) : isLst (some (Z xs)) = true := Eq.trans rfl rfl
theorem plains_ints (n : Nat) (xs : List Int) : plains n (xs.map .int) = true := by
  induction xs with
  | nil => cases n <;> rfl
  | cons x xs ih => simp [plains, ih]; cases n <;> simp [plain]
theorem eqBs_ints (xs ys : List Int) : eqBs (xs.map .int) (ys.map .int) = decide (xs = ys) := by
  induction xs generalizing ys with
  | nil => cases ys <;> simp [eqBs]
  | cons x xs ih => cases ys with
    | nil => simp [eqBs]
    | cons y ys => simp [eqBs, ih, eqB]; rfl
@[simp] theorem eqG_T (xs ys : List Int) : eqG (T xs) (T ys) = some (.bl (decide (xs = ys))) := by
  unfold eqG T
  simp [plain, plains_ints, eqB, eqBs_ints]
@[simp] theorem neG_T (xs ys : List Int) : neG (T xs) (T ys) = some (.bl (!decide (xs = ys))) := by
  unfold neG T
  simp [plain, plains_ints, eqB, eqBs_ints]
@[simp] theorem eqG_Z (xs ys : List Int) : eqG (Z xs) (Z ys) = some (.bl (decide (xs = ys))) := by
  unfold eqG Z
  simp [plain, plains_ints, eqB, eqBs_ints]
theorem intsD_ints (xs : List Int) : intsD (xs.map .int) = some xs := by
  induction xs with
  | nil => rfl
  | cons x xs ih => simp [intsD, ih]
@[simp] theorem sumD_Z (xs : List Int) : sumD (Z xs) = some (.int xs.sum) := by simp [sumD, intsD_ints]
@[simp] theorem sumD_T (xs : List Int) : sumD (T xs) = some (.int xs.sum) := by simp [sumD, intsD_ints]
@[simp] theorem revT_T (xs : List Int) : revT (T xs) = some (T xs.reverse) := by simp [revT, T]
@[simp] theorem revT_Z (xs : List Int) : revT (Z xs) = some (T xs.reverse) := by simp [revT, T]
@[simp] theorem revL_T (xs : List Int) : revL (T xs) = some (Z xs.reverse) := by simp [revL, Z]
@[simp] theorem revL_Z (xs : List Int) : revL (Z xs) = some (Z xs.reverse) := by simp [revL, Z]
theorem cutD_map (f : Int → D) (xs : List Int) (lo hi : Option Int) : cutD (xs.map f) lo hi = ((xs.drop (sIxP xs.length 0 lo)).take (sIxP xs.length xs.length hi - sIxP xs.length 0 lo)).map f := by
  simp [cutD, List.map_take, List.map_drop]
@[simp] theorem cutA_T (xs : List Int) (lo hi : Option Int) : cutA (T xs) lo hi = some (T ((xs.drop (sIxP xs.length 0 lo)).take (sIxP xs.length xs.length hi - sIxP xs.length 0 lo))) := by
  simp only [T, cutA_tup, cutD_map]
@[simp] theorem cutA_Z (xs : List Int) (lo hi : Option Int) : cutA (Z xs) lo hi = some (Z ((xs.drop (sIxP xs.length 0 lo)).take (sIxP xs.length xs.length hi - sIxP xs.length 0 lo))) := by
  simp only [Z, cutA_lst, cutD_map]
theorem rng1_nat (j : Int) (n : Nat) (h : j.toNat = n) (h2 : -(2 ^ 62) ≤ j) (h3 : j < 2 ^ 62) : rng1 [.int j] = some ((List.range n).map fun (k : Nat) => .int k) := by
  subst h; exact rng1_at j h2 h3
def turn1 (g : D → M Unit) (body : M Fl) (d : D) (r : Rho) : Res Fl := (g d r).then fun _ => body
def cont : Res Fl → Option Rho
  | .ok .nx r => some r
  | .ok .ct r => some r
  | _ => none
@[simp] theorem cont_nx (r : Rho) : cont (.ok .nx r) = some r := Eq.trans rfl rfl
@[simp] theorem cont_ct (r : Rho) : cont (.ok .ct r) = some r := Eq.trans rfl rfl
@[simp] theorem cont_ite (c : Prop) [Decidable c] (a b : Res Fl) : cont (if c then a else b) = if c then cont a else cont b := by split <;> rfl
theorem loop_cont {g : D → M Unit} {body : M Fl} {d : D} {ds : List D} {r r' : Rho} (h : cont (turn1 g body d r) = some r') : loop g body (d :: ds) r = loop g body ds r' := by
  rw [loop_cons]
  unfold turn1 at h
  cases q : g d r with
  | no => rw [q] at h; cases h
  | exc x r => rw [q] at h; cases h
  | ok u r1 =>
    rw [q, then_ok] at h
    rw [then_ok]
    cases q2 : body r1 with
    | no => rw [q2] at h; cases h
    | exc x r => rw [q2] at h; cases h
    | ok k r2 =>
      rw [q2] at h
      cases k with
      | nx => cases h; rfl
      | ct => cases h; rfl
      | bk => cases h
      | rt v => cases h
theorem loop_ret {g : D → M Unit} {body : M Fl} {d v : D} {ds : List D} {r r' : Rho} (h : turn1 g body d r = .ok (.rt v) r') : loop g body (d :: ds) r = .ok (.rt v) r' := by
  rw [loop_cons]
  unfold turn1 at h
  cases q : g d r with
  | no => rw [q] at h; cases h
  | exc x r => rw [q] at h; cases h
  | ok u r1 =>
    rw [q, then_ok] at h
    rw [then_ok, h]; rfl
theorem loop_exc {g : D → M Unit} {body : M Fl} {d : D} {x : Xn} {ds : List D} {r r' : Rho} (h : turn1 g body d r = .exc x r') : loop g body (d :: ds) r = .exc x r' := by
  rw [loop_cons]
  unfold turn1 at h
  cases q : g d r with
  | no => rw [q] at h; cases h
  | exc y r => rw [q] at h; exact h
  | ok u r1 =>
    rw [q, then_ok] at h
    rw [then_ok, h]; rfl
def foldE {S E A : Type} (step : S → A → E ⊕ S) : List A → S → E ⊕ S
  | [], s => .inr s
  | a :: as, s => match step s a with
    | .inl e => .inl e
    | .inr s' => foldE step as s'
theorem loop_foldE {S Tm A : Type} {g : D → M Unit} {body : M Fl} (mk : A → D) (R : S → Tm → Rho) (ok : Tm → Prop) (step : S → A → D ⊕ S) : ∀ (as : List A) (P : Nat → S → Prop) (s : S) (t : Tm), ok t → P 0 s →
    (∀ (i : Nat) (a : A), as[i]? = some a → ∀ s t, ok t → P i s → match step s a with
      | .inr s' => P (i + 1) s' ∧ ∃ t', ok t' ∧ cont (turn1 g body (mk a) (R s t)) = some (R s' t')
      | .inl v => ∃ s' t', turn1 g body (mk a) (R s t) = .ok (.rt v) (R s' t')) →
    match foldE step as s with
    | .inr s' => P as.length s' ∧ ∃ t', ok t' ∧ loop g body (as.map mk) (R s t) = .ok .nx (R s' t')
    | .inl v => ∃ s' t', loop g body (as.map mk) (R s t) = .ok (.rt v) (R s' t') := by
  intro as
  induction as with
  | nil => intro P s t ht hs _; exact ⟨hs, t, ht, rfl⟩
  | cons a as ih =>
    intro P s t ht hs h
    have h1 := h 0 a rfl s t ht hs
    simp only [foldE, List.map_cons]
    cases q : step s a with
    | inl v =>
      rw [q] at h1
      obtain ⟨s', t', e⟩ := h1
      exact ⟨s', t', loop_ret e⟩
    | inr s1 =>
      rw [q] at h1
      obtain ⟨p1, t1, o1, e1⟩ := h1
      have h2 := ih (fun k => P (k + 1)) s1 t1 o1 p1 fun i a' ha => h (i + 1) a' (by simpa using ha)
      have e : (a :: as).length = as.length + 1 := by simp
      dsimp only
      rw [e]
      cases q2 : foldE step as s1 with
      | inl v => rw [q2] at h2; obtain ⟨s', t', z⟩ := h2; exact ⟨s', t', by rw [loop_cont e1]; exact z⟩
      | inr s2 => rw [q2] at h2; obtain ⟨p2, t2, o2, z⟩ := h2; exact ⟨p2, t2, o2, by rw [loop_cont e1]; exact z⟩
theorem loop_foldM {S Tm A : Type} {g : D → M Unit} {body : M Fl} (mk : A → D) (R : S → Tm → Rho) (ok : Tm → Prop) (P : Nat → S → Prop) (step : S → A → S) (as : List A) (s : S) (t : Tm) (ht : ok t) (hs : P 0 s)
    (h : ∀ (i : Nat) (a : A), as[i]? = some a → ∀ s t, ok t → P i s → P (i + 1) (step s a) ∧ ∃ t', ok t' ∧ cont (turn1 g body (mk a) (R s t)) = some (R (step s a) t')) :
    P as.length (as.foldl step s) ∧ ∃ t', ok t' ∧ loop g body (as.map mk) (R s t) = .ok .nx (R (as.foldl step s) t') := by
  have := loop_foldE (g := g) (body := body) mk R ok (fun s a => .inr (step s a)) as P s t ht hs h
  have e : ∀ (as : List A) (s : S), foldE (E := D) (fun s a => .inr (step s a)) as s = .inr (as.foldl step s) := by
    intro as
    induction as with
    | nil => intro s; rfl
    | cons a as ih => intro s; exact ih _
  rw [e] at this
  exact this
theorem range_at {n i k : Nat} (h : (List.range n)[i]? = some k) : k = i ∧ i < n := by
  have h1 := (List.getElem?_eq_some_iff.mp h).1
  simp at h1
  rw [List.getElem?_range h1] at h
  exact ⟨(Option.some.inj h).symm, h1⟩
def free2 (s : Sl × Sl) : Prop := free (some s.1) = true ∧ free (some s.2) = true
def free3 (s : Sl × Sl × Sl) : Prop := free (some s.1) = true ∧ free (some s.2.1) = true ∧ free (some s.2.2) = true
end VP

end
section
namespace VP
open PySem
@[simp] theorem ixAt_at (j : Nat) (i : D) (r : Rho) : ixAt j i r = (opt (own r[j]?) r).then fun d => opt (itemD d i) := by
  unfold ixAt; cases own r[j]? <;> rfl
@[simp] theorem mIxO_at (j : Nat) (fb : M D) (r : Rho) : mIxO j fb r = if (own r[j]?).isSome = true then (fb r).then (ixAt j) else .no := by
  unfold mIxO; split
  · exact bnd_at _ _ _
  · rfl
theorem ixP_nat (n : Nat) (i : Int) (h0 : 0 ≤ i) (h : i < n) : ixP n i = some i.toNat := by
  unfold ixP; rw [if_pos h0, if_pos h]
theorem setAt_lst (xs : List D) (i : Int) (v : D) (h0 : 0 ≤ i) (h : i < xs.length) : setAt (.int i) v (.lst xs) = some (.lst (xs.set i.toNat v)) := by
  show (ixP xs.length i).map _ = _
  rw [ixP_nat _ _ h0 h]; rfl
@[simp] theorem gTup_T (is : List Nat) (xs : List Int) : gTup is (T xs) = gAll is (xs.map .int) := Eq.trans rfl rfl
@[simp] theorem isaD_lst (k : String) (xs : List D) : isaD k (.lst xs) = some (.bl ("list" == k)) := by
  simp only [isaD, kindD, Option.map_some]; simp
@[simp] theorem isaD_tup (k : String) (xs : List D) : isaD k (.tup xs) = some (.bl ("tuple" == k)) := by
  simp only [isaD, kindD, Option.map_some]; simp
def outs {S A B : Type} (step : S → A → S) (f : S → A → B) : S → List A → List B
  | _, [] => []
  | s, a :: as => f s a :: outs step f (step s a) as
theorem compS {S A : Type} {it : M (List D)} {elt : M D} {k : Nat} (mk : A → D) (R : S → Rho) (P : Nat → S → Prop) (step : S → A → S) (f : S → A → D) (as : List A) (s : S)
    (hlen : ∀ s, (R s).length = k) {r0 : Rho} (hds : it r0 = .ok (as.map mk) (R s)) (hL : as.length ≤ 16777216) (hP : P 0 s)
    (he : ∀ (i : Nat) (a : A), as[i]? = some a → ∀ s acc, P i s → P (i + 1) (step s a) ∧ elt (R s ++ [.sh (mk a), .ow acc]) = .ok (f s a) (R (step s a) ++ [.sh (mk a), .ow acc])) :
    mComp 1 it (gName k) (ret true) elt r0 = .ok (.lst (outs step f s as)) (R (as.foldl step s)) ∧ P as.length (as.foldl step s) := by
  have key : ∀ (es : List A) (n : Nat) (acc : List D) (x : Sl) (s : S), free (some x) = true → (∀ (i : Nat) (a : A), es[i]? = some a → as[n + i]? = some a) → acc.length + es.length ≤ 16777216 → P n s →
      (∃ x', turns (k + 1) (gName k) (ret true) elt (es.map mk) (R s ++ [x, .ow (.lst acc)]) = .ok () (R (es.foldl step s) ++ [x', .ow (.lst (acc ++ outs step f s es))])) ∧ P (n + es.length) (es.foldl step s) := by
    intro es
    induction es with
    | nil => intro n acc x s _ _ _ hp; exact ⟨⟨x, by simp [outs]⟩, hp⟩
    | cons a es ih =>
      intro n acc x s hx hm hl hp
      obtain ⟨p1, e1⟩ := he n a (hm 0 a rfl) s (.lst acc) hp
      obtain ⟨⟨x', e2⟩, p2⟩ := ih (n + 1) (acc ++ [f s a]) (.sh (mk a)) (step s a) rfl (fun i b hb => by rw [Nat.add_assoc, Nat.add_comm 1 i]; exact hm (i + 1) b hb) (by simp at hl ⊢; omega) p1
      refine ⟨⟨x', ?_⟩, ?_⟩
      · have g1 : gName k (mk a) (R s ++ [x, .ow (.lst acc)]) = .ok () (R s ++ [.sh (mk a), .ow (.lst acc)]) := by
          have := get_at_len (r := R s) (xs := [.ow (.lst acc)]) (s := x)
          have := set_at_len (r := R s) (xs := [.ow (.lst acc)]) (s := x) (s' := .sh (mk a))
          rw [hlen s] at *
          rw [gName_at]
          simp_all
        have u1 : mUpd (k + 1) (appD (f s a)) (R (step s a) ++ [.sh (mk a), .ow (.lst acc)]) = .ok () (R (step s a) ++ [.sh (mk a), .ow (.lst (acc ++ [f s a]))]) := by
          have := upd_last (r := R (step s a)) (s := .sh (mk a)) (acc := acc) (x := f s a) (by simp at hl; omega)
          rw [hlen] at this
          exact this
        rw [List.map_cons, turns_cons, g1, then_ok, ret_at, then_ok, if_pos rfl, e1, then_ok, u1, then_ok, e2]
        simp [outs]
      · have e : n + (a :: es).length = n + 1 + es.length := by simp; omega
        rw [e]; exact p2
  obtain ⟨⟨x', z⟩, p⟩ := key as 0 [] .no s rfl (fun i a h => by rw [Nat.zero_add]; exact h) (by simpa using hL) hP
  refine ⟨?_, by rw [Nat.zero_add] at p; exact p⟩
  rw [mComp_at, hds, then_ok]
  unfold inner
  have e : R s ++ List.replicate 1 Sl.no ++ [Sl.ow (.lst [])] = R s ++ [.no, .ow (.lst [])] := by simp
  dsimp only
  rw [e, hlen, z]
  have e2 : (R (as.foldl step s) ++ [x', Sl.ow (.lst ([] ++ outs step f s as))])[k + 1]? = some (.ow (.lst ([] ++ outs step f s as))) := by
    rw [List.getElem?_append_right (by rw [hlen]; omega), hlen]; simp
  simp only [e2]
  have e3 : List.take k (R (as.foldl step s) ++ [x', Sl.ow (.lst ([] ++ outs step f s as))]) = R (as.foldl step s) := by
    rw [← hlen (as.foldl step s)]; simp
  rw [e3]; simp
theorem outs_map {S A B : Type} (f : A → B) (s : S) : ∀ as : List A, outs (fun (s : S) (_ : A) => s) (fun _ a => f a) s as = as.map f
  | [] => rfl
  | a :: as => by simp [outs, outs_map f s as]
theorem compM {A : Type} {it : M (List D)} {elt : M D} {k : Nat} {r : Rho} {out : D} (mk : A → D) (f : A → D) (as : List A) (hds : it r = .ok (as.map mk) r) (hL : as.length ≤ 16777216) (hout : D.lst (as.map f) = out)
    (he : ∀ a ∈ as, ∀ acc, elt (r ++ [.sh (mk a), .ow acc]) = .ok (f a) (r ++ [.sh (mk a), .ow acc])) (hk : r.length = k := by rfl) : mComp 1 it (gName k) (ret true) elt r = .ok out r := by
  have := (compS (elt := elt) mk (fun (_ : Unit) => r) (fun _ _ => True) (fun s _ => s) (fun _ a => f a) as () (fun _ => hk) hds hL trivial fun i a ha s acc _ => ⟨trivial, he a (List.mem_of_getElem? ha) acc⟩).1
  rw [outs_map, hout] at this
  exact this
@[simp] theorem neG_Z (xs ys : List Int) : neG (Z xs) (Z ys) = some (.bl (!decide (xs = ys))) := by
  unfold neG Z
  simp [plain, plains_ints, eqB, eqBs_ints]
@[simp] theorem ixD_0 (a : D) (xs : List D) : ixD (a :: xs) 0 = some a := ixD_at _ _ _ (by omega) rfl
@[simp] theorem ixD_1 (a b : D) (xs : List D) : ixD (a :: b :: xs) 1 = some b := ixD_at _ _ _ (by omega) rfl
@[simp] theorem ixD_2 (a b c : D) (xs : List D) : ixD (a :: b :: c :: xs) 2 = some c := ixD_at _ _ _ (by omega) rfl
@[simp] theorem ixD_3 (a b c d : D) (xs : List D) : ixD (a :: b :: c :: d :: xs) 3 = some d := ixD_at _ _ _ (by omega) rfl
@[simp] theorem ixD_4 (a b c d e : D) (xs : List D) : ixD (a :: b :: c :: d :: e :: xs) 4 = some e := ixD_at _ _ _ (by omega) rfl
@[simp] theorem ixD_5 (a b c d e f : D) (xs : List D) : ixD (a :: b :: c :: d :: e :: f :: xs) 5 = some f := ixD_at _ _ _ (by omega) rfl
@[simp] theorem tupD_3 (a b c : D) : tupD [a, b, c] = some (.tup [a, b, c]) := Eq.trans rfl rfl
@[simp] theorem tupD_4 (a b c d : D) : tupD [a, b, c, d] = some (.tup [a, b, c, d]) := Eq.trans rfl rfl
@[simp] theorem tupD_5 (a b c d e : D) : tupD [a, b, c, d, e] = some (.tup [a, b, c, d, e]) := Eq.trans rfl rfl
@[simp] theorem tupD_6 (a b c d e f : D) : tupD [a, b, c, d, e, f] = some (.tup [a, b, c, d, e, f]) := Eq.trans rfl rfl
@[simp] theorem lstD_2 (a b : D) : lstD [a, b] = some (.lst [a, b]) := Eq.trans rfl rfl
@[simp] theorem lstD_3 (a b c : D) : lstD [a, b, c] = some (.lst [a, b, c]) := Eq.trans rfl rfl
@[simp] theorem lstD_4 (a b c d : D) : lstD [a, b, c, d] = some (.lst [a, b, c, d]) := Eq.trans rfl rfl
@[simp] theorem lstD_5 (a b c d e : D) : lstD [a, b, c, d, e] = some (.lst [a, b, c, d, e]) := Eq.trans rfl rfl
@[simp] theorem lstD_6 (a b c d e f : D) : lstD [a, b, c, d, e, f] = some (.lst [a, b, c, d, e, f]) := Eq.trans rfl rfl
@[simp] theorem lstD_7 (a b c d e f g : D) : lstD [a, b, c, d, e, f, g] = some (.lst [a, b, c, d, e, f, g]) := Eq.trans rfl rfl
theorem compF {A : Type} {it : M (List D)} {g : D → M Unit} {test : M Bool} {elt : M D} {n k : Nat} {r : Rho} (mk : A → D) (sl : A → List Sl) (t : A → Bool) (f : A → D) (as : List A) (hk : r.length = k) (hds : it r = .ok (as.map mk) r) (hL : as.length ≤ 16777216)
    (hsl : ∀ a ∈ as, (sl a).length = n ∧ ∀ x ∈ sl a, free (some x) = true)
    (hg : ∀ a ∈ as, ∀ (ts : List Sl) acc, ts.length = n → (∀ x ∈ ts, free (some x) = true) → g (mk a) (r ++ ts ++ [.ow acc]) = .ok () (r ++ sl a ++ [.ow acc]))
    (ht : ∀ a ∈ as, ∀ acc, test (r ++ sl a ++ [.ow acc]) = .ok (t a) (r ++ sl a ++ [.ow acc]))
    (he : ∀ a ∈ as, t a = true → ∀ acc, elt (r ++ sl a ++ [.ow acc]) = .ok (f a) (r ++ sl a ++ [.ow acc])) :
    mComp n it g test elt r = .ok (.lst ((as.filter t).map f)) r := by
  subst hk
  have upd_n : ∀ (ts : List Sl) (acc : List D) (x : D), ts.length = n → acc.length < 16777216 → mUpd (r.length + n) (appD x) (r ++ ts ++ [.ow (.lst acc)]) = .ok () (r ++ ts ++ [.ow (.lst (acc ++ [x]))]) := by
    intro ts acc x h1 h2
    have e2 : r.length + n = (r ++ ts).length := by simp [h1]
    rw [e2, mUpd_at]
    have := get_at_len (r := r ++ ts) (xs := []) (s := .ow (.lst acc))
    rw [this]
    have := set_at_len (r := r ++ ts) (xs := []) (s := .ow (.lst acc)) (s' := .ow (.lst (acc ++ [x])))
    simp only [own_ow, opt_some, ret_at, then_ok, appD_at x acc h2, putS_at, get_at_len, putR_ow, this]
  have key : ∀ (es : List A) (acc : List D) (ts : List Sl), ts.length = n → (∀ x ∈ ts, free (some x) = true) → (∀ d ∈ es, d ∈ as) → acc.length + es.length ≤ 16777216 →
      ∃ ts', ts'.length = n ∧ turns (r.length + n) g test elt (es.map mk) (r ++ ts ++ [.ow (.lst acc)]) = .ok () (r ++ ts' ++ [.ow (.lst (acc ++ (es.filter t).map f))]) := by
    intro es
    induction es with
    | nil => intro acc ts h1 _ _ _; exact ⟨ts, h1, by simp⟩
    | cons a es ih =>
      intro acc ts h1 h2 hm hl
      have ha := hm a List.mem_cons_self
      have hm' : ∀ x ∈ es, x ∈ as := fun x hx => hm x (List.mem_cons_of_mem _ hx)
      rw [List.map_cons, turns_cons, hg a ha ts _ h1 h2, then_ok, ht a ha, then_ok]
      cases q : t a with
      | false =>
        obtain ⟨ts', z1, z2⟩ := ih acc (sl a) (hsl a ha).1 (hsl a ha).2 hm' (by simp at hl; omega)
        refine ⟨ts', z1, ?_⟩
        rw [if_neg (by simp), z2, List.filter_cons, q, if_neg (by simp)]
      | true =>
        obtain ⟨ts', z1, z2⟩ := ih (acc ++ [f a]) (sl a) (hsl a ha).1 (hsl a ha).2 hm' (by simp at hl ⊢; omega)
        refine ⟨ts', z1, ?_⟩
        rw [if_pos rfl, he a ha q, then_ok, upd_n _ _ _ (hsl a ha).1 (by simp at hl; omega), then_ok, z2, List.filter_cons, q, if_pos rfl]
        simp
  obtain ⟨ts', z1, z2⟩ := key as [] (List.replicate n .no) (by simp) (fun x hx => by rw [List.eq_of_mem_replicate hx]; rfl) (fun _ h => h) (by simpa using hL)
  rw [mComp_at, hds, then_ok]
  unfold inner
  dsimp only
  rw [z2]
  have e2 : (r ++ ts' ++ [Sl.ow (.lst ([] ++ (as.filter t).map f))])[r.length + n]? = some (.ow (.lst ([] ++ (as.filter t).map f))) := by
    rw [List.getElem?_append_right (by simp; omega)]; simp [z1]
  simp only [e2]
  simp
theorem gTup2 {r : Rho} {ts : List Sl} {acc x y : D} (h1 : ts.length = 2) (h2 : ∀ x ∈ ts, free (some x) = true) : gTup [r.length, r.length + 1] (.tup [x, y]) (r ++ ts ++ [.ow acc]) = .ok () (r ++ [.sh x, .sh y] ++ [.ow acc]) := by
  match ts, h1, h2 with
  | [s, s2], _, h2 =>
    have hs := h2 s List.mem_cons_self
    have hs2 := h2 s2 (List.mem_cons_of_mem _ List.mem_cons_self)
    have g2 : (r ++ [Sl.sh x, s2, .ow acc])[r.length + 1]? = some s2 := by
      rw [List.getElem?_append_right (by omega)]; simp
    have g3 : (r ++ [Sl.sh x, s2, .ow acc]).set (r.length + 1) (.sh y) = r ++ [.sh x, .sh y, .ow acc] := by
      rw [List.set_append_right _ _ (by omega)]; simp
    simp only [List.append_assoc, List.cons_append, List.nil_append]
    rw [gTup_at, gAll_cons, mSet_at, get_at_len, if_pos hs, set_at_len, then_ok, gAll_cons, mSet_at, g2, if_pos hs2, g3]
    rfl
theorem compF2 {A : Type} {it : M (List D)} {test : M Bool} {elt : M D} {k : Nat} {r : Rho} {out : D} (m1 m2 : A → D) (t : A → Bool) (f : A → D) (as : List A) (hds : it r = .ok (as.map fun a => .tup [m1 a, m2 a]) r) (hL : as.length ≤ 16777216) (hout : D.lst ((as.filter t).map f) = out)
    (ht : ∀ a ∈ as, ∀ acc, test (r ++ [.sh (m1 a), .sh (m2 a), .ow acc]) = .ok (t a) (r ++ [.sh (m1 a), .sh (m2 a), .ow acc]))
    (he : ∀ a ∈ as, t a = true → ∀ acc, elt (r ++ [.sh (m1 a), .sh (m2 a), .ow acc]) = .ok (f a) (r ++ [.sh (m1 a), .sh (m2 a), .ow acc])) (hk : r.length = k := by rfl) :
    mComp 2 it (gTup [k, k + 1]) test elt r = .ok out r := by
  rw [← hout]
  subst hk
  refine compF (fun a => .tup [m1 a, m2 a]) (fun a => [.sh (m1 a), .sh (m2 a)]) t f as rfl hds hL (fun a _ => ⟨rfl, by intro x hx; simp at hx; rcases hx with rfl | rfl <;> rfl⟩) (fun a ha ts acc h1 h2 => gTup2 h1 h2) (fun a ha acc => ?_) fun a ha q acc => ?_
  · have := ht a ha acc; simpa using this
  · have := he a ha q acc; simpa using this
theorem compM2 {A : Type} {it : M (List D)} {elt : M D} {k : Nat} {r : Rho} {out : D} (m1 m2 : A → D) (f : A → D) (as : List A) (hds : it r = .ok (as.map fun a => .tup [m1 a, m2 a]) r) (hL : as.length ≤ 16777216) (hout : D.lst (as.map f) = out)
    (he : ∀ a ∈ as, ∀ acc, elt (r ++ [.sh (m1 a), .sh (m2 a), .ow acc]) = .ok (f a) (r ++ [.sh (m1 a), .sh (m2 a), .ow acc])) (hk : r.length = k := by rfl) :
    mComp 2 it (gTup [k, k + 1]) (ret true) elt r = .ok out r :=
  compF2 m1 m2 (fun _ => true) f as hds hL (by rw [List.filter_eq_self.mpr (fun _ _ => rfl)]; exact hout) (fun _ _ _ => rfl) (fun a ha _ acc => he a ha acc) hk
end VP

end
section
namespace VP
open PySem
@[simp] theorem sNever_at (r : Rho) : sNever r = .no := Eq.trans rfl rfl
@[simp] theorem sSetF_at (i : Nat) (cs : List Str) (f : Str) (fv : M D) (r : Rho) : sSetF i cs f fv r = (fv r).then fun v r => (mUpd i (setFD cs f v) r).then fun _ => ret .nx := by
  unfold sSetF; rw [bnd_at]; congr; funext v r; exact sDo_at _ _
@[simp] theorem mMake_at (c : Str) (f : Fn) (as : List Arg) (r : Rho) : mMake c f as r = (mArgs as r).then fun vs => mNew c f vs := bnd_at _ _ _
@[simp] theorem mMeth_at (c m : Str) (f : Fn) (fo : M D) (as : List Arg) (r : Rho) : mMeth c m f fo as r = (fo r).then fun o r => if insOf c m o = true then (mArgs as r).then fun vs => mApp f (.val o :: vs) else .no := by
  unfold mMeth; rw [bnd_at]; congr; funext o r; split
  · exact bnd_at _ _ _
  · rfl
@[simp] theorem mEnum_at (fl : List (M D)) (r : Rho) : mEnum fl r = (mL fl r).then fun xs => opt (enumD xs) := bnd_at _ _ _
@[simp] theorem mDown_at (fl : List (M D)) (r : Rho) : mDown fl r = (mL fl r).then fun xs => opt (rngD xs) := bnd_at _ _ _
@[simp] theorem enumD_lst (ds : List D) : enumD [.lst ds] = some (enumL ds) := Eq.trans rfl rfl
theorem enumL_map {A : Type} (mk : A → D) (as : List A) : enumL (as.map mk) = (List.range as.length).zipWith (fun i a => D.tup [.int (i : Nat), mk a]) as := by
  unfold enumL
  rw [List.length_map, List.zipWith_map_right]
@[simp] theorem allD_lst (al : Bool) (ds : List D) : allD al (.lst ds) = (boolsD ds).map fun bs => .bl (if al then bs.all id else bs.any id) := Eq.trans rfl rfl
theorem boolsD_map {A : Type} (f : A → Bool) : ∀ as : List A, boolsD (as.map fun a => D.bl (f a)) = some (as.map f)
  | [] => rfl
  | a :: as => by simp [boolsD, boolsD_map f as]
theorem all_at {A : Type} (f : A → Bool) (as : List A) : allD true (.lst (as.map fun a => D.bl (f a))) = some (.bl (as.all f)) := by
  rw [allD_lst, boolsD_map]; simp [Function.comp_def]
theorem any_at {A : Type} (f : A → Bool) (as : List A) : allD false (.lst (as.map fun a => D.bl (f a))) = some (.bl (as.any f)) := by
  rw [allD_lst, boolsD_map]; simp [Function.comp_def]
def outR (r : Rho) : Option Sl → Res D
  | some (.ow d) => .ok d r
  | _ => .no
def innerR (l n : Nat) : Res Unit → Res D
  | .ok _ r' => outR (r'.take l) r'[l + n]?
  | _ => .no
@[simp] theorem sRaise_at (c : Str) (fs : List (M D)) (r : Rho) : sRaise c fs r = (mL fs r).then fun ds r => if ds.length ≤ 1000 then .exc ⟨c, [], []⟩ r else .no := bnd_at _ _ _
def tryR (subs : List (Str × Bool)) (j : Nat) (h : M Fl) : Res Fl → Res Fl
  | .ok k r => .ok k r
  | .exc x r => sCatch subs j h x r
  | .no => .no
@[simp] theorem sTry_at (f : M Fl) (subs : List (Str × Bool)) (j : Nat) (h : M Fl) (r : Rho) : sTry f subs j h r = tryR subs j h (f r) := by
  unfold sTry tryR; cases f r <;> rfl
@[simp] theorem tryR_ok (subs : List (Str × Bool)) (j : Nat) (h : M Fl) (k : Fl) (r : Rho) : tryR subs j h (.ok k r) = .ok k r := Eq.trans rfl rfl
@[simp] theorem tryR_exc (subs : List (Str × Bool)) (j : Nat) (h : M Fl) (x : Xn) (r : Rho) : tryR subs j h (.exc x r) = sCatch subs j h x r := Eq.trans rfl rfl
def outC (j : Nat) : Res Fl → Res Fl
  | .ok f r => .ok f (r.set j .no)
  | _ => .no
@[simp] theorem outC_ok (j : Nat) (f : Fl) (r : Rho) : outC j (.ok f r) = .ok f (r.set j .no) := Eq.trans rfl rfl
@[simp] theorem outC_ite (j : Nat) (c : Prop) [Decidable c] (a b : Res Fl) : outC j (if c then a else b) = if c then outC j a else outC j b := by split <;> rfl
theorem sCatch_at {subs : List (Str × Bool)} {j : Nat} {h : M Fl} {x : Xn} {r : Rho} (h1 : subs.lookup x.cls = some true) (h2 : r[j]? = some .no) : sCatch subs j h x r = outC j (h (r.set j (.sh (.exn x.cls x.ns x.vs)))) := by
  unfold sCatch outC; rw [h1, h2]
  all_goals first | (dsimp only; done) | (dsimp only; cases h (r.set j (.sh (.exn x.cls x.ns x.vs))) <;> rfl)
@[simp] theorem isaX_exn (subs : List (Str × Bool)) (c : Str) (ns : List Str) (vs : List D) : isaX subs (.exn c ns vs) = (subs.lookup c).map .bl := Eq.trans rfl rfl
@[simp] theorem cmpAt_at (g : D → D → Option D) (j : Nat) (d : D) (r : Rho) : cmpAt g j d r = (opt (own r[j]?) r).then fun x => opt (g x d) := by
  unfold cmpAt; cases own r[j]? <;> rfl
@[simp] theorem mCmpO_at (g : D → D → Option D) (j : Nat) (fb : M D) (r : Rho) : mCmpO g j fb r = if (own r[j]?).isSome = true then (fb r).then (cmpAt g j) else .no := by
  unfold mCmpO; split
  · exact bnd_at _ _ _
  · rfl
@[simp] theorem mCmpOO_at (g : D → D → Option D) (i j : Nat) (r : Rho) : mCmpOO g i j r = (opt (own r[i]?) r).then fun x r => (opt (own r[j]?) r).then fun y => opt (g x y) := by
  unfold mCmpOO; cases own r[i]? with
  | none => rfl
  | some x => simp only [opt_some, ret_at, then_ok]; cases own r[j]? <;> rfl
@[simp] theorem eqN_true (x y : D) : eqN true x y = neG x y := Eq.trans rfl rfl
@[simp] theorem eqN_false (x y : D) : eqN false x y = eqG x y := Eq.trans rfl rfl
@[simp] theorem sRaiseI_at (c : Str) (ns : List Str) (fs : List (M D)) (r : Rho) : sRaiseI c ns fs r = (mL fs r).then fun ds r => if ds.length = ns.length then .exc ⟨c, ns, ds⟩ r else .no := bnd_at _ _ _
@[simp] theorem fldX_exn (cs : List Str) (f c : Str) (ns : List Str) (vs : List D) : fldX cs f (.exn c ns vs) = if cs.contains c = true then (ns.zip vs).lookup f else none := Eq.trans rfl rfl
@[simp] theorem mSeqL_at (f : M D) (r : Rho) : mSeqL f r = (f r).then fun d => opt (lstL d) := bnd_at _ _ _
@[simp] theorem lstL_lst (ds : List D) : lstL (.lst ds) = some ds := Eq.trans rfl rfl
@[simp] theorem sForH_at (j : Nat) (it : M (List D)) (g : D → M Unit) (body : M Fl) (r : Rho) : sForH j it g body r = exnR r[j]? (sFor it g body r) := Eq.trans rfl rfl
@[simp] theorem exnR_exn (c : Str) (ns : List Str) (vs : List D) (x : Res Fl) : exnR (some (.sh (.exn c ns vs))) x = x := Eq.trans rfl rfl
end VP

end
section
namespace VP
open PySem
end VP

end
section
namespace VP
open PySem
@[simp] theorem mMt_at (g : D → D → Option D) (fo fe : M D) (r : Rho) : mMt g fo fe r = (fo r).then fun x r => if isStrD x = true then (fe r).then fun y => opt (g x y) else .no := by
  unfold mMt; rw [bnd_at]; congr; funext x r; split
  · exact bnd_at _ _ _
  · rfl
@[simp] theorem isStrD_str (x : Str) : isStrD (.str x) = true := rfl
@[simp] theorem mSigns_at (f : M D) (r : Rho) : mSigns f r = (f r).then fun d => opt (signsD d) := bnd_at _ _ _
@[simp] theorem textD_str (x : Str) : textD (.str x) = some (.str x) := Eq.trans rfl rfl
theorem textD_int (i : Int) (h : i.natAbs < 2 ^ 64) : textD (.int i) = some (.str (toString i)) := if_pos h
@[simp] theorem startsD_str (x y : Str) : startsD (.str x) (.str y) = some (.bl (Txt.startswith x y)) := Eq.trans rfl rfl
@[simp] theorem inS_str (x y : Str) : inS (.str y) (.str x) = some (.bl (Txt.contains x y)) := Eq.trans rfl rfl
theorem strsD_map : ∀ ss : List Str, strsD (ss.map .str) = some ss
  | [] => rfl
  | s :: ss => by rw [List.map_cons, strsD, strsD_map ss]; rfl
theorem joinD_at (sep : Str) (ss : List Str) (h : JoinOk sep ss = true) : joinD (.str sep) (.lst (ss.map .str)) = some (.str (Txt.join sep ss)) := by
  simp only [joinD]
  rw [strsD_map]
  dsimp only
  rw [if_pos h]
theorem splitD_at (x y : Str) (h : y.length ≠ 0) (hl : x.length ≤ 1000000) : splitD (.str x) (.str y) = some (.lst ((Txt.split x y).map .str)) := if_pos ⟨h, hl⟩
theorem lenS_at (x : Str) (h : x.length ≤ LIM) : lenS (.str x) = some (.int x.length) := if_pos h
theorem signsD_at (x : Str) (h : x.length ≤ LIM) : signsD (.str x) = some (x.cps.toList.map fun c => .str ⟨#[c]⟩) := if_pos h
end VP

end
section
namespace TX
open PySem VP PySem.NumText
def jl (c : Nat) : List (List Nat) → List Nat
  | [] => []
  | [x] => x
  | x :: y :: r => x ++ c :: jl c (y :: r)
theorem join_cps (c : Nat) : ∀ ws : List Str, (Str.join ⟨#[c]⟩ ws).cps.toList = jl c (ws.map fun w => w.cps.toList)
  | [] => rfl
  | [x] => rfl
  | x :: y :: r => by
    have ih := join_cps c (y :: r)
    show ((x ++ (⟨#[c]⟩ : Str)) ++ Str.join ⟨#[c]⟩ (y :: r)).cps.toList = _
    show ((x.cps ++ #[c]) ++ (Str.join ⟨#[c]⟩ (y :: r)).cps).toList = _
    rw [Array.toList_append, ih]
    simp [jl]
theorem app_inj {c : Nat} : ∀ {x y : List Nat} {r s : List Nat}, c ∉ x → c ∉ y → x ++ c :: r = y ++ c :: s → x = y ∧ r = s
  | [], [], _, _, _, _, h => ⟨rfl, by simpa using h⟩
  | [], b :: y, _, _, _, h2, h => by simp at h; exact absurd h.1 (fun e => h2 (by rw [e]; exact List.mem_cons_self))
  | a :: x, [], _, _, h1, _, h => by simp at h; exact absurd h.1 (fun e => h1 (by rw [e]; exact List.mem_cons_self))
  | a :: x, b :: y, r, s, h1, h2, h => by
    simp only [List.cons_append, List.cons.injEq] at h
    obtain ⟨e1, e2⟩ := app_inj (fun z => h1 (List.mem_cons_of_mem _ z)) (fun z => h2 (List.mem_cons_of_mem _ z)) h.2
    exact ⟨by rw [h.1, e1], e2⟩
theorem jl_inj {c : Nat} : ∀ {xs ys : List (List Nat)}, xs ≠ [] → ys ≠ [] → (∀ x ∈ xs, c ∉ x) → (∀ y ∈ ys, c ∉ y) → jl c xs = jl c ys → xs = ys
  | [], _, h, _, _, _, _ => absurd rfl h
  | _, [], _, h, _, _, _ => absurd rfl h
  | [x], [y], _, _, _, _, h => by simp only [jl] at h; rw [h]
  | [x], y :: z :: r, _, _, h1, _, h => by
    simp only [jl] at h
    exact absurd (by rw [h]; simp) (h1 x List.mem_cons_self)
  | x :: z :: r, [y], _, _, _, h2, h => by
    simp only [jl] at h
    exact absurd (by rw [← h]; simp) (h2 y List.mem_cons_self)
  | x :: a :: r, y :: b :: s, _, _, h1, h2, h => by
    simp only [jl] at h
    obtain ⟨e1, e2⟩ := app_inj (h1 x List.mem_cons_self) (h2 y List.mem_cons_self) h
    have := jl_inj (xs := a :: r) (ys := b :: s) (by simp) (by simp) (fun z hz => h1 z (List.mem_cons_of_mem _ hz)) (fun z hz => h2 z (List.mem_cons_of_mem _ hz)) e2
    rw [e1, this]
theorem str_ext {x y : Str} (h : x.cps.toList = y.cps.toList) : x = y := by
  cases x; cases y; simp at h; rw [h]
theorem split_join (c : Nat) (ws : List Str) (h : ws ≠ []) (hf : ∀ w ∈ ws, c ∉ w.cps.toList) : Txt.split (Txt.join ⟨#[c]⟩ ws) ⟨#[c]⟩ = ws := by
  have ej : Txt.join ⟨#[c]⟩ ws = Str.join ⟨#[c]⟩ ws := StrLaws.glued_eq_join _ _
  have e := StrLaws.join_split (Txt.join ⟨#[c]⟩ ws) ⟨#[c]⟩
  have hne : Txt.split (Txt.join ⟨#[c]⟩ ws) ⟨#[c]⟩ ≠ [] := fun z => by
    have := PyProof.Rows.split_pos (Txt.join ⟨#[c]⟩ ws) ⟨#[c]⟩
    rw [z] at this; simp at this
  have hfree := StrLaws.split_free (Txt.join ⟨#[c]⟩ ws) c
  generalize Txt.split (Txt.join ⟨#[c]⟩ ws) ⟨#[c]⟩ = vs at *
  rw [ej] at e
  have e2 : jl c (vs.map fun w => w.cps.toList) = jl c (ws.map fun w => w.cps.toList) := by rw [← join_cps, ← join_cps, e]
  have := jl_inj (by simpa using hne) (by simpa using h) (fun x hx => by obtain ⟨w, hw, rfl⟩ := List.mem_map.mp hx; exact hfree w hw) (fun x hx => by obtain ⟨w, hw, rfl⟩ := List.mem_map.mp hx; exact hf w hw) e2
  have inj : Function.Injective fun w : Str => w.cps.toList := fun a b z => str_ext z
  exact (List.map_inj_right (fun a b z => inj z)).mp this
def digs (m : Nat) : List Nat := (Nat.toDigits 10 m).map Char.toNat
theorem digit_code : ∀ d : Nat, d < 10 → (Nat.digitChar d).toNat = 48 + d := by decide
theorem digs_small {m : Nat} (h : m < 10) : digs m = [48 + m] := by
  unfold digs; rw [Nat.toDigits_of_lt_base h]; simp [digit_code m h]
theorem digs_step {m : Nat} (h : 10 ≤ m) : digs m = digs (m / 10) ++ [48 + m % 10] := by
  have hm : m % 10 < 10 := Nat.mod_lt m (by decide)
  have t : Nat.toDigits 10 (m / 10) ++ Nat.toDigits 10 (m % 10) = Nat.toDigits 10 (10 * (m / 10) + m % 10) := Nat.toDigits_append_toDigits (by decide) (by omega) hm
  rw [Nat.div_add_mod] at t
  unfold digs
  rw [← t, List.map_append, Nat.toDigits_of_lt_base hm]
  simp [digit_code _ hm]
theorem digs_all (m : Nat) : AllDigits (digs m) := by
  induction m using Nat.strongRecOn with
  | _ m ih =>
    by_cases h : m < 10
    · rw [digs_small h]; intro c hc; simp at hc; omega
    · rw [digs_step (by omega)]
      intro c hc
      rcases List.mem_append.mp hc with hc | hc
      · exact ih (m / 10) (by omega) c hc
      · simp at hc; omega
theorem digs_ne (m : Nat) : digs m ≠ [] := by
  by_cases h : m < 10
  · rw [digs_small h]; simp
  · rw [digs_step (by omega)]; simp
theorem digs_len : ∀ (k m : Nat), m < 10 ^ (k + 1) → (digs m).length ≤ k + 1
  | 0, m, h => by rw [digs_small (by simpa using h)]; simp
  | k + 1, m, h => by
    by_cases h10 : m < 10
    · rw [digs_small h10]; simp
    · rw [digs_step (by omega), List.length_append]
      have : m / 10 < 10 ^ (k + 1) := by rw [Nat.pow_succ] at h; omega
      have := digs_len k (m / 10) this
      simp; omega
theorem digs_head (m : Nat) (h : 0 < m) : ∃ c r, digs m = c :: r ∧ 49 ≤ c := by
  induction m using Nat.strongRecOn with
  | _ m ih =>
    by_cases h10 : m < 10
    · exact ⟨48 + m, [], digs_small h10, by omega⟩
    · obtain ⟨c, r, e, hc⟩ := ih (m / 10) (by omega) (by omega)
      exact ⟨c, r ++ [48 + m % 10], by rw [digs_step (by omega), e]; rfl, hc⟩
theorem digs_val (m : Nat) : digitsVal (digs m) = m := PySem.W.KIN.val_back m
theorem txt_nat (m : Nat) : (Str.ofString (toString (m : Int))).cps.toList = digs m := PySem.W.KIN.signs_num m
theorem txt_neg (m : Nat) : (Str.ofString (toString (Int.negSucc m))).cps.toList = 45 :: digs (m + 1) := by
  rw [PyProof.Rows.signs_ofString]
  show (("-" : String) ++ (Nat.repr (m + 1))).toList.map Char.toNat = _
  rw [String.toList_append, List.map_append, Nat.toList_repr]
  rfl
theorem len_cps (x : Str) : x.cps.toList.length = x.length := Array.length_toList
theorem num_back (n : Int) (h : n.natAbs < 10 ^ 12) : intText? (Str.ofString (toString n)) = some n := by
  cases n with
  | ofNat m =>
    have e := txt_nat m
    have hl := digs_len 11 m (by simpa using h)
    have := intText_digits (x := Str.ofString (toString (m : Int))) (by rw [e]; exact digs_all m) (by rw [e]; exact digs_ne m) (by rw [← len_cps, e]; omega)
    rw [e, digs_val] at this
    exact this
  | negSucc m =>
    have e := txt_neg m
    have hl := digs_len 11 (m + 1) (by simpa using h)
    have := intText_neg e (digs_all _) (digs_ne _) (by rw [← len_cps, e, List.length_cons]; omega)
    rw [digs_val] at this
    rw [this]; rfl
theorem starts_sign (x : Str) (c : Nat) : Txt.startswith x ⟨#[c]⟩ = (x.cps.toList.head? == some c) := by
  unfold Txt.startswith Builtin.Str.subAt
  obtain ⟨a⟩ := x
  show (decide (0 + (#[c] : Array Nat).size ≤ a.size) && ((a.extract 0 (0 + (#[c] : Array Nat).size)) == #[c])) = _
  obtain ⟨l⟩ := a
  cases l with
  | nil => simp
  | cons d l => simp
theorem from1 (x : Str) (h : 1 ≤ x.length) : Txt.slice x (some 1) none = ⟨(x.cps.toList.drop 1).toArray⟩ := by
  rw [PyProof.Rows.slice_from_eq (b := x.length) (by omega) (by omega) rfl]
  congr 1
  rw [List.take_of_length_le (by rw [List.length_drop, len_cps]; simp)]
  rfl
theorem fig_in : ∀ k : Fin 10, Txt.contains "0123456789" ⟨#[48 + k.val]⟩ = true := by decide +kernel
theorem fig_in' (c : Nat) (h : 48 ≤ c ∧ c ≤ 57) : Txt.contains "0123456789" ⟨#[c]⟩ = true := by
  have := fig_in ⟨c - 48, by omega⟩
  rwa [show 48 + (c - 48) = c by omega] at this
end TX
namespace VP
open PySem
theorem loop_ex {S Tm A : Type} {g : D → M Unit} {body : M Fl} (mk : A → D) (R : S → Tm → Rho) (ok : Tm → Prop) : ∀ (as : List A) (P : Nat → S → Prop) (s : S) (t : Tm), ok t → P 0 s →
    (∀ (i : Nat) (a : A), as[i]? = some a → ∀ s t, ok t → P i s → ∃ s' t', P (i + 1) s' ∧ ok t' ∧ cont (turn1 g body (mk a) (R s t)) = some (R s' t')) →
    ∃ s' t', P as.length s' ∧ ok t' ∧ loop g body (as.map mk) (R s t) = .ok .nx (R s' t') := by
  intro as
  induction as with
  | nil => intro P s t ht hs _; exact ⟨s, t, hs, ht, rfl⟩
  | cons a as ih =>
    intro P s t ht hs h
    obtain ⟨s1, t1, p1, o1, e1⟩ := h 0 a rfl s t ht hs
    obtain ⟨s2, t2, p2, o2, e2⟩ := ih (fun k => P (k + 1)) s1 t1 o1 p1 fun i a' ha => h (i + 1) a' (by simpa using ha)
    exact ⟨s2, t2, by simpa using p2, o2, by rw [List.map_cons, loop_cont e1]; exact e2⟩
inductive Each {A B : Type} (P : A → B → Prop) : List A → List B → Prop where
  | nil : Each P [] []
  | cons {a : A} {b : B} {as : List A} {bs : List B} (h : P a b) (t : Each P as bs) : Each P (a :: as) (b :: bs)
theorem Each.len {A B : Type} {P : A → B → Prop} : ∀ {as : List A} {bs : List B}, Each P as bs → as.length = bs.length
  | _, _, .nil => rfl
  | _, _, .cons _ t => by simp [Each.len t]
theorem Each.right {A B : Type} {P : A → B → Prop} : ∀ {as : List A} {bs : List B}, Each P as bs → ∀ b ∈ bs, ∃ a ∈ as, P a b
  | _, _, .cons (a := a) h t, b, hb => by
    rcases List.mem_cons.mp hb with rfl | hb
    · exact ⟨a, List.mem_cons_self, h⟩
    · obtain ⟨a', h1, h2⟩ := Each.right t b hb
      exact ⟨a', List.mem_cons_of_mem _ h1, h2⟩
theorem outs_each {A B S : Type} {P : A → B → Prop} (step : S → A → S) (f : S → A → B) : ∀ (as : List A) (s : S), (∀ a ∈ as, ∀ s, P a (f s a)) → Each P as (outs step f s as)
  | [], _, _ => .nil
  | a :: as, s, h => .cons (h a List.mem_cons_self s) (outs_each step f as _ fun a' ha => h a' (List.mem_cons_of_mem _ ha))
theorem outs_mapD {A B S : Type} (step : S → A → S) (f : S → A → B) (dd : B → D) : ∀ (as : List A) (s : S), outs step (fun s a => dd (f s a)) s as = (outs step f s as).map dd
  | [], _ => rfl
  | a :: as, s => by simp [outs, outs_mapD step f dd as]
theorem compE {A B : Type} [Inhabited B] {it : M (List D)} {elt : M D} {k : Nat} {r0 : Rho} (mk : A → D) (dd : B → D) (R : Nat → Rho) (P : A → B → Prop) (as : List A) (p : Nat) (hlen : ∀ q, (R q).length = k) (hds : it r0 = .ok (as.map mk) (R p)) (hL : as.length ≤ 1000)
    (he : ∀ a ∈ as, ∀ q, ∃ q' b, P a b ∧ ∀ acc, elt (R q ++ [.sh (mk a), .ow acc]) = .ok (dd b) (R q' ++ [.sh (mk a), .ow acc])) :
    ∃ q' bs, mComp 1 it (gName k) (ret true) elt r0 = .ok (.lst (bs.map dd)) (R q') ∧ Each P as bs := by
  have ch : ∀ (a : A) (q : Nat), ∃ z : Nat × B, a ∈ as → P a z.2 ∧ ∀ acc, elt (R q ++ [.sh (mk a), .ow acc]) = .ok (dd z.2) (R z.1 ++ [.sh (mk a), .ow acc]) := fun a q => by
    by_cases h : a ∈ as
    · obtain ⟨q', b, h1, h2⟩ := he a h q
      exact ⟨(q', b), fun _ => ⟨h1, h2⟩⟩
    · exact ⟨(0, default), fun z => absurd z h⟩
  let F := fun a q => Classical.choose (ch a q)
  have hF : ∀ a q, a ∈ as → P a (F a q).2 ∧ ∀ acc, elt (R q ++ [.sh (mk a), .ow acc]) = .ok (dd (F a q).2) (R (F a q).1 ++ [.sh (mk a), .ow acc]) := fun a q => Classical.choose_spec (ch a q)
  have h := (compS (elt := elt) mk R (fun _ _ => True) (fun q a => (F a q).1) (fun q a => dd (F a q).2) as p hlen hds (by omega) trivial (fun i a ha q acc _ => ⟨trivial, (hF a q (List.mem_of_getElem? ha)).2 acc⟩)).1
  rw [outs_mapD (fun q a => (F a q).1) (fun q a => (F a q).2) dd] at h
  exact ⟨_, _, h, outs_each _ _ as p fun a ha q => (hF a q ha).1⟩
end VP

end
section
namespace VP
open PySem
theorem addS_at (x y : Str) (h : x.length + y.length ≤ LIM) : addS (.str x) (.str y) = some (.str (x ++ y)) := if_pos h
theorem mulS_at (x : Str) (n : Int) (h : 1 < n ∧ n ≤ 100 ∧ x.length ≤ 100) : mulS (.str x) (.int n) = some (.str (Txt.mul x n)) := if_pos h
end VP

end
section
set_option maxRecDepth 100000
set_option linter.all false
namespace LW
open PySem VP
def names : List Str := (["given", "even", "turn", "cut", "drop", "wide", "spread", "shape", "shift", "one", "both", "where", "fold", "run", "pick", "join", "minus", "half", "none", "add", "less", "times", "least", "most", "below", "alike", "line", "number", "numbers", "place", "sides", "many"] : List Str) ++ (["\n", " ", "-", ",", "0123456789", "0", "n", "sn", "ns", "nnnnn", "nnn", "nn", "nnnn", "1n", "2nn", "fnn", "s", "1", "f", "givens", "Even", "cuts", "", "\t", "x", "1x", "--1", "1_0", "1.0", "adds", "07", "-0"] : List Str) ++ (["1111111111111", "+1", "1,", ",1", "1\t2", "1-", "00", "-01", "1 2", "ADD", "0x1", "--", "given\t", "even\t", "turn\t", "cut\t", "drop\t", "wide\t", "spread\t", "shape\t", "shift\t", "one\t", "both\t", "where\t", "fold\t", "run\t", "pick\t", "join\t"] : List Str)
def nm (i : Nat) : Str := names.getD i ""
theorem nm_0 : ("given" : Str) = nm 0 := rfl
theorem nm_1 : ("even" : Str) = nm 1 := rfl
theorem nm_2 : ("turn" : Str) = nm 2 := rfl
theorem nm_3 : ("cut" : Str) = nm 3 := rfl
theorem nm_4 : ("drop" : Str) = nm 4 := rfl
theorem nm_5 : ("wide" : Str) = nm 5 := rfl
theorem nm_6 : ("spread" : Str) = nm 6 := rfl
theorem nm_7 : ("shape" : Str) = nm 7 := rfl
theorem nm_8 : ("shift" : Str) = nm 8 := rfl
theorem nm_9 : ("one" : Str) = nm 9 := rfl
theorem nm_10 : ("both" : Str) = nm 10 := rfl
theorem nm_11 : ("where" : Str) = nm 11 := rfl
theorem nm_12 : ("fold" : Str) = nm 12 := rfl
theorem nm_13 : ("run" : Str) = nm 13 := rfl
theorem nm_14 : ("pick" : Str) = nm 14 := rfl
theorem nm_15 : ("join" : Str) = nm 15 := rfl
theorem nm_16 : ("minus" : Str) = nm 16 := rfl
theorem nm_17 : ("half" : Str) = nm 17 := rfl
theorem nm_18 : ("none" : Str) = nm 18 := rfl
theorem nm_19 : ("add" : Str) = nm 19 := rfl
theorem nm_20 : ("less" : Str) = nm 20 := rfl
theorem nm_21 : ("times" : Str) = nm 21 := rfl
theorem nm_22 : ("least" : Str) = nm 22 := rfl
theorem nm_23 : ("most" : Str) = nm 23 := rfl
theorem nm_24 : ("below" : Str) = nm 24 := rfl
theorem nm_25 : ("alike" : Str) = nm 25 := rfl
theorem nm_26 : ("line" : Str) = nm 26 := rfl
theorem nm_28 : ("numbers" : Str) = nm 28 := rfl
theorem nm_32 : ("\n" : Str) = nm 32 := rfl
theorem nm_33 : (" " : Str) = nm 33 := rfl
theorem nm_34 : ("-" : Str) = nm 34 := rfl
theorem nm_35 : ("," : Str) = nm 35 := rfl
theorem nm_37 : ("0" : Str) = nm 37 := rfl
theorem nm_38 : ("n" : Str) = nm 38 := rfl
theorem nm_39 : ("sn" : Str) = nm 39 := rfl
theorem nm_40 : ("ns" : Str) = nm 40 := rfl
theorem nm_41 : ("nnnnn" : Str) = nm 41 := rfl
theorem nm_42 : ("nnn" : Str) = nm 42 := rfl
theorem nm_43 : ("nn" : Str) = nm 43 := rfl
theorem nm_44 : ("nnnn" : Str) = nm 44 := rfl
theorem nm_45 : ("1n" : Str) = nm 45 := rfl
theorem nm_46 : ("2nn" : Str) = nm 46 := rfl
theorem nm_47 : ("fnn" : Str) = nm 47 := rfl
theorem nm_48 : ("s" : Str) = nm 48 := rfl
theorem nm_49 : ("1" : Str) = nm 49 := rfl
theorem nm_50 : ("f" : Str) = nm 50 := rfl
theorem nm_51 : ("givens" : Str) = nm 51 := rfl
theorem nm_52 : ("Even" : Str) = nm 52 := rfl
theorem nm_53 : ("cuts" : Str) = nm 53 := rfl
theorem nm_54 : ("" : Str) = nm 54 := rfl
theorem nm_55 : ("\t" : Str) = nm 55 := rfl
theorem nm_56 : ("x" : Str) = nm 56 := rfl
theorem nm_57 : ("1x" : Str) = nm 57 := rfl
theorem nm_58 : ("--1" : Str) = nm 58 := rfl
theorem nm_59 : ("1_0" : Str) = nm 59 := rfl
theorem nm_60 : ("1.0" : Str) = nm 60 := rfl
theorem nm_61 : ("adds" : Str) = nm 61 := rfl
theorem nm_62 : ("07" : Str) = nm 62 := rfl
theorem nm_63 : ("-0" : Str) = nm 63 := rfl
theorem nm_65 : ("+1" : Str) = nm 65 := rfl
theorem nm_66 : ("1," : Str) = nm 66 := rfl
theorem nm_67 : (",1" : Str) = nm 67 := rfl
theorem nm_68 : ("1\t2" : Str) = nm 68 := rfl
theorem nm_69 : ("1-" : Str) = nm 69 := rfl
theorem nm_70 : ("00" : Str) = nm 70 := rfl
theorem nm_71 : ("-01" : Str) = nm 71 := rfl
theorem nm_72 : ("1 2" : Str) = nm 72 := rfl
theorem nm_73 : ("ADD" : Str) = nm 73 := rfl
theorem nm_74 : ("0x1" : Str) = nm 74 := rfl
theorem nm_75 : ("--" : Str) = nm 75 := rfl
def abs_DEEDS : List Str := [(nm 36), (nm 27), (nm 28), (nm 26), (nm 34)]
def tab_DEEDS : List (Str × D) := [((nm 9), .tup [.str (nm 16), .str (nm 17), .str (nm 18)]), ((nm 10), .tup [.str (nm 19), .str (nm 20), .str (nm 21), .str (nm 22), .str (nm 23), .str (nm 24), .str (nm 25)]), ((nm 12), .tup [.str (nm 19), .str (nm 21), .str (nm 22), .str (nm 23)])]
def abs_FORMS : List Str := [(nm 16), (nm 17), (nm 18), (nm 19), (nm 20), (nm 21), (nm 22), (nm 23), (nm 24), (nm 25), (nm 36), (nm 34), (nm 51), (nm 52), (nm 53), (nm 26), (nm 54), (nm 76), (nm 77), (nm 78), (nm 79), (nm 80), (nm 81), (nm 82), (nm 83), (nm 84), (nm 85), (nm 86), (nm 87), (nm 88), (nm 89), (nm 90), (nm 91)]
def tab_FORMS : List (Str × D) := [((nm 0), .tup [.str (nm 27)]), ((nm 1), .tup [.str (nm 28), .str (nm 27)]), ((nm 2), .tup [.str (nm 26), .str (nm 28)]), ((nm 3), .tup [.str (nm 26), .str (nm 27), .str (nm 27), .str (nm 27), .str (nm 27)]), ((nm 4), .tup [.str (nm 26), .str (nm 27), .str (nm 27)]), ((nm 5), .tup [.str (nm 26), .str (nm 27)]), ((nm 6), .tup [.str (nm 26), .str (nm 28)]), ((nm 7), .tup [.str (nm 26), .str (nm 28)]), ((nm 8), .tup [.str (nm 26), .str (nm 27), .str (nm 27), .str (nm 27)]), ((nm 9), .tup [.str (nm 9), .str (nm 26)]), ((nm 10), .tup [.str (nm 10), .str (nm 26), .str (nm 26)]), ((nm 11), .tup [.str (nm 26), .str (nm 26), .str (nm 26)]), ((nm 12), .tup [.str (nm 12), .str (nm 26), .str (nm 27)]), ((nm 13), .tup [.str (nm 12), .str (nm 26), .str (nm 27)]), ((nm 14), .tup [.str (nm 26), .str (nm 27), .str (nm 26)]), ((nm 15), .tup [.str (nm 26), .str (nm 26), .str (nm 27)])]
def csx_LoomError : List (Str × Bool) := [("NoText", true)]
def csx_NoText : List (Str × Bool) := [("NoText", true)]
def xc_row : List Str := ["NoText"]
def isx_BadLine : List (Str × Bool) := [("NoText", false)]
def isx_NoCell : List (Str × Bool) := [("NoText", false)]
def isx_NoTable : List (Str × Bool) := [("NoText", false)]
def isx_ValueError : List (Str × Bool) := [("NoText", true)]
def b_z0 : M Fl :=
  (sSeq (sSet 0 (mLst [(mTup [(mC (.str (nm 0))), (mC (.str (nm 38)))]), (mTup [(mC (.str (nm 1))), (mC (.str (nm 39)))]), (mTup [(mC (.str (nm 2))), (mC (.str (nm 40)))]), (mTup [(mC (.str (nm 3))), (mC (.str (nm 41)))]), (mTup [(mC (.str (nm 4))), (mC (.str (nm 42)))]), (mTup [(mC (.str (nm 5))), (mC (.str (nm 43)))])]))
    (sSeq (sSet 0 (m2 addA (mVar 0) (mLst [(mTup [(mC (.str (nm 6))), (mC (.str (nm 40)))]), (mTup [(mC (.str (nm 7))), (mC (.str (nm 40)))]), (mTup [(mC (.str (nm 8))), (mC (.str (nm 44)))]), (mTup [(mC (.str (nm 9))), (mC (.str (nm 45)))]), (mTup [(mC (.str (nm 10))), (mC (.str (nm 46)))])])))
    (sSeq (sRet (m2 addA (mVar 0) (mLst [(mTup [(mC (.str (nm 11))), (mC (.str (nm 42)))]), (mTup [(mC (.str (nm 12))), (mC (.str (nm 47)))]), (mTup [(mC (.str (nm 13))), (mC (.str (nm 47)))]), (mTup [(mC (.str (nm 14))), (mC (.str (nm 42)))]), (mTup [(mC (.str (nm 15))), (mC (.str (nm 42)))])])))
    sNx)))
def f_z0 : Fn := defn 1 [] b_z0
def b_z8 : M Fl :=
  (sSeq (sRet (mAndV (m1 (isaD "int") (mVar 0)) (mOfT (VP.tNot (VP.tB (m1 (isaD "bool") (mVar 0)))))))
    sNx)
def f_z8 : Fn := defn 1 [false] b_z8
def ce_number_read_1 : M D :=
  (m2 inS (mVar 2) (mC (.str (nm 36))))
def b_z12 : M Fl :=
  (sSeq (sSet 1 (mIf (VP.tB (mMt startsD (mVar 0) (mC (.str (nm 34))))) (m2 fromS (mVar 0) (mC (.int 1))) (mVar 0)))
    (sSeq (VP.sIf (VP.tOr (VP.tNot (VP.tB (m3c leI leI (mC (.int 1)) (m1 lenS (mVar 1)) (mC (.int 12))))) (VP.tNot (VP.tB (m1 (allD true) (mComp 1 (mSigns (mVar 1)) (VP.gName 2) (VP.ret true) ce_number_read_1))))) (sSeq (sRet (mC .non))
    sNx) sNx)
    (sSeq (VP.sIf (VP.tAnd (VP.tB (m2 eqG (m2 itemS (mVar 1) (mC (.int 0))) (mC (.str (nm 37))))) (VP.tB (m2 neG (mVar 0) (mC (.str (nm 37)))))) (sSeq (sRet (mC .non))
    sNx) sNx)
    (sSeq (sRet (m1 numD (mVar 0)))
    sNx))))
def f_z12 : Fn := defn 2 [false] b_z12
def ce_numbers_read_1 : M D :=
  (mCall f_z12 [.val (mVar 2)])
def ce_numbers_read_2 : M D :=
  (m2 isND (mVar 2) (mC .non))
def b_z13 : M Fl :=
  (sSeq (VP.sIf (VP.tB (m2 eqG (mVar 0) (mC (.str (nm 34))))) (sSeq (sRet (mTup []))
    sNx) sNx)
    (sSeq (sSet 1 (mComp 1 (mSeq (mMt splitD (mVar 0) (mC (.str (nm 35))))) (VP.gName 2) (VP.ret true) ce_numbers_read_1))
    (sSeq (sRet (mIf (VP.tB (m1 (allD false) (mComp 1 (mSeq (mVar 1)) (VP.gName 2) (VP.ret true) ce_numbers_read_2))) (mC .non) (m1 tupOf (mVar 1))))
    sNx)))
def f_z13 : Fn := defn 2 [false] b_z13
def b_z14 : M Fl :=
  (sSeq (VP.sIf (VP.tB (m1 (tabInD false tab_DEEDS abs_DEEDS) (mVar 0))) (sSeq (sRet (mIf (VP.tB (m2 (inD false) (mVar 1) (m1 (tabD tab_DEEDS) (mVar 0)))) (mVar 1) (mC .non)))
    sNx) sNx)
    (sSeq (sRet (mIf (VP.tB (m2 eqG (mVar 0) (mC (.str (nm 28))))) (mCall f_z13 [.val (mVar 1)]) (mCall f_z12 [.val (mVar 1)])))
    sNx))
def f_z14 : Fn := defn 2 [false, false] b_z14
def ce_line_read_1 : M D :=
  (mCall f_z14 [.val (mVar 3), .val (mVar 4)])
def ce_line_read_2 : M D :=
  (m2 isND (mVar 3) (mC .non))
def b_z11 : M Fl :=
  (sSeq (sSet 1 (m2 itemD (mVar 0) (mC (.int 0))))
    (sSeq (VP.sIf (VP.tOr (VP.tB (m1 (tabInD true tab_FORMS abs_FORMS) (mVar 1))) (VP.tB (m2 neG (m1 lenD (mVar 0)) (m2 addA (mC (.int 1)) (m1 lenD (m1 (tabD tab_FORMS) (mVar 1))))))) (sSeq (sRet (mC .non))
    sNx) sNx)
    (sSeq (sSet 2 (mComp 2 (mZip [(m1 (tabD tab_FORMS) (mVar 1)), (mSl cutA (mVar 0) (some (mC (.int 1))) none)]) (VP.gTup [3, 4]) (VP.ret true) ce_line_read_1))
    (sSeq (sRet (mIf (VP.tB (m1 (allD false) (mComp 1 (mSeq (mVar 2)) (VP.gName 3) (VP.ret true) ce_line_read_2))) (mC .non) (m2 addA (mTup [(mVar 1)]) (m1 tupOf (mVar 2)))))
    sNx))))
def f_z11 : Fn := defn 3 [false] b_z11
def lp_read_program_1 : M Fl :=
  (sSeq (sSet 4 (mCall f_z11 [.val (mMt splitD (mVar 3) (mC (.str (nm 33))))]))
    (sSeq (VP.sIf (VP.tB (m2 isND (mVar 4) (mC .non))) (sSeq (sRaiseI "NoText" ["row"] [(mVar 2)])
    sNx) sNx)
    (sSeq (sApp 1 (mVar 4))
    sNx)))
def b_z15 : M Fl :=
  (sSeq (sOwn 1 (mLst []))
    (sSeq (VP.sFor (mEnum [(mMt splitD (mVar 0) (mC (.str (nm 32))))]) (VP.gTup [2, 3]) lp_read_program_1)
    (sSeq (sFz 1 (sRet (mVar 1)))
    sNx)))
def f_z15 : Fn := defn 5 [false] b_z15
def tb_l_found_1 : M Fl :=
  (sSeq (sRet (mCall f_z15 [.val (mVar 0)]))
    sNx)
def th_l_found_2 : M Fl :=
  (sSeq (VP.sIf (VP.tOr (VP.tB (m1 (isaX isx_NoTable) (mVar 1))) (VP.tOr (VP.tB (m1 (isaX isx_NoCell) (mVar 1))) (VP.tOr (VP.tB (m1 (isaX isx_BadLine) (mVar 1))) (VP.tNot (VP.tB (mCall f_z8 [.val (m1 (fldX xc_row "row") (mVar 1))])))))) (sSeq (sRet (mC .non))
    sNx) sNx)
    (sSeq (sRet (m1 (fldX xc_row "row") (mVar 1)))
    sNx))
def b_z1 : M Fl :=
  (sSeq (sTry tb_l_found_1 csx_NoText 1 th_l_found_2)
    sNx)
def f_z1 : Fn := defn 2 [false] b_z1
def b_z7 : M Fl :=
  (sSeq (sSet 2 (mIxO 0 (mC (.int 1))))
    (sSeq (sSetIx 0 (mC (.int 1)) (m2 addA (mVar 2) (mC (.int 1))))
    (sSeq (VP.sIf (VP.tB (m2 ltI (mVar 2) (m1 lenD (mIxO 0 (mC (.int 0)))))) (sSeq (sRet (m2 modI (m2 itemD (mIxO 0 (mC (.int 0))) (mVar 2)) (mVar 1)))
    sNx) sNx)
    (sSeq (sRet (mC (.int 0)))
    sNx))))
def f_z7 : Fn := defn 3 [true, false] b_z7
def ce_l_part_1 : M D :=
  (m2 subI (mCall f_z7 [.io 0, .val (mC (.int 70))]) (mC (.int 3)))
def b_z3 : M Fl :=
  (sSeq (VP.sIf (VP.tB (m2 eqG (mVar 1) (mC (.str (nm 38))))) (sSeq (sSet 2 (mCall f_z7 [.io 0, .val (mC (.int 4))]))
    (sSeq (sSet 3 (mCall f_z7 [.io 0, .val (m2 powI (mC (.int 10)) (mC (.int 12)))]))
    (sSeq (VP.sIf (VP.tB (m2 ltI (mVar 2) (mC (.int 2)))) (sSeq (sRet (m2 subI (m2 modI (mVar 3) (mC (.int 50))) (mC (.int 9))))
    sNx) sNx)
    (sSeq (sRet (m2 itemD (mLst [(mVar 3), (m2 subI (mC (.int 0)) (mVar 3))]) (m2 subI (mVar 2) (mC (.int 2)))))
    sNx)))) sNx)
    (sSeq (VP.sIf (VP.tB (m2 eqG (mVar 1) (mC (.str (nm 48))))) (sSeq (sRet (m1 tupOf (mComp 1 (mRng1 [(mCall f_z7 [.io 0, .val (mC (.int 10))])]) (VP.gName 5) (VP.ret true) ce_l_part_1)))
    sNx) sNx)
    (sSeq (VP.sIf (VP.tB (m2 eqG (mVar 1) (mC (.str (nm 49))))) (sSeq (sRet (m2 itemD (mLst [(mC (.str (nm 16))), (mC (.str (nm 17))), (mC (.str (nm 18)))]) (mCall f_z7 [.io 0, .val (mC (.int 3))])))
    sNx) sNx)
    (sSeq (sSet 4 (mLst [(mC (.str (nm 19))), (mC (.str (nm 21))), (mC (.str (nm 22))), (mC (.str (nm 23)))]))
    (sSeq (VP.sIf (VP.tB (m2 eqG (mVar 1) (mC (.str (nm 50))))) (sSeq (sRet (m2 itemD (mVar 4) (mCall f_z7 [.io 0, .val (mC (.int 4))])))
    sNx) sNx)
    (sSeq (sRet (m2 itemD (m2 addA (mVar 4) (mLst [(mC (.str (nm 20))), (mC (.str (nm 24))), (mC (.str (nm 25)))])) (mCall f_z7 [.io 0, .val (mC (.int 7))])))
    sNx))))))
def f_z3 : Fn := defn 5 [true, false] b_z3
def tb_l_refused_1 : M Fl :=
  (sSeq (sDrop (mCall f_z15 [.val (mVar 0)]))
    sNx)
def th_l_refused_2 : M Fl :=
  (sSeq (sRet (m1 (isaX isx_ValueError) (mVar 1)))
    sNx)
def b_z4 : M Fl :=
  (sSeq (sTry tb_l_refused_1 csx_LoomError 1 th_l_refused_2)
    (sSeq (sRet (mC (.bl false)))
    sNx))
def f_z4 : Fn := defn 2 [false] b_z4
def lp_l_numbers_1 : M Fl :=
  (sSeq (VP.sIf (VP.tNot (VP.tB (mCall f_z8 [.val (mVar 2)]))) (sSeq (sRet (mC (.bl false)))
    sNx) sNx)
    sNx)
def b_z2 : M Fl :=
  (sSeq (VP.sIf (VP.tOr (VP.tNot (VP.tB (m1 (isaD "tuple") (mVar 0)))) (VP.tB (m2 neG (m1 lenD (mVar 0)) (m1 lenD (mVar 1))))) (sSeq (sRet (mC (.bl false)))
    sNx) sNx)
    (sSeq (VP.sFor (mSeq (mVar 0)) (VP.gName 2) lp_l_numbers_1)
    (sSeq (sRet (m2 eqG (mVar 0) (mVar 1)))
    sNx)))
def f_z2 : Fn := defn 3 [false, false] b_z2
def lp_l_same_1 : M Fl :=
  (sSeq (VP.sIf (VP.tAnd (VP.tB (m1 (isaD "tuple") (mVar 4))) (VP.tNot (VP.tB (mCall f_z2 [.val (mVar 3), .val (mVar 4)])))) (sSeq (sRet (mC (.bl false)))
    sNx) sNx)
    (sSeq (VP.sIf (VP.tAnd (VP.tB (m1 (isaD "str") (mVar 4))) (VP.tNot (VP.tAnd (VP.tB (m1 (isaD "str") (mVar 3))) (VP.tB (m2 eqG (mVar 3) (mVar 4)))))) (sSeq (sRet (mC (.bl false)))
    sNx) sNx)
    (sSeq (VP.sIf (VP.tAnd (VP.tB (mCall f_z8 [.val (mVar 4)])) (VP.tNot (VP.tAnd (VP.tB (mCall f_z8 [.val (mVar 3)])) (VP.tB (m2 eqG (mVar 3) (mVar 4)))))) (sSeq (sRet (mC (.bl false)))
    sNx) sNx)
    sNx)))
def lp_l_same_2 : M Fl :=
  (sSeq (VP.sIf (VP.tOr (VP.tNot (VP.tB (m1 (isaD "tuple") (m2 itemD (mVar 0) (mVar 2))))) (VP.tB (m2 neG (m1 lenD (m2 itemD (mVar 0) (mVar 2))) (m1 lenD (m2 itemD (mVar 1) (mVar 2)))))) (sSeq (sRet (mC (.bl false)))
    sNx) sNx)
    (sSeq (VP.sFor (mZip [(m2 itemD (mVar 0) (mVar 2)), (m2 itemD (mVar 1) (mVar 2))]) (VP.gTup [3, 4]) lp_l_same_1)
    sNx))
def b_z5 : M Fl :=
  (sSeq (VP.sIf (VP.tOr (VP.tNot (VP.tB (m1 (isaD "list") (mVar 0)))) (VP.tB (m2 neG (m1 lenD (mVar 0)) (m1 lenD (mVar 1))))) (sSeq (sRet (mC (.bl false)))
    sNx) sNx)
    (sSeq (VP.sFor (mRng1 [(m1 lenD (mVar 1))]) (VP.gName 2) lp_l_same_2)
    (sSeq (sRet (mC (.bl true)))
    sNx)))
def f_z5 : Fn := defn 5 [false, false] b_z5
def b_z6 : M Fl :=
  (sSeq (sSet 4 (m2 addA (mC (.int 1)) (m2 modI (mVar 3) (m1 lenS (mVar 1)))))
    (sSeq (sOwn 5 (m1 lstOf (mVar 0)))
    (sSeq (VP.sIf (VP.tB (m2 eqG (mVar 2) (mC (.int 0)))) (sSeq (sFz 5 (sRet (m2 addA (mVar 5) (mLst [(mC (.str (nm 49)))]))))
    sNx) sNx)
    (sSeq (VP.sIf (VP.tB (m2 eqG (mVar 2) (mC (.int 1)))) (sSeq (sFz 5 (sRet (mSl cutA (mVar 5) none (some (m1 negI (mC (.int 1)))))))
    sNx) sNx)
    (sSeq (VP.sIf (VP.tB (m2 eqG (mVar 2) (mC (.int 2)))) (sSeq (sFz 5 (sRet (m2 addA (mLst [(m2 itemD (mLst [(mC (.str (nm 51))), (mC (.str (nm 52))), (mC (.str (nm 53))), (mC (.str (nm 34))), (mC (.str (nm 26))), (mC (.str (nm 54)))]) (m2 modI (mVar 3) (mC (.int 6))))]) (mSl cutA (mVar 5) (some (mC (.int 1))) none))))
    sNx) sNx)
    (sSeq (VP.sIf (VP.tB (m2 eqG (mVar 2) (mC (.int 3)))) (sSeq (sRet (mLst [(mC (.str (nm 54)))]))
    sNx) sNx)
    (sSeq (VP.sIf (VP.tB (m2 eqG (mVar 2) (mC (.int 4)))) (sSeq (sFz 5 (sRet (m2 addA (m2 addA (mSl cutA (mVar 5) none (some (mVar 4))) (mLst [(mC (.str (nm 54)))])) (mSl cutA (mVar 5) (some (mVar 4)) none))))
    sNx) sNx)
    (sSeq (VP.sIf (VP.tB (m2 eqG (mVar 2) (mC (.int 5)))) (sSeq (sFz 5 (sRet (m2 itemD (mLst [(m2 addA (mVar 5) (mLst [(mC (.str (nm 54)))])), (m2 addA (mLst [(m2 addS (m2 itemD (mVar 5) (mC (.int 0))) (mC (.str (nm 55))))]) (mSl cutA (mVar 5) (some (mC (.int 1))) none))]) (m2 modI (mVar 3) (mC (.int 2))))))
    sNx) sNx)
    (sSeq (sSet 6 (mLst [(mC (.str (nm 56))), (mC (.str (nm 57))), (mC (.str (nm 58))), (mC (.str (nm 59))), (mC (.str (nm 60))), (mC (.str (nm 61))), (mC (.str (nm 62))), (mC (.str (nm 63))), (m2 mulS (mC (.str (nm 49))) (mC (.int 13))), (mC (.str (nm 65))), (mC (.str (nm 54))), (mC (.str (nm 66))), (mC (.str (nm 67))), (mC (.str (nm 68)))]))
    (sSeq (sSetIx 5 (mVar 4) (m2 itemD (mVar 6) (m2 modI (m2 fdivI (mVar 3) (mC (.int 7))) (mC (.int 14)))))
    (sSeq (VP.sIf (VP.tB (m2 eqG (mVar 2) (mC (.int 6)))) (sSeq (sSetIx 5 (mVar 4) (m2 itemD (mLst [(mC (.str (nm 69))), (mC (.str (nm 70))), (mC (.str (nm 71))), (mC (.str (nm 34))), (mC (.str (nm 72))), (mC (.str (nm 73))), (mC (.str (nm 74)))]) (m2 modI (m2 fdivI (mVar 3) (mC (.int 7))) (mC (.int 7)))))
    (sSeq (VP.sIf (VP.tAnd (VP.tB (m2 eqG (m2 itemS (mVar 1) (m2 subI (mVar 4) (mC (.int 1)))) (mC (.str (nm 48))))) (VP.tB (m2 eqG (mIxO 5 (mVar 4)) (mC (.str (nm 34)))))) (sSeq (sSetIx 5 (mVar 4) (mC (.str (nm 75))))
    sNx) sNx)
    sNx)) sNx)
    (sSeq (sFz 5 (sRet (mVar 5)))
    sNx))))))))))))
def f_z6 : Fn := defn 7 [false, false, false, false] b_z6
def ce_l_word_1 : M D :=
  (m1 textD (mVar 1))
def b_z9 : M Fl :=
  (sSeq (VP.sIf (VP.tNot (VP.tB (m1 (isaD "tuple") (mVar 0)))) (sSeq (sRet (m1 textD (mVar 0)))
    sNx) sNx)
    (sSeq (VP.sIf (VP.tB (m2 eqG (mVar 0) (mTup []))) (sSeq (sRet (mC (.str (nm 34))))
    sNx) sNx)
    (sSeq (sRet (mMt joinD (mC (.str (nm 35))) (mComp 1 (mSeq (mVar 0)) (VP.gName 1) (VP.ret true) ce_l_word_1)))
    sNx)))
def f_z9 : Fn := defn 1 [false] b_z9
def ce_law_1 : M D :=
  (mCall f_z3 [.io 1, .val (mVar 11)])
def ce_law_2 : M D :=
  (mCall f_z9 [.val (mVar 11)])
def lp_law_3 : M Fl :=
  (sSeq (sSet 8 (m2 itemD (mCall f_z0 []) (mCall f_z7 [.io 1, .val (mC (.int 16))])))
    (sSeq (sApp 4 (m1 tupOf (m2 addA (mLst [(m2 itemD (mVar 8) (mC (.int 0)))]) (mComp 1 (mSigns (m2 itemD (mVar 8) (mC (.int 1)))) (VP.gName 11) (VP.ret true) ce_law_1))))
    (sSeq (sApp 5 (mComp 1 (mSeq (mIxO 4 (mVar 7))) (VP.gName 11) (VP.ret true) ce_law_2))
    (sSeq (sApp 6 (m2 itemD (mVar 8) (mC (.int 1))))
    sNx))))
def ce_law_4 : M D :=
  (mMt joinD (mC (.str (nm 33))) (mVar 11))
def ce_law_5 : M D :=
  (mMt joinD (mC (.str (nm 33))) (mVar 11))
def b_law : M Fl :=
  (sSeq (sOwn 1 (mLst [(mVar 0), (mC (.int 0))]))
    (sSeq (sSet 2 (mCall f_z7 [.io 1, .val (mC (.int 10))]))
    (sSeq (sSet 3 (mCall f_z7 [.io 1, .val (mC (.int 1000003))]))
    (sSeq (sOwn 4 (mLst []))
    (sSeq (sOwn 5 (mLst []))
    (sSeq (sOwn 6 (mLst []))
    (sSeq (VP.sFor (mRng1 [(m2 addA (mC (.int 1)) (mCall f_z7 [.io 1, .val (mC (.int 5))]))]) (VP.gName 7) lp_law_3)
    (sSeq (VP.sIf (VP.tB (m2 gtI (mVar 2) (mC (.int 7)))) (sSeq (sFz 4 (sFz 5 (sRet (mCall f_z5 [.val (mCall f_z15 [.val (mMt joinD (mC (.str (nm 32))) (mComp 1 (mSeq (mVar 5)) (VP.gName 11) (VP.ret true) ce_law_4))]), .val (mVar 4)]))))
    sNx) sNx)
    (sSeq (sSet 9 (m2 modI (m2 fdivI (mVar 3) (mC (.int 100))) (m1 lenD (mRd 5))))
    (sSeq (sSetIx 5 (mVar 9) (mCall f_z6 [.val (mIxO 5 (mVar 9)), .val (mIxO 6 (mVar 9)), .val (mVar 2), .val (m2 modI (mVar 3) (mC (.int 98)))]))
    (sSeq (VP.sIf (VP.tAnd (VP.tB (m2 eqG (m2 modI (mVar 3) (mC (.int 3))) (mC (.int 0)))) (VP.tB (m2 ltI (m2 addA (mVar 9) (mC (.int 1))) (m1 lenD (mRd 5))))) (sSeq (sSetIx 5 (m1 negI (mC (.int 1))) (mLst [(mC (.str (nm 54)))]))
    sNx) sNx)
    (sSeq (sFz 5 (sSet 10 (mMt joinD (mC (.str (nm 32))) (mComp 1 (mSeq (mVar 5)) (VP.gName 11) (VP.ret true) ce_law_5))))
    (sSeq (sRet (mAndV (m2 eqG (mCall f_z1 [.val (mVar 10)]) (mVar 9)) (mCall f_z4 [.val (mVar 10)])))
    sNx)))))))))))))
def f_law : Fn := defn 11 [false] b_law
theorem whole_at (i : Int) : f_z8 [.int i] = .ok (.bl true) [] := by
  rw [f_z8, defn_at _ _ _ _ rfl]
  simp [b_z8]
theorem num_loop (xs : List Int) (y : D) (x : D) : ∀ s, free (some s) = true → ∃ a, loop (gName 2) lp_l_numbers_1 (xs.map .int) [.sh x, .sh y, s] = .ok .nx [.sh x, .sh y, a] := by
  induction xs with
  | nil => intro s _; exact ⟨_, rfl⟩
  | cons i xs ih =>
    intro s hs
    obtain ⟨a, ha⟩ := ih (.sh (.int i)) rfl
    refine ⟨a, ?_⟩
    rw [← ha]
    simp [hs, lp_l_numbers_1, whole_at]
theorem numbers_at (xs ys : List Int) : f_z2 [T xs, T ys] = .ok (.bl (decide (xs = ys))) [] := by
  rw [f_z2, defn_at _ _ _ _ rfl]
  obtain ⟨a, ha⟩ := num_loop xs (T ys) (T xs) .no rfl
  unfold b_z2
  by_cases h : xs.length = ys.length
  · have h' : (xs.length : Int) = ys.length := by omega
    simp [ha, h]
  · have h' : ¬ (xs.length : Int) = ys.length := by omega
    have : xs ≠ ys := fun e => h (by rw [e])
    simp [h', this]
def cell (ns : List Int) (k : Nat) : Int := ns.getD k 0
def Row (ns : List Int) (p : Nat) : D := .lst [Z ns, .int p]
theorem taken_at (ns : List Int) (p : Nat) (m : Int) (h : 0 < m) : f_z7 [Row ns p, .int m] = .ok (.int (cell ns p % m)) [Row ns (p + 1)] := by
  rw [f_z7, defn_at _ _ _ _ rfl]
  unfold b_z7 cell Row
  have i0 : ∀ (j : Int), ixD [Z ns, .int j] 0 = some (Z ns) := fun _ => rfl
  have i1 : ∀ (j : Int), ixD [Z ns, .int j] 1 = some (.int j) := fun _ => rfl
  have st : ∀ (i j : Int), setAt (.int 1) (.int j) (.lst [Z ns, .int i]) = some (.lst [Z ns, .int j]) := fun _ _ => rfl
  by_cases hp : p < ns.length
  · have e := ix_ints ns p (by omega) (by omega)
    simp [i0, i1, st, hp, e, modI_pos _ _ h]
  · have hp' : ¬ (p : Int) < ns.length := by omega
    have g : ns[p]? = none := List.getElem?_eq_none (by omega)
    simp [i0, i1, st, hp, g]
theorem outs_draw {A B : Type} (c : Nat) (g : Nat → B) : ∀ (ks : List A) (n : Nat), outs (fun (q : Nat) (_ : A) => q + c) (fun q _ => g q) n ks = (List.range ks.length).map fun k => g (n + c * k) := by
  intro ks
  induction ks with
  | nil => intro n; rfl
  | cons k ks ih => intro n; simp [outs, ih, List.range_succ_eq_map, Function.comp_def, Nat.mul_add, Nat.add_assoc, Nat.add_comm c]
theorem foldl_draw {A : Type} (c : Nat) : ∀ (ks : List A) (n : Nat), ks.foldl (fun (q : Nat) (_ : A) => q + c) n = n + c * ks.length := by
  intro ks
  induction ks with
  | nil => intro n; simp
  | cons k ks ih => intro n; simp [ih, Nat.mul_add]; omega
theorem comp_draw {it : M (List D)} {elt : M D} {k : Nat} {r0 : Rho} {out : D} (R : Nat → Rho) (c n p : Nat) (g : Nat → D) (hlen : ∀ q, (R q).length = k) (hds : it r0 = .ok ((List.range n).map fun (k : Nat) => .int k) (R p)) (hL : n ≤ 1000)
    (he : ∀ q j acc, elt (R q ++ [.sh (.int (j : Nat)), .ow acc]) = .ok (g q) (R (q + c) ++ [.sh (.int (j : Nat)), .ow acc])) (hout : D.lst ((List.range n).map fun k => g (p + c * k)) = out) :
    mComp 1 it (gName k) (ret true) elt r0 = .ok out (R (p + c * n)) := by
  have h := (compS (elt := elt) (fun (k : Nat) => D.int k) R (fun _ _ => True) (fun q _ => q + c) (fun q _ => g q) (List.range n) p hlen hds (by simp; omega) trivial (fun i j hj q acc _ => ⟨trivial, he q j acc⟩)).1
  rw [outs_draw, foldl_draw, List.length_range, hout] at h
  exact h
theorem names_ok : names.all strFine = true ∧ names.Nodup := ⟨by decide +kernel, by decide +kernel⟩
theorem nm_get {i : Nat} (h : i < names.length) : nm i = names[i] := by simp [nm, h]
theorem eqG_nm (i j : Nat) (hi : i < names.length) (hj : j < names.length) : eqG (.str (nm i)) (.str (nm j)) = some (.bl (decide (i = j))) := by
  have f : ∀ k, k < names.length → strFine (nm k) = true := fun k h => by
    rw [nm_get h]; exact List.all_eq_true.mp names_ok.1 _ (List.getElem_mem h)
  have e : (nm i == nm j) = decide (i = j) := by
    rw [nm_get hi, nm_get hj]
    by_cases h : i = j
    · subst h; simp
    · have : names[i] ≠ names[j] := fun z => h ((List.getElem_inj names_ok.2).mp z)
      simp [h, this]
  simp [eqG, VP.plain, f i hi, f j hj, eqB, e]
open TX PySem.NumText
theorem c32 : nm 32 = ⟨#[10]⟩ := by decide +kernel
theorem c33 : nm 33 = ⟨#[32]⟩ := by decide +kernel
theorem c34 : nm 34 = ⟨#[45]⟩ := by decide +kernel
theorem c35 : nm 35 = ⟨#[44]⟩ := by decide +kernel
theorem c36 : nm 36 = "0123456789" := by decide +kernel
theorem c37 : nm 37 = ⟨#[48]⟩ := by decide +kernel
theorem eqG_str (x y : Str) (hx : strFine x = true) (hy : strFine y = true) : eqG (.str x) (.str y) = some (.bl (x == y)) := by
  simp [eqG, VP.plain, hx, hy, eqB]
theorem neG_str (x y : Str) (hx : strFine x = true) (hy : strFine y = true) : neG (.str x) (.str y) = some (.bl (!(x == y))) := by
  simp [neG, VP.plain, hx, hy, eqB]
theorem fine_of (x : Str) (h : ∀ c ∈ x.cps.toList, c < 0x110000) : strFine x = true := by
  unfold strFine
  rw [← Array.all_toList, List.all_eq_true]
  intro c hc; simpa using h c hc
def txt (n : Int) : Str := Str.ofString (toString n)
def Big (n : Int) : Prop := n.natAbs < 10 ^ 12
theorem txt_signs (n : Int) : ∀ c ∈ (txt n).cps.toList, c = 45 ∨ (48 ≤ c ∧ c ≤ 57) := by
  intro c hc
  unfold txt at hc
  cases n with
  | ofNat m => rw [show (Int.ofNat m) = (m : Int) from rfl, txt_nat] at hc; exact .inr (digs_all m c hc)
  | negSucc m =>
    rw [txt_neg] at hc
    rcases List.mem_cons.mp hc with h | h
    · exact .inl h
    · exact .inr (digs_all _ c h)
theorem txt_fine (n : Int) : strFine (txt n) = true := fine_of _ fun c hc => by have := txt_signs n c hc; omega
theorem txt_len (n : Int) (h : Big n) : (txt n).length ≤ 13 := by
  unfold txt Big at *
  rw [← len_cps]
  cases n with
  | ofNat m => rw [show (Int.ofNat m) = (m : Int) from rfl, txt_nat]; have := digs_len 11 m (by simpa using h); omega
  | negSucc m => rw [txt_neg]; have := digs_len 11 (m + 1) (by simpa using h); simp; omega
theorem txt_digit (n : Int) : ∃ c ∈ (txt n).cps.toList, 48 ≤ c := by
  unfold txt
  cases n with
  | ofNat m =>
    rw [show (Int.ofNat m) = (m : Int) from rfl, txt_nat]
    obtain ⟨c, hc⟩ := List.exists_mem_of_ne_nil _ (digs_ne m)
    exact ⟨c, hc, (digs_all m c hc).1⟩
  | negSucc m =>
    rw [txt_neg]
    obtain ⟨c, hc⟩ := List.exists_mem_of_ne_nil _ (digs_ne (m + 1))
    exact ⟨c, List.mem_cons_of_mem _ hc, (digs_all _ c hc).1⟩
theorem figures_at (x y : Str) (m : Nat) (hy : y.cps.toList = digs m) (hm : m < 10 ^ 12) (h0 : m = 0 → x = ⟨#[48]⟩) (hx : strFine x = true) (n : Int) (hn : numD (.str x) = some (.int n)) (G : M Fl) (hG : G = (sSeq (VP.sIf (VP.tOr (VP.tNot (VP.tB (m3c leI leI (mC (.int 1)) (m1 lenS (mVar 1)) (mC (.int 12))))) (VP.tNot (VP.tB (m1 (allD true) (mComp 1 (mSigns (mVar 1)) (VP.gName 2) (VP.ret true) ce_number_read_1))))) (sSeq (sRet (mC .non))
    sNx) sNx)
    (sSeq (VP.sIf (VP.tAnd (VP.tB (m2 eqG (m2 itemS (mVar 1) (mC (.int 0))) (mC (.str (nm 37))))) (VP.tB (m2 neG (mVar 0) (mC (.str (nm 37)))))) (sSeq (sRet (mC .non))
    sNx) sNx)
    (sSeq (sRet (m1 numD (mVar 0)))
    sNx)))) : G [.sh (.str x), .sh (.str y)] = .ok (.rt (.int n)) [.sh (.str x), .sh (.str y)] := by
  subst hG
  have hl : y.length = (digs m).length := by rw [← len_cps, hy]
  have l12 := digs_len 11 m hm
  have l1 : 1 ≤ (digs m).length := List.length_pos_iff.mpr (digs_ne m)
  have ls := lenS_at y (by simp [LIM]; omega)
  have sg := signsD_at y (by simp [LIM]; omega)
  rw [hy] at sg
  have hc : mComp 1 (mSigns (mVar 1)) (VP.gName 2) (VP.ret true) ce_number_read_1 [.sh (.str x), .sh (.str y)] = .ok (.lst ((digs m).map fun c => D.bl (Txt.contains (nm 36) ⟨#[c]⟩))) [.sh (.str x), .sh (.str y)] := by
    refine compM (fun c => D.str ⟨#[c]⟩) (fun c => D.bl (Txt.contains (nm 36) ⟨#[c]⟩)) (digs m) (by simp [sg]) (by omega) rfl fun c hc acc => ?_
    simp [ce_number_read_1]
  have e := all_at (fun c : Nat => Txt.contains (nm 36) ⟨#[c]⟩) (digs m)
  have ha : (digs m).all (fun c => Txt.contains (nm 36) ⟨#[c]⟩) = true := List.all_eq_true.mpr fun c hc => by
    rw [c36]; exact fig_in' c (digs_all m c hc)
  rw [ha] at e
  have h1 : (1 : Int) ≤ y.length := by omega
  have h12 : (y.length : Int) ≤ 12 := by omega
  obtain ⟨c, r, ec⟩ : ∃ c r, digs m = c :: r := by
    cases q : digs m with
    | nil => exact absurd q (digs_ne m)
    | cons c r => exact ⟨c, r, rfl⟩
  have it : itemS (.str y) (.int 0) = some (.str ⟨#[c]⟩) := by
    have : itemS (.str y) (.int 0) = (y.cps.toList[(0 : Int).toNat]?).map fun c => D.str ⟨#[c]⟩ := if_pos ⟨by simp [LIM]; omega, by omega⟩
    rw [this, hy, ec]; rfl
  have hcd := digs_all m c (by rw [ec]; exact List.mem_cons_self)
  have f48 : strFine (nm 37) = true := by rw [c37]; exact fine_of _ (by simp)
  have fc : strFine ⟨#[c]⟩ = true := fine_of _ fun d hd => by simp at hd; omega
  have eq1 := eqG_str ⟨#[c]⟩ (nm 37) fc f48
  have ne1 := neG_str x (nm 37) hx f48
  by_cases hm0 : m = 0
  · have hx0 := h0 hm0
    have ex : (x == nm 37) = true := by rw [hx0, c37]; simp
    rw [ex] at ne1
    have ec0 : ((⟨#[c]⟩ : Str) == nm 37) = true := by
      subst hm0
      rw [digs_small (by omega)] at ec
      simp at ec
      rw [c37, ← ec.1]; simp
    rw [ec0] at eq1
    simp [ls, h1, h12, hc, e, -allD_lst, it, eq1, ne1, hn]
  · obtain ⟨c', r', ec', h49⟩ := digs_head m (by omega)
    rw [ec] at ec'
    simp at ec'
    have ne : ((⟨#[c]⟩ : Str) == nm 37) = false := by
      rw [c37]
      simp
      omega
    rw [ne] at eq1
    simp [ls, h1, h12, hc, e, -allD_lst, it, eq1, hn]
theorem number_read_at (n : Int) (h : Big n) : f_z12 [.str (txt n)] = .ok (.int n) [] := by
  rw [f_z12, defn_at _ _ _ _ rfl]
  have hl := txt_len n h
  have nb : numD (.str (txt n)) = some (.int n) := by
    have : numD (.str (txt n)) = (intText? (txt n)).map .int := if_pos (by omega)
    rw [this]; unfold txt; rw [num_back n h]; rfl
  have st := starts_sign (txt n) 45
  unfold b_z12
  simp only [startR_cons, startR_nil, rep_succ, rep_0, if_neg (show ¬ (false = true) by decide)]
  rcases (show (∃ m : Nat, n = (m : Int)) ∨ ∃ m : Nat, n = Int.negSucc m by cases n with | ofNat m => exact .inl ⟨m, rfl⟩ | negSucc m => exact .inr ⟨m, rfl⟩) with ⟨m, rfl⟩ | ⟨m, rfl⟩
  · have e : (txt (m : Int)).cps.toList = digs m := txt_nat m
    have hd : ((txt (m : Int)).cps.toList.head? == some 45) = false := by
      rw [e]
      cases q : digs m with
      | nil => rfl
      | cons c r =>
        have := digs_all m c (by rw [q]; exact List.mem_cons_self)
        simp; omega
    rw [hd, ← c34] at st
    rw [sSeq_at, show sSet 1 _ _ = .ok .nx [.sh (.str (txt (m : Int))), .sh (.str (txt (m : Int)))] by simp [st], seq_nx]
    rw [figures_at (txt (m : Int)) (txt (m : Int)) m e (by simpa [Big] using h) (fun z => by subst z; decide +kernel) (txt_fine _) _ nb _ rfl]
    simp
  · have e : (txt (Int.negSucc m)).cps.toList = 45 :: digs (m + 1) := txt_neg m
    have hd : ((txt (Int.negSucc m)).cps.toList.head? == some 45) = true := by rw [e]; simp
    rw [hd, ← c34] at st
    have hl1 : 1 ≤ (txt (Int.negSucc m)).length := by rw [← len_cps, e]; simp
    have fr := from1 (txt (Int.negSucc m)) hl1
    have fs : fromS (.str (txt (Int.negSucc m))) (.int 1) = some (.str (Txt.slice (txt (Int.negSucc m)) (some 1) none)) := if_pos (by simp [LIM]; omega)
    rw [fr, e] at fs
    rw [sSeq_at, show sSet 1 _ _ = .ok .nx [.sh (.str (txt (Int.negSucc m))), .sh (.str ⟨(digs (m + 1)).toArray⟩)] by simp [st, fs], seq_nx]
    rw [figures_at (txt (Int.negSucc m)) ⟨(digs (m + 1)).toArray⟩ (m + 1) (by simp) (by simpa [Big] using h) (fun z => by omega) (txt_fine _) _ nb _ rfl]
    simp
open TX PySem.NumText
theorem isaT_int (n : Int) : isaD "tuple" (.int n) = some (.bl false) := rfl
theorem isaT_str (x : Str) : isaD "tuple" (.str x) = some (.bl false) := rfl
theorem isaS_int (n : Int) : isaD "str" (.int n) = some (.bl false) := rfl
theorem isaS_str (x : Str) : isaD "str" (.str x) = some (.bl true) := rfl
theorem isaS_T (x : List Int) : isaD "str" (T x) = some (.bl false) := rfl
theorem isaI_str (x : Str) : isaD "int" (.str x) = some (.bl false) := rfl
theorem isaI_T (x : List Int) : isaD "int" (T x) = some (.bl false) := rfl
inductive Pt where
  | num (n : Int) | nums (xs : List Int) | deed (i : Nat)
instance : Inhabited Pt := ⟨.num 0⟩
def Pt.d : Pt → D
  | .num n => .int n
  | .nums xs => T xs
  | .deed i => .str (nm i)
def joinS (c : Nat) (ws : List Str) : Str := Txt.join ⟨#[c]⟩ ws
def Pt.w : Pt → Str
  | .num n => txt n
  | .nums [] => ⟨#[45]⟩
  | .nums (x :: xs) => joinS 44 ((x :: xs).map txt)
  | .deed i => nm i
def Few (xs : List Int) : Prop := xs.length ≤ 9 ∧ ∀ x ∈ xs, Big x
def Pt.fine : Pt → Prop
  | .num n => Big n
  | .nums xs => Few xs
  | .deed i => i < 32
theorem joinOk (c : Nat) (ws : List Str) (B : Nat) (hB : ∀ w ∈ ws, w.length ≤ B) (h : ws.length * B + ws.length ≤ 16000000) : JoinOk ⟨#[c]⟩ ws = true := by
  unfold JoinOk
  rw [StrLaws.joinFits (sep := ⟨#[c]⟩) hB (by show ws.length * B + ws.length * 1 ≤ _; omega)]; rfl
theorem joinS_len (c : Nat) (ws : List Str) (B : Nat) (hB : ∀ w ∈ ws, w.length ≤ B) : (joinS c ws).length ≤ ws.length * B + ws.length := by
  have e : joinS c ws = Str.join ⟨#[c]⟩ ws := StrLaws.glued_eq_join _ _
  rw [e]
  have h1 := StrLaws.join_length_le ⟨#[c]⟩ ws
  have h2 : (ws.map (·.length)).sum ≤ ws.length * B := by
    clear h1 e
    induction ws with
    | nil => simp
    | cons w ws ih =>
      have := ih fun v hv => hB v (List.mem_cons_of_mem _ hv)
      have := hB w List.mem_cons_self
      simp only [List.map_cons, List.sum_cons, List.length_cons, Nat.succ_mul]; omega
  have : ws.length * (⟨#[c]⟩ : Str).length = ws.length := Nat.mul_one _
  omega
theorem joinS_mem (c : Nat) (ws : List Str) : ∀ d ∈ (joinS c ws).cps.toList, d = c ∨ ∃ w ∈ ws, d ∈ w.cps.toList := by
  have e : joinS c ws = Str.join ⟨#[c]⟩ ws := StrLaws.glued_eq_join _ _
  rw [e, join_cps]
  clear e
  induction ws with
  | nil => intro d hd; simp [jl] at hd
  | cons w ws ih =>
    intro d hd
    cases ws with
    | nil => exact .inr ⟨w, List.mem_cons_self, by simpa [jl] using hd⟩
    | cons v ws =>
      simp only [List.map_cons, jl] at hd
      rcases List.mem_append.mp hd with h | h
      · exact .inr ⟨w, List.mem_cons_self, h⟩
      · rcases List.mem_cons.mp h with h | h
        · exact .inl h
        · rcases ih d (by simpa using h) with h | ⟨u, h1, h2⟩
          · exact .inl h
          · exact .inr ⟨u, List.mem_cons_of_mem _ h1, h2⟩
theorem joinS_head (c : Nat) (w : Str) (ws : List Str) : ∀ d ∈ w.cps.toList, d ∈ (joinS c (w :: ws)).cps.toList := by
  have e : joinS c (w :: ws) = Str.join ⟨#[c]⟩ (w :: ws) := StrLaws.glued_eq_join _ _
  rw [e, join_cps]
  intro d hd
  cases ws with
  | nil => simpa [jl] using hd
  | cons v ws => simp only [List.map_cons, jl]; exact List.mem_append_left _ hd
theorem names_signs : ∀ i, i < 32 → ∀ c ∈ (nm i).cps.toList, 97 ≤ c ∧ c ≤ 122 := by
  have h : (List.range 32).all (fun i => (nm i).cps.toList.all fun c => decide (97 ≤ c) && decide (c ≤ 122)) = true := by decide +kernel
  intro i hi c hc
  have := List.all_eq_true.mp (List.all_eq_true.mp h i (by simpa using hi)) c hc
  simpa using this
theorem names_len : ∀ i, i < 32 → (nm i).length ≤ 7 := by
  have h : (List.range 32).all (fun i => decide ((nm i).length ≤ 7)) = true := by decide +kernel
  intro i hi
  simpa using List.all_eq_true.mp h i (by simpa using hi)
theorem w_signs (p : Pt) (h : p.fine) : ∀ c ∈ p.w.cps.toList, c = 44 ∨ c = 45 ∨ (48 ≤ c ∧ c ≤ 57) ∨ (97 ≤ c ∧ c ≤ 122) := by
  intro c hc
  cases p with
  | num n => have := txt_signs n c hc; omega
  | nums xs =>
    cases xs with
    | nil => simp [Pt.w] at hc; omega
    | cons x xs =>
      rcases joinS_mem _ _ c hc with h | ⟨w, h1, h2⟩
      · exact .inl h
      · obtain ⟨y, _, rfl⟩ := List.mem_map.mp h1
        have := txt_signs y c h2
        omega
  | deed i => exact .inr (.inr (.inr (names_signs i h c hc)))
theorem w_len (p : Pt) (h : p.fine) : p.w.length ≤ 140 := by
  cases p with
  | num n => have := txt_len n h; simp only [Pt.w]; omega
  | nums xs =>
    cases xs with
    | nil => decide
    | cons x xs =>
      have := joinS_len 44 ((x :: xs).map txt) 13 (fun w hw => by obtain ⟨y, hy, rfl⟩ := List.mem_map.mp hw; exact txt_len y (h.2 y hy))
      have hl := h.1
      simp only [List.length_map] at this
      simp only [Pt.w]
      omega
  | deed i => have := names_len i h; simp only [Pt.w]; omega
theorem w_fine (p : Pt) (h : p.fine) : strFine p.w = true := fine_of _ fun c hc => by have := w_signs p h c hc; omega
theorem text_num (n : Int) (h : Big n) : textD (.int n) = some (.str (txt n)) := textD_int n (by unfold Big at h; omega)
theorem texts_comp (ce : M D) (hce : ce = (m1 textD (mVar 1))) (xs : List Int) (h : Few xs) : mComp 1 (mSeq (mVar 0)) (VP.gName 1) (VP.ret true) ce [.sh (T xs)] = .ok (.lst ((xs.map txt).map .str)) [.sh (T xs)] := by
  subst hce
  have hl := h.1
  refine compM D.int (fun x => .str (txt x)) xs (by simp) (by omega) (by simp) fun x hx acc => ?_
  simp [text_num x (h.2 x hx)]
theorem l_word_at (p : Pt) (h : p.fine) : f_z9 [p.d] = .ok (.str p.w) [] := by
  rw [f_z9, defn_at _ _ _ _ rfl]
  cases p with
  | num n => simp [b_z9, Pt.d, Pt.w, isaT_int, text_num n h]
  | deed i => simp [b_z9, Pt.d, Pt.w, isaT_str]
  | nums xs =>
    cases xs with
    | nil => simp [b_z9, Pt.d, Pt.w, c34, tup0]
    | cons x xs =>
      have c := texts_comp ce_l_word_1 rfl (x :: xs) h
      have jo := joinOk 44 ((x :: xs).map txt) 13 (fun w hw => by obtain ⟨y, hy, rfl⟩ := List.mem_map.mp hw; exact txt_len y (h.2 y hy)) (by have := h.1; simp only [List.length_map]; omega)
      have j := joinD_at ⟨#[44]⟩ ((x :: xs).map txt) jo
      have n0 : ¬ (x :: xs) = [] := by simp
      have e : Txt.join ⟨#[44]⟩ ((x :: xs).map txt) = (Pt.nums (x :: xs)).w := rfl
      rw [e] at j
      have d : (Pt.nums (x :: xs)).d = T (x :: xs) := rfl
      rw [d]
      generalize (Pt.nums (x :: xs)).w = w at j ⊢
      generalize x :: xs = ys at *
      simp [b_z9, n0, c, j, c35, tup0, -List.map_map]
theorem numbers_read_at (xs : List Int) (h : Few xs) : f_z13 [.str (Pt.nums xs).w] = .ok (T xs) [] := by
  rw [f_z13, defn_at _ _ _ _ rfl]
  have f34 : strFine (nm 34) = true := by rw [c34]; exact fine_of _ (by simp)
  have eq := eqG_str (Pt.nums xs).w (nm 34) (w_fine _ h) f34
  cases xs with
  | nil =>
    have e : ((Pt.nums []).w == nm 34) = true := by rw [c34]; simp [Pt.w]
    rw [e] at eq
    simp [b_z13, eq, tup0]
  | cons x xs =>
    have e : ((Pt.nums (x :: xs)).w == nm 34) = false := by
      rw [c34]
      obtain ⟨c, hc, h48⟩ := txt_digit x
      have hm := joinS_head 44 (txt x) (xs.map txt) c hc
      have ne : ¬ (Pt.nums (x :: xs)).w = ⟨#[45]⟩ := fun z => by
        have z' : joinS 44 (txt x :: xs.map txt) = ⟨#[45]⟩ := z
        rw [z'] at hm
        simp at hm
        omega
      simpa using ne
    rw [e] at eq
    have sj : Txt.split (Pt.nums (x :: xs)).w ⟨#[44]⟩ = (x :: xs).map txt := split_join 44 _ (by simp) fun w hw hc => by
      obtain ⟨y, hy, rfl⟩ := List.mem_map.mp hw
      have := txt_signs y 44 hc
      omega
    have sp := splitD_at (Pt.nums (x :: xs)).w ⟨#[44]⟩ (by decide) (by have := w_len (.nums (x :: xs)) h; omega)
    rw [sj] at sp
    have hl := h.1
    have h2 := h.2
    generalize (Pt.nums (x :: xs)).w = w at *
    generalize x :: xs = ys at *
    have hc : mComp 1 (mSeq (mMt splitD (mVar 0) (mC (.str (nm 35))))) (VP.gName 2) (VP.ret true) ce_numbers_read_1 [.sh (.str w), .no] = .ok (Z ys) [.sh (.str w), .no] := by
      refine compM (fun y => D.str (txt y)) (fun y => D.int y) ys (by simp [c35, sp]) (by omega) rfl fun y hy acc => ?_
      simp [ce_numbers_read_1, number_read_at y (h2 y hy)]
    have hc2 : mComp 1 (mSeq (mVar 1)) (VP.gName 2) (VP.ret true) ce_numbers_read_2 [.sh (.str w), .sh (Z ys)] = .ok (.lst (ys.map fun _ => D.bl false)) [.sh (.str w), .sh (Z ys)] := by
      refine compM D.int (fun _ => D.bl false) ys (by simp) (by omega) rfl fun y hy acc => ?_
      simp [ce_numbers_read_2]
    have an := any_at (fun _ : Int => false) ys
    have an2 : (ys.any fun _ => false) = false := by simp
    rw [an2] at an
    simp [b_z13, eq, hc, hc2, an, -allD_lst]
def Pt.ok (f : Nat) : Pt → Prop
  | .num n => (f = 26 ∨ f = 27) ∧ Big n
  | .nums xs => f = 28 ∧ Few xs
  | .deed i => (f = 9 ∧ i ∈ [16, 17, 18]) ∨ (f = 10 ∧ i ∈ [19, 20, 21, 22, 23, 24, 25]) ∨ (f = 12 ∧ i ∈ [19, 21, 22, 23])
theorem Pt.ok.fine {f : Nat} {p : Pt} (h : p.ok f) : p.fine := by
  cases p with
  | num n => exact h.2
  | nums xs => exact h.2
  | deed i => rcases h with ⟨_, h⟩ | ⟨_, h⟩ | ⟨_, h⟩ <;> simp at h <;> simp only [Pt.fine] <;> omega
open TX PySem.NumText
theorem n51 : 51 ≤ names.length := by decide
theorem beqT (i j : Nat) (hi : i < 51) (hj : j < 51) : (nm i == nm j) = decide (i = j) := by
  have h1 := Nat.lt_of_lt_of_le hi n51
  have h2 := Nat.lt_of_lt_of_le hj n51
  rw [nm_get h1, nm_get h2]
  by_cases h : i = j
  · subst h; simp
  · have : names[i] ≠ names[j] := fun z => h ((List.getElem_inj names_ok.2).mp z)
    simp [h, this]
theorem eqT (i j : Nat) (hi : i < 51) (hj : j < 51) : eqG (.str (nm i)) (.str (nm j)) = some (.bl (decide (i = j))) := eqG_nm i j (Nat.lt_of_lt_of_le hi n51) (Nat.lt_of_lt_of_le hj n51)
theorem fineT (k : Nat) (h : k < 51) : strFine (nm k) = true := by
  have h' := Nat.lt_of_lt_of_le h n51
  rw [nm_get h']; exact List.all_eq_true.mp names_ok.1 _ (List.getElem_mem h')
theorem part_read_at (f : Nat) (p : Pt) (h : p.ok f) : f_z14 [.str (nm f), .str p.w] = .ok p.d [] := by
  rw [f_z14, defn_at _ _ _ _ rfl]
  cases p with
  | num n =>
    have nr : f_z12 [.str (Pt.num n).w] = .ok (.int n) [] := number_read_at n h.2
    rcases h.1 with rfl | rfl <;> simp [b_z14, tabInD, tab_DEEDS, abs_DEEDS, List.lookup, beqT, eqT, nr, Pt.d]
  | nums xs =>
    have nr := numbers_read_at xs h.2
    obtain ⟨rfl, _⟩ := h
    simp [b_z14, tabInD, tab_DEEDS, abs_DEEDS, List.lookup, beqT, eqT, nr, Pt.d]
  | deed i =>
    rcases h with ⟨rfl, h⟩ | ⟨rfl, h⟩ | ⟨rfl, h⟩
    · simp at h
      rcases h with rfl | rfl | rfl <;> simp [b_z14, tabInD, tab_DEEDS, abs_DEEDS, List.lookup, beqT, inD, flatD, eqB, Pt.d, Pt.w]
    · simp at h
      rcases h with rfl | rfl | rfl | rfl | rfl | rfl | rfl <;> simp [b_z14, tabInD, tab_DEEDS, abs_DEEDS, List.lookup, beqT, inD, flatD, eqB, Pt.d, Pt.w]
    · simp at h
      rcases h with rfl | rfl | rfl | rfl <;> simp [b_z14, tabInD, tab_DEEDS, abs_DEEDS, List.lookup, beqT, inD, flatD, eqB, Pt.d, Pt.w]
def fms (k : Nat) : List Nat := [[27], [28, 27], [26, 28], [26, 27, 27, 27, 27], [26, 27, 27], [26, 27], [26, 28], [26, 28], [26, 27, 27, 27], [9, 26], [10, 26, 26], [26, 26, 26], [12, 26, 27], [12, 26, 27], [26, 27, 26], [26, 26, 27]].getD k []
theorem tab_at (k : Nat) (h : k < 16) : tab_FORMS.lookup (nm k) = some (.tup ((fms k).map fun f => .str (nm f))) := by
  have : k = 0 ∨ k = 1 ∨ k = 2 ∨ k = 3 ∨ k = 4 ∨ k = 5 ∨ k = 6 ∨ k = 7 ∨ k = 8 ∨ k = 9 ∨ k = 10 ∨ k = 11 ∨ k = 12 ∨ k = 13 ∨ k = 14 ∨ k = 15 := by omega
  rcases this with rfl | rfl | rfl | rfl | rfl | rfl | rfl | rfl | rfl | rfl | rfl | rfl | rfl | rfl | rfl | rfl <;> simp [tab_FORMS, List.lookup, beqT, fms]
structure LnT where
  k : Nat
  ps : List Pt
instance : Inhabited LnT := ⟨⟨0, []⟩⟩
structure LnT.ok (l : LnT) : Prop where
  k : l.k < 16
  ps : Each (fun f p => Pt.ok f p) (fms l.k) l.ps
def LnT.all (l : LnT) : List Pt := .deed l.k :: l.ps
def LnT.d (l : LnT) : D := .tup (l.all.map Pt.d)
def LnT.ws (l : LnT) : List Str := l.all.map Pt.w
def LnT.row (l : LnT) : Str := joinS 32 l.ws
theorem LnT.ok.fine {l : LnT} (h : l.ok) : ∀ p ∈ l.all, p.fine := fun p hp => by
  rcases List.mem_cons.mp hp with rfl | hp
  · have := h.k; simp only [Pt.fine]; omega
  · obtain ⟨f, _, ho⟩ := h.ps.right p hp
    exact ho.fine
theorem fms_len (k : Nat) (h : k < 16) : 1 ≤ (fms k).length ∧ (fms k).length ≤ 5 := by
  have : (List.range 16).all (fun k => decide (1 ≤ (fms k).length) && decide ((fms k).length ≤ 5)) = true := by decide
  simpa using List.all_eq_true.mp this k (by simpa using h)
theorem LnT.ok.len {l : LnT} (h : l.ok) : l.all.length ≤ 6 := by
  have := h.ps.len
  have := (fms_len l.k h.k).2
  simp only [LnT.all, List.length_cons]; omega
theorem LnT.ok.jo {l : LnT} (h : l.ok) : JoinOk ⟨#[32]⟩ l.ws = true := joinOk 32 _ 140 (fun w hw => by obtain ⟨p, hp, rfl⟩ := List.mem_map.mp hw; exact w_len p (h.fine p hp)) (by have := h.len; simp only [LnT.ws, List.length_map]; omega)
theorem LnT.ok.rowLen {l : LnT} (h : l.ok) : l.row.length ≤ 900 := by
  have := joinS_len 32 l.ws 140 (fun w hw => by obtain ⟨p, hp, rfl⟩ := List.mem_map.mp hw; exact w_len p (h.fine p hp))
  have := h.len
  simp only [LnT.row, LnT.ws, List.length_map] at *
  omega
theorem LnT.ok.signs {l : LnT} (h : l.ok) : ∀ c ∈ l.row.cps.toList, c = 32 ∨ c = 44 ∨ c = 45 ∨ (48 ≤ c ∧ c ≤ 57) ∨ (97 ≤ c ∧ c ≤ 122) := fun c hc => by
  rcases joinS_mem _ _ c hc with h1 | ⟨w, h1, h2⟩
  · exact .inl h1
  · obtain ⟨p, hp, rfl⟩ := List.mem_map.mp h1
    exact .inr (w_signs p (h.fine p hp) c h2)
theorem line_read_at (l : LnT) (h : l.ok) : f_z11 [.lst (l.ws.map .str)] = .ok l.d [] := by
  rw [f_z11, defn_at _ _ _ _ rfl]
  obtain ⟨k, ps⟩ := l
  have hk : k < 16 := h.k
  have hp : Each (fun f p => Pt.ok f p) (fms k) ps := h.ps
  have ht := tab_at k hk
  have hl := hp.len
  have fl := fms_len k hk
  have tn : tabInD true tab_FORMS abs_FORMS (.str (nm k)) = some (.bl false) := by unfold tabInD; dsimp only; rw [ht]; rfl
  have td : tabD tab_FORMS (.str (nm k)) = some (.tup ((fms k).map fun f => .str (nm f))) := ht
  have ws : (LnT.mk k ps).ws.map D.str = .str (nm k) :: (ps.map fun p => D.str p.w) := by simp [LnT.ws, LnT.all, Pt.w]
  rw [ws]
  generalize fms k = fs at *
  have cu : cutA (.lst (.str (nm k) :: (ps.map fun p => D.str p.w))) (some 1) none = some (.lst (ps.map fun p => D.str p.w)) := by
    rw [cutA_lst, cutD]
    simp only [sIxP]
    simp
    exact List.take_of_length_le (by simp)
  have zp : zipL [.tup (fs.map fun f => D.str (nm f)), .lst (ps.map fun p => D.str p.w)] = some ((fs.zip ps).map fun q => .tup [.str (nm q.1), .str q.2.w]) := by
    simp only [zipL, seqD_tup, seqD_lst]
    congr 1
    clear hl fl cu td tn ht ws h
    induction hp with
    | nil => rfl
    | cons _ _ ih => simp [ih]
  have zz : ∀ q ∈ fs.zip ps, Pt.ok q.1 q.2 := by
    clear hl fl cu td tn ht ws h zp
    induction hp with
    | nil => intro q hq; simp at hq
    | cons a _ ih =>
      intro q hq
      simp only [List.zip_cons_cons, List.mem_cons] at hq
      rcases hq with rfl | hq
      · exact a
      · exact ih q hq
  have zm : (fs.zip ps).map (fun q => q.2.d) = ps.map Pt.d := by
    clear fl cu td tn ht ws h zp zz hl
    induction hp with
    | nil => rfl
    | cons _ _ ih => simp [ih]
  have zl : (fs.zip ps).length ≤ 5 := by simp; omega
  have hc : mComp 2 (mZip [(m1 (tabD tab_FORMS) (mVar 1)), (mSl cutA (mVar 0) (some (mC (.int 1))) none)]) (VP.gTup [3, 4]) (VP.ret true) ce_line_read_1 [.sh (.lst (.str (nm k) :: (ps.map fun p => D.str p.w))), .sh (.str (nm k)), .no] = .ok (.lst (ps.map Pt.d)) [.sh (.lst (.str (nm k) :: (ps.map fun p => D.str p.w))), .sh (.str (nm k)), .no] := by
    refine compM2 (fun (q : Nat × Pt) => D.str (nm q.1)) (fun q => D.str q.2.w) (fun q => q.2.d) (fs.zip ps) (by simp [td, cu, zp]) (by omega) (by rw [zm]) fun q hq acc => ?_
    simp [ce_line_read_1, part_read_at q.1 q.2 (zz q hq)]
  have hc2 : mComp 1 (mSeq (mVar 2)) (VP.gName 3) (VP.ret true) ce_line_read_2 [.sh (.lst (.str (nm k) :: (ps.map fun p => D.str p.w))), .sh (.str (nm k)), .sh (.lst (ps.map Pt.d))] = .ok (.lst (ps.map fun _ => D.bl false)) [.sh (.lst (.str (nm k) :: (ps.map fun p => D.str p.w))), .sh (.str (nm k)), .sh (.lst (ps.map Pt.d))] := by
    refine compM Pt.d (fun _ => D.bl false) ps (by simp) (by omega) rfl fun p hp acc => ?_
    have ns : ∀ x, isNon (.str x) = false := fun _ => rfl
    cases p <;> simp [ce_line_read_2, Pt.d, ns]
  have an := any_at (fun _ : Pt => false) ps
  have an2 : (ps.any fun _ => false) = false := by simp
  rw [an2] at an
  have nl : ((ps.map fun p => D.str p.w).length : Int) + 1 = 1 + ((fs.map fun f => D.str (nm f)).length : Int) := by simp; omega
  have ad : addA (.tup [.str (nm k)]) (.tup (ps.map Pt.d)) = some (.tup (.str (nm k) :: ps.map Pt.d)) := by
    rw [addA_tup] <;> simp [LIM]; omega
  have ed : (LnT.mk k ps).d = .tup (.str (nm k) :: ps.map Pt.d) := by simp [LnT.d, LnT.all, Pt.d]
  have ln : lenD (.tup (fs.map fun f => D.str (nm f))) = some (.int fs.length) := by simp
  have ln2 : lenD (.lst (.str (nm k) :: (ps.map fun p => D.str p.w))) = some (.int (1 + fs.length)) := by simp; omega
  have i0 : itemD (.lst (.str (nm k) :: (ps.map fun p => D.str p.w))) (.int 0) = some (.str (nm k)) := by simp
  rw [ed]
  generalize hW : D.lst (.str (nm k) :: (ps.map fun p => D.str p.w)) = W at *
  simp [b_z11, i0, tn, td, ln, ln2, hc, hc2, an, -allD_lst, ad]
open TX PySem.NumText
def PrD (ls : List LnT) : D := .lst (ls.map LnT.d)
def PrT (ls : List LnT) : Str := joinS 10 (ls.map LnT.row)
def Oks (ls : List LnT) : Prop := ∀ l ∈ ls, l.ok
theorem pr_len (ls : List LnT) (h : Oks ls) (hl : ls.length ≤ 100) : (PrT ls).length ≤ 100000 := by
  have := joinS_len 10 (ls.map LnT.row) 900 (fun w hw => by obtain ⟨l, h1, rfl⟩ := List.mem_map.mp hw; exact (h l h1).rowLen)
  simp only [List.length_map] at this
  unfold PrT
  omega
def free3 (t : Sl × Sl × Sl) : Prop := free (some t.1) = true ∧ free (some t.2.1) = true ∧ free (some t.2.2) = true
theorem row_split (l : LnT) (h : l.ok) : splitD (.str l.row) (.str ⟨#[32]⟩) = some (.lst (l.ws.map .str)) := by
  rw [splitD_at _ _ (by decide) (by have := h.rowLen; omega)]
  rw [show Txt.split l.row ⟨#[32]⟩ = l.ws from split_join 32 l.ws (by simp [LnT.ws, LnT.all]) fun w hw hc => by
    obtain ⟨p, hp, rfl⟩ := List.mem_map.mp hw
    have := w_signs p (h.fine p hp) 32 hc
    omega]
theorem read_program_at (ls : List LnT) (h : Oks ls) (h0 : ls ≠ []) (hl : ls.length ≤ 100) : f_z15 [.str (PrT ls)] = .ok (PrD ls) [] := by
  rw [f_z15, defn_at _ _ _ _ rfl]
  have sp := splitD_at (PrT ls) ⟨#[10]⟩ (by decide) (by have := pr_len ls h hl; omega)
  rw [show Txt.split (PrT ls) ⟨#[10]⟩ = ls.map LnT.row from split_join 10 _ (by simpa using h0) fun w hw hc => by
    obtain ⟨l, h1, rfl⟩ := List.mem_map.mp hw
    have := (h l h1).signs 10 hc
    omega] at sp
  have en : enumL ((ls.map LnT.row).map .str) = ((List.range ls.length).zip ls).map fun q => D.tup [.int (q.1 : Nat), .str q.2.row] := by
    rw [List.map_map, show (D.str ∘ LnT.row) = fun l => D.str l.row from rfl, enumL_map]
    rw [← List.map_uncurry_zip_eq_zipWith]; rfl
  obtain ⟨hP, t, _, L⟩ := loop_foldM (g := gTup [2, 3]) (body := lp_read_program_1) (fun (q : Nat × LnT) => D.tup [.int (q.1 : Nat), .str q.2.row]) (fun (s : List LnT) (t : Sl × Sl × Sl) => [.sh (.str (PrT ls)), .ow (PrD s), t.1, t.2.1, t.2.2]) free3
    (fun k s => s = ls.take k) (fun s q => s ++ [q.2]) ((List.range ls.length).zip ls) [] (.no, .no, .no) ⟨rfl, rfl, rfl⟩ rfl (by
      intro i q hq s t ht hP
      obtain ⟨t2, t3, t4⟩ := t
      obtain ⟨f2, f3, f4⟩ := ht
      dsimp only at f2 f3 f4
      obtain ⟨qi, l⟩ := q
      have hi : i < ls.length := by have := (List.getElem?_eq_some_iff.mp hq).1; simp at this; exact this
      rw [List.getElem?_zip_eq_some] at hq
      obtain ⟨q1, q2⟩ := hq
      have hm : l ∈ ls := List.mem_of_getElem? q2
      have hs : s = ls.take i := hP
      have rs := row_split l (h l hm)
      have lr := line_read_at l (h l hm)
      have ap : appD l.d (PrD s) = some (PrD (s ++ [l])) := by
        unfold PrD; rw [appD_at _ _ (by rw [hs]; simp; omega), List.map_append]; rfl
      have nn : isNon l.d = false := rfl
      have il : isLst (some (PrD s)) = true := rfl
      refine ⟨?_, (.sh (.int qi), .sh (.str l.row), .sh l.d), ⟨rfl, rfl, rfl⟩, ?_⟩
      · rw [hs]
        have e2 : ls[i] = l := by have := List.getElem?_eq_some_iff.mp q2; exact this.2
        rw [List.take_succ]; simp [hi, e2]
      · simp [turn1, lp_read_program_1, f2, f3, f4, c33, rs, lr, nn, il, ap])
  have hP' : ((List.range ls.length).zip ls).foldl (fun s q => s ++ [q.2]) [] = ls := by rw [hP]; exact List.take_of_length_le (by simp)
  rw [hP'] at L
  have l0 : D.lst [] = PrD [] := rfl
  simp [b_z15, c32, sp, en, l0, L, -List.map_map]
theorem parts_loop (x y z : D) : ∀ (ps : List Pt), (∀ p ∈ ps, p.fine) → ∀ (s3 s4 : Sl), free (some s3) = true → free (some s4) = true → ∃ a b, free (some a) = true ∧ free (some b) = true ∧ loop (gTup [3, 4]) lp_l_same_1 (ps.map fun p => D.tup [p.d, p.d]) [.sh x, .sh y, .sh z, s3, s4] = .ok .nx [.sh x, .sh y, .sh z, a, b]
  | [], _, s3, s4, h3, h4 => ⟨s3, s4, h3, h4, rfl⟩
  | p :: ps, h, s3, s4, h3, h4 => by
    obtain ⟨a, b, ha, hb, e⟩ := parts_loop x y z ps (fun q hq => h q (List.mem_cons_of_mem _ hq)) (.sh p.d) (.sh p.d) rfl rfl
    refine ⟨a, b, ha, hb, ?_⟩
    rw [← e]
    have hp := h p List.mem_cons_self
    cases p with
    | num n => simp [lp_l_same_1, h3, h4, Pt.d, isaT_int, isaS_int, whole_at]
    | nums xs =>
      have nw : f_z8 [T xs] = .ok (.bl false) [] := by
        rw [f_z8, defn_at _ _ _ _ rfl]; simp [b_z8, isaI_T]
      simp [lp_l_same_1, h3, h4, Pt.d, isaS_T, numbers_at, nw]
    | deed i =>
      have nw : f_z8 [.str (nm i)] = .ok (.bl false) [] := by
        rw [f_z8, defn_at _ _ _ _ rfl]; simp [b_z8, isaI_str]
      have hi : i < 32 := hp
      have eq := eqT i i (by omega) (by omega)
      simp [lp_l_same_1, h3, h4, Pt.d, isaT_str, isaS_str, nw, eq]
theorem same_at (ls : List LnT) (h : Oks ls) (hl : ls.length ≤ 100) : f_z5 [PrD ls, PrD ls] = .ok (.bl true) [] := by
  rw [f_z5, defn_at _ _ _ _ rfl]
  have il : isaD "list" (PrD ls) = some (.bl true) := by rw [PrD, isaD_lst]; rfl
  have ln : lenD (PrD ls) = some (.int ls.length) := by simp [PrD]
  have er : rng1 [.int (ls.length : Int)] = some ((List.range ls.length).map fun (k : Nat) => .int k) := rng1_nat _ _ (by omega) (by omega) (by omega)
  obtain ⟨_, t, _, L⟩ := loop_foldM (g := gName 2) (body := lp_l_same_2) (fun (k : Nat) => D.int k) (fun (_ : Unit) (t : Sl × Sl × Sl) => [.sh (PrD ls), .sh (PrD ls), t.1, t.2.1, t.2.2]) free3 (fun _ _ => True) (fun _ _ => ()) (List.range ls.length) () (.no, .no, .no) ⟨rfl, rfl, rfl⟩ trivial (by
    intro i k hk _ t ht _
    obtain ⟨t2, t3, t4⟩ := t
    obtain ⟨f2, f3, f4⟩ := ht
    dsimp only at f2 f3 f4
    obtain ⟨rfl, hk⟩ := range_at hk
    have hm : ls[k] ∈ ls := List.getElem_mem hk
    have ix : itemD (PrD ls) (.int k) = some ls[k].d := Eq.trans (show itemD (PrD ls) (.int k) = ixD (ls.map LnT.d) k from rfl) (ixD_at _ _ _ (by omega) (by simp [hk]))
    have hf := (h _ hm).fine
    generalize ls[k] = l at hm ix hf
    have it : isaD "tuple" l.d = some (.bl true) := rfl
    have lnl : lenD l.d = some (.int l.all.length) := by simp [LnT.d]
    have zp : zipL [l.d, l.d] = some (l.all.map fun p => D.tup [p.d, p.d]) := by
      simp only [zipL, LnT.d, seqD_tup]
      refine congrArg some ?_
      generalize l.all = qs
      induction qs with
      | nil => rfl
      | cons q qs ih => simp [ih]
    obtain ⟨a, b, ha, hb, e⟩ := parts_loop (PrD ls) (PrD ls) (.int k) l.all hf t3 t4 f3 f4
    refine ⟨trivial, (.sh (.int k), a, b), ⟨rfl, ha, hb⟩, ?_⟩
    simp [turn1, lp_l_same_2, f2, ix, it, lnl, zp, e])
  simp [b_z5, il, ln, er, L]
open TX PySem.NumText
def sg (f : Nat) : Nat := if f = 28 then 115 else if f = 9 then 49 else if f = 10 then 50 else if f = 12 then 102 else 110
def tx (k : Nat) : Nat := [38, 39, 40, 41, 42, 43, 40, 40, 44, 45, 46, 42, 47, 47, 42, 42].getD k 0
theorem tx_signs : ∀ k, k < 16 → (nm (tx k)).cps.toList = (fms k).map sg := by
  have h : (List.range 16).all (fun k => decide ((nm (tx k)).cps.toList = (fms k).map sg)) = true := by decide +kernel
  intro k hk
  simpa using List.all_eq_true.mp h k (by simpa using hk)
theorem sg_fine (f : Nat) : strFine ⟨#[sg f]⟩ = true := fine_of _ fun c hc => by
  simp at hc; subst hc; unfold sg; split <;> (try split) <;> (try split) <;> (try split) <;> omega
theorem sgn (f i : Nat) (hi : i < 51) (b : Bool) (h : ((⟨#[sg f]⟩ : Str) == nm i) = b) : eqG (.str ⟨#[sg f]⟩) (.str (nm i)) = some (.bl b) := by
  rw [eqG_str _ _ (sg_fine f) (fineT i hi), h]
theorem pow12 : powI (.int 10) (.int 12) = some (.int 1000000000000) := by
  simp only [powI]
  rw [if_pos ⟨by decide, by decide, by decide⟩]; rfl
theorem part_at (ns : List Int) (q : Nat) (f : Nat) (hf : f ∈ [26, 27, 28, 9, 10, 12]) : ∃ q' p, Pt.ok f p ∧ f_z3 [Row ns q, .str ⟨#[sg f]⟩] = .ok p.d [Row ns q'] := by
  rw [f_z3, defn_at _ _ _ _ rfl]
  have num : ∀ f, f = 26 ∨ f = 27 → ((⟨#[sg f]⟩ : Str) == nm 38) = true → ∃ q' p, Pt.ok f p ∧ fin [true, false] (b_z3 (startR 5 [true, false] [Row ns q, .str ⟨#[sg f]⟩])) = .ok p.d [Row ns q'] := fun f hf hs => by
    have s1 := sgn f 38 (by omega) true hs
    have t1 := taken_at ns q 4 (by omega)
    have t2 := taken_at ns (q + 1) 1000000000000 (by omega)
    have x0 : 0 ≤ cell ns (q + 1) % 1000000000000 := Int.emod_nonneg _ (by omega)
    have x1 : cell ns (q + 1) % 1000000000000 < 1000000000000 := Int.emod_lt_of_pos _ (by omega)
    have w0 : 0 ≤ cell ns q % 4 := Int.emod_nonneg _ (by omega)
    have w1 : cell ns q % 4 < 4 := Int.emod_lt_of_pos _ (by omega)
    generalize cell ns (q + 1) % 1000000000000 = x at t2 x0 x1
    generalize cell ns q % 4 = w at t1 w0 w1
    have md := modI_pos x 50 (by omega)
    have w' : w = 0 ∨ w = 1 ∨ w = 2 ∨ w = 3 := by omega
    rcases w' with rfl | rfl | rfl | rfl
    · exact ⟨q + 2, .num (x % 50 - 9), ⟨hf, by unfold Big; omega⟩, by simp [b_z3, s1, t1, pow12, t2, md, Pt.d]⟩
    · exact ⟨q + 2, .num (x % 50 - 9), ⟨hf, by unfold Big; omega⟩, by simp [b_z3, s1, t1, pow12, t2, md, Pt.d]⟩
    · exact ⟨q + 2, .num x, ⟨hf, by unfold Big; omega⟩, by simp [b_z3, s1, t1, pow12, t2, Pt.d]⟩
    · have i1 : ∀ a b : D, ixD [a, b] 1 = some b := fun _ _ => rfl
      exact ⟨q + 2, .num (0 - x), ⟨hf, by unfold Big; omega⟩, by simp [b_z3, s1, t1, pow12, t2, Pt.d, i1]⟩
  have sel : ∀ (xs : List Nat) (m : Int), 0 ≤ m → m < xs.length → ∃ i ∈ xs, ixD (xs.map fun i => D.str (nm i)) m = some (.str (nm i)) := fun xs m h0 h1 => by
    have hm : m.toNat < xs.length := by omega
    exact ⟨xs[m.toNat], List.getElem_mem hm, ixD_at _ _ _ h0 (by simp [hm])⟩
  simp at hf
  rcases hf with rfl | rfl | rfl | rfl | rfl | rfl
  · exact num 26 (.inl rfl) (by decide +kernel)
  · exact num 27 (.inr rfl) (by decide +kernel)
  · have s1 := sgn 28 38 (by omega) false (by decide +kernel)
    have s2 := sgn 28 48 (by omega) true (by decide +kernel)
    have t10 := taken_at ns q 10 (by omega)
    have n0 : 0 ≤ cell ns q % 10 := Int.emod_nonneg _ (by omega)
    have n1 : cell ns q % 10 < 10 := Int.emod_lt_of_pos _ (by omega)
    generalize cell ns q % 10 = m at t10 n0 n1
    have hc : mComp 1 (mRng1 [(mCall f_z7 [.io 0, .val (mC (.int 10))])]) (VP.gName 5) (VP.ret true) ce_l_part_1 [.io (Row ns q), .sh (.str ⟨#[sg 28]⟩), .no, .no, .no] = .ok (Z ((List.range m.toNat).map fun k => cell ns (q + 1 + 1 * k) % 70 - 3)) [.io (Row ns (q + 1 + 1 * m.toNat)), .sh (.str ⟨#[sg 28]⟩), .no, .no, .no] := by
      refine comp_draw (fun q => [.io (Row ns q), .sh (.str ⟨#[sg 28]⟩), .no, .no, .no]) 1 _ _ (fun q => .int (cell ns q % 70 - 3)) (fun _ => rfl) ?_ (by omega) (fun q j acc => ?_) (by simp [Z, Function.comp_def])
      · have e : rng1 [.int m] = some ((List.range m.toNat).map fun (k : Nat) => .int k) := rng1_nat _ _ rfl (by omega) (by omega)
        simp [t10, e]
      · have a1 := taken_at ns q 70 (by omega)
        simp [ce_l_part_1, a1]
    refine ⟨_, .nums ((List.range m.toNat).map fun k => cell ns (q + 1 + 1 * k) % 70 - 3), ⟨rfl, by simp; omega, fun x hx => ?_⟩, by simp [b_z3, s1, s2, hc, Pt.d]; rfl⟩
    obtain ⟨k, _, rfl⟩ := List.mem_map.mp hx
    unfold Big
    omega
  · have s1 := sgn 9 38 (by omega) false (by decide +kernel)
    have s2 := sgn 9 48 (by omega) false (by decide +kernel)
    have s3 := sgn 9 49 (by omega) true (by decide +kernel)
    have t3 := taken_at ns q 3 (by omega)
    obtain ⟨i, hi, e⟩ := sel [16, 17, 18] (cell ns q % 3) (by omega) (by simp; omega)
    simp only [List.map_cons, List.map_nil] at e
    exact ⟨q + 1, .deed i, .inl ⟨rfl, hi⟩, by simp [b_z3, s1, s2, s3, t3, e, Pt.d]⟩
  · have s1 := sgn 10 38 (by omega) false (by decide +kernel)
    have s2 := sgn 10 48 (by omega) false (by decide +kernel)
    have s3 := sgn 10 49 (by omega) false (by decide +kernel)
    have s4 := sgn 10 50 (by omega) false (by decide +kernel)
    have t7 := taken_at ns q 7 (by omega)
    obtain ⟨i, hi, e⟩ := sel [19, 21, 22, 23, 20, 24, 25] (cell ns q % 7) (by omega) (by simp; omega)
    simp only [List.map_cons, List.map_nil] at e
    have ad : addA (.lst [.str (nm 19), .str (nm 21), .str (nm 22), .str (nm 23)]) (.lst [.str (nm 20), .str (nm 24), .str (nm 25)]) = some (.lst [.str (nm 19), .str (nm 21), .str (nm 22), .str (nm 23), .str (nm 20), .str (nm 24), .str (nm 25)]) := by
      rw [addA_lst] <;> simp [LIM]
    exact ⟨q + 1, .deed i, .inr (.inl ⟨rfl, by simp at hi ⊢; omega⟩), by simp [b_z3, s1, s2, s3, s4, t7, ad, e, Pt.d]⟩
  · have s1 := sgn 12 38 (by omega) false (by decide +kernel)
    have s2 := sgn 12 48 (by omega) false (by decide +kernel)
    have s3 := sgn 12 49 (by omega) false (by decide +kernel)
    have s4 := sgn 12 50 (by omega) true (by decide +kernel)
    have t4 := taken_at ns q 4 (by omega)
    obtain ⟨i, hi, e⟩ := sel [19, 21, 22, 23] (cell ns q % 4) (by omega) (by simp; omega)
    simp only [List.map_cons, List.map_nil] at e
    exact ⟨q + 1, .deed i, .inr (.inr ⟨rfl, hi⟩), by simp [b_z3, s1, s2, s3, s4, t4, e, Pt.d]⟩
theorem forms_at : f_z0 [] = .ok (.lst ((List.range 16).map fun k => D.tup [.str (nm k), .str (nm (tx k))])) [] := by
  rw [f_z0, defn_at _ _ _ _ rfl]
  have a1 : ∀ xs ys : List D, xs.length + ys.length ≤ 100 → addA (.lst xs) (.lst ys) = some (.lst (xs ++ ys)) := fun xs ys h => by rw [addA_lst] <;> simp [LIM] <;> omega
  simp [b_z0, a1, List.range_succ, tx]
theorem fms_mem : ∀ k, k < 16 → ∀ f ∈ fms k, f ∈ [26, 27, 28, 9, 10, 12] := by
  have h : (List.range 16).all (fun k => (fms k).all fun f => decide (f ∈ [26, 27, 28, 9, 10, 12])) = true := by decide
  intro k hk f hf
  simpa using List.all_eq_true.mp (List.all_eq_true.mp h k (by simpa using hk)) f hf
open TX PySem.NumText
def figs (cs : List Nat) : List Nat := if cs.head? == some 45 then cs.drop 1 else cs
def figure (c : Nat) : Bool := Txt.contains (nm 36) ⟨#[c]⟩
def badN (w : Str) : Bool := (figs w.cps.toList).length == 0 || decide (12 < (figs w.cps.toList).length) || !((figs w.cps.toList).all figure) || ((figs w.cps.toList).head? == some 48 && !(w.cps.toList == [48]))
theorem none_at (x y : Str) (hy : y.cps.toList = figs x.cps.toList) (hl : y.length ≤ 640) (hx : strFine x = true) (hfy : strFine y = true) (hb : badN x = true) (G : M Fl) (hG : G = (sSeq (VP.sIf (VP.tOr (VP.tNot (VP.tB (m3c leI leI (mC (.int 1)) (m1 lenS (mVar 1)) (mC (.int 12))))) (VP.tNot (VP.tB (m1 (allD true) (mComp 1 (mSigns (mVar 1)) (VP.gName 2) (VP.ret true) ce_number_read_1))))) (sSeq (sRet (mC .non))
    sNx) sNx)
    (sSeq (VP.sIf (VP.tAnd (VP.tB (m2 eqG (m2 itemS (mVar 1) (mC (.int 0))) (mC (.str (nm 37))))) (VP.tB (m2 neG (mVar 0) (mC (.str (nm 37)))))) (sSeq (sRet (mC .non))
    sNx) sNx)
    (sSeq (sRet (m1 numD (mVar 0)))
    sNx)))) : G [.sh (.str x), .sh (.str y)] = .ok (.rt .non) [.sh (.str x), .sh (.str y)] := by
  subst hG
  have ls := lenS_at y (by simp [LIM]; omega)
  have sg := signsD_at y (by simp [LIM]; omega)
  have hlen : y.length = (figs x.cps.toList).length := by rw [← len_cps, hy]
  rw [hy] at sg
  unfold badN at hb
  generalize hF : figs x.cps.toList = F at *
  by_cases h1 : (1 : Int) ≤ y.length
  · by_cases h12 : (y.length : Int) ≤ 12
    · have hc : mComp 1 (mSigns (mVar 1)) (VP.gName 2) (VP.ret true) ce_number_read_1 [.sh (.str x), .sh (.str y)] = .ok (.lst (F.map fun c => D.bl (figure c))) [.sh (.str x), .sh (.str y)] := by
        refine compM (fun c => D.str ⟨#[c]⟩) (fun c => D.bl (figure c)) F (by simp [sg]) (by omega) rfl fun c hc acc => ?_
        simp [ce_number_read_1, figure]
      have e := all_at figure F
      cases ha : F.all figure with
      | false =>
        rw [ha] at e
        simp [ls, h1, h12, hc, e, -allD_lst]
      | true =>
        rw [ha] at hb e
        obtain ⟨c, r, ec⟩ : ∃ c r, F = c :: r := by
          cases F with
          | nil => simp at hlen; omega
          | cons c r => exact ⟨c, r, rfl⟩
        have nlen : ¬ 12 < F.length := by omega
        have h0 : ¬ F.length = 0 := by omega
        simp [ec] at hb
        simp [ec] at nlen
        have hb' : c = 48 ∧ ¬ x.cps.toList = [48] := by
          rcases hb with h | h
          · omega
          · exact ⟨h.1, by simpa using h.2⟩
        obtain ⟨rfl, hne⟩ := hb'
        have it : itemS (.str y) (.int 0) = some (.str ⟨#[48]⟩) := by
          have : itemS (.str y) (.int 0) = (y.cps.toList[(0 : Int).toNat]?).map fun c => D.str ⟨#[c]⟩ := if_pos ⟨by simp [LIM]; omega, by omega⟩
          rw [this, hy, ec]; rfl
        have f48 : strFine (nm 37) = true := by rw [c37]; exact fine_of _ (by simp)
        have eq1 := eqG_str ⟨#[48]⟩ (nm 37) (by rw [← c37]; exact f48) f48
        have ne1 := neG_str x (nm 37) hx f48
        rw [show ((⟨#[48]⟩ : Str) == nm 37) = true by rw [c37]; simp] at eq1
        rw [show (x == nm 37) = false by
          rw [c37]
          have : ¬ x = ⟨#[48]⟩ := fun z => hne (by rw [z])
          simpa using this] at ne1
        simp [ls, h1, h12, hc, e, -allD_lst, it, eq1, ne1]
    · simp [ls, h1, h12]
  · simp [ls, h1]
theorem number_none (w : Str) (hl : w.length ≤ 640) (hf : strFine w = true) (hb : badN w = true) : f_z12 [.str w] = .ok .non [] := by
  rw [f_z12, defn_at _ _ _ _ rfl]
  have st := starts_sign w 45
  rw [← c34] at st
  unfold b_z12
  simp only [startR_cons, startR_nil, rep_succ, rep_0, if_neg (show ¬ (false = true) by decide)]
  cases hd : w.cps.toList.head? == some 45 with
  | false =>
    rw [hd] at st
    rw [sSeq_at, show sSet 1 _ _ = .ok .nx [.sh (.str w), .sh (.str w)] by simp [st], seq_nx]
    rw [none_at w w (by unfold figs; rw [hd]; rfl) hl hf hf hb _ rfl]
    simp
  | true =>
    rw [hd] at st
    have hl1 : 1 ≤ w.length := by
      rw [← len_cps]
      cases q : w.cps.toList with
      | nil => rw [q] at hd; simp at hd
      | cons c r => simp
    have fr := from1 w hl1
    have fs : fromS (.str w) (.int 1) = some (.str (Txt.slice w (some 1) none)) := if_pos (by simp [LIM]; omega)
    rw [fr] at fs
    rw [sSeq_at, show sSet 1 _ _ = .ok .nx [.sh (.str w), .sh (.str ⟨(w.cps.toList.drop 1).toArray⟩)] by simp [st, fs], seq_nx]
    rw [none_at w ⟨(w.cps.toList.drop 1).toArray⟩ (by unfold figs; rw [hd]; simp) (by
      rw [← len_cps]; show (w.cps.toList.drop 1).toArray.toList.length ≤ 640; simp; rw [← len_cps] at hl; simp at hl; omega) hf (by
      refine fine_of _ fun c hc => ?_
      have hm : c ∈ w.cps.toList := List.mem_of_mem_tail (by simpa using hc)
      unfold strFine at hf
      rw [← Array.all_toList, List.all_eq_true] at hf
      simpa using hf c hm) hb _ rfl]
    simp
def BW : List Nat := [56, 57, 58, 59, 60, 61, 62, 63, 64, 65, 54, 66, 67, 68, 69, 70, 71, 34, 73, 74, 75]
theorem n92 : 92 ≤ names.length := by decide
theorem beqU (i j : Nat) (hi : i < 92) (hj : j < 92) : (nm i == nm j) = decide (i = j) := by
  have h1 := Nat.lt_of_lt_of_le hi n92
  have h2 := Nat.lt_of_lt_of_le hj n92
  rw [nm_get h1, nm_get h2]
  by_cases h : i = j
  · subst h; simp
  · have : names[i] ≠ names[j] := fun z => h ((List.getElem_inj names_ok.2).mp z)
    simp [h, this]
theorem fineU (k : Nat) (h : k < 92) : strFine (nm k) = true := by
  have h' := Nat.lt_of_lt_of_le h n92
  rw [nm_get h']; exact List.all_eq_true.mp names_ok.1 _ (List.getElem_mem h')
theorem eqU (i j : Nat) (hi : i < 92) (hj : j < 92) : eqG (.str (nm i)) (.str (nm j)) = some (.bl (decide (i = j))) := by
  rw [eqG_str _ _ (fineU i hi) (fineU j hj), beqU i j hi hj]
theorem lenU : ∀ i, i < 92 → (nm i).length ≤ 20 := by
  have h : (List.range 92).all (fun i => decide ((nm i).length ≤ 20)) = true := by decide +kernel
  intro i hi
  simpa using List.all_eq_true.mp h i (by simpa using hi)
theorem bw_lt (i : Nat) (h : i ∈ BW) : 34 ≤ i ∧ i < 92 ∧ i ≠ 72 := by simp [BW] at h; omega
theorem bw_bad : ∀ i ∈ BW, badN (nm i) = true := by
  have h : BW.all (fun i => badN (nm i)) = true := by decide +kernel
  intro i hi
  exact List.all_eq_true.mp h i hi
theorem bw_num (i : Nat) (h : i ∈ BW) : f_z12 [.str (nm i)] = .ok .non [] := by
  obtain ⟨_, h2, _⟩ := bw_lt i h
  exact number_none _ (by have := lenU i h2; omega) (fineU i h2) (bw_bad i h)
theorem one_num : f_z12 [.str (nm 49)] = .ok (.int 1) [] := by
  rw [show nm 49 = txt 1 by decide +kernel]; exact number_read_at 1 (by unfold Big; omega)
theorem bw_split : ∀ i ∈ BW, i ≠ 34 → ∃ ks : List Nat, Txt.split (nm i) ⟨#[44]⟩ = ks.map nm ∧ (∀ k ∈ ks, k = 49 ∨ k ∈ BW) ∧ (∃ k ∈ ks, k ∈ BW) ∧ ks.length ≤ 2 := by
  have h : BW.all (fun i => decide (i = 34) || decide (i = 66) || decide (i = 67) || decide (Txt.split (nm i) ⟨#[44]⟩ = [nm i])) = true := by decide +kernel
  have h66 : Txt.split (nm 66) ⟨#[44]⟩ = [nm 49, nm 54] := by decide +kernel
  have h67 : Txt.split (nm 67) ⟨#[44]⟩ = [nm 54, nm 49] := by decide +kernel
  intro i hi h34
  have := List.all_eq_true.mp h i hi
  simp at this
  rcases this with ((h1 | h1) | h1) | h1
  · exact absurd h1 h34
  · subst h1; exact ⟨[49, 54], h66, by simp [BW], ⟨54, by simp, by simp [BW]⟩, by simp⟩
  · subst h1; exact ⟨[54, 49], h67, by simp [BW], ⟨54, by simp, by simp [BW]⟩, by simp⟩
  · exact ⟨[i], h1, by simpa using Or.inr hi, ⟨i, by simp, hi⟩, by simp⟩
open TX PySem.NumText
theorem numbers_none (i : Nat) (hi : i ∈ BW) (h34 : i ≠ 34) : f_z13 [.str (nm i)] = .ok .non [] := by
  obtain ⟨ks, hs, h1, ⟨k0, hk0, hb0⟩, h3⟩ := bw_split i hi h34
  obtain ⟨_, hi2, _⟩ := bw_lt i hi
  rw [f_z13, defn_at _ _ _ _ rfl]
  have eq := eqU i 34 hi2 (by omega)
  rw [decide_eq_false h34] at eq
  have sp := splitD_at (nm i) ⟨#[44]⟩ (by decide) (by have := lenU i hi2; omega)
  rw [hs, List.map_map] at sp
  let g : Nat → D := fun k => if k = 49 then .int 1 else .non
  have hg : ∀ k ∈ ks, f_z12 [.str (nm k)] = .ok (g k) [] := fun k hk => by
    rcases h1 k hk with rfl | hb
    · exact one_num
    · have : k ≠ 49 := by simp [BW] at hb; omega
      simp only [g, if_neg this]; exact bw_num k hb
  have hc : mComp 1 (mSeq (mMt splitD (mVar 0) (mC (.str (nm 35))))) (VP.gName 2) (VP.ret true) ce_numbers_read_1 [.sh (.str (nm i)), .no] = .ok (.lst (ks.map g)) [.sh (.str (nm i)), .no] := by
    refine compM (fun k => D.str (nm k)) g ks (by simp [c35, sp]) (by omega) rfl fun k hk acc => ?_
    simp [ce_numbers_read_1, hg k hk]
  have ni : ∀ k, isNon (g k) = decide (k ≠ 49) := fun k => by
    by_cases h : k = 49
    · simp [g, h, isNon]
    · simp [g, h, isNon]
  have hc2 : mComp 1 (mSeq (mVar 1)) (VP.gName 2) (VP.ret true) ce_numbers_read_2 [.sh (.str (nm i)), .sh (.lst (ks.map g))] = .ok (.lst (ks.map fun k => D.bl (decide (k ≠ 49)))) [.sh (.str (nm i)), .sh (.lst (ks.map g))] := by
    refine compM g (fun k => D.bl (decide (k ≠ 49))) ks (by simp) (by omega) rfl fun k hk acc => ?_
    simp [ce_numbers_read_2, ni]
  have an := any_at (fun k : Nat => decide (k ≠ 49)) ks
  have an2 : (ks.any fun k => decide (k ≠ 49)) = true := List.any_eq_true.mpr ⟨k0, hk0, by
    have : k0 ≠ 49 := by simp [BW] at hb0; omega
    simpa using this⟩
  rw [an2] at an
  generalize ks.map g = V at *
  generalize (ks.map fun k => D.bl (decide (k ≠ 49))) = W at *
  simp [b_z13, eq, hc, hc2, an, -allD_lst]
theorem part_none (f i : Nat) (hf : f ∈ [26, 27, 28, 9, 10, 12]) (hi : i ∈ BW) (h : ¬ (f = 28 ∧ i = 34)) : f_z14 [.str (nm f), .str (nm i)] = .ok .non [] := by
  rw [f_z14, defn_at _ _ _ _ rfl]
  obtain ⟨h34, hi2, _⟩ := bw_lt i hi
  have nr := bw_num i hi
  have e : ∀ j, j < 26 → (nm i == nm j) = false := fun j hj => by rw [beqU i j hi2 (by omega)]; simp; omega
  have e' : ∀ j, j < 26 → ¬ (nm j = nm i) := fun j hj z => by have := e j hj; rw [z] at this; simp at this
  simp at hf
  rcases hf with rfl | rfl | rfl | rfl | rfl | rfl
  · simp [b_z14, tabInD, tab_DEEDS, abs_DEEDS, List.lookup, beqT, eqT, nr]
  · simp [b_z14, tabInD, tab_DEEDS, abs_DEEDS, List.lookup, beqT, eqT, nr]
  · have ns := numbers_none i hi (fun z => h ⟨rfl, z⟩)
    simp [b_z14, tabInD, tab_DEEDS, abs_DEEDS, List.lookup, beqT, eqT, ns]
  · simp [b_z14, tabInD, tab_DEEDS, abs_DEEDS, List.lookup, beqT, inD, flatD, eqB, e']
  · simp [b_z14, tabInD, tab_DEEDS, abs_DEEDS, List.lookup, beqT, inD, flatD, eqB, e']
  · simp [b_z14, tabInD, tab_DEEDS, abs_DEEDS, List.lookup, beqT, inD, flatD, eqB, e']
def UW : List Nat := [51, 52, 53, 34, 26, 54, 76, 77, 78, 79, 80, 81, 82, 83, 84, 85, 86, 87, 88, 89, 90, 91]
theorem line_kind (u : Nat) (hu : u ∈ UW) (ws : List Str) : f_z11 [.lst ((nm u :: ws).map .str)] = .ok .non [] := by
  rw [f_z11, defn_at _ _ _ _ rfl]
  have hu2 : 16 ≤ u ∧ u < 92 := by simp [UW] at hu; omega
  have e : ∀ j, j < 16 → (nm u == nm j) = false := fun j hj => by rw [beqU u j hu2.2 (by omega)]; simp; omega
  have hc : UW.all (fun u => abs_FORMS.contains (nm u)) = true := by decide +kernel
  have hc' := List.all_eq_true.mp hc u hu
  have lk : tab_FORMS.lookup (nm u) = none := by simp [tab_FORMS, List.lookup, e]
  have tn : tabInD true tab_FORMS abs_FORMS (.str (nm u)) = some (.bl true) := by unfold tabInD; dsimp only; rw [lk]; dsimp only; rw [if_pos hc']
  have i0 : itemD (.lst ((nm u :: ws).map .str)) (.int 0) = some (.str (nm u)) := by simp
  generalize D.lst ((nm u :: ws).map .str) = W at *
  simp [b_z11, i0, tn]
theorem line_len (k : Nat) (hk : k < 16) (ws : List Str) (hl : ws.length ≠ (fms k).length) (hw : ws.length ≤ 1000) : f_z11 [.lst ((nm k :: ws).map .str)] = .ok .non [] := by
  rw [f_z11, defn_at _ _ _ _ rfl]
  have ht := tab_at k hk
  have tn : tabInD true tab_FORMS abs_FORMS (.str (nm k)) = some (.bl false) := by unfold tabInD; dsimp only; rw [ht]; rfl
  have td : tabD tab_FORMS (.str (nm k)) = some (.tup ((fms k).map fun f => .str (nm f))) := ht
  have i0 : itemD (.lst ((nm k :: ws).map .str)) (.int 0) = some (.str (nm k)) := by simp
  have ln : lenD (.tup ((fms k).map fun f => D.str (nm f))) = some (.int (fms k).length) := by simp
  have ln2 : lenD (.lst ((nm k :: ws).map .str)) = some (.int (1 + ws.length)) := by simp; omega
  have ne : ¬ ((ws.length : Int) = ((fms k).length : Int)) := by omega
  generalize D.lst ((nm k :: ws).map .str) = W at *
  generalize (fms k).length = m at *
  simp [b_z11, i0, tn, td, ln, ln2, ne]
theorem line_part (k : Nat) (hk : k < 16) (ws : List Str) (g : Nat × Str → D) (hl : ws.length = (fms k).length) (hg : ∀ q ∈ (fms k).zip ws, f_z14 [.str (nm q.1), .str q.2] = .ok (g q) []) (hn : ∃ q ∈ (fms k).zip ws, isNon (g q) = true) : f_z11 [.lst ((nm k :: ws).map .str)] = .ok .non [] := by
  rw [f_z11, defn_at _ _ _ _ rfl]
  have ht := tab_at k hk
  have fl := fms_len k hk
  have tn : tabInD true tab_FORMS abs_FORMS (.str (nm k)) = some (.bl false) := by unfold tabInD; dsimp only; rw [ht]; rfl
  have td : tabD tab_FORMS (.str (nm k)) = some (.tup ((fms k).map fun f => .str (nm f))) := ht
  have i0 : itemD (.lst ((nm k :: ws).map .str)) (.int 0) = some (.str (nm k)) := by simp
  have ln : lenD (.tup ((fms k).map fun f => D.str (nm f))) = some (.int (fms k).length) := by simp
  have ln2 : lenD (.lst ((nm k :: ws).map .str)) = some (.int (1 + (fms k).length)) := by simp; omega
  generalize fms k = fs at *
  have cu : cutA (.lst ((nm k :: ws).map .str)) (some 1) none = some (.lst (ws.map .str)) := by
    rw [cutA_lst, cutD]
    simp only [sIxP]
    simp
    exact List.take_of_length_le (by simp)
  have zp : zipL [.tup (fs.map fun f => D.str (nm f)), .lst (ws.map .str)] = some ((fs.zip ws).map fun q => .tup [.str (nm q.1), .str q.2]) := by
    simp only [zipL, seqD_tup, seqD_lst]
    refine congrArg some ?_
    clear hl fl cu td tn ht hg hn ln ln2 i0
    induction fs generalizing ws with
    | nil => rfl
    | cons f fs ih => cases ws with
      | nil => rfl
      | cons w ws => simp [ih]
  have zl : (fs.zip ws).length ≤ 5 := by simp; omega
  generalize hW : D.lst ((nm k :: ws).map .str) = W at *
  generalize hz : fs.zip ws = zs at *
  have hc : mComp 2 (mZip [(m1 (tabD tab_FORMS) (mVar 1)), (mSl cutA (mVar 0) (some (mC (.int 1))) none)]) (VP.gTup [3, 4]) (VP.ret true) ce_line_read_1 [.sh W, .sh (.str (nm k)), .no] = .ok (.lst (zs.map g)) [.sh W, .sh (.str (nm k)), .no] := by
    refine compM2 (fun (q : Nat × Str) => D.str (nm q.1)) (fun q => D.str q.2) g zs (by simp [td, cu, zp]) (by omega) rfl fun q hq acc => ?_
    simp [ce_line_read_1, hg q hq]
  have hc2 : mComp 1 (mSeq (mVar 2)) (VP.gName 3) (VP.ret true) ce_line_read_2 [.sh W, .sh (.str (nm k)), .sh (.lst (zs.map g))] = .ok (.lst (zs.map fun q => D.bl (isNon (g q)))) [.sh W, .sh (.str (nm k)), .sh (.lst (zs.map g))] := by
    refine compM g (fun q => D.bl (isNon (g q))) zs (by simp) (by omega) rfl fun p hp acc => ?_
    simp [ce_line_read_2]
  have an := any_at (fun q : Nat × Str => isNon (g q)) zs
  have an2 : (zs.any fun q => isNon (g q)) = true := List.any_eq_true.mpr hn
  rw [an2] at an
  simp [b_z11, i0, tn, td, ln, ln2, hc, hc2, an, -allD_lst]
open TX PySem.NumText
def enumFrom (j : Nat) : List D → List D
  | [] => []
  | d :: ds => .tup [.int j, d] :: enumFrom (j + 1) ds
theorem enum_from : ∀ (ds : List D) (j : Nat), List.zipWith (fun (i : Nat) d => D.tup [.int i, d]) (List.range' j ds.length) ds = enumFrom j ds
  | [], _ => rfl
  | d :: ds, j => by simp [enumFrom, List.range'_succ, enum_from ds (j + 1)]
theorem enumL_from (ds : List D) : enumL ds = enumFrom 0 ds := by unfold enumL; rw [List.range_eq_range']; exact enum_from ds 0
def rowS (ws : List Str) : Str := joinS 32 ws
structure Tame (ws : List Str) : Prop where
  jo : JoinOk ⟨#[32]⟩ ws = true
  len : (rowS ws).length ≤ 2000
  nl : 10 ∉ (rowS ws).cps.toList
structure BadW (ws : List Str) : Prop extends Tame ws where
  no : f_z11 [.lst ((Txt.split (rowS ws) ⟨#[32]⟩).map .str)] = .ok .non []
theorem LnT.ok.tame {l : LnT} (h : l.ok) : Tame l.ws := ⟨h.jo, by have := h.rowLen; unfold rowS; unfold LnT.row at this; omega, fun hc => by have := h.signs 10 hc; omega⟩
def NX (b : Nat) : Xn := ⟨"NoText", ["row"], [.int b]⟩
def rowsS (rs : List (List Str)) : Str := joinS 10 (rs.map rowS)
theorem rows_jo (rs : List (List Str)) (h : ∀ ws ∈ rs, Tame ws) (hl : rs.length ≤ 100) : JoinOk ⟨#[10]⟩ (rs.map rowS) = true := joinOk 10 _ 2000 (fun w hw => by obtain ⟨ws, h1, rfl⟩ := List.mem_map.mp hw; exact (h ws h1).len) (by simp only [List.length_map]; omega)
theorem rows_len (rs : List (List Str)) (h : ∀ ws ∈ rs, Tame ws) (hl : rs.length ≤ 100) : (rowsS rs).length ≤ 300000 := by
  have := joinS_len 10 (rs.map rowS) 2000 (fun w hw => by obtain ⟨ws, h1, rfl⟩ := List.mem_map.mp hw; exact (h ws h1).len)
  simp only [List.length_map] at this
  unfold rowsS
  omega
theorem read_exc (pre : List LnT) (h : Oks pre) (bad : List Str) (hb : BadW bad) (post : List (List Str)) (hp : ∀ ws ∈ post, Tame ws) (hl : pre.length + 1 + post.length ≤ 100) :
    f_z15 [.str (rowsS (pre.map LnT.ws ++ bad :: post))] = .exc (NX pre.length) [] := by
  rw [f_z15, defn_at _ _ _ _ rfl]
  have ht : ∀ ws ∈ pre.map LnT.ws ++ bad :: post, Tame ws := fun ws hw => by
    rcases List.mem_append.mp hw with hw | hw
    · obtain ⟨l, hm, rfl⟩ := List.mem_map.mp hw; exact (h l hm).tame
    · rcases List.mem_cons.mp hw with rfl | hw
      · exact hb.toTame
      · exact hp ws hw
  have sp := splitD_at (rowsS (pre.map LnT.ws ++ bad :: post)) ⟨#[10]⟩ (by decide) (by have := rows_len _ ht (by simp; omega); omega)
  rw [show Txt.split (rowsS (pre.map LnT.ws ++ bad :: post)) ⟨#[10]⟩ = (pre.map LnT.ws ++ bad :: post).map rowS from split_join 10 _ (by simp) fun w hw hc => by
    obtain ⟨ws, h1, rfl⟩ := List.mem_map.mp hw
    exact (ht ws h1).nl hc] at sp
  generalize hX : rowsS (pre.map LnT.ws ++ bad :: post) = X at sp
  have en : ((pre.map LnT.ws ++ bad :: post).map rowS).map D.str = pre.map (fun l => D.str l.row) ++ D.str (rowS bad) :: post.map (fun ws => D.str (rowS ws)) := by
    simp [LnT.row, rowS, Function.comp_def]
  have key : ∀ (ls : List LnT), Oks ls → ∀ (j : Nat) (s : List LnT), j + ls.length = pre.length → s.length = j → ∀ t2 t3 t4, free (some t2) = true → free (some t3) = true → free (some t4) = true →
      ∃ r, loop (gTup [2, 3]) lp_read_program_1 (enumFrom j (ls.map (fun l => D.str l.row) ++ D.str (rowS bad) :: post.map (fun ws => D.str (rowS ws)))) [.sh (.str X), .ow (PrD s), t2, t3, t4] = .exc (NX pre.length) r ∧ iosOf [false] r = some [] := by
    intro ls
    induction ls with
    | nil =>
      intro _ j s hj hs t2 t3 t4 f2 f3 f4
      have rs := splitD_at (rowS bad) ⟨#[32]⟩ (by decide) (by have := hb.len; omega)
      have lr := hb.no
      have ej : j = pre.length := by simpa using hj
      refine ⟨[.sh (.str X), .ow (PrD s), .sh (.int j), .sh (.str (rowS bad)), .sh .non], ?_, rfl⟩
      simp only [List.map_nil, List.nil_append, enumFrom]
      refine loop_exc ?_
      rw [← ej]
      simp [turn1, lp_read_program_1, f2, f3, f4, c33, rs, lr, NX]
    | cons l ls ih =>
      intro hok j s hj hs t2 t3 t4 f2 f3 f4
      have okl := hok l List.mem_cons_self
      have rs := row_split l okl
      have lr := line_read_at l okl
      have ap : appD l.d (PrD s) = some (PrD (s ++ [l])) := by
        unfold PrD; rw [appD_at _ _ (by simp; simp at hj; omega), List.map_append]; rfl
      have nn : isNon l.d = false := rfl
      have il : isLst (some (PrD s)) = true := rfl
      simp only [List.map_cons, List.cons_append, enumFrom]
      rw [loop_cont (r' := [.sh (.str X), .ow (PrD (s ++ [l])), .sh (.int j), .sh (.str l.row), .sh l.d]) (by simp [turn1, lp_read_program_1, f2, f3, f4, c33, rs, lr, nn, il, ap])]
      exact ih (fun x hx => hok x (List.mem_cons_of_mem _ hx)) (j + 1) (s ++ [l]) (by simp at hj; omega) (by simp [hs]) _ _ _ rfl rfl rfl
  obtain ⟨r, e, hr⟩ := key pre h 0 [] (by simp) rfl .no .no .no rfl rfl rfl
  have l0 : D.lst [] = PrD [] := rfl
  simp [b_z15, c32, sp, en, l0, enumL_from, e, hr, -List.map_map, -List.map_append, -List.map_cons]
open TX PySem.NumText
theorem found_bad (x : D) (b : Nat) (h : f_z15 [x] = .exc (NX b) []) : f_z1 [x] = .ok (.int b) [] := by
  rw [f_z1, defn_at _ _ _ _ rfl]
  have hb : tb_l_found_1 [.sh x, .no] = .exc (NX b) [.sh x, .no] := by simp [tb_l_found_1, h]
  have c : (NX b).cls = "NoText" := rfl
  have l1 : csx_NoText.lookup (NX b).cls = some true := by simp [csx_NoText, c]
  have l2 : isx_NoCell.lookup (NX b).cls = some false := by simp [isx_NoCell, c]
  have l3 : isx_NoTable.lookup (NX b).cls = some false := by simp [isx_NoTable, c]
  have l5 : isx_BadLine.lookup (NX b).cls = some false := by simp [isx_BadLine, c]
  have f1 : fldX xc_row "row" (.exn (NX b).cls (NX b).ns (NX b).vs) = some (.int b) := by simp [NX, xc_row]
  simp [b_z1, hb]
  rw [sCatch_at l1 rfl]
  simp [th_l_found_2, l2, l3, l5, f1, whole_at, -fldX_exn]
theorem refused_bad (x : D) (b : Nat) (h : f_z15 [x] = .exc (NX b) []) : f_z4 [x] = .ok (.bl true) [] := by
  rw [f_z4, defn_at _ _ _ _ rfl]
  have hb : tb_l_refused_1 [.sh x, .no] = .exc (NX b) [.sh x, .no] := by simp [tb_l_refused_1, h]
  have c : (NX b).cls = "NoText" := rfl
  have l1 : csx_LoomError.lookup (NX b).cls = some true := by simp [csx_LoomError, c]
  have l6 : isx_ValueError.lookup (NX b).cls = some true := by simp [isx_ValueError, c]
  simp [b_z4, hb]
  rw [sCatch_at l1 rfl]
  simp [th_l_refused_2, l6]
def GW (w : Str) : Prop := w.length ≤ 140 ∧ 10 ∉ w.cps.toList ∧ 32 ∉ w.cps.toList
theorem tame_of (ws : List Str) (hl : ws.length ≤ 8) (h : ∀ w ∈ ws, w.length ≤ 140 ∧ 10 ∉ w.cps.toList) : Tame ws := by
  refine ⟨joinOk 32 _ 140 (fun w hw => (h w hw).1) (by omega), ?_, fun hc => ?_⟩
  · have := joinS_len 32 ws 140 (fun w hw => (h w hw).1)
    unfold rowS; omega
  · rcases joinS_mem _ _ 10 hc with h1 | ⟨w, h1, h2⟩
    · omega
    · exact (h w h1).2 h2
theorem bad_of (ws : List Str) (h0 : ws ≠ []) (hl : ws.length ≤ 8) (h : ∀ w ∈ ws, GW w) (hn : f_z11 [.lst (ws.map .str)] = .ok .non []) : BadW ws := by
  refine ⟨tame_of ws hl fun w hw => ⟨(h w hw).1, (h w hw).2.1⟩, ?_⟩
  rw [show Txt.split (rowS ws) ⟨#[32]⟩ = ws from split_join 32 ws h0 fun w hw => (h w hw).2.2]
  exact hn
theorem gw_nm : ∀ i, i < 92 → i ≠ 32 → i ≠ 33 → i ≠ 72 → GW (nm i) := by
  have h : (List.range 92).all (fun i => decide (i = 32) || decide (i = 33) || decide (i = 72) || (!(nm i).cps.toList.contains 10 && !(nm i).cps.toList.contains 32)) = true := by decide +kernel
  intro i hi h1 h2 h3
  have := List.all_eq_true.mp h i (by simpa using hi)
  simp [h1, h2, h3] at this
  exact ⟨by have := lenU i hi; omega, by simpa using this.1, by simpa using this.2⟩
theorem gw_w (p : Pt) (h : p.fine) : GW p.w := ⟨w_len p h, fun hc => by have := w_signs p h 10 hc; omega, fun hc => by have := w_signs p h 32 hc; omega⟩
theorem jl_two (c : Nat) (x y : List Nat) : ∀ xs ys : List (List Nat), jl c (xs ++ (x ++ c :: y) :: ys) = jl c (xs ++ x :: y :: ys)
  | [], [] => rfl
  | [], z :: ys => by simp [jl]
  | [a], ys => by
    have := jl_two c x y [] ys
    simp only [List.nil_append] at this
    simp only [List.singleton_append, jl, this]
  | a :: b :: xs, ys => by
    have := jl_two c x y (b :: xs) ys
    simp only [List.cons_append] at this
    simp only [List.cons_append, jl, this]
theorem row_two (a b : List Str) : rowS (a ++ nm 72 :: b) = rowS (a ++ nm 49 :: ⟨#[50]⟩ :: b) := by
  refine str_ext ?_
  have e1 : rowS (a ++ nm 72 :: b) = Str.join ⟨#[32]⟩ (a ++ nm 72 :: b) := StrLaws.glued_eq_join _ _
  have e2 : rowS (a ++ nm 49 :: ⟨#[50]⟩ :: b) = Str.join ⟨#[32]⟩ (a ++ nm 49 :: ⟨#[50]⟩ :: b) := StrLaws.glued_eq_join _ _
  rw [e1, e2, join_cps, join_cps]
  simp only [List.map_append, List.map_cons]
  rw [show (nm 72).cps.toList = (nm 49).cps.toList ++ 32 :: (⟨#[50]⟩ : Str).cps.toList by decide +kernel]
  exact jl_two _ _ _ _ _
theorem bad_two (k : Nat) (hk : k < 16) (a b : List Str) (hl : a.length + 1 + b.length = (fms k).length) (ha : ∀ w ∈ a, GW w) (hb : ∀ w ∈ b, GW w) : BadW (nm k :: (a ++ nm 72 :: b)) := by
  have fl := fms_len k hk
  have e : rowS (nm k :: (a ++ nm 72 :: b)) = rowS (nm k :: (a ++ nm 49 :: ⟨#[50]⟩ :: b)) := row_two (nm k :: a) b
  have gk := gw_nm k (by omega) (by omega) (by omega) (by omega)
  have g49 := gw_nm 49 (by omega) (by omega) (by omega) (by omega)
  have g50 : GW ⟨#[50]⟩ := ⟨by decide, by simp, by simp⟩
  have l72 := lenU 72 (by omega)
  have n72 : 10 ∉ (nm 72).cps.toList := by decide +kernel
  refine ⟨tame_of _ (by simp; omega) fun w hw => ?_, ?_⟩
  · simp at hw
    rcases hw with rfl | hw | rfl | hw
    · exact ⟨gk.1, gk.2.1⟩
    · exact ⟨(ha w hw).1, (ha w hw).2.1⟩
    · exact ⟨by omega, n72⟩
    · exact ⟨(hb w hw).1, (hb w hw).2.1⟩
  · rw [e, show Txt.split (rowS (nm k :: (a ++ nm 49 :: ⟨#[50]⟩ :: b))) ⟨#[32]⟩ = nm k :: (a ++ nm 49 :: ⟨#[50]⟩ :: b) from split_join 32 _ (by simp) fun w hw => by
      simp at hw
      rcases hw with rfl | hw | rfl | rfl | hw
      · exact gk.2.2
      · exact (ha w hw).2.2
      · exact g49.2.2
      · exact g50.2.2
      · exact (hb w hw).2.2]
    exact line_len k hk _ (by simp; omega) (by simp; omega)
theorem each_get {A B : Type} {P : A → B → Prop} : ∀ {as : List A} {bs : List B}, Each P as bs → ∀ (j : Nat) (a : A) (b : B), as[j]? = some a → bs[j]? = some b → P a b
  | _, _, .cons h t, 0, a, b, ha, hb => by simp at ha hb; subst ha hb; exact h
  | _, _, .cons h t, j + 1, a, b, ha, hb => each_get t j a b (by simpa using ha) (by simpa using hb)
def partD (q : Nat × Str) : D := match f_z14 [.str (nm q.1), .str q.2] with
  | .ok d _ => d
  | _ => .non
theorem bad_set (k : Nat) (hk : k < 16) (ps : List Pt) (hp : Each (fun f p => Pt.ok f p) (fms k) ps) (s i f : Nat) (hs : (fms k)[s]? = some f) (hi : i ∈ BW) (h34 : ¬ (f = 28 ∧ i = 34)) : BadW (nm k :: (ps.map Pt.w).set s (nm i)) := by
  have fl := fms_len k hk
  have hl := hp.len
  obtain ⟨h34', hi2, h72⟩ := bw_lt i hi
  have hs' := (List.getElem?_eq_some_iff.mp hs).1
  have gd : ∀ p ∈ ps, p.fine := fun p hm => by obtain ⟨f, _, ho⟩ := hp.right p hm; exact ho.fine
  refine bad_of _ (by simp) (by simp; omega) (fun w hw => ?_) ?_
  · rcases List.mem_cons.mp hw with rfl | hw
    · exact gw_nm k (by omega) (by omega) (by omega) (by omega)
    · rcases List.mem_or_eq_of_mem_set hw with hw | rfl
      · obtain ⟨p, hm, rfl⟩ := List.mem_map.mp hw; exact gw_w p (gd p hm)
      · exact gw_nm i hi2 (by omega) (by omega) h72
  · have pn := part_none f i (fms_mem k hk f (List.mem_of_getElem? hs)) hi h34
    refine line_part k hk _ partD (by simp; omega) (fun q hq => ?_) ⟨(f, nm i), ?_, ?_⟩
    · obtain ⟨j, hj⟩ := List.mem_iff_getElem?.mp hq
      rw [List.getElem?_zip_eq_some] at hj
      obtain ⟨h1, h2⟩ := hj
      by_cases e : s = j
      · subst e
        rw [List.getElem?_set_self (by simp; omega)] at h2
        rw [hs] at h1
        have e1 : q.1 = f := (Option.some.inj h1).symm
        have e2 : q.2 = nm i := (Option.some.inj h2).symm
        unfold partD; rw [e1, e2, pn]
      · rw [List.getElem?_set_ne e] at h2
        rw [List.getElem?_map] at h2
        cases hpj : ps[j]? with
        | none => rw [hpj] at h2; simp at h2
        | some p =>
          rw [hpj] at h2
          simp at h2
          have ok := each_get hp j _ _ h1 hpj
          have := part_read_at q.1 p ok
          unfold partD
          rw [← h2, this]
    · refine List.mem_iff_getElem?.mpr ⟨s, ?_⟩
      rw [List.getElem?_zip_eq_some]
      exact ⟨hs, List.getElem?_set_self (by simp; omega)⟩
    · unfold partD; rw [pn]; rfl
open TX PySem.NumText
theorem addW (xs ys : List Str) (h : xs.length + ys.length ≤ 100) : addA (.lst (xs.map .str)) (.lst (ys.map .str)) = some (.lst ((xs ++ ys).map .str)) := by
  rw [addA_lst] <;> simp [LIM]; omega
theorem cutW (xs : List Str) (lo hi : Option Int) : cutA (.lst (xs.map .str)) lo hi = some (.lst (((xs.drop (sIxP xs.length 0 lo)).take (sIxP xs.length xs.length hi - sIxP xs.length 0 lo)).map .str)) := by
  rw [cutA_lst, cutD]; simp
theorem pickW (is : List Nat) (m : Int) (h0 : 0 ≤ m) (h1 : m < is.length) : ∃ i ∈ is, is[m.toNat]? = some i ∧ ixD (is.map fun i => D.str (nm i)) m = some (.str (nm i)) := by
  have hm : m.toNat < is.length := by omega
  exact ⟨is[m.toNat], List.getElem_mem hm, by simp [hm], ixD_at _ _ _ h0 (by simp [hm])⟩
theorem tab_kind : ∀ k, k < 16 → nm k ++ nm 55 = nm (76 + k) := by
  have h : (List.range 16).all (fun k => decide (nm k ++ nm 55 = nm (76 + k))) = true := by decide +kernel
  intro k hk
  simpa using List.all_eq_true.mp h k (by simpa using hk)
theorem ones13 : Txt.mul (nm 49) 13 = nm 64 := by decide +kernel
theorem spoilt_at (l : LnT) (h : l.ok) (w a : Nat) (hw : w < 8) : ∃ ws, f_z6 [.lst (l.ws.map .str), .str (nm (tx l.k)), .int w, .int a] = .ok (.lst (ws.map .str)) [] ∧ BadW ws := by
  rw [f_z6, defn_at _ _ _ _ rfl]
  obtain ⟨k, ps⟩ := l
  have hk : k < 16 := h.k
  have hp : Each (fun f p => Pt.ok f p) (fms k) ps := h.ps
  have hl := hp.len
  have fl := fms_len k hk
  have gd : ∀ p ∈ ps, GW p.w := fun p hm => by obtain ⟨f, _, ho⟩ := hp.right p hm; exact gw_w p ho.fine
  have gk : GW (nm k) := gw_nm k (by omega) (by omega) (by omega) (by omega)
  have hws : (LnT.mk k ps).ws = nm k :: ps.map Pt.w := by simp [LnT.ws, LnT.all, Pt.w]
  rw [hws]
  dsimp only
  generalize hvs : ps.map Pt.w = vs
  have vl : vs.length = (fms k).length := by rw [← hvs]; simp; omega
  have gv : ∀ v ∈ vs, GW v := fun v hv => by rw [← hvs] at hv; obtain ⟨p, hm, rfl⟩ := List.mem_map.mp hv; exact gd p hm
  have tl : (nm (tx k)).length = (fms k).length := by rw [← len_cps, tx_signs k hk, List.length_map]
  have ls := lenS_at (nm (tx k)) (by simp [LIM]; omega)
  rw [tl] at ls
  have m1 := modI_pos a (fms k).length (by omega)
  obtain ⟨s, hs⟩ : ∃ s, s = a % (fms k).length := ⟨_, rfl⟩
  have hs5 : s < (fms k).length := by rw [hs]; exact Nat.mod_lt _ (by omega)
  have es : ((a : Int) % ((fms k).length : Int)) = (s : Int) := by rw [hs]; simp
  rw [es] at m1
  have lo : lstOf (.lst ((nm k :: vs).map .str)) = some (.lst ((nm k :: vs).map .str)) := rfl
  have a2 := modI_pos a 2 (by omega)
  have a6 := modI_pos a 6 (by omega)
  have f7 := fdivI_pos a 7 (by omega) (by omega)
  have a14 := modI_pos ((a : Int) / 7) 14 (by omega)
  have a7 := modI_pos ((a : Int) / 7) 7 (by omega)
  have isl : ∀ xs : List Str, isLst (some (D.lst (xs.map .str))) = true := fun _ => rfl
  have g54 := gw_nm 54 (by omega) (by omega) (by omega) (by omega)
  have g49 := gw_nm 49 (by omega) (by omega) (by omega) (by omega)
  have ww : w = 0 ∨ w = 1 ∨ w = 2 ∨ w = 3 ∨ w = 4 ∨ w = 5 ∨ w = 6 ∨ w = 7 := by omega
  rcases ww with rfl | rfl | rfl | rfl | rfl | rfl | rfl | rfl
  ·
    refine ⟨nm k :: vs ++ [nm 49], ?_, ?_⟩
    · have ad := addW (nm k :: vs) [nm 49] (by simp; omega)
      rw [show ([nm 49] : List Str).map D.str = [.str (nm 49)] from rfl] at ad
      generalize D.lst ((nm k :: vs).map .str) = W at *
      simp [b_z6, ls, m1, lo, ad, -List.map_append, -List.map_cons, -List.cons_append]
    · refine bad_of _ (by simp) (by simp; omega) (fun w hw => ?_) ?_
      · simp at hw
        rcases hw with rfl | hw | rfl
        · exact gk
        · exact gv w hw
        · exact g49
      · exact line_len k hk (vs ++ [nm 49]) (by simp; omega) (by simp; omega)
  ·
    refine ⟨nm k :: vs.dropLast, ?_, ?_⟩
    · have cu := cutW (nm k :: vs) none (some (-1))
      have e : ((nm k :: vs).drop (sIxP (nm k :: vs).length 0 none)).take (sIxP (nm k :: vs).length (nm k :: vs).length (some (-1)) - sIxP (nm k :: vs).length 0 none) = nm k :: vs.dropLast := by
        simp only [sIxP, if_pos (show (-1 : Int) < 0 by omega), List.drop_zero, List.length_cons]
        rw [show ((-1 : Int) + ((vs.length + 1 : Nat) : Int)).toNat - 0 = (vs.length - 1) + 1 by omega, List.take_succ_cons, List.dropLast_eq_take]
      rw [e] at cu
      generalize D.lst ((nm k :: vs).map .str) = W at *
      simp [b_z6, ls, m1, lo, cu, -List.map_cons]
    · refine bad_of _ (by simp) (by simp; omega) (fun w hw => ?_) ?_
      · simp at hw
        rcases hw with rfl | hw
        · exact gk
        · exact gv w (List.dropLast_subset _ hw)
      · exact line_len k hk vs.dropLast (by simp; omega) (by simp; omega)
  ·
    obtain ⟨i, hi, _, ix⟩ := pickW [51, 52, 53, 34, 26, 54] ((a : Int) % 6) (by omega) (by simp; omega)
    simp only [List.map_cons, List.map_nil] at ix
    refine ⟨nm i :: vs, ?_, ?_⟩
    · have cu := cutW (nm k :: vs) (some 1) none
      have e : ((nm k :: vs).drop (sIxP (nm k :: vs).length 0 (some 1))).take (sIxP (nm k :: vs).length (nm k :: vs).length none - sIxP (nm k :: vs).length 0 (some 1)) = vs := by
        simp only [sIxP]
        simp
      rw [e] at cu
      have ad := addW [nm i] vs (by simp; omega)
      rw [show ([nm i] : List Str).map D.str = [.str (nm i)] from rfl] at ad
      generalize D.lst ((nm k :: vs).map .str) = W at *
      simp [b_z6, ls, m1, lo, cu, a6, ix, ad, -List.map_cons, -List.cons_append]
    · have hi' : i ∈ UW := by simp [UW] at hi ⊢; omega
      refine bad_of _ (by simp) (by simp; omega) (fun w hw => ?_) (line_kind i hi' vs)
      simp at hw
      rcases hw with rfl | hw
      · simp at hi; exact gw_nm i (by omega) (by omega) (by omega) (by omega)
      · exact gv w hw
  ·
    refine ⟨[nm 54], ?_, ?_⟩
    · generalize D.lst ((nm k :: vs).map .str) = W at *
      simp [b_z6, ls, m1, lo]
    · exact bad_of _ (by simp) (by simp) (fun w hw => by simp at hw; subst hw; exact g54) (line_kind 54 (by simp [UW]) [])
  ·
    refine ⟨nm k :: (vs.take s ++ nm 54 :: vs.drop s), ?_, ?_⟩
    · have c1 := cutW (nm k :: vs) none (some ((s : Int) + 1))
      have e1 : ((nm k :: vs).drop (sIxP (nm k :: vs).length 0 none)).take (sIxP (nm k :: vs).length (nm k :: vs).length (some ((s : Int) + 1)) - sIxP (nm k :: vs).length 0 none) = nm k :: vs.take s := by
        simp only [sIxP, if_neg (show ¬ ((s : Int) + 1 < 0) by omega), List.drop_zero, List.length_cons]
        rw [show min ((s : Int) + 1).toNat (vs.length + 1) - 0 = s + 1 by omega, List.take_succ_cons]
      rw [e1] at c1
      have c2 := cutW (nm k :: vs) (some ((s : Int) + 1)) none
      have e2 : ((nm k :: vs).drop (sIxP (nm k :: vs).length 0 (some ((s : Int) + 1)))).take (sIxP (nm k :: vs).length (nm k :: vs).length none - sIxP (nm k :: vs).length 0 (some ((s : Int) + 1))) = vs.drop s := by
        simp only [sIxP, if_neg (show ¬ ((s : Int) + 1 < 0) by omega), List.length_cons]
        rw [show min ((s : Int) + 1).toNat (vs.length + 1) = s + 1 by omega, List.drop_succ_cons]
        exact List.take_of_length_le (by simp)
      rw [e2] at c2
      have ad1 := addW (nm k :: vs.take s) [nm 54] (by simp; omega)
      rw [show ([nm 54] : List Str).map D.str = [.str (nm 54)] from rfl] at ad1
      have ad2 := addW (nm k :: vs.take s ++ [nm 54]) (vs.drop s) (by simp; omega)
      have cm : (1 : Int) + s = s + 1 := by omega
      rw [show nm k :: vs.take s ++ [nm 54] ++ vs.drop s = nm k :: (vs.take s ++ nm 54 :: vs.drop s) by simp] at ad2
      generalize D.lst ((nm k :: vs).map .str) = W at *
      generalize D.lst ((nm k :: vs.take s).map .str) = W1 at *
      generalize D.lst ((nm k :: vs.take s ++ [nm 54]).map .str) = W2 at *
      generalize D.lst ((vs.drop s).map .str) = W3 at *
      generalize D.lst ((nm k :: (vs.take s ++ nm 54 :: vs.drop s)).map .str) = W4 at *
      simp [b_z6, ls, m1, lo, cm, c1, c2, ad1, ad2]
    · refine bad_of _ (by simp) (by simp; omega) (fun w hw => ?_) ?_
      · simp at hw
        rcases hw with rfl | hw | rfl | hw
        · exact gk
        · exact gv w (List.mem_of_mem_take hw)
        · exact g54
        · exact gv w (List.mem_of_mem_drop hw)
      · exact line_len k hk _ (by simp; omega) (by simp; omega)
  ·
    have ad1 := addW (nm k :: vs) [nm 54] (by simp; omega)
    rw [show ([nm 54] : List Str).map D.str = [.str (nm 54)] from rfl] at ad1
    have cu := cutW (nm k :: vs) (some 1) none
    have e : ((nm k :: vs).drop (sIxP (nm k :: vs).length 0 (some 1))).take (sIxP (nm k :: vs).length (nm k :: vs).length none - sIxP (nm k :: vs).length 0 (some 1)) = vs := by
      simp only [sIxP]
      simp
    rw [e] at cu
    have i0 : itemD (.lst ((nm k :: vs).map .str)) (.int 0) = some (.str (nm k)) := by simp
    have as := addS_at (nm k) (nm 55) (by have := lenU k (by omega); have := lenU 55 (by omega); simp [LIM]; omega)
    rw [tab_kind k hk] at as
    have ad2 := addW [nm (76 + k)] vs (by simp; omega)
    rw [show ([nm (76 + k)] : List Str).map D.str = [.str (nm (76 + k))] from rfl] at ad2
    have h2 : (a : Int) % 2 = 0 ∨ (a : Int) % 2 = 1 := by omega
    have i1 : ∀ x y : D, ixD [x, y] 1 = some y := fun _ _ => rfl
    rcases h2 with h2 | h2
    · rw [h2] at a2
      refine ⟨nm k :: vs ++ [nm 54], ?_, ?_⟩
      · generalize D.lst ((nm k :: vs).map .str) = W at *
        generalize D.lst ((nm k :: vs ++ [nm 54]).map .str) = W2 at *
        simp [b_z6, ls, m1, lo, ad1, cu, i0, as, ad2, a2, i1]
      · refine bad_of _ (by simp) (by simp; omega) (fun w hw => ?_) ?_
        · simp at hw
          rcases hw with rfl | hw | rfl
          · exact gk
          · exact gv w hw
          · exact g54
        · exact line_len k hk (vs ++ [nm 54]) (by simp; omega) (by simp; omega)
    · rw [h2] at a2
      refine ⟨nm (76 + k) :: vs, ?_, ?_⟩
      · generalize D.lst ((nm k :: vs).map .str) = W at *
        generalize D.lst ((nm k :: vs ++ [nm 54]).map .str) = W2 at *
        simp [b_z6, ls, m1, lo, ad1, cu, i0, as, ad2, a2, i1, -List.map_cons, -List.cons_append]
      · refine bad_of _ (by simp) (by simp; omega) (fun w hw => ?_) (line_kind (76 + k) (by simp [UW]; omega) vs)
        simp at hw
        rcases hw with rfl | hw
        · exact gw_nm _ (by omega) (by omega) (by omega) (by omega)
        · exact gv w hw
  all_goals
    have ld : ∀ xs : List D, xs.length ≤ 100 → lstD xs = some (.lst xs) := fun xs h => if_pos (by omega)
    have cm : (1 : Int) + s = s + 1 := by omega
    obtain ⟨f, hf⟩ : ∃ f, (fms k)[s]? = some f := ⟨(fms k)[s], by simp⟩
    have mu := mulS_at (nm 49) 13 ⟨by omega, by omega, by have := lenU 49 (by omega); omega⟩
    rw [ones13] at mu
    obtain ⟨i, hi, _, ix⟩ := pickW [56, 57, 58, 59, 60, 61, 62, 63, 64, 65, 54, 66, 67, 68] ((a : Int) / 7 % 14) (by omega) (by simp; omega)
    simp only [List.map_cons, List.map_nil] at ix
    have hi' : i ∈ BW ∧ i ≠ 34 := by simp [BW] at hi ⊢; omega
    have st1 : ∀ (x : Str) (xs : List Str), xs.length = vs.length → setAt (.int ((s : Int) + 1)) (.str x) (.lst ((nm k :: xs).map .str)) = some (.lst ((nm k :: xs.set s x).map .str)) := fun x xs hx => by
      rw [setAt_lst _ _ _ (by omega) (by simp; omega)]
      rw [show ((s : Int) + 1).toNat = s + 1 by omega]
      simp [List.map_set]
  ·
    obtain ⟨j, hj, _, jx⟩ := pickW [69, 70, 71, 34, 72, 73, 74] ((a : Int) / 7 % 7) (by omega) (by simp; omega)
    simp only [List.map_cons, List.map_nil] at jx
    have sa := st1 (nm i) vs rfl
    have sb := st1 (nm j) (vs.set s (nm i)) (by simp)
    have sc := st1 (nm 75) ((vs.set s (nm i)).set s (nm j)) (by simp)
    rw [List.set_set] at sb sc
    have sd : (vs.set s (nm j)).set s (nm 75) = vs.set s (nm 75) := List.set_set _
    rw [sd] at sc
    have it : itemS (.str (nm (tx k))) (.int (s : Int)) = some (.str ⟨#[sg f]⟩) := by
      have : itemS (.str (nm (tx k))) (.int (s : Int)) = ((nm (tx k)).cps.toList[(s : Int).toNat]?).map fun c => D.str ⟨#[c]⟩ := if_pos ⟨by simp [LIM]; omega, by omega⟩
      rw [this, tx_signs k hk, Int.toNat_natCast, List.getElem?_map, hf]; rfl
    have js : ixD ((nm k :: vs.set s (nm j)).map .str) ((s : Int) + 1) = some (.str (nm j)) := ixD_at _ _ _ (by omega) (by
      have hsl : s < vs.length := by omega
      rw [show ((s : Int) + 1).toNat = s + 1 by omega]; simp [hsl])
    have hj2 : j < 92 := by simp at hj; omega
    have e48 : eqG (.str ⟨#[sg f]⟩) (.str (nm 48)) = some (.bl (decide (f = 28))) := by
      have hm := fms_mem k hk f (List.mem_of_getElem? hf)
      simp at hm
      rcases hm with rfl | rfl | rfl | rfl | rfl | rfl
      · exact sgn 26 48 (by omega) false (by decide +kernel)
      · exact sgn 27 48 (by omega) false (by decide +kernel)
      · exact sgn 28 48 (by omega) true (by decide +kernel)
      · exact sgn 9 48 (by omega) false (by decide +kernel)
      · exact sgn 10 48 (by omega) false (by decide +kernel)
      · exact sgn 12 48 (by omega) false (by decide +kernel)
    have e34 := eqU j 34 hj2 (by omega)
    have il := isl (nm k :: vs)
    have ila := isl (nm k :: vs.set s (nm i))
    have ilb := isl (nm k :: vs.set s (nm j))
    have ilc := isl (nm k :: vs.set s (nm 75))
    have jt : itemD (.lst ((nm k :: vs.set s (nm j)).map .str)) (.int ((s : Int) + 1)) = some (.str (nm j)) := js
    by_cases c1 : f = 28 ∧ j = 34
    · refine ⟨nm k :: vs.set s (nm 75), ?_, by rw [← hvs]; exact bad_set k hk ps hp s 75 f hf (by simp [BW]) (by omega)⟩
      rw [decide_eq_true c1.1] at e48
      rw [decide_eq_true c1.2] at e34
      generalize D.lst ((nm k :: vs).map .str) = W at *
      generalize D.lst ((nm k :: vs.set s (nm i)).map .str) = W1 at *
      generalize D.lst ((nm k :: vs.set s (nm j)).map .str) = W2 at *
      generalize D.lst ((nm k :: vs.set s (nm 75)).map .str) = W3 at *
      simp [b_z6, ls, m1, lo, cm, f7, a14, a7, mu, ld, ix, jx, sa, sb, sc, it, jt, e48, e34, il, ila, ilb, ilc]
    · have hbad : BadW (nm k :: vs.set s (nm j)) := by
        by_cases h72 : j = 72
        · subst h72
          have hsl : s < vs.length := by omega
          rw [List.set_eq_take_append_cons_drop, if_pos hsl]
          exact bad_two k hk _ _ (by simp; omega) (fun w hw => gv w (List.mem_of_mem_take hw)) (fun w hw => gv w (List.mem_of_mem_drop hw))
        · rw [← hvs]; exact bad_set k hk ps hp s j f hf (by simp [BW] at hj ⊢; omega) c1
      refine ⟨nm k :: vs.set s (nm j), ?_, hbad⟩
      generalize D.lst ((nm k :: vs).map .str) = W at *
      generalize D.lst ((nm k :: vs.set s (nm i)).map .str) = W1 at *
      generalize D.lst ((nm k :: vs.set s (nm j)).map .str) = W2 at *
      by_cases c2 : f = 28
      · have c3 : ¬ j = 34 := fun z => c1 ⟨c2, z⟩
        rw [decide_eq_true c2] at e48
        rw [decide_eq_false c3] at e34
        simp [b_z6, ls, m1, lo, cm, f7, a14, a7, mu, ld, ix, jx, sa, sb, it, jt, e48, e34, il, ila, ilb]
      · rw [decide_eq_false c2] at e48
        simp [b_z6, ls, m1, lo, cm, f7, a14, a7, mu, ld, ix, jx, sa, sb, it, e48, il, ila, ilb]
  · refine ⟨nm k :: vs.set s (nm i), ?_, by rw [← hvs]; exact bad_set k hk ps hp s i f hf hi'.1 (by omega)⟩
    have sa := st1 (nm i) vs rfl
    have il := isl (nm k :: vs)
    have ila := isl (nm k :: vs.set s (nm i))
    generalize D.lst ((nm k :: vs).map .str) = W at *
    generalize D.lst ((nm k :: vs.set s (nm i)).map .str) = W1 at *
    simp [b_z6, ls, m1, lo, cm, f7, a14, mu, ld, ix, sa, il, ila]
open TX PySem.NumText
def RwD (rs : List (List Str)) : D := .lst (rs.map fun ws => .lst (ws.map .str))
def FmD (ls : List LnT) : D := .lst (ls.map fun l => .str (nm (tx l.k)))
theorem rw_set (rs : List (List Str)) (b : Nat) (ws : List Str) (h : b < rs.length) : setAt (.int (b : Int)) (.lst (ws.map .str)) (RwD rs) = some (RwD (rs.set b ws)) := by
  unfold RwD; rw [setAt_lst _ _ _ (by omega) (by simp; omega), Int.toNat_natCast, List.map_set]
theorem rw_last (rs : List (List Str)) (ws : List Str) (h : 0 < rs.length) : setAt (.int (-1)) (.lst (ws.map .str)) (RwD rs) = some (RwD (rs.set (rs.length - 1) ws)) := by
  unfold RwD
  show (ixP _ (-1)).map _ = _
  have : ixP (rs.map fun ws => D.lst (ws.map .str)).length (-1) = some (rs.length - 1) := by
    unfold ixP
    rw [if_neg (by omega), if_pos (by simp; omega)]
    simp; omega
  rw [this, List.map_set]; rfl
theorem text_comp (rs : List (List Str)) (ht : ∀ ws ∈ rs, Tame ws) (hl : rs.length ≤ 100) (ce : M D) (hce : ce = (mMt joinD (mC (.str (nm 33))) (mVar 11))) (s0 s1 s2 s3 s4 s6 s7 s8 s9 s10 : Sl) :
    mComp 1 (mSeq (mVar 5)) (VP.gName 11) (VP.ret true) ce [s0, s1, s2, s3, s4, .sh (RwD rs), s6, s7, s8, s9, s10] = .ok (.lst ((rs.map rowS).map .str)) [s0, s1, s2, s3, s4, .sh (RwD rs), s6, s7, s8, s9, s10] := by
  subst hce
  refine compM (fun ws : List Str => D.lst (ws.map .str)) (fun ws => .str (rowS ws)) rs (by simp [RwD]) (by omega) (by simp) fun ws hws acc => ?_
  have j := joinD_at ⟨#[32]⟩ ws (ht ws hws).jo
  have e : Txt.join ⟨#[32]⟩ ws = rowS ws := rfl
  rw [e] at j
  simp [c33, j]
theorem end_at (ls : List LnT) (h : Oks ls) (hl : ls.length ≤ 5) (b : Nat) (hb : b < ls.length) (ws : List Str) (hw : BadW ws) (rs : List (List Str)) (hr : rs = (ls.map LnT.ws).set b ws ∨ b + 1 < ls.length ∧ rs = ((ls.map LnT.ws).set b ws).set (ls.length - 1) [nm 54]) :
    (∀ ws ∈ rs, Tame ws) ∧ rs.length = ls.length ∧ f_z15 [.str (rowsS rs)] = .exc (NX b) [] := by
  have hbt : Tame [nm 54] := tame_of _ (by simp) fun w hw => by simp at hw; subst hw; exact ⟨by have := lenU 54 (by omega); omega, by decide +kernel⟩
  have e0 : (ls.map LnT.ws).set b ws = (ls.take b).map LnT.ws ++ ws :: (ls.drop (b + 1)).map LnT.ws := by
    rw [List.set_eq_take_append_cons_drop, if_pos (by simpa using hb), List.map_take, List.map_drop]
  have okt : Oks (ls.take b) := fun l hl => h l (List.mem_of_mem_take hl)
  have lt : (ls.take b).length = b := by simp; omega
  have pt : ∀ xs ∈ (ls.drop (b + 1)).map LnT.ws, Tame xs := fun xs hx => by
    obtain ⟨l, hm, rfl⟩ := List.mem_map.mp hx; exact (h l (List.mem_of_mem_drop hm)).tame
  obtain ⟨post, ep, hp, lp⟩ : ∃ post, rs = (ls.take b).map LnT.ws ++ ws :: post ∧ (∀ xs ∈ post, Tame xs) ∧ post.length = ls.length - (b + 1) := by
    rcases hr with hr | ⟨h1, hr⟩
    · exact ⟨_, by rw [hr, e0], pt, by simp⟩
    · refine ⟨((ls.drop (b + 1)).map LnT.ws).set (ls.length - 1 - (b + 1)) [nm 54], ?_, fun xs hx => ?_, by simp⟩
      · rw [hr, e0, List.set_append_right _ _ (by simp; omega)]
        rw [show ls.length - 1 - ((ls.take b).map LnT.ws).length = (ls.length - 1 - (b + 1)) + 1 by simp; omega, List.set_cons_succ]
      · rcases List.mem_or_eq_of_mem_set hx with hx | rfl
        · exact pt xs hx
        · exact hbt
  refine ⟨fun xs hx => ?_, by rw [ep]; simp; omega, ?_⟩
  · rw [ep] at hx
    rcases List.mem_append.mp hx with hx | hx
    · obtain ⟨l, hm, rfl⟩ := List.mem_map.mp hx; exact (okt l hm).tame
    · rcases List.mem_cons.mp hx with rfl | hx
      · exact hw.toTame
      · exact hp xs hx
  · have := read_exc (ls.take b) okt ws hw post hp (by omega)
    rw [← ep, lt] at this
    exact this
theorem law_at (ns : List Int) : f_law [Z ns] = .ok (.bl true) [] := by
  rw [f_law, defn_at _ _ _ _ rfl]
  have r0 : D.lst [Z ns, .int 0] = Row ns 0 := rfl
  have l0 : D.lst [] = PrD [] := rfl
  have l1 : D.lst [] = RwD (([] : List LnT).map LnT.ws) := rfl
  have l2 : D.lst [] = FmD [] := rfl
  have t10 := taken_at ns 0 10 (by omega)
  have tbig := taken_at ns 1 1000003 (by omega)
  have t5 := taken_at ns 2 5 (by omega)
  obtain ⟨w, hw, hw10⟩ : ∃ w : Nat, cell ns 0 % 10 = w ∧ w < 10 := ⟨(cell ns 0 % 10).toNat, by omega, by omega⟩
  obtain ⟨a, ha⟩ : ∃ a : Nat, cell ns 1 % 1000003 = a := ⟨(cell ns 1 % 1000003).toNat, by omega⟩
  rw [hw] at t10
  rw [ha] at tbig
  obtain ⟨n, hn, hn5⟩ : ∃ n : Nat, 1 + cell ns 2 % 5 = n ∧ 1 ≤ n ∧ n ≤ 5 := ⟨(1 + cell ns 2 % 5).toNat, by omega, by omega, by omega⟩
  have er : rng1 [.int (n : Int)] = some ((List.range n).map fun (k : Nat) => .int k) := rng1_nat _ _ (by omega) (by omega) (by omega)
  obtain ⟨⟨q, ls⟩, t, ⟨hl, hok⟩, ht, L⟩ := loop_ex (g := gName 7) (body := lp_law_3) (fun (k : Nat) => D.int k) (fun (s : Nat × List LnT) (t : Sl × Sl) => [.sh (Z ns), .ow (Row ns s.1), .sh (.int w), .sh (.int a), .ow (PrD s.2), .ow (RwD (s.2.map LnT.ws)), .ow (FmD s.2), t.1, t.2, .no, .no]) free2 (List.range n) (fun k s => s.2.length = k ∧ Oks s.2) (3, []) (.no, .no) ⟨rfl, rfl⟩ ⟨rfl, fun l hl => by simp at hl⟩ (by
    intro i k hk s t ht hP
    obtain ⟨q, ls⟩ := s
    obtain ⟨t3, t4⟩ := t
    obtain ⟨f3, f4⟩ := ht
    obtain ⟨hl, hok⟩ := hP
    dsimp only at f3 f4 hl hok
    obtain ⟨rfl, hk⟩ := range_at hk
    have t16 := taken_at ns q 16 (by omega)
    obtain ⟨z, hz, hz16⟩ : ∃ z : Nat, cell ns q % 16 = z ∧ z < 16 := ⟨(cell ns q % 16).toNat, by omega, by omega⟩
    rw [hz] at t16
    have ix : ixD ((List.range 16).map fun k => D.tup [.str (nm k), .str (nm (tx k))]) (z : Int) = some (.tup [.str (nm z), .str (nm (tx z))]) := ixD_at _ _ _ (by omega) (by simp [hz16])
    have fo := forms_at
    generalize hX : ((List.range 16).map fun k => D.tup [.str (nm k), .str (nm (tx k))]) = X at ix fo
    have sd : signsD (.str (nm (tx z))) = some ((fms z).map fun f => D.str ⟨#[sg f]⟩) := by
      have ln : (nm (tx z)).length ≤ 5 := by rw [← len_cps, tx_signs z hz16, List.length_map]; exact (fms_len z hz16).2
      rw [signsD_at _ (by simp [LIM]; omega), tx_signs z hz16, List.map_map]; rfl
    have hm := fms_mem z hz16
    have f5 := (fms_len z hz16).2
    have i1 : ∀ a b : D, ixD [a, b] 1 = some b := fun _ _ => rfl
    obtain ⟨q', ps, hc, he⟩ := compE (it := mSigns (m2 itemD (mVar 8) (mC (.int 1)))) (elt := ce_law_1) (k := 11) (r0 := [.sh (Z ns), .ow (Row ns (q + 1)), .sh (.int w), .sh (.int a), .ow (PrD ls), .ow (RwD (ls.map LnT.ws)), .ow (FmD ls), .sh (.int k), .sh (.tup [.str (nm z), .str (nm (tx z))]), .no, .no]) (fun f => D.str ⟨#[sg f]⟩) Pt.d (fun q => [.sh (Z ns), .ow (Row ns q), .sh (.int w), .sh (.int a), .ow (PrD ls), .ow (RwD (ls.map LnT.ws)), .ow (FmD ls), .sh (.int k), .sh (.tup [.str (nm z), .str (nm (tx z))]), .no, .no]) (fun f p => Pt.ok f p) (fms z) (q + 1) (fun _ => rfl)
      (by simp [i1, sd]) (by omega) (fun f hf q => by
        obtain ⟨q', p, h1, h2⟩ := part_at ns q f (hm f hf)
        exact ⟨q', p, h1, fun acc => by simp [ce_law_1, h2]⟩)
    have ad : addA (.lst [.str (nm z)]) (.lst (ps.map Pt.d)) = some (.lst (.str (nm z) :: ps.map Pt.d)) := by
      have := he.len
      rw [addA_lst] <;> simp [LIM]; omega
    have tu : tupOf (.lst (.str (nm z) :: ps.map Pt.d)) = some (LnT.mk z ps).d := rfl
    have okl : (LnT.mk z ps).ok := ⟨hz16, he⟩
    have etx : nm (tx z) = nm (tx (LnT.mk z ps).k) := rfl
    generalize hlz : LnT.mk z ps = l at tu okl etx
    have ap : appD l.d (PrD ls) = some (PrD (ls ++ [l])) := by
      unfold PrD; rw [appD_at _ _ (by simp; omega), List.map_append]; rfl
    have ap2 : appD (.lst (l.ws.map .str)) (RwD (ls.map LnT.ws)) = some (RwD ((ls ++ [l]).map LnT.ws)) := by
      unfold RwD; rw [appD_at _ _ (by simp; omega)]; simp
    have ap3 : appD (.str (nm (tx z))) (FmD ls) = some (FmD (ls ++ [l])) := by
      unfold FmD; rw [appD_at _ _ (by simp; omega), List.map_append, etx]; rfl
    have il : isLst (some (PrD ls)) = true := rfl
    have il2 : isLst (some (RwD (ls.map LnT.ws))) = true := rfl
    have il3 : isLst (some (FmD ls)) = true := rfl
    have ix2 : itemD (PrD (ls ++ [l])) (.int (k : Int)) = some l.d := by
      unfold PrD; rw [itemD_lst]; exact ixD_at _ _ _ (by omega) (by simp [hl])
    have hc2 : mComp 1 (mSeq (mIxO 4 (mVar 7))) (VP.gName 11) (VP.ret true) ce_law_2 [.sh (Z ns), .ow (Row ns q'), .sh (.int w), .sh (.int a), .ow (PrD (ls ++ [l])), .ow (RwD (ls.map LnT.ws)), .ow (FmD ls), .sh (.int k), .sh (.tup [.str (nm z), .str (nm (tx z))]), .no, .no] = .ok (.lst (l.ws.map .str)) [.sh (Z ns), .ow (Row ns q'), .sh (.int w), .sh (.int a), .ow (PrD (ls ++ [l])), .ow (RwD (ls.map LnT.ws)), .ow (FmD ls), .sh (.int k), .sh (.tup [.str (nm z), .str (nm (tx z))]), .no, .no] := by
      have sq : seqD l.d = some (l.all.map Pt.d) := rfl
      refine compM Pt.d (fun p => .str p.w) l.all (by simp [ix2, sq]) (by have := okl.len; omega) (by simp [LnT.ws]) fun p hp acc => ?_
      simp [ce_law_2, l_word_at p (okl.fine p hp)]
    refine ⟨(q', ls ++ [l]), (.sh (.int k), .sh (.tup [.str (nm z), .str (nm (tx z))])), ⟨by simp [hl], fun x hm => ?_⟩, ⟨rfl, rfl⟩, ?_⟩
    · rcases List.mem_append.mp hm with hm | hm
      · exact hok x hm
      · have : x = l := by simpa using hm
        subst this; exact okl
    · generalize RwD ((ls ++ [l]).map LnT.ws) = R2 at ap2 ⊢
      simp [turn1, lp_law_3, f3, f4, fo, t16, ix, hc, ad, tu, ap, il, hc2, ap2, il2, ap3, il3, i1])
  obtain ⟨t3, t4⟩ := t
  simp only [List.length_range] at hl
  dsimp only at hl hok
  have h0 : ls ≠ [] := fun z => by rw [z] at hl; simp at hl; omega
  have tame : ∀ ws ∈ ls.map LnT.ws, Tame ws := fun ws hw => by obtain ⟨l, hm, rfl⟩ := List.mem_map.mp hw; exact (hok l hm).tame
  unfold b_law
  simp only [startR_cons, startR_nil, rep_succ, rep_0, if_neg (show ¬ (false = true) by decide)]
  rw [sSeq_at, show sOwn 1 _ _ = .ok .nx [.sh (Z ns), .ow (Row ns 0), .no, .no, .no, .no, .no, .no, .no, .no, .no] by simp [r0], seq_nx]
  rw [sSeq_at, show sSet 2 _ _ = .ok .nx [.sh (Z ns), .ow (Row ns 1), .sh (.int w), .no, .no, .no, .no, .no, .no, .no, .no] by simp [t10], seq_nx]
  rw [sSeq_at, show sSet 3 _ _ = .ok .nx [.sh (Z ns), .ow (Row ns 2), .sh (.int w), .sh (.int a), .no, .no, .no, .no, .no, .no, .no] by simp [tbig], seq_nx]
  rw [sSeq_at, show sOwn 4 _ _ = .ok .nx [.sh (Z ns), .ow (Row ns 2), .sh (.int w), .sh (.int a), .ow (PrD []), .no, .no, .no, .no, .no, .no] by simp [l0], seq_nx]
  rw [sSeq_at, show sOwn 5 _ _ = .ok .nx [.sh (Z ns), .ow (Row ns 2), .sh (.int w), .sh (.int a), .ow (PrD []), .ow (RwD (([] : List LnT).map LnT.ws)), .no, .no, .no, .no, .no] by simp [RwD], seq_nx]
  rw [sSeq_at, show sOwn 6 _ _ = .ok .nx [.sh (Z ns), .ow (Row ns 2), .sh (.int w), .sh (.int a), .ow (PrD []), .ow (RwD (([] : List LnT).map LnT.ws)), .ow (FmD []), .no, .no, .no, .no] by simp [l2], seq_nx]
  rw [sSeq_at, show VP.sFor _ _ _ _ = .ok .nx [.sh (Z ns), .ow (Row ns q), .sh (.int w), .sh (.int a), .ow (PrD ls), .ow (RwD (ls.map LnT.ws)), .ow (FmD ls), t3, t4, .no, .no] by simp [t5, hn, er, L, -List.map_nil], seq_nx]
  by_cases c1 : 8 ≤ w
  · have c1' : (7 : Int) < w := by omega
    have tc := text_comp (ls.map LnT.ws) tame (by simp; omega) ce_law_4 rfl (.sh (Z ns)) (.ow (Row ns q)) (.sh (.int w)) (.sh (.int a)) (.sh (PrD ls)) (.ow (FmD ls)) t3 t4 .no .no
    have j := joinD_at ⟨#[10]⟩ ((ls.map LnT.ws).map rowS) (rows_jo _ tame (by simp; omega))
    have e : Txt.join ⟨#[10]⟩ ((ls.map LnT.ws).map rowS) = PrT ls := by
      unfold PrT; rw [List.map_map]; rfl
    rw [e] at j
    have rp := read_program_at ls hok h0 (by omega)
    have sm := same_at ls hok (by omega)
    generalize RwD (ls.map LnT.ws) = R2 at *
    generalize D.lst (((ls.map LnT.ws).map rowS).map .str) = R3 at *
    simp [c1', tc, c32, j, rp, sm]
  · have c1' : ¬ (7 : Int) < w := by omega
    rw [sSeq_at, show VP.sIf _ _ _ _ = .ok .nx [.sh (Z ns), .ow (Row ns q), .sh (.int w), .sh (.int a), .ow (PrD ls), .ow (RwD (ls.map LnT.ws)), .ow (FmD ls), t3, t4, .no, .no] by simp [c1'], seq_nx]
    have f100 := fdivI_pos a 100 (by omega) (by omega)
    have mn := modI_pos ((a : Int) / 100) n (by omega)
    obtain ⟨b, hb⟩ : ∃ b, b = a / 100 % n := ⟨_, rfl⟩
    have hbn : b < n := by rw [hb]; exact Nat.mod_lt _ (by omega)
    have eb : ((a : Int) / 100 % (n : Int)) = (b : Int) := by rw [hb]; simp
    rw [eb] at mn
    have lr : lenD (RwD (ls.map LnT.ws)) = some (.int n) := by simp [RwD, hl]
    rw [sSeq_at, show sSet 9 _ _ = .ok .nx [.sh (Z ns), .ow (Row ns q), .sh (.int w), .sh (.int a), .ow (PrD ls), .ow (RwD (ls.map LnT.ws)), .ow (FmD ls), t3, t4, .sh (.int b), .no] by simp [f100, lr, mn], seq_nx]
    have m98 := modI_pos a 98 (by omega)
    have hlb : b < ls.length := by omega
    obtain ⟨ws, hsp, hbad⟩ := spoilt_at ls[b] (hok _ (List.getElem_mem hlb)) w (a % 98) (by omega)
    rw [show ((a % 98 : Nat) : Int) = (a : Int) % 98 by simp] at hsp
    have ixr : itemD (RwD (ls.map LnT.ws)) (.int (b : Int)) = some (.lst (ls[b].ws.map .str)) := by
      unfold RwD; rw [itemD_lst]; exact ixD_at _ _ _ (by omega) (by simp [hlb])
    have ixf : itemD (FmD ls) (.int (b : Int)) = some (.str (nm (tx ls[b].k))) := by
      unfold FmD; rw [itemD_lst]; exact ixD_at _ _ _ (by omega) (by simp [hlb])
    have il2 : isLst (some (RwD (ls.map LnT.ws))) = true := rfl
    have st := rw_set (ls.map LnT.ws) b ws (by simpa using hlb)
    rw [sSeq_at, show sSetIx 5 _ _ _ = .ok .nx [.sh (Z ns), .ow (Row ns q), .sh (.int w), .sh (.int a), .ow (PrD ls), .ow (RwD ((ls.map LnT.ws).set b ws)), .ow (FmD ls), t3, t4, .sh (.int b), .no] by simp [m98, ixr, ixf, hsp, il2, st], seq_nx]
    have m3 := modI_pos a 3 (by omega)
    have lr2 : lenD (RwD ((ls.map LnT.ws).set b ws)) = some (.int n) := by simp [RwD, hl]
    have il3 : isLst (some (RwD ((ls.map LnT.ws).set b ws))) = true := rfl
    have st2 := rw_last ((ls.map LnT.ws).set b ws) [nm 54] (by simp; omega)
    rw [show ((ls.map LnT.ws).set b ws).length = ls.length by simp, show ([nm 54] : List Str).map D.str = [.str (nm 54)] from rfl] at st2
    obtain ⟨rs, hrs, hif⟩ : ∃ rs, (rs = (ls.map LnT.ws).set b ws ∨ b + 1 < ls.length ∧ rs = ((ls.map LnT.ws).set b ws).set (ls.length - 1) [nm 54]) ∧ ∀ G, G = (VP.sIf (VP.tAnd (VP.tB (m2 eqG (m2 modI (mVar 3) (mC (.int 3))) (mC (.int 0)))) (VP.tB (m2 ltI (m2 addA (mVar 9) (mC (.int 1))) (m1 lenD (mRd 5))))) (sSeq (sSetIx 5 (m1 negI (mC (.int 1))) (mLst [(mC (.str (nm 54)))]))
    sNx) sNx) → G [.sh (Z ns), .ow (Row ns q), .sh (.int w), .sh (.int a), .ow (PrD ls), .ow (RwD ((ls.map LnT.ws).set b ws)), .ow (FmD ls), t3, t4, .sh (.int b), .no] = .ok .nx [.sh (Z ns), .ow (Row ns q), .sh (.int w), .sh (.int a), .ow (PrD ls), .ow (RwD rs), .ow (FmD ls), t3, t4, .sh (.int b), .no] := by
      generalize hR2 : RwD ((ls.map LnT.ws).set b ws) = R2 at *
      by_cases d1 : (a : Int) % 3 = 0
      · by_cases d2 : b + 1 < n
        · have d2' : (b : Int) + 1 < n := by omega
          exact ⟨_, .inr ⟨by omega, rfl⟩, fun G hG => by subst hG; simp [m3, d1, lr2, d2', il3, st2]⟩
        · have d2' : ¬ (b : Int) + 1 < n := by omega
          refine ⟨_, .inl rfl, fun G hG => ?_⟩
          subst hG; simp [m3, d1, lr2, d2', hR2]
      · refine ⟨_, .inl rfl, fun G hG => ?_⟩
        subst hG; simp [m3, d1, hR2]
    rw [sSeq_at, hif _ rfl, seq_nx]
    obtain ⟨ht2, hl2, rx⟩ := end_at ls hok (by omega) b hlb ws hbad rs hrs
    have tc := text_comp rs ht2 (by omega) ce_law_5 rfl (.sh (Z ns)) (.ow (Row ns q)) (.sh (.int w)) (.sh (.int a)) (.ow (PrD ls)) (.ow (FmD ls)) t3 t4 (.sh (.int b)) .no
    have j := joinD_at ⟨#[10]⟩ (rs.map rowS) (rows_jo _ ht2 (by omega))
    have e : Txt.join ⟨#[10]⟩ (rs.map rowS) = rowsS rs := rfl
    rw [e] at j
    have fb := found_bad _ b rx
    have rb := refused_bad _ b rx
    generalize RwD rs = R2 at *
    generalize D.lst ((rs.map rowS).map .str) = R3 at *
    simp [tc, c32, j, fb, rb]
end LW

end
section
set_option Elab.async false
set_option maxRecDepth 100000
set_option maxHeartbeats 4000000
set_option linter.all false
namespace LW
open PySem PySem.Spec PyProof.Rows L2 VP VS
seal PVSs PVS PV PB PBW PF PLs PAs PR PVG PVI PVGs PTs PVSs0 PVS0
def top (i : Nat) : Stmt := PySem.Challenge.pw_loomarrays_k08_texts_that_write_none.main.body.getD i (.Pass ⟨0, 0, 0, 0⟩)
structure Adr where
  a_z0 : Addr
  fd_z0 : FuncData
  a_z8 : Addr
  fd_z8 : FuncData
  a_z12 : Addr
  fd_z12 : FuncData
  a_z13 : Addr
  fd_z13 : FuncData
  a_z14 : Addr
  fd_z14 : FuncData
  a_z11 : Addr
  fd_z11 : FuncData
  a_z15 : Addr
  fd_z15 : FuncData
  a_z1 : Addr
  fd_z1 : FuncData
  a_z7 : Addr
  fd_z7 : FuncData
  a_z3 : Addr
  fd_z3 : FuncData
  a_z4 : Addr
  fd_z4 : FuncData
  a_z2 : Addr
  fd_z2 : FuncData
  a_z5 : Addr
  fd_z5 : FuncData
  a_z6 : Addr
  fd_z6 : FuncData
  a_z9 : Addr
  fd_z9 : FuncData
  a_law : Addr
  fd_law : FuncData
  c_BadLine : Addr
  c_LoomError : Addr
  c_NoCell : Addr
  c_NoTable : Addr
  c_NoText : Addr
  fi_NoText : Addr
  fdi_NoText : FuncData
structure Txt (w : World) (K : Frag) (mg : MG) (a : Adr) : Prop where
  b_ValueError : mg "ValueError" = none
  b_all : mg "all" = none
  b_any : mg "any" = none
  b_bool : mg "bool" = none
  b_enumerate : mg "enumerate" = none
  b_int : mg "int" = none
  b_isinstance : mg "isinstance" = none
  b_len : mg "len" = none
  b_list : mg "list" = none
  b_range : mg "range" = none
  b_str : mg "str" = none
  b_tuple : mg "tuple" = none
  b_zip : mg "zip" = none
  g_DEEDS : TabT w K mg "DEEDS" tab_DEEDS abs_DEEDS
  g_FIGURES : GlF mg "FIGURES" (.str (nm 36))
  g_FORMS : TabT w K mg "FORMS" tab_FORMS abs_FORMS
  g_MOST_FIGURES : GlF mg "MOST_FIGURES" (.int 12)
  g_NO_NUMBERS : GlF mg "NO_NUMBERS" (.str (nm 34))
  d_z0 : DefF K mg "_law_forms" (top 21) [] a.a_z0 a.fd_z0
  d_z8 : DefF K mg "_law_whole" (top 19) ["_law_found_here"] a.a_z8 a.fd_z8
  d_z12 : DefF K mg "number_read" (top 16) ["word"] a.a_z12 a.fd_z12
  d_z13 : DefF K mg "numbers_read" (top 15) ["word"] a.a_z13 a.fd_z13
  d_z14 : DefF K mg "part_read" (top 14) ["form", "word"] a.a_z14 a.fd_z14
  d_z11 : DefF K mg "line_read" (top 13) ["words"] a.a_z11 a.fd_z11
  d_z15 : DefF K mg "read_program" (top 12) ["text"] a.a_z15 a.fd_z15
  d_z1 : DefF K mg "_law_found" (top 26) ["_law_text"] a.a_z1 a.fd_z1
  d_z7 : DefF K mg "_law_taken" (top 18) ["_law_row", "_law_many"] a.a_z7 a.fd_z7
  d_z3 : DefF K mg "_law_part" (top 22) ["_law_row", "_law_form"] a.a_z3 a.fd_z3
  d_z4 : DefF K mg "_law_refused" (top 27) ["_law_text"] a.a_z4 a.fd_z4
  d_z2 : DefF K mg "_law_numbers" (top 20) ["_law_found_here", "_law_due"] a.a_z2 a.fd_z2
  d_z5 : DefF K mg "_law_same" (top 24) ["_law_found_here", "_law_program"] a.a_z5 a.fd_z5
  d_z6 : DefF K mg "_law_spoilt" (top 25) ["_law_words", "_law_form", "_law_way", "_law_at"] a.a_z6 a.fd_z6
  d_z9 : DefF K mg "_law_word" (top 23) ["_law_part_here"] a.a_z9 a.fd_z9
  d_law : DefF K mg "law" (top 28) ["_law_script"] a.a_law a.fd_law
  kx_BadLine : mg "BadLine" = some (.ref a.c_BadLine)
  kx_LoomError : mg "LoomError" = some (.ref a.c_LoomError)
  kx_NoCell : mg "NoCell" = some (.ref a.c_NoCell)
  kx_NoTable : mg "NoTable" = some (.ref a.c_NoTable)
  kx_NoText : mg "NoText" = some (.ref a.c_NoText)
  x_NoText : ExcI K a.c_NoText a.fi_NoText
  di_NoText : MetF K "__init__" "NoText.__init__" (inClass (top 5) 0) ["self", "row"] a.fi_NoText a.fdi_NoText
  es_NoText_row : ErrS K a.c_NoText "row"
  xf_row : XFld K mg xc_row "row"
  ct_LoomError : CatK K a.c_LoomError
  ts_LoomError : ∀ p ∈ csx_LoomError, p.2 = true → ∃ C, mg p.1 = some (.ref C) ∧ PySem.W.mroIn K C (.ref a.c_LoomError) = some true
  ct_NoText : CatK K a.c_NoText
  ts_NoText : ∀ p ∈ csx_NoText, p.2 = true → ∃ C, mg p.1 = some (.ref C) ∧ PySem.W.mroIn K C (.ref a.c_NoText) = some true
  ix_BadLine : IsaX K mg (.ref a.c_BadLine) isx_BadLine
  ix_NoCell : IsaX K mg (.ref a.c_NoCell) isx_NoCell
  ix_NoTable : IsaX K mg (.ref a.c_NoTable) isx_NoTable
  ix_ValueError : IsaX K mg (.type "ValueError") isx_ValueError
section
variable {P : Program} {w : World} {K : Frag} {mg : MG} {base : Heap} {a : Adr} (T : Txt w K mg a)
include T in
theorem ok_NoText_init : InitOk1 P w K mg base a.c_NoText "row" := by
  have S : FnScope ["self", "row"] ["self", "row"] (defScope (inClass (top 5) 0)) := scs
  exact ⟨_, _, _, T.x_NoText, fn_init1 T.di_NoText.fu S rfl T.es_NoText_row (by first | exact Or.inl rfl | exact Or.inr (Or.inl rfl) | exact Or.inr (Or.inr rfl)) (by first | exact Or.inl rfl | exact Or.inr (Or.inl rfl) | exact Or.inr (Or.inr rfl)) (fun _ => rfl), T.di_NoText.bi⟩
theorem sc_z0 : FnScope ["_law_found_here"] [] (defScope (top 21)) := scs
include T in
theorem ok_z0 : FnOk P w K mg base CX0 1 a.a_z0 a.fd_z0 [] (spV K mg [] f_z0) := by
  have S := sc_z0
  refine fn_ok (N := ["_law_found_here"]) (ps := []) (body := b_z0) T.d_z0.fu S rfl fun cdv A outer s H E hr => ?_
  exact (vss_cons (vs_set 0 S.nd rfl (Or.inl rfl) (PF.pv (pf_lst (pl_cons (pv_tup (pl_cons (pv_strE nm_0) (pl_cons (pv_strE nm_38) pl_nil))) (pl_cons (pv_tup (pl_cons (pv_strE nm_1) (pl_cons (pv_strE nm_39) pl_nil))) (pl_cons (pv_tup (pl_cons (pv_strE nm_2) (pl_cons (pv_strE nm_40) pl_nil))) (pl_cons (pv_tup (pl_cons (pv_strE nm_3) (pl_cons (pv_strE nm_41) pl_nil))) (pl_cons (pv_tup (pl_cons (pv_strE nm_4) (pl_cons (pv_strE nm_42) pl_nil))) (pl_cons (pv_tup (pl_cons (pv_strE nm_5) (pl_cons (pv_strE nm_43) pl_nil))) pl_nil)))))))))
    (vss_cons (vs_set 0 S.nd rfl (Or.inl rfl) (pv_op op_addA g_addA (pv_var 0) (PF.pv (pf_lst (pl_cons (pv_tup (pl_cons (pv_strE nm_6) (pl_cons (pv_strE nm_40) pl_nil))) (pl_cons (pv_tup (pl_cons (pv_strE nm_7) (pl_cons (pv_strE nm_40) pl_nil))) (pl_cons (pv_tup (pl_cons (pv_strE nm_8) (pl_cons (pv_strE nm_44) pl_nil))) (pl_cons (pv_tup (pl_cons (pv_strE nm_9) (pl_cons (pv_strE nm_45) pl_nil))) (pl_cons (pv_tup (pl_cons (pv_strE nm_10) (pl_cons (pv_strE nm_46) pl_nil))) pl_nil)))))))))
    (vss_cons (vs_ret (pv_op op_addA g_addA (pv_var 0) (PF.pv (pf_lst (pl_cons (pv_tup (pl_cons (pv_strE nm_11) (pl_cons (pv_strE nm_42) pl_nil))) (pl_cons (pv_tup (pl_cons (pv_strE nm_12) (pl_cons (pv_strE nm_47) pl_nil))) (pl_cons (pv_tup (pl_cons (pv_strE nm_13) (pl_cons (pv_strE nm_47) pl_nil))) (pl_cons (pv_tup (pl_cons (pv_strE nm_14) (pl_cons (pv_strE nm_42) pl_nil))) (pl_cons (pv_tup (pl_cons (pv_strE nm_15) (pl_cons (pv_strE nm_42) pl_nil))) pl_nil)))))))))
    vss_nil)))
theorem sc_z8 : FnScope ["_law_found_here"] ["_law_found_here"] (defScope (top 19)) := scs
include T in
theorem ok_z8 : FnOk P w K mg base CX0 1 a.a_z8 a.fd_z8 ["_law_found_here"] (spV K mg [false] f_z8) := by
  have S := sc_z8
  refine fn_ok (N := ["_law_found_here"]) (ps := ["_law_found_here"]) (body := b_z8) T.d_z8.fu S rfl fun cdv A outer s H E hr => ?_
  exact (vss_cons (vs_ret (pv_and (pv_isa "int" (by simp) rfl T.b_isinstance rfl T.b_int (by decide +kernel) (PV.rd (pv_var 0))) (pv_one (pv_not (pv_isa "bool" (by simp) rfl T.b_isinstance rfl T.b_bool (by decide +kernel) (PV.rd (pv_var 0)))))))
    vss_nil)
include T in
theorem okH_z8 : FnOkH P w K mg base 1 a.a_z8 a.fd_z8 ["_law_found_here"] (spV K mg [false] f_z8) := by
  have S := sc_z8
  refine fn_okH (N := ["_law_found_here"]) (ps := ["_law_found_here"]) (body := b_z8) T.d_z8.fu S rfl fun cdv A outer s H E hr => ?_
  exact (vss_cons (vs_ret (pv_and (pv_isa "int" (by simp) rfl T.b_isinstance rfl T.b_int (by decide +kernel) (PV.rd (pv_var 0))) (pv_one (pv_not (pv_isa "bool" (by simp) rfl T.b_isinstance rfl T.b_bool (by decide +kernel) (PV.rd (pv_var 0)))))))
    vss_nil)
theorem sc_z12 : FnScope ["word", "figures"] ["word"] (defScope (top 16)) := scs
include T in
theorem ok_z12 : FnOk P w K mg base CX0 1 a.a_z12 a.fd_z12 ["word"] (spV K mg [false] f_z12) := by
  have S := sc_z12
  refine fn_ok (N := ["word", "figures"]) (ps := ["word"]) (body := b_z12) T.d_z12.fu S rfl fun cdv A outer s H E hr => ?_
  exact (vss_cons (vs_set 1 S.nd rfl (Or.inl rfl) (pv_if (pb_val (pv_mt PySem.F.slot_str_startswith PySem.F.type_str_startswith mt_starts g_starts (pv_var 0) (pv_strE nm_34))) (pv_fromS (pv_var 0) pv_int) (pv_var 0)))
    (vss_cons (vs_if (PBW.pb (pb_or (pb_not (pb_chain op_le op_le g_le g_le pv_int (pv_call1B call_len_str g_lenS rfl T.b_len PySem.boot_len (PV.rd (pv_var 1))) (pv_globF T.g_MOST_FIGURES rfl))) (pb_or1 (pb_not (pb_val (pv_call1B (call_allT rfl) (g_allB true) rfl T.b_all VS.boot_all (PV.rd (PF.pv (pf_comp 1 rfl (N' := ["word", "figures", "sign", "?acc2"]) ⟨rfl, by kernel_rfl⟩ rfl (vi_signs (pv_var 1)) gName_x (hjs_of (by kernel_rfl)) (fun C s H ex => (vg_name 2 (ndk ["word", "figures", "sign", "?acc2"]) rfl (Or.inl rfl))) (fun C s H ex => pts_nil) (fun C s H ex => (pv_cmp op_in_str g_inS (pv_var 2) (pv_globF T.g_FIGURES rfl) (by with_unfolding_all rfl)))))))))))) (vss_cons (vs_ret pv_non)
    vss_nil) vss_nil)
    (vss_cons (vs_if (PBW.pb (pb_and (pb_cmp (op_eqD hr.units) g_eqD (pv_ixS (pv_var 1) pv_int) (pv_strE nm_37) (nomark _)) (pb_and1 (pb_cmp (op_neD hr.units) g_neD (pv_var 0) (pv_strE nm_37) (nomark _))))) (vss_cons (vs_ret pv_non)
    vss_nil) vss_nil)
    (vss_cons (vs_ret (pv_call1T VS.call_num g_num rfl T.b_int boot_int (PV.rd (pv_var 0))))
    vss_nil))))
theorem sc_z13 : FnScope ["word", "numbers"] ["word"] (defScope (top 15)) := scs
include T in
theorem ok_z13 : FnOk P w K mg base CX0 2 a.a_z13 a.fd_z13 ["word"] (spV K mg [false] f_z13) := by
  have S := sc_z13
  refine fn_ok (N := ["word", "numbers"]) (ps := ["word"]) (body := b_z13) T.d_z13.fu S rfl fun cdv A outer s H E hr => ?_
  exact (vss_cons (vs_if (pb_cmp (op_eqD hr.units) g_eqD (pv_var 0) (pv_globF T.g_NO_NUMBERS rfl) (nomark _)) (vss_cons (vs_ret (pv_tup pl_nil))
    vss_nil) vss_nil)
    (vss_cons (vs_setC 1 1 S.nd rfl (Or.inl rfl) rfl (N' := ["word", "numbers", "piece", "?acc2"]) ⟨rfl, by kernel_rfl⟩ rfl (vi_seq (pv_mt PySem.F.slot_str_split PySem.F.type_str_split mt_split g_split (pv_var 0) (pv_strE nm_35))) gName_x (hjs_of (by kernel_rfl)) (fun C s H ex => (vg_name 2 (ndk ["word", "numbers", "piece", "?acc2"]) rfl (Or.inl rfl))) (fun C s H ex => pts_nil) (fun C s H ex => (pc T.d_z12 (ok_z12 T) hr rfl (pas_val (pv_var 2) pas_nil))))
    (vss_cons (vs_ret (pv_if (pb_val (pv_call1B (call_anyT rfl) (g_allB false) rfl T.b_any VS.boot_any (PV.rd (PF.pv (pf_comp 1 rfl (N' := ["word", "numbers", "number", "?acc2"]) ⟨rfl, by kernel_rfl⟩ rfl (vi_seq (pv_var 1)) gName_x (hjs_of (by kernel_rfl)) (fun C s H ex => (vg_name 2 (ndk ["word", "numbers", "number", "?acc2"]) rfl (Or.inl rfl))) (fun C s H ex => pts_nil) (fun C s H ex => (pv_cmp op_isN g_isN (pv_var 2) pv_non (nomark _)))))))) pv_non (pv_call1T call_tuple_of g_tupOf rfl T.b_tuple boot_tuple (PV.rd (pv_var 1)))))
    vss_nil)))
theorem sc_z14 : FnScope ["form", "word"] ["form", "word"] (defScope (top 14)) := scs
include T in
theorem ok_z14 : FnOk P w K mg base CX0 3 a.a_z14 a.fd_z14 ["form", "word"] (spV K mg [false, false] f_z14) := by
  have S := sc_z14
  refine fn_ok (N := ["form", "word"]) (ps := ["form", "word"]) (body := b_z14) T.d_z14.fu S rfl fun cdv A outer s H E hr => ?_
  exact (vss_cons (vs_if (pb_inTab T.g_DEEDS rfl (pv_var 0) (by with_unfolding_all rfl)) (vss_cons (vs_ret (pv_if (pb_cmp op_in_seq (g_in false) (pv_var 1) (pv_tabT T.g_DEEDS rfl (pv_var 0)) (by with_unfolding_all rfl)) (pv_var 1) pv_non))
    vss_nil) vss_nil)
    (vss_cons (vs_ret (pv_if (pb_cmp (op_eqD hr.units) g_eqD (pv_var 0) (pv_strE nm_28) (nomark _)) (pc T.d_z13 (ok_z13 T) hr rfl (pas_val (pv_var 1) pas_nil)) (pc T.d_z12 (ok_z12 T) hr rfl (pas_val (pv_var 1) pas_nil))))
    vss_nil))
theorem sc_z11 : FnScope ["words", "kind", "parts"] ["words"] (defScope (top 13)) := scs
include T in
theorem ok_z11 : FnOk P w K mg base CX0 4 a.a_z11 a.fd_z11 ["words"] (spV K mg [false] f_z11) := by
  have S := sc_z11
  refine fn_ok (N := ["words", "kind", "parts"]) (ps := ["words"]) (body := b_z11) T.d_z11.fu S rfl fun cdv A outer s H E hr => ?_
  exact (vss_cons (vs_set 1 S.nd rfl (Or.inl rfl) (pv_ix (pv_var 0) pv_int))
    (vss_cons (vs_if (PBW.pb (pb_or (pb_notInTab T.g_FORMS rfl (pv_var 1) (by with_unfolding_all rfl)) (pb_or1 (pb_cmp (op_neD hr.units) g_neD (pv_call1B call_len_seq g_len rfl T.b_len PySem.boot_len (PV.rd (pv_var 0))) (pv_op op_addA g_addA pv_int (pv_call1B call_len_seq g_len rfl T.b_len PySem.boot_len (PV.rd (pv_tabT T.g_FORMS rfl (pv_var 1))))) (nomark _))))) (vss_cons (vs_ret pv_non)
    vss_nil) vss_nil)
    (vss_cons (vs_setC 2 2 S.nd rfl (Or.inl rfl) rfl (N' := ["words", "kind", "parts", "form", "word", "?acc3"]) ⟨rfl, by kernel_rfl⟩ rfl (vi_zip rfl T.b_zip (pl_cons (pv_tabT T.g_FORMS rfl (pv_var 1)) (pl_cons (pv_sl (pv_var 0) (pp_some pv_int) pp_none) pl_nil))) gTup_x (hjs_of (by kernel_rfl)) (fun C s H ex => (vg_tup rfl (vgs_cons 3 (ndk ["words", "kind", "parts", "form", "word", "?acc3"]) rfl (Or.inl rfl) (vgs_cons 4 (ndk ["words", "kind", "parts", "form", "word", "?acc3"]) rfl (Or.inl rfl) vgs_nil)))) (fun C s H ex => pts_nil) (fun C s H ex => (pc T.d_z14 (ok_z14 T) hr rfl (pas_val (pv_var 3) (pas_val (pv_var 4) pas_nil)))))
    (vss_cons (vs_ret (pv_if (pb_val (pv_call1B (call_anyT rfl) (g_allB false) rfl T.b_any VS.boot_any (PV.rd (PF.pv (pf_comp 1 rfl (N' := ["words", "kind", "parts", "part", "?acc3"]) ⟨rfl, by kernel_rfl⟩ rfl (vi_seq (pv_var 2)) gName_x (hjs_of (by kernel_rfl)) (fun C s H ex => (vg_name 3 (ndk ["words", "kind", "parts", "part", "?acc3"]) rfl (Or.inl rfl))) (fun C s H ex => pts_nil) (fun C s H ex => (pv_cmp op_isN g_isN (pv_var 3) pv_non (nomark _)))))))) pv_non (pv_op op_addA g_addA (pv_tup (pl_cons (pv_var 1) pl_nil)) (pv_call1T call_tuple_of g_tupOf rfl T.b_tuple boot_tuple (PV.rd (pv_var 2))))))
    vss_nil))))
theorem sc_z15 : FnScope ["text", "program", "number", "row", "line"] ["text"] (defScope (top 12)) := scs
include T in
theorem ok_z15 : FnOk P w K mg base (CX1 P w) 5 a.a_z15 a.fd_z15 ["text"] (spV K mg [false] f_z15) := by
  have S := sc_z15
  refine fn_okX (N := ["text", "program", "number", "row", "line"]) (ps := ["text"]) (body := b_z15) T.d_z15.fu S rfl fun cdv A outer s H E hr hx hp => ?_
  exact (vss_cons (vs_own 1 S.nd rfl (Or.inl rfl) (pf_lst pl_nil))
    (vss_cons (vs_for hp rfl (vi_enum rfl T.b_enumerate (pl_cons (pv_mt PySem.F.slot_str_split PySem.F.type_str_split mt_split g_split (pv_var 0) (pv_strE nm_32)) pl_nil)) (vg_tup rfl (vgs_cons 2 S.nd rfl (Or.inl rfl) (vgs_cons 3 S.nd rfl (Or.inl rfl) vgs_nil))) (vss_cons (vs_set 4 S.nd rfl (Or.inl rfl) (pc T.d_z11 (ok_z11 T) hr rfl (pas_val (pv_mt PySem.F.slot_str_split PySem.F.type_str_split mt_split g_split (pv_var 3) (pv_strE nm_33)) pas_nil)))
    (vss_cons (vs_if (pb_cmp op_isN g_isN (pv_var 4) pv_non (nomark _)) (vss_cons (vs_raiseI1 (ok_NoText_init T) hr rfl T.kx_NoText rfl rfl rfl rfl (pl_cons (pv_var 2) pl_nil))
    vss_nil) vss_nil)
    (vss_cons (vs_app 1 (pv_var 4) (hpe := fun ho ha => pe_bm PySem.F.plainAttrs_list PySem.F.slot_list_append PySem.F.type_list_append mt_append ho ha))
    vss_nil))) gTup_x)
    (vss_cons (vs_fz (i := 1) (vs_ret (pv_var 1)))
    vss_nil)))
theorem sc_z1 : FnScope ["_law_text", "e"] ["_law_text"] (defScope (top 26)) := scs
include T in
theorem ok_z1 : FnOk P w K mg base CX0 6 a.a_z1 a.fd_z1 ["_law_text"] (spV K mg [false] f_z1) := by
  have S := sc_z1
  refine fn_okT (N := ["_law_text", "e"]) (ps := ["_law_text"]) (body := b_z1) T.d_z1.fu S rfl fun cdv A outer s H E hr => ?_
  exact (vss_cons0 (vs_try T.ct_NoText (by rfl) T.kx_NoText T.ts_NoText 1 rfl S.nd rfl rfl rfl rfl rfl (fun EXb hx hp => (vss_cons (vs_ret (pv_call (ok_z15 T) (hr.mono (by decide)) rfl T.d_z15.mg T.d_z15.fu.kp T.d_z15.bi hx (pas_val (pv_var 0) pas_nil)))
    vss_nil)) (fun e => (vss_cons (vs_if (PBW.pb (pb_or (pb_val (pv_isaX T.kx_NoTable T.ix_NoTable rfl T.b_isinstance rfl (pv_var 1))) (pb_or (pb_val (pv_isaX T.kx_NoCell T.ix_NoCell rfl T.b_isinstance rfl (pv_var 1))) (pb_or (pb_val (pv_isaX T.kx_BadLine T.ix_BadLine rfl T.b_isinstance rfl (pv_var 1))) (pb_or1 (pb_not (pb_val (pcH T.d_z8 (okH_z8 T) hr rfl (pas_val (pv_fldX T.xf_row (pv_var 1)) pas_nil))))))))) (vss_cons (vs_ret pv_non)
    vss_nil) vss_nil)
    (vss_cons (vs_ret (pv_fldX T.xf_row (pv_var 1)))
    vss_nil))))
    (vss_0 vss_nil))
theorem sc_z7 : FnScope ["_law_row", "_law_many", "_law_at"] ["_law_row", "_law_many"] (defScope (top 18)) := scs
include T in
theorem ok_z7 : FnOk P w K mg base CX0 1 a.a_z7 a.fd_z7 ["_law_row", "_law_many"] (spV K mg [true, false] f_z7) := by
  have S := sc_z7
  refine fn_ok (N := ["_law_row", "_law_many", "_law_at"]) (ps := ["_law_row", "_law_many"]) (body := b_z7) T.d_z7.fu S rfl fun cdv A outer s H E hr => ?_
  exact (vss_cons (vs_set 2 S.nd rfl (Or.inl rfl) (pv_ixO 0 pv_int))
    (vss_cons (vs_setIx 0 pv_int (pv_op op_addA g_addA (pv_var 2) pv_int))
    (vss_cons (vs_if (pb_cmp op_lt g_lt (pv_var 2) (pv_call1B call_len_seq g_len rfl T.b_len PySem.boot_len (PV.rd (pv_ixO 0 pv_int))) (nomark _)) (vss_cons (vs_ret (pv_op op_mod g_mod (pv_ix (pv_ixO 0 pv_int) (pv_var 2)) (pv_var 1)))
    vss_nil) vss_nil)
    (vss_cons (vs_ret pv_int)
    vss_nil))))
theorem sc_z3 : FnScope ["_law_row", "_law_form", "_law_way", "_law_number", "_law_folds"] ["_law_row", "_law_form"] (defScope (top 22)) := scs
include T in
theorem ok_z3 : FnOk P w K mg base CX0 2 a.a_z3 a.fd_z3 ["_law_row", "_law_form"] (spV K mg [true, false] f_z3) := by
  have S := sc_z3
  refine fn_ok (N := ["_law_row", "_law_form", "_law_way", "_law_number", "_law_folds"]) (ps := ["_law_row", "_law_form"]) (body := b_z3) T.d_z3.fu S rfl fun cdv A outer s H E hr => ?_
  exact (vss_cons (vs_if (pb_cmp (op_eqD hr.units) g_eqD (pv_var 1) (pv_strE nm_38) (nomark _)) (vss_cons (vs_set 2 S.nd rfl (Or.inl rfl) (pc T.d_z7 (ok_z7 T) hr rfl (pas_io 0 (pas_val pv_int pas_nil))))
    (vss_cons (vs_set 3 S.nd rfl (Or.inl rfl) (pc T.d_z7 (ok_z7 T) hr rfl (pas_io 0 (pas_val (pv_op op_pow g_pow pv_int pv_int) pas_nil))))
    (vss_cons (vs_if (pb_cmp op_lt g_lt (pv_var 2) pv_int (nomark _)) (vss_cons (vs_ret (pv_op op_sub g_sub (pv_op op_mod g_mod (pv_var 3) pv_int) pv_int))
    vss_nil) vss_nil)
    (vss_cons (vs_ret (pv_ix (PF.pv (pf_lst (pl_cons (pv_var 3) (pl_cons (pv_op op_sub g_sub pv_int (pv_var 3)) pl_nil)))) (pv_op op_sub g_sub (pv_var 2) pv_int)))
    vss_nil)))) vss_nil)
    (vss_cons (vs_if (pb_cmp (op_eqD hr.units) g_eqD (pv_var 1) (pv_strE nm_48) (nomark _)) (vss_cons (vs_ret (pv_call1T call_tuple_of g_tupOf rfl T.b_tuple boot_tuple (PV.rd (PF.pv (pf_comp 1 rfl (N' := ["_law_row", "_law_form", "_law_way", "_law_number", "_law_folds", "_law_k", "?acc5"]) ⟨rfl, by kernel_rfl⟩ rfl (vi_range1 rfl T.b_range (pl_cons (pc T.d_z7 (ok_z7 T) hr rfl (pas_io 0 (pas_val pv_int pas_nil))) pl_nil)) gName_x (hjs_of (by kernel_rfl)) (fun C s H ex => (vg_name 5 (ndk ["_law_row", "_law_form", "_law_way", "_law_number", "_law_folds", "_law_k", "?acc5"]) rfl (Or.inl rfl))) (fun C s H ex => pts_nil) (fun C s H ex => (pv_op op_sub g_sub (pc T.d_z7 (ok_z7 T) hr rfl (pas_io 0 (pas_val pv_int pas_nil))) pv_int)))))))
    vss_nil) vss_nil)
    (vss_cons (vs_if (pb_cmp (op_eqD hr.units) g_eqD (pv_var 1) (pv_strE nm_49) (nomark _)) (vss_cons (vs_ret (pv_ix (PF.pv (pf_lst (pl_cons (pv_strE nm_16) (pl_cons (pv_strE nm_17) (pl_cons (pv_strE nm_18) pl_nil))))) (pc T.d_z7 (ok_z7 T) hr rfl (pas_io 0 (pas_val pv_int pas_nil)))))
    vss_nil) vss_nil)
    (vss_cons (vs_set 4 S.nd rfl (Or.inl rfl) (PF.pv (pf_lst (pl_cons (pv_strE nm_19) (pl_cons (pv_strE nm_21) (pl_cons (pv_strE nm_22) (pl_cons (pv_strE nm_23) pl_nil)))))))
    (vss_cons (vs_if (pb_cmp (op_eqD hr.units) g_eqD (pv_var 1) (pv_strE nm_50) (nomark _)) (vss_cons (vs_ret (pv_ix (pv_var 4) (pc T.d_z7 (ok_z7 T) hr rfl (pas_io 0 (pas_val pv_int pas_nil)))))
    vss_nil) vss_nil)
    (vss_cons (vs_ret (pv_ix (pv_op op_addA g_addA (pv_var 4) (PF.pv (pf_lst (pl_cons (pv_strE nm_20) (pl_cons (pv_strE nm_24) (pl_cons (pv_strE nm_25) pl_nil)))))) (pc T.d_z7 (ok_z7 T) hr rfl (pas_io 0 (pas_val pv_int pas_nil)))))
    vss_nil))))))
theorem sc_z4 : FnScope ["_law_text", "e"] ["_law_text"] (defScope (top 27)) := scs
include T in
theorem ok_z4 : FnOk P w K mg base CX0 6 a.a_z4 a.fd_z4 ["_law_text"] (spV K mg [false] f_z4) := by
  have S := sc_z4
  refine fn_okT (N := ["_law_text", "e"]) (ps := ["_law_text"]) (body := b_z4) T.d_z4.fu S rfl fun cdv A outer s H E hr => ?_
  exact (vss_cons0 (vs_try T.ct_LoomError (by rfl) T.kx_LoomError T.ts_LoomError 1 rfl S.nd rfl rfl rfl rfl rfl (fun EXb hx hp => (vss_cons (vs_expr (pv_call (ok_z15 T) (hr.mono (by decide)) rfl T.d_z15.mg T.d_z15.fu.kp T.d_z15.bi hx (pas_val (pv_var 0) pas_nil)))
    vss_nil)) (fun e => (vss_cons (vs_ret (pv_isaXT "ValueError" T.ix_ValueError rfl T.b_isinstance rfl T.b_ValueError (by decide +kernel) (pv_var 1)))
    vss_nil)))
    (vss_cons0 (vs_0 (vs_ret pv_bl))
    (vss_0 vss_nil)))
theorem sc_z2 : FnScope ["_law_found_here", "_law_due", "_law_number"] ["_law_found_here", "_law_due"] (defScope (top 20)) := scs
include T in
theorem ok_z2 : FnOk P w K mg base CX0 2 a.a_z2 a.fd_z2 ["_law_found_here", "_law_due"] (spV K mg [false, false] f_z2) := by
  have S := sc_z2
  refine fn_ok (N := ["_law_found_here", "_law_due", "_law_number"]) (ps := ["_law_found_here", "_law_due"]) (body := b_z2) T.d_z2.fu S rfl fun cdv A outer s H E hr => ?_
  exact (vss_cons (vs_if (PBW.pb (pb_or (pb_not (pb_val (pv_isa "tuple" (by simp) rfl T.b_isinstance rfl T.b_tuple (by decide +kernel) (PV.rd (pv_var 0))))) (pb_or1 (pb_cmp (op_neD hr.units) g_neD (pv_call1B call_len_seq g_len rfl T.b_len PySem.boot_len (PV.rd (pv_var 0))) (pv_call1B call_len_seq g_len rfl T.b_len PySem.boot_len (PV.rd (pv_var 1))) (nomark _))))) (vss_cons (vs_ret pv_bl)
    vss_nil) vss_nil)
    (vss_cons (vs_for PassesOwn.never rfl (vi_seq (pv_var 0)) (vg_name 2 S.nd rfl (Or.inl rfl)) (vss_cons (vs_if (pb_not (pb_val (pc T.d_z8 (ok_z8 T) hr rfl (pas_val (pv_var 2) pas_nil)))) (vss_cons (vs_ret pv_bl)
    vss_nil) vss_nil)
    vss_nil) gName_x)
    (vss_cons (vs_ret (pv_cmp (op_eqD hr.units) g_eqD (pv_var 0) (pv_var 1) (nomark _)))
    vss_nil)))
theorem sc_z5 : FnScope ["_law_found_here", "_law_program", "_law_k", "_law_one", "_law_due"] ["_law_found_here", "_law_program"] (defScope (top 24)) := scs
include T in
theorem ok_z5 : FnOk P w K mg base CX0 3 a.a_z5 a.fd_z5 ["_law_found_here", "_law_program"] (spV K mg [false, false] f_z5) := by
  have S := sc_z5
  refine fn_ok (N := ["_law_found_here", "_law_program", "_law_k", "_law_one", "_law_due"]) (ps := ["_law_found_here", "_law_program"]) (body := b_z5) T.d_z5.fu S rfl fun cdv A outer s H E hr => ?_
  exact (vss_cons (vs_if (PBW.pb (pb_or (pb_not (pb_val (pv_isa "list" (by simp) rfl T.b_isinstance rfl T.b_list (by decide +kernel) (PV.rd (pv_var 0))))) (pb_or1 (pb_cmp (op_neD hr.units) g_neD (pv_call1B call_len_seq g_len rfl T.b_len PySem.boot_len (PV.rd (pv_var 0))) (pv_call1B call_len_seq g_len rfl T.b_len PySem.boot_len (PV.rd (pv_var 1))) (nomark _))))) (vss_cons (vs_ret pv_bl)
    vss_nil) vss_nil)
    (vss_cons (vs_for PassesOwn.never rfl (vi_range1 rfl T.b_range (pl_cons (pv_call1B call_len_seq g_len rfl T.b_len PySem.boot_len (PV.rd (pv_var 1))) pl_nil)) (vg_name 2 S.nd rfl (Or.inl rfl)) (vss_cons (vs_if (PBW.pb (pb_or (pb_not (pb_val (pv_isa "tuple" (by simp) rfl T.b_isinstance rfl T.b_tuple (by decide +kernel) (PV.rd (pv_ix (pv_var 0) (pv_var 2)))))) (pb_or1 (pb_cmp (op_neD hr.units) g_neD (pv_call1B call_len_seq g_len rfl T.b_len PySem.boot_len (PV.rd (pv_ix (pv_var 0) (pv_var 2)))) (pv_call1B call_len_seq g_len rfl T.b_len PySem.boot_len (PV.rd (pv_ix (pv_var 1) (pv_var 2)))) (nomark _))))) (vss_cons (vs_ret pv_bl)
    vss_nil) vss_nil)
    (vss_cons (vs_for PassesOwn.never rfl (vi_zip rfl T.b_zip (pl_cons (pv_ix (pv_var 0) (pv_var 2)) (pl_cons (pv_ix (pv_var 1) (pv_var 2)) pl_nil))) (vg_tup rfl (vgs_cons 3 S.nd rfl (Or.inl rfl) (vgs_cons 4 S.nd rfl (Or.inl rfl) vgs_nil))) (vss_cons (vs_if (PBW.pb (pb_and (pb_val (pv_isa "tuple" (by simp) rfl T.b_isinstance rfl T.b_tuple (by decide +kernel) (PV.rd (pv_var 4)))) (pb_and1 (pb_not (pb_val (pc T.d_z2 (ok_z2 T) hr rfl (pas_val (pv_var 3) (pas_val (pv_var 4) pas_nil)))))))) (vss_cons (vs_ret pv_bl)
    vss_nil) vss_nil)
    (vss_cons (vs_if (PBW.pb (pb_and (pb_val (pv_isa "str" (by simp) rfl T.b_isinstance rfl T.b_str (by decide +kernel) (PV.rd (pv_var 4)))) (pb_and1 (pb_not (PBW.pb (pb_and (pb_val (pv_isa "str" (by simp) rfl T.b_isinstance rfl T.b_str (by decide +kernel) (PV.rd (pv_var 3)))) (pb_and1 (pb_cmp (op_eqD hr.units) g_eqD (pv_var 3) (pv_var 4) (nomark _))))))))) (vss_cons (vs_ret pv_bl)
    vss_nil) vss_nil)
    (vss_cons (vs_if (PBW.pb (pb_and (pb_val (pc T.d_z8 (ok_z8 T) hr rfl (pas_val (pv_var 4) pas_nil))) (pb_and1 (pb_not (PBW.pb (pb_and (pb_val (pc T.d_z8 (ok_z8 T) hr rfl (pas_val (pv_var 3) pas_nil))) (pb_and1 (pb_cmp (op_eqD hr.units) g_eqD (pv_var 3) (pv_var 4) (nomark _))))))))) (vss_cons (vs_ret pv_bl)
    vss_nil) vss_nil)
    vss_nil))) gTup_x)
    vss_nil)) gName_x)
    (vss_cons (vs_ret pv_bl)
    vss_nil)))
theorem sc_z6 : FnScope ["_law_words", "_law_form", "_law_way", "_law_at", "_law_spot", "_law_bad", "_law_some"] ["_law_words", "_law_form", "_law_way", "_law_at"] (defScope (top 25)) := scs
include T in
theorem ok_z6 : FnOk P w K mg base CX0 1 a.a_z6 a.fd_z6 ["_law_words", "_law_form", "_law_way", "_law_at"] (spV K mg [false, false, false, false] f_z6) := by
  have S := sc_z6
  refine fn_ok (N := ["_law_words", "_law_form", "_law_way", "_law_at", "_law_spot", "_law_bad", "_law_some"]) (ps := ["_law_words", "_law_form", "_law_way", "_law_at"]) (body := b_z6) T.d_z6.fu S rfl fun cdv A outer s H E hr => ?_
  exact (vss_cons (vs_set 4 S.nd rfl (Or.inl rfl) (pv_op op_addA g_addA pv_int (pv_op op_mod g_mod (pv_var 3) (pv_call1B call_len_str g_lenS rfl T.b_len PySem.boot_len (PV.rd (pv_var 1))))))
    (vss_cons (vs_own 5 S.nd rfl (Or.inl rfl) (pf_list rfl T.b_list boot_list (PV.rd (pv_var 0))))
    (vss_cons (vs_if (pb_cmp (op_eqD hr.units) g_eqD (pv_var 2) pv_int (nomark _)) (vss_cons (vs_fz (i := 5) (vs_ret (pv_op op_addA g_addA (pv_var 5) (PF.pv (pf_lst (pl_cons (pv_strE nm_49) pl_nil))))))
    vss_nil) vss_nil)
    (vss_cons (vs_if (pb_cmp (op_eqD hr.units) g_eqD (pv_var 2) pv_int (nomark _)) (vss_cons (vs_fz (i := 5) (vs_ret (pv_sl (pv_var 5) pp_none (pp_some (pv_un un_neg un_negG pv_int)))))
    vss_nil) vss_nil)
    (vss_cons (vs_if (pb_cmp (op_eqD hr.units) g_eqD (pv_var 2) pv_int (nomark _)) (vss_cons (vs_fz (i := 5) (vs_ret (pv_op op_addA g_addA (PF.pv (pf_lst (pl_cons (pv_ix (PF.pv (pf_lst (pl_cons (pv_strE nm_51) (pl_cons (pv_strE nm_52) (pl_cons (pv_strE nm_53) (pl_cons (pv_strE nm_34) (pl_cons (pv_strE nm_26) (pl_cons (pv_strE nm_54) pl_nil)))))))) (pv_op op_mod g_mod (pv_var 3) pv_int)) pl_nil))) (pv_sl (pv_var 5) (pp_some pv_int) pp_none))))
    vss_nil) vss_nil)
    (vss_cons (vs_if (pb_cmp (op_eqD hr.units) g_eqD (pv_var 2) pv_int (nomark _)) (vss_cons (vs_ret (PF.pv (pf_lst (pl_cons (pv_strE nm_54) pl_nil))))
    vss_nil) vss_nil)
    (vss_cons (vs_if (pb_cmp (op_eqD hr.units) g_eqD (pv_var 2) pv_int (nomark _)) (vss_cons (vs_fz (i := 5) (vs_ret (pv_op op_addA g_addA (pv_op op_addA g_addA (pv_sl (pv_var 5) pp_none (pp_some (pv_var 4))) (PF.pv (pf_lst (pl_cons (pv_strE nm_54) pl_nil)))) (pv_sl (pv_var 5) (pp_some (pv_var 4)) pp_none))))
    vss_nil) vss_nil)
    (vss_cons (vs_if (pb_cmp (op_eqD hr.units) g_eqD (pv_var 2) pv_int (nomark _)) (vss_cons (vs_fz (i := 5) (vs_ret (pv_ix (PF.pv (pf_lst (pl_cons (pv_op op_addA g_addA (pv_var 5) (PF.pv (pf_lst (pl_cons (pv_strE nm_54) pl_nil)))) (pl_cons (pv_op op_addA g_addA (PF.pv (pf_lst (pl_cons (pv_op op_add_str g_addS (pv_ix (pv_var 5) pv_int) (pv_strE nm_55)) pl_nil))) (pv_sl (pv_var 5) (pp_some pv_int) pp_none)) pl_nil)))) (pv_op op_mod g_mod (pv_var 3) pv_int))))
    vss_nil) vss_nil)
    (vss_cons (vs_set 6 S.nd rfl (Or.inl rfl) (PF.pv (pf_lst (pl_cons (pv_strE nm_56) (pl_cons (pv_strE nm_57) (pl_cons (pv_strE nm_58) (pl_cons (pv_strE nm_59) (pl_cons (pv_strE nm_60) (pl_cons (pv_strE nm_61) (pl_cons (pv_strE nm_62) (pl_cons (pv_strE nm_63) (pl_cons (pv_op op_mulS g_mulS (pv_strE nm_49) pv_int) (pl_cons (pv_strE nm_65) (pl_cons (pv_strE nm_54) (pl_cons (pv_strE nm_66) (pl_cons (pv_strE nm_67) (pl_cons (pv_strE nm_68) pl_nil)))))))))))))))))
    (vss_cons (vs_setIx 5 (pv_var 4) (pv_ix (pv_var 6) (pv_op op_mod g_mod (pv_op op_fdiv g_fdiv (pv_var 3) pv_int) pv_int)))
    (vss_cons (vs_if (pb_cmp (op_eqD hr.units) g_eqD (pv_var 2) pv_int (nomark _)) (vss_cons (vs_setIx 5 (pv_var 4) (pv_ix (PF.pv (pf_lst (pl_cons (pv_strE nm_69) (pl_cons (pv_strE nm_70) (pl_cons (pv_strE nm_71) (pl_cons (pv_strE nm_34) (pl_cons (pv_strE nm_72) (pl_cons (pv_strE nm_73) (pl_cons (pv_strE nm_74) pl_nil))))))))) (pv_op op_mod g_mod (pv_op op_fdiv g_fdiv (pv_var 3) pv_int) pv_int)))
    (vss_cons (vs_if (PBW.pb (pb_and (pb_cmp (op_eqD hr.units) g_eqD (pv_ixS (pv_var 1) (pv_op op_sub g_sub (pv_var 4) pv_int)) (pv_strE nm_48) (nomark _)) (pb_and1 (pb_cmp (op_eqD hr.units) g_eqD (pv_ixO 5 (pv_var 4)) (pv_strE nm_34) (nomark _))))) (vss_cons (vs_setIx 5 (pv_var 4) (pv_strE nm_75))
    vss_nil) vss_nil)
    vss_nil)) vss_nil)
    (vss_cons (vs_fz (i := 5) (vs_ret (pv_var 5)))
    vss_nil))))))))))))
theorem sc_z9 : FnScope ["_law_part_here"] ["_law_part_here"] (defScope (top 23)) := scs
include T in
theorem ok_z9 : FnOk P w K mg base CX0 1 a.a_z9 a.fd_z9 ["_law_part_here"] (spV K mg [false] f_z9) := by
  have S := sc_z9
  refine fn_ok (N := ["_law_part_here"]) (ps := ["_law_part_here"]) (body := b_z9) T.d_z9.fu S rfl fun cdv A outer s H E hr => ?_
  exact (vss_cons (vs_if (pb_not (pb_val (pv_isa "tuple" (by simp) rfl T.b_isinstance rfl T.b_tuple (by decide +kernel) (PV.rd (pv_var 0))))) (vss_cons (vs_ret (pv_call1T call_text g_text rfl T.b_str boot_str (PV.rd (pv_var 0))))
    vss_nil) vss_nil)
    (vss_cons (vs_if (pb_cmp (op_eqD hr.units) g_eqD (pv_var 0) (pv_tup pl_nil) (nomark _)) (vss_cons (vs_ret (pv_strE nm_34))
    vss_nil) vss_nil)
    (vss_cons (vs_ret (pv_mt PySem.F.slot_str_join PySem.F.type_str_join mt_join g_join (pv_strE nm_35) (PF.pv (pf_comp 1 rfl (N' := ["_law_part_here", "_law_number", "?acc1"]) ⟨rfl, by kernel_rfl⟩ rfl (vi_seq (pv_var 0)) gName_x (hjs_of (by kernel_rfl)) (fun C s H ex => (vg_name 1 (ndk ["_law_part_here", "_law_number", "?acc1"]) rfl (Or.inl rfl))) (fun C s H ex => pts_nil) (fun C s H ex => (pv_call1T call_text g_text rfl T.b_str boot_str (PV.rd (pv_var 1))))))))
    vss_nil)))
theorem sc_law : FnScope ["_law_script", "_law_row", "_law_way", "_law_at", "_law_program", "_law_rows", "_law_forms_here", "_law_k", "_law_form", "_law_bad", "_law_text"] ["_law_script"] (defScope (top 28)) := scs
include T in
theorem ok_law : FnOk P w K mg base (CX1 P w) 7 a.a_law a.fd_law ["_law_script"] (spV K mg [false] f_law) := by
  have S := sc_law
  refine fn_okX (N := ["_law_script", "_law_row", "_law_way", "_law_at", "_law_program", "_law_rows", "_law_forms_here", "_law_k", "_law_form", "_law_bad", "_law_text"]) (ps := ["_law_script"]) (body := b_law) T.d_law.fu S rfl fun cdv A outer s H E hr hx hp => ?_
  exact (vss_cons (vs_own 1 S.nd rfl (Or.inr rfl) (pf_lst (pl_cons (pv_var 0) (pl_cons pv_int pl_nil))))
    (vss_cons (vs_set 2 S.nd rfl (Or.inl rfl) (pc T.d_z7 (ok_z7 T) hr rfl (pas_io 1 (pas_val pv_int pas_nil))))
    (vss_cons (vs_set 3 S.nd rfl (Or.inl rfl) (pc T.d_z7 (ok_z7 T) hr rfl (pas_io 1 (pas_val pv_int pas_nil))))
    (vss_cons (vs_own 4 S.nd rfl (Or.inl rfl) (pf_lst pl_nil))
    (vss_cons (vs_own 5 S.nd rfl (Or.inl rfl) (pf_lst pl_nil))
    (vss_cons (vs_own 6 S.nd rfl (Or.inl rfl) (pf_lst pl_nil))
    (vss_cons (vs_for hp rfl (vi_range1 rfl T.b_range (pl_cons (pv_op op_addA g_addA pv_int (pc T.d_z7 (ok_z7 T) hr rfl (pas_io 1 (pas_val pv_int pas_nil)))) pl_nil)) (vg_name 7 S.nd rfl (Or.inl rfl)) (vss_cons (vs_set 8 S.nd rfl (Or.inl rfl) (pv_ix (pv_call0 (ok_z0 T) (hr.mono (by decide)) rfl T.d_z0.mg T.d_z0.fu.kp T.d_z0.bi pass0V) (pc T.d_z7 (ok_z7 T) hr rfl (pas_io 1 (pas_val pv_int pas_nil)))))
    (vss_cons (vs_app 4 (pv_call1T call_tuple_of g_tupOf rfl T.b_tuple boot_tuple (PV.rd (pv_op op_addA g_addA (PF.pv (pf_lst (pl_cons (pv_ix (pv_var 8) pv_int) pl_nil))) (PF.pv (pf_comp 1 rfl (N' := ["_law_script", "_law_row", "_law_way", "_law_at", "_law_program", "_law_rows", "_law_forms_here", "_law_k", "_law_form", "_law_bad", "_law_text", "_law_one", "?acc11"]) ⟨rfl, by kernel_rfl⟩ rfl (vi_signs (pv_ix (pv_var 8) pv_int)) gName_x (hjs_of (by kernel_rfl)) (fun C s H ex => (vg_name 11 (ndk ["_law_script", "_law_row", "_law_way", "_law_at", "_law_program", "_law_rows", "_law_forms_here", "_law_k", "_law_form", "_law_bad", "_law_text", "_law_one", "?acc11"]) rfl (Or.inl rfl))) (fun C s H ex => pts_nil) (fun C s H ex => (pc T.d_z3 (ok_z3 T) hr rfl (pas_io 1 (pas_val (pv_var 11) pas_nil))))))))) (hpe := fun ho ha => pe_bm PySem.F.plainAttrs_list PySem.F.slot_list_append PySem.F.type_list_append mt_append ho ha))
    (vss_cons (vs_app 5 (PF.pv (pf_comp 1 rfl (N' := ["_law_script", "_law_row", "_law_way", "_law_at", "_law_program", "_law_rows", "_law_forms_here", "_law_k", "_law_form", "_law_bad", "_law_text", "_law_part_here", "?acc11"]) ⟨rfl, by kernel_rfl⟩ rfl (vi_seq (pv_ixO 4 (pv_var 7))) gName_x (hjs_of (by kernel_rfl)) (fun C s H ex => (vg_name 11 (ndk ["_law_script", "_law_row", "_law_way", "_law_at", "_law_program", "_law_rows", "_law_forms_here", "_law_k", "_law_form", "_law_bad", "_law_text", "_law_part_here", "?acc11"]) rfl (Or.inl rfl))) (fun C s H ex => pts_nil) (fun C s H ex => (pc T.d_z9 (ok_z9 T) hr rfl (pas_val (pv_var 11) pas_nil))))) (hpe := fun ho ha => pe_bm PySem.F.plainAttrs_list PySem.F.slot_list_append PySem.F.type_list_append mt_append ho ha))
    (vss_cons (vs_app 6 (pv_ix (pv_var 8) pv_int) (hpe := fun ho ha => pe_bm PySem.F.plainAttrs_list PySem.F.slot_list_append PySem.F.type_list_append mt_append ho ha))
    vss_nil)))) gName_x)
    (vss_cons (vs_if (pb_cmp op_gt g_gt (pv_var 2) pv_int (nomark _)) (vss_cons (vs_fz (i := 4) (vs_fz (i := 5) (vs_ret (pc T.d_z5 (ok_z5 T) hr rfl (pas_val (pv_call (ok_z15 T) (hr.mono (by decide)) rfl T.d_z15.mg T.d_z15.fu.kp T.d_z15.bi hx (pas_val (pv_mt PySem.F.slot_str_join PySem.F.type_str_join mt_join g_join (pv_strE nm_32) (PF.pv (pf_comp 1 rfl (N' := ["_law_script", "_law_row", "_law_way", "_law_at", "_law_program", "_law_rows", "_law_forms_here", "_law_k", "_law_form", "_law_bad", "_law_text", "_law_words", "?acc11"]) ⟨rfl, by kernel_rfl⟩ rfl (vi_seq (pv_var 5)) gName_x (hjs_of (by kernel_rfl)) (fun C s H ex => (vg_name 11 (ndk ["_law_script", "_law_row", "_law_way", "_law_at", "_law_program", "_law_rows", "_law_forms_here", "_law_k", "_law_form", "_law_bad", "_law_text", "_law_words", "?acc11"]) rfl (Or.inl rfl))) (fun C s H ex => pts_nil) (fun C s H ex => (pv_mt PySem.F.slot_str_join PySem.F.type_str_join mt_join g_join (pv_strE nm_33) (pv_var 11)))))) pas_nil)) (pas_val (pv_var 4) pas_nil))))))
    vss_nil) vss_nil)
    (vss_cons (vs_set 9 S.nd rfl (Or.inl rfl) (pv_op op_mod g_mod (pv_op op_fdiv g_fdiv (pv_var 3) pv_int) (pv_call1B call_len_seq g_len rfl T.b_len PySem.boot_len (pr_var 5))))
    (vss_cons (vs_setIx 5 (pv_var 9) (pc T.d_z6 (ok_z6 T) hr rfl (pas_val (pv_ixO 5 (pv_var 9)) (pas_val (pv_ixO 6 (pv_var 9)) (pas_val (pv_var 2) (pas_val (pv_op op_mod g_mod (pv_var 3) pv_int) pas_nil))))))
    (vss_cons (vs_if (PBW.pb (pb_and (pb_cmp (op_eqD hr.units) g_eqD (pv_op op_mod g_mod (pv_var 3) pv_int) pv_int (nomark _)) (pb_and1 (pb_cmp op_lt g_lt (pv_op op_addA g_addA (pv_var 9) pv_int) (pv_call1B call_len_seq g_len rfl T.b_len PySem.boot_len (pr_var 5)) (nomark _))))) (vss_cons (vs_setIx 5 (pv_un un_neg un_negG pv_int) (PF.pv (pf_lst (pl_cons (pv_strE nm_54) pl_nil))))
    vss_nil) vss_nil)
    (vss_cons (vs_fz (i := 5) (vs_set 10 S.nd rfl (Or.inl rfl) (pv_mt PySem.F.slot_str_join PySem.F.type_str_join mt_join g_join (pv_strE nm_32) (PF.pv (pf_comp 1 rfl (N' := ["_law_script", "_law_row", "_law_way", "_law_at", "_law_program", "_law_rows", "_law_forms_here", "_law_k", "_law_form", "_law_bad", "_law_text", "_law_words", "?acc11"]) ⟨rfl, by kernel_rfl⟩ rfl (vi_seq (pv_var 5)) gName_x (hjs_of (by kernel_rfl)) (fun C s H ex => (vg_name 11 (ndk ["_law_script", "_law_row", "_law_way", "_law_at", "_law_program", "_law_rows", "_law_forms_here", "_law_k", "_law_form", "_law_bad", "_law_text", "_law_words", "?acc11"]) rfl (Or.inl rfl))) (fun C s H ex => pts_nil) (fun C s H ex => (pv_mt PySem.F.slot_str_join PySem.F.type_str_join mt_join g_join (pv_strE nm_33) (pv_var 11))))))))
    (vss_cons (vs_ret (pv_and (pv_cmp (op_eqD hr.units) g_eqD (pc T.d_z1 (ok_z1 T) hr rfl (pas_val (pv_var 10) pas_nil)) (pv_var 9) (nomark _)) (pv_one (pc T.d_z4 (ok_z4 T) hr rfl (pas_val (pv_var 10) pas_nil)))))
    vss_nil)))))))))))))
end
end LW

end
section
set_option Elab.async false
set_option maxRecDepth 100000
set_option maxHeartbeats 4000000
namespace LW
open PySem PySem.Spec PyProof.Rows L2 VP VS
theorem txt_mk {w : World} {K : Frag} {mg : MG} {h : Heap} (X : K.In h) (G : h.Ns mainGlobals mg)
    {f_z0 f_z8 f_z12 f_z13 f_z14 f_z11 f_z15 f_z1 f_z7 f_z3 f_z4 f_z2 f_z5 f_z6 f_z9 f_law : Addr}
    (h_z0 : DH K "_law_forms" (top 21) f_z0)
    (h_z8 : DH K "_law_whole" (top 19) f_z8)
    (h_z12 : DH K "number_read" (top 16) f_z12)
    (h_z13 : DH K "numbers_read" (top 15) f_z13)
    (h_z14 : DH K "part_read" (top 14) f_z14)
    (h_z11 : DH K "line_read" (top 13) f_z11)
    (h_z15 : DH K "read_program" (top 12) f_z15)
    (h_z1 : DH K "_law_found" (top 26) f_z1)
    (h_z7 : DH K "_law_taken" (top 18) f_z7)
    (h_z3 : DH K "_law_part" (top 22) f_z3)
    (h_z4 : DH K "_law_refused" (top 27) f_z4)
    (h_z2 : DH K "_law_numbers" (top 20) f_z2)
    (h_z5 : DH K "_law_same" (top 24) f_z5)
    (h_z6 : DH K "_law_spoilt" (top 25) f_z6)
    (h_z9 : DH K "_law_word" (top 23) f_z9)
    (h_law : DH K "law" (top 28) f_law)
    {C_BadLine : Addr} (n_BadLine : PySem.W.nsIn K mainGlobals "BadLine" = some (some (.ref C_BadLine)))
    {C_LoomError : Addr} (n_LoomError : PySem.W.nsIn K mainGlobals "LoomError" = some (some (.ref C_LoomError)))
    {C_NoCell : Addr} (n_NoCell : PySem.W.nsIn K mainGlobals "NoCell" = some (some (.ref C_NoCell)))
    {C_NoTable : Addr} (n_NoTable : PySem.W.nsIn K mainGlobals "NoTable" = some (some (.ref C_NoTable)))
    {C_NoText : Addr} (n_NoText : PySem.W.nsIn K mainGlobals "NoText" = some (some (.ref C_NoText)))
    {fi_NoText : Addr} (x_NoText : ExcI K C_NoText fi_NoText) (h_NoText_init : DM K "__init__" "NoText.__init__" (inClass (top 5) 0) fi_NoText) (es_NoText_row : ErrS K C_NoText "row")
    (ct_LoomError : CatK K C_LoomError) (em_LoomError_NoText : PySem.W.mroIn K C_NoText (.ref C_LoomError) = some true)
    (ct_NoText : CatK K C_NoText) (em_NoText_NoText : PySem.W.mroIn K C_NoText (.ref C_NoText) = some true)
    (ec_NoText : ErrC K C_NoText)
    (ei_BadLine_NoText : PySem.W.kitOne K (.ref C_NoText) (.ref C_BadLine) = some false)
    (ei_NoCell_NoText : PySem.W.kitOne K (.ref C_NoText) (.ref C_NoCell) = some false)
    (ei_NoTable_NoText : PySem.W.kitOne K (.ref C_NoText) (.ref C_NoTable) = some false)
    (ei_ValueError_NoText : PySem.W.kitOne K (.ref C_NoText) (.type "ValueError") = some true)
    (sp_ : PySem.W.specialIn K (.builtin "object.__class__") "__get__" = some (some (.builtin "getset_descriptor.__get__"))) (tk_ : PySem.W.takesIn K (.builtin "object.__class__") = some true)
    {q_DEEDS : Addr}
    {es_DEEDS : Array DictEntry} {n_DEEDS : Nat} (g_DEEDS : PySem.W.nsIn K mainGlobals "DEEDS" = some (some (.ref q_DEEDS))) (o_DEEDS : K.lookup q_DEEDS = some ⟨.type "dict", none, .dict es_DEEDS n_DEEDS, #[]⟩) (h_DEEDS : PySem.W.KeysLit w.params es_DEEDS.toList)
    (sm_DEEDS : (q_DEEDS == sysModules) = false)
    {t_DEEDS_0 : Addr} (e_DEEDS_0 : PySem.W.nsIn K q_DEEDS "one" = some (some (.ref t_DEEDS_0)))
    {m_DEEDS_0 : Nat} {w_DEEDS_0_0 : Tok} {w_DEEDS_0_1 : Tok} {w_DEEDS_0_2 : Tok} (u_DEEDS_0 : K.lookup t_DEEDS_0 = some ⟨.type "tuple", none, .seq #[.str "minus" w_DEEDS_0_0, .str "half" w_DEEDS_0_1, .str "none" w_DEEDS_0_2] m_DEEDS_0, #[]⟩)
    {t_DEEDS_1 : Addr} (e_DEEDS_1 : PySem.W.nsIn K q_DEEDS "both" = some (some (.ref t_DEEDS_1)))
    {m_DEEDS_1 : Nat} {w_DEEDS_1_0 : Tok} {w_DEEDS_1_1 : Tok} {w_DEEDS_1_2 : Tok} {w_DEEDS_1_3 : Tok} {w_DEEDS_1_4 : Tok} {w_DEEDS_1_5 : Tok} {w_DEEDS_1_6 : Tok} (u_DEEDS_1 : K.lookup t_DEEDS_1 = some ⟨.type "tuple", none, .seq #[.str "add" w_DEEDS_1_0, .str "less" w_DEEDS_1_1, .str "times" w_DEEDS_1_2, .str "least" w_DEEDS_1_3, .str "most" w_DEEDS_1_4, .str "below" w_DEEDS_1_5, .str "alike" w_DEEDS_1_6] m_DEEDS_1, #[]⟩)
    {t_DEEDS_2 : Addr} (e_DEEDS_2 : PySem.W.nsIn K q_DEEDS "fold" = some (some (.ref t_DEEDS_2)))
    {m_DEEDS_2 : Nat} {w_DEEDS_2_0 : Tok} {w_DEEDS_2_1 : Tok} {w_DEEDS_2_2 : Tok} {w_DEEDS_2_3 : Tok} (u_DEEDS_2 : K.lookup t_DEEDS_2 = some ⟨.type "tuple", none, .seq #[.str "add" w_DEEDS_2_0, .str "times" w_DEEDS_2_1, .str "least" w_DEEDS_2_2, .str "most" w_DEEDS_2_3] m_DEEDS_2, #[]⟩)
    (ab_DEEDS_0 : PySem.W.nsIn K q_DEEDS "0123456789" = some none)
    (ab_DEEDS_1 : PySem.W.nsIn K q_DEEDS "number" = some none)
    (ab_DEEDS_2 : PySem.W.nsIn K q_DEEDS "numbers" = some none)
    (ab_DEEDS_3 : PySem.W.nsIn K q_DEEDS "line" = some none)
    (ab_DEEDS_4 : PySem.W.nsIn K q_DEEDS "-" = some none)
    {t_FIGURES : Tok} (g_FIGURES : PySem.W.nsIn K mainGlobals "FIGURES" = some (some (.str "0123456789" t_FIGURES)))
    {q_FORMS : Addr}
    {es_FORMS : Array DictEntry} {n_FORMS : Nat} (g_FORMS : PySem.W.nsIn K mainGlobals "FORMS" = some (some (.ref q_FORMS))) (o_FORMS : K.lookup q_FORMS = some ⟨.type "dict", none, .dict es_FORMS n_FORMS, #[]⟩) (h_FORMS : PySem.W.KeysLit w.params es_FORMS.toList)
    (sm_FORMS : (q_FORMS == sysModules) = false)
    {t_FORMS_0 : Addr} (e_FORMS_0 : PySem.W.nsIn K q_FORMS "given" = some (some (.ref t_FORMS_0)))
    {m_FORMS_0 : Nat} {w_FORMS_0_0 : Tok} (u_FORMS_0 : K.lookup t_FORMS_0 = some ⟨.type "tuple", none, .seq #[.str "number" w_FORMS_0_0] m_FORMS_0, #[]⟩)
    {t_FORMS_1 : Addr} (e_FORMS_1 : PySem.W.nsIn K q_FORMS "even" = some (some (.ref t_FORMS_1)))
    {m_FORMS_1 : Nat} {w_FORMS_1_0 : Tok} {w_FORMS_1_1 : Tok} (u_FORMS_1 : K.lookup t_FORMS_1 = some ⟨.type "tuple", none, .seq #[.str "numbers" w_FORMS_1_0, .str "number" w_FORMS_1_1] m_FORMS_1, #[]⟩)
    {t_FORMS_2 : Addr} (e_FORMS_2 : PySem.W.nsIn K q_FORMS "turn" = some (some (.ref t_FORMS_2)))
    {m_FORMS_2 : Nat} {w_FORMS_2_0 : Tok} {w_FORMS_2_1 : Tok} (u_FORMS_2 : K.lookup t_FORMS_2 = some ⟨.type "tuple", none, .seq #[.str "line" w_FORMS_2_0, .str "numbers" w_FORMS_2_1] m_FORMS_2, #[]⟩)
    {t_FORMS_3 : Addr} (e_FORMS_3 : PySem.W.nsIn K q_FORMS "cut" = some (some (.ref t_FORMS_3)))
    {m_FORMS_3 : Nat} {w_FORMS_3_0 : Tok} {w_FORMS_3_1 : Tok} {w_FORMS_3_2 : Tok} {w_FORMS_3_3 : Tok} {w_FORMS_3_4 : Tok} (u_FORMS_3 : K.lookup t_FORMS_3 = some ⟨.type "tuple", none, .seq #[.str "line" w_FORMS_3_0, .str "number" w_FORMS_3_1, .str "number" w_FORMS_3_2, .str "number" w_FORMS_3_3, .str "number" w_FORMS_3_4] m_FORMS_3, #[]⟩)
    {t_FORMS_4 : Addr} (e_FORMS_4 : PySem.W.nsIn K q_FORMS "drop" = some (some (.ref t_FORMS_4)))
    {m_FORMS_4 : Nat} {w_FORMS_4_0 : Tok} {w_FORMS_4_1 : Tok} {w_FORMS_4_2 : Tok} (u_FORMS_4 : K.lookup t_FORMS_4 = some ⟨.type "tuple", none, .seq #[.str "line" w_FORMS_4_0, .str "number" w_FORMS_4_1, .str "number" w_FORMS_4_2] m_FORMS_4, #[]⟩)
    {t_FORMS_5 : Addr} (e_FORMS_5 : PySem.W.nsIn K q_FORMS "wide" = some (some (.ref t_FORMS_5)))
    {m_FORMS_5 : Nat} {w_FORMS_5_0 : Tok} {w_FORMS_5_1 : Tok} (u_FORMS_5 : K.lookup t_FORMS_5 = some ⟨.type "tuple", none, .seq #[.str "line" w_FORMS_5_0, .str "number" w_FORMS_5_1] m_FORMS_5, #[]⟩)
    {t_FORMS_6 : Addr} (e_FORMS_6 : PySem.W.nsIn K q_FORMS "spread" = some (some (.ref t_FORMS_6)))
    {m_FORMS_6 : Nat} {w_FORMS_6_0 : Tok} {w_FORMS_6_1 : Tok} (u_FORMS_6 : K.lookup t_FORMS_6 = some ⟨.type "tuple", none, .seq #[.str "line" w_FORMS_6_0, .str "numbers" w_FORMS_6_1] m_FORMS_6, #[]⟩)
    {t_FORMS_7 : Addr} (e_FORMS_7 : PySem.W.nsIn K q_FORMS "shape" = some (some (.ref t_FORMS_7)))
    {m_FORMS_7 : Nat} {w_FORMS_7_0 : Tok} {w_FORMS_7_1 : Tok} (u_FORMS_7 : K.lookup t_FORMS_7 = some ⟨.type "tuple", none, .seq #[.str "line" w_FORMS_7_0, .str "numbers" w_FORMS_7_1] m_FORMS_7, #[]⟩)
    {t_FORMS_8 : Addr} (e_FORMS_8 : PySem.W.nsIn K q_FORMS "shift" = some (some (.ref t_FORMS_8)))
    {m_FORMS_8 : Nat} {w_FORMS_8_0 : Tok} {w_FORMS_8_1 : Tok} {w_FORMS_8_2 : Tok} {w_FORMS_8_3 : Tok} (u_FORMS_8 : K.lookup t_FORMS_8 = some ⟨.type "tuple", none, .seq #[.str "line" w_FORMS_8_0, .str "number" w_FORMS_8_1, .str "number" w_FORMS_8_2, .str "number" w_FORMS_8_3] m_FORMS_8, #[]⟩)
    {t_FORMS_9 : Addr} (e_FORMS_9 : PySem.W.nsIn K q_FORMS "one" = some (some (.ref t_FORMS_9)))
    {m_FORMS_9 : Nat} {w_FORMS_9_0 : Tok} {w_FORMS_9_1 : Tok} (u_FORMS_9 : K.lookup t_FORMS_9 = some ⟨.type "tuple", none, .seq #[.str "one" w_FORMS_9_0, .str "line" w_FORMS_9_1] m_FORMS_9, #[]⟩)
    {t_FORMS_10 : Addr} (e_FORMS_10 : PySem.W.nsIn K q_FORMS "both" = some (some (.ref t_FORMS_10)))
    {m_FORMS_10 : Nat} {w_FORMS_10_0 : Tok} {w_FORMS_10_1 : Tok} {w_FORMS_10_2 : Tok} (u_FORMS_10 : K.lookup t_FORMS_10 = some ⟨.type "tuple", none, .seq #[.str "both" w_FORMS_10_0, .str "line" w_FORMS_10_1, .str "line" w_FORMS_10_2] m_FORMS_10, #[]⟩)
    {t_FORMS_11 : Addr} (e_FORMS_11 : PySem.W.nsIn K q_FORMS "where" = some (some (.ref t_FORMS_11)))
    {m_FORMS_11 : Nat} {w_FORMS_11_0 : Tok} {w_FORMS_11_1 : Tok} {w_FORMS_11_2 : Tok} (u_FORMS_11 : K.lookup t_FORMS_11 = some ⟨.type "tuple", none, .seq #[.str "line" w_FORMS_11_0, .str "line" w_FORMS_11_1, .str "line" w_FORMS_11_2] m_FORMS_11, #[]⟩)
    {t_FORMS_12 : Addr} (e_FORMS_12 : PySem.W.nsIn K q_FORMS "fold" = some (some (.ref t_FORMS_12)))
    {m_FORMS_12 : Nat} {w_FORMS_12_0 : Tok} {w_FORMS_12_1 : Tok} {w_FORMS_12_2 : Tok} (u_FORMS_12 : K.lookup t_FORMS_12 = some ⟨.type "tuple", none, .seq #[.str "fold" w_FORMS_12_0, .str "line" w_FORMS_12_1, .str "number" w_FORMS_12_2] m_FORMS_12, #[]⟩)
    {t_FORMS_13 : Addr} (e_FORMS_13 : PySem.W.nsIn K q_FORMS "run" = some (some (.ref t_FORMS_13)))
    {m_FORMS_13 : Nat} {w_FORMS_13_0 : Tok} {w_FORMS_13_1 : Tok} {w_FORMS_13_2 : Tok} (u_FORMS_13 : K.lookup t_FORMS_13 = some ⟨.type "tuple", none, .seq #[.str "fold" w_FORMS_13_0, .str "line" w_FORMS_13_1, .str "number" w_FORMS_13_2] m_FORMS_13, #[]⟩)
    {t_FORMS_14 : Addr} (e_FORMS_14 : PySem.W.nsIn K q_FORMS "pick" = some (some (.ref t_FORMS_14)))
    {m_FORMS_14 : Nat} {w_FORMS_14_0 : Tok} {w_FORMS_14_1 : Tok} {w_FORMS_14_2 : Tok} (u_FORMS_14 : K.lookup t_FORMS_14 = some ⟨.type "tuple", none, .seq #[.str "line" w_FORMS_14_0, .str "number" w_FORMS_14_1, .str "line" w_FORMS_14_2] m_FORMS_14, #[]⟩)
    {t_FORMS_15 : Addr} (e_FORMS_15 : PySem.W.nsIn K q_FORMS "join" = some (some (.ref t_FORMS_15)))
    {m_FORMS_15 : Nat} {w_FORMS_15_0 : Tok} {w_FORMS_15_1 : Tok} {w_FORMS_15_2 : Tok} (u_FORMS_15 : K.lookup t_FORMS_15 = some ⟨.type "tuple", none, .seq #[.str "line" w_FORMS_15_0, .str "line" w_FORMS_15_1, .str "number" w_FORMS_15_2] m_FORMS_15, #[]⟩)
    (ab_FORMS_0 : PySem.W.nsIn K q_FORMS "minus" = some none)
    (ab_FORMS_1 : PySem.W.nsIn K q_FORMS "half" = some none)
    (ab_FORMS_2 : PySem.W.nsIn K q_FORMS "none" = some none)
    (ab_FORMS_3 : PySem.W.nsIn K q_FORMS "add" = some none)
    (ab_FORMS_4 : PySem.W.nsIn K q_FORMS "less" = some none)
    (ab_FORMS_5 : PySem.W.nsIn K q_FORMS "times" = some none)
    (ab_FORMS_6 : PySem.W.nsIn K q_FORMS "least" = some none)
    (ab_FORMS_7 : PySem.W.nsIn K q_FORMS "most" = some none)
    (ab_FORMS_8 : PySem.W.nsIn K q_FORMS "below" = some none)
    (ab_FORMS_9 : PySem.W.nsIn K q_FORMS "alike" = some none)
    (ab_FORMS_10 : PySem.W.nsIn K q_FORMS "0123456789" = some none)
    (ab_FORMS_11 : PySem.W.nsIn K q_FORMS "-" = some none)
    (ab_FORMS_12 : PySem.W.nsIn K q_FORMS "givens" = some none)
    (ab_FORMS_13 : PySem.W.nsIn K q_FORMS "Even" = some none)
    (ab_FORMS_14 : PySem.W.nsIn K q_FORMS "cuts" = some none)
    (ab_FORMS_15 : PySem.W.nsIn K q_FORMS "line" = some none)
    (ab_FORMS_16 : PySem.W.nsIn K q_FORMS "" = some none)
    (ab_FORMS_17 : PySem.W.nsIn K q_FORMS "given\t" = some none)
    (ab_FORMS_18 : PySem.W.nsIn K q_FORMS "even\t" = some none)
    (ab_FORMS_19 : PySem.W.nsIn K q_FORMS "turn\t" = some none)
    (ab_FORMS_20 : PySem.W.nsIn K q_FORMS "cut\t" = some none)
    (ab_FORMS_21 : PySem.W.nsIn K q_FORMS "drop\t" = some none)
    (ab_FORMS_22 : PySem.W.nsIn K q_FORMS "wide\t" = some none)
    (ab_FORMS_23 : PySem.W.nsIn K q_FORMS "spread\t" = some none)
    (ab_FORMS_24 : PySem.W.nsIn K q_FORMS "shape\t" = some none)
    (ab_FORMS_25 : PySem.W.nsIn K q_FORMS "shift\t" = some none)
    (ab_FORMS_26 : PySem.W.nsIn K q_FORMS "one\t" = some none)
    (ab_FORMS_27 : PySem.W.nsIn K q_FORMS "both\t" = some none)
    (ab_FORMS_28 : PySem.W.nsIn K q_FORMS "where\t" = some none)
    (ab_FORMS_29 : PySem.W.nsIn K q_FORMS "fold\t" = some none)
    (ab_FORMS_30 : PySem.W.nsIn K q_FORMS "run\t" = some none)
    (ab_FORMS_31 : PySem.W.nsIn K q_FORMS "pick\t" = some none)
    (ab_FORMS_32 : PySem.W.nsIn K q_FORMS "join\t" = some none)
    {t_MOST_FIGURES : Tok} (g_MOST_FIGURES : PySem.W.nsIn K mainGlobals "MOST_FIGURES" = some (some (.int 12 t_MOST_FIGURES)))
    {t_NO_NUMBERS : Tok} (g_NO_NUMBERS : PySem.W.nsIn K mainGlobals "NO_NUMBERS" = some (some (.str "-" t_NO_NUMBERS)))
    (z_ValueError : PySem.W.nsIn K mainGlobals "ValueError" = some none)
    (z_all : PySem.W.nsIn K mainGlobals "all" = some none)
    (z_any : PySem.W.nsIn K mainGlobals "any" = some none)
    (z_bool : PySem.W.nsIn K mainGlobals "bool" = some none)
    (z_enumerate : PySem.W.nsIn K mainGlobals "enumerate" = some none)
    (z_int : PySem.W.nsIn K mainGlobals "int" = some none)
    (z_isinstance : PySem.W.nsIn K mainGlobals "isinstance" = some none)
    (z_len : PySem.W.nsIn K mainGlobals "len" = some none)
    (z_list : PySem.W.nsIn K mainGlobals "list" = some none)
    (z_range : PySem.W.nsIn K mainGlobals "range" = some none)
    (z_str : PySem.W.nsIn K mainGlobals "str" = some none)
    (z_tuple : PySem.W.nsIn K mainGlobals "tuple" = some none)
    (z_zip : PySem.W.nsIn K mainGlobals "zip" = some none)
    : ∃ a : Adr, Txt w K mg a ∧ ∀ (s : Shared) (v : Value), BindsTo s a.fd_law ⟨[v], []⟩ [("_law_script", v)] := by
  obtain ⟨d_z0, D_z0⟩ := h_z0.is X G (ps := []) bi0
  obtain ⟨d_z8, D_z8⟩ := h_z8.is X G (ps := ["_law_found_here"]) bi1
  obtain ⟨d_z12, D_z12⟩ := h_z12.is X G (ps := ["word"]) bi1
  obtain ⟨d_z13, D_z13⟩ := h_z13.is X G (ps := ["word"]) bi1
  obtain ⟨d_z14, D_z14⟩ := h_z14.is X G (ps := ["form", "word"]) bi2
  obtain ⟨d_z11, D_z11⟩ := h_z11.is X G (ps := ["words"]) bi1
  obtain ⟨d_z15, D_z15⟩ := h_z15.is X G (ps := ["text"]) bi1
  obtain ⟨d_z1, D_z1⟩ := h_z1.is X G (ps := ["_law_text"]) bi1
  obtain ⟨d_z7, D_z7⟩ := h_z7.is X G (ps := ["_law_row", "_law_many"]) bi2
  obtain ⟨d_z3, D_z3⟩ := h_z3.is X G (ps := ["_law_row", "_law_form"]) bi2
  obtain ⟨d_z4, D_z4⟩ := h_z4.is X G (ps := ["_law_text"]) bi1
  obtain ⟨d_z2, D_z2⟩ := h_z2.is X G (ps := ["_law_found_here", "_law_due"]) bi2
  obtain ⟨d_z5, D_z5⟩ := h_z5.is X G (ps := ["_law_found_here", "_law_program"]) bi2
  obtain ⟨d_z6, D_z6⟩ := h_z6.is X G (ps := ["_law_words", "_law_form", "_law_way", "_law_at"]) bi4
  obtain ⟨d_z9, D_z9⟩ := h_z9.is X G (ps := ["_law_part_here"]) bi1
  obtain ⟨d_law, D_law, B_law⟩ := h_law.law X G bi1 (fun _ _ _ _ _ _ _ _ => .of_eq rfl) (p := "_law_script")
  obtain ⟨di_NoText, Di_NoText⟩ := h_NoText_init.is (ps := ["self", "row"]) bi2
  refine ⟨⟨f_z0, d_z0, f_z8, d_z8, f_z12, d_z12, f_z13, d_z13, f_z14, d_z14, f_z11, d_z11, f_z15, d_z15, f_z1, d_z1, f_z7, d_z7, f_z3, d_z3, f_z4, d_z4, f_z2, d_z2, f_z5, d_z5, f_z6, d_z6, f_z9, d_z9, f_law, d_law, C_BadLine, C_LoomError, C_NoCell, C_NoTable, C_NoText, fi_NoText, di_NoText⟩, ⟨PySem.W.mg_none_of X G z_ValueError, PySem.W.mg_none_of X G z_all, PySem.W.mg_none_of X G z_any, PySem.W.mg_none_of X G z_bool, PySem.W.mg_none_of X G z_enumerate, PySem.W.mg_none_of X G z_int, PySem.W.mg_none_of X G z_isinstance, PySem.W.mg_none_of X G z_len, PySem.W.mg_none_of X G z_list, PySem.W.mg_none_of X G z_range, PySem.W.mg_none_of X G z_str, PySem.W.mg_none_of X G z_tuple, PySem.W.mg_none_of X G z_zip, ⟨⟨_, _, _, PySem.W.mg_of X G g_DEEDS, sm_DEEDS, o_DEEDS, h_DEEDS, tabT_all (t := tab_DEEDS) (List.forall_mem_cons.mpr ⟨⟨_, e_DEEDS_0, (valT u_DEEDS_0 (show (3 : Nat) ≤ sizeLine by decide) (.cons ⟨_, rfl⟩ (.cons ⟨_, rfl⟩ (.cons ⟨_, rfl⟩ .nil))))⟩, (List.forall_mem_cons.mpr ⟨⟨_, e_DEEDS_1, (valT u_DEEDS_1 (show (7 : Nat) ≤ sizeLine by decide) (.cons ⟨_, rfl⟩ (.cons ⟨_, rfl⟩ (.cons ⟨_, rfl⟩ (.cons ⟨_, rfl⟩ (.cons ⟨_, rfl⟩ (.cons ⟨_, rfl⟩ (.cons ⟨_, rfl⟩ .nil))))))))⟩, (List.forall_mem_cons.mpr ⟨⟨_, e_DEEDS_2, (valT u_DEEDS_2 (show (4 : Nat) ≤ sizeLine by decide) (.cons ⟨_, rfl⟩ (.cons ⟨_, rfl⟩ (.cons ⟨_, rfl⟩ (.cons ⟨_, rfl⟩ .nil)))))⟩, (List.forall_mem_nil _)⟩)⟩)⟩), (List.forall_mem_cons.mpr ⟨ab_DEEDS_0, (List.forall_mem_cons.mpr ⟨ab_DEEDS_1, (List.forall_mem_cons.mpr ⟨ab_DEEDS_2, (List.forall_mem_cons.mpr ⟨ab_DEEDS_3, (List.forall_mem_cons.mpr ⟨ab_DEEDS_4, (List.forall_mem_nil _)⟩)⟩)⟩)⟩)⟩)⟩⟩, ⟨_, PySem.W.mg_of X G g_FIGURES, ⟨_, rfl⟩⟩, ⟨⟨_, _, _, PySem.W.mg_of X G g_FORMS, sm_FORMS, o_FORMS, h_FORMS, tabT_all (t := tab_FORMS) (List.forall_mem_cons.mpr ⟨⟨_, e_FORMS_0, (valT u_FORMS_0 (show (1 : Nat) ≤ sizeLine by decide) (.cons ⟨_, rfl⟩ .nil))⟩, (List.forall_mem_cons.mpr ⟨⟨_, e_FORMS_1, (valT u_FORMS_1 (show (2 : Nat) ≤ sizeLine by decide) (.cons ⟨_, rfl⟩ (.cons ⟨_, rfl⟩ .nil)))⟩, (List.forall_mem_cons.mpr ⟨⟨_, e_FORMS_2, (valT u_FORMS_2 (show (2 : Nat) ≤ sizeLine by decide) (.cons ⟨_, rfl⟩ (.cons ⟨_, rfl⟩ .nil)))⟩, (List.forall_mem_cons.mpr ⟨⟨_, e_FORMS_3, (valT u_FORMS_3 (show (5 : Nat) ≤ sizeLine by decide) (.cons ⟨_, rfl⟩ (.cons ⟨_, rfl⟩ (.cons ⟨_, rfl⟩ (.cons ⟨_, rfl⟩ (.cons ⟨_, rfl⟩ .nil))))))⟩, (List.forall_mem_cons.mpr ⟨⟨_, e_FORMS_4, (valT u_FORMS_4 (show (3 : Nat) ≤ sizeLine by decide) (.cons ⟨_, rfl⟩ (.cons ⟨_, rfl⟩ (.cons ⟨_, rfl⟩ .nil))))⟩, (List.forall_mem_cons.mpr ⟨⟨_, e_FORMS_5, (valT u_FORMS_5 (show (2 : Nat) ≤ sizeLine by decide) (.cons ⟨_, rfl⟩ (.cons ⟨_, rfl⟩ .nil)))⟩, (List.forall_mem_cons.mpr ⟨⟨_, e_FORMS_6, (valT u_FORMS_6 (show (2 : Nat) ≤ sizeLine by decide) (.cons ⟨_, rfl⟩ (.cons ⟨_, rfl⟩ .nil)))⟩, (List.forall_mem_cons.mpr ⟨⟨_, e_FORMS_7, (valT u_FORMS_7 (show (2 : Nat) ≤ sizeLine by decide) (.cons ⟨_, rfl⟩ (.cons ⟨_, rfl⟩ .nil)))⟩, (List.forall_mem_cons.mpr ⟨⟨_, e_FORMS_8, (valT u_FORMS_8 (show (4 : Nat) ≤ sizeLine by decide) (.cons ⟨_, rfl⟩ (.cons ⟨_, rfl⟩ (.cons ⟨_, rfl⟩ (.cons ⟨_, rfl⟩ .nil)))))⟩, (List.forall_mem_cons.mpr ⟨⟨_, e_FORMS_9, (valT u_FORMS_9 (show (2 : Nat) ≤ sizeLine by decide) (.cons ⟨_, rfl⟩ (.cons ⟨_, rfl⟩ .nil)))⟩, (List.forall_mem_cons.mpr ⟨⟨_, e_FORMS_10, (valT u_FORMS_10 (show (3 : Nat) ≤ sizeLine by decide) (.cons ⟨_, rfl⟩ (.cons ⟨_, rfl⟩ (.cons ⟨_, rfl⟩ .nil))))⟩, (List.forall_mem_cons.mpr ⟨⟨_, e_FORMS_11, (valT u_FORMS_11 (show (3 : Nat) ≤ sizeLine by decide) (.cons ⟨_, rfl⟩ (.cons ⟨_, rfl⟩ (.cons ⟨_, rfl⟩ .nil))))⟩, (List.forall_mem_cons.mpr ⟨⟨_, e_FORMS_12, (valT u_FORMS_12 (show (3 : Nat) ≤ sizeLine by decide) (.cons ⟨_, rfl⟩ (.cons ⟨_, rfl⟩ (.cons ⟨_, rfl⟩ .nil))))⟩, (List.forall_mem_cons.mpr ⟨⟨_, e_FORMS_13, (valT u_FORMS_13 (show (3 : Nat) ≤ sizeLine by decide) (.cons ⟨_, rfl⟩ (.cons ⟨_, rfl⟩ (.cons ⟨_, rfl⟩ .nil))))⟩, (List.forall_mem_cons.mpr ⟨⟨_, e_FORMS_14, (valT u_FORMS_14 (show (3 : Nat) ≤ sizeLine by decide) (.cons ⟨_, rfl⟩ (.cons ⟨_, rfl⟩ (.cons ⟨_, rfl⟩ .nil))))⟩, (List.forall_mem_cons.mpr ⟨⟨_, e_FORMS_15, (valT u_FORMS_15 (show (3 : Nat) ≤ sizeLine by decide) (.cons ⟨_, rfl⟩ (.cons ⟨_, rfl⟩ (.cons ⟨_, rfl⟩ .nil))))⟩, (List.forall_mem_nil _)⟩)⟩)⟩)⟩)⟩)⟩)⟩)⟩)⟩)⟩)⟩)⟩)⟩)⟩)⟩)⟩), (List.forall_mem_cons.mpr ⟨ab_FORMS_0, (List.forall_mem_cons.mpr ⟨ab_FORMS_1, (List.forall_mem_cons.mpr ⟨ab_FORMS_2, (List.forall_mem_cons.mpr ⟨ab_FORMS_3, (List.forall_mem_cons.mpr ⟨ab_FORMS_4, (List.forall_mem_cons.mpr ⟨ab_FORMS_5, (List.forall_mem_cons.mpr ⟨ab_FORMS_6, (List.forall_mem_cons.mpr ⟨ab_FORMS_7, (List.forall_mem_cons.mpr ⟨ab_FORMS_8, (List.forall_mem_cons.mpr ⟨ab_FORMS_9, (List.forall_mem_cons.mpr ⟨ab_FORMS_10, (List.forall_mem_cons.mpr ⟨ab_FORMS_11, (List.forall_mem_cons.mpr ⟨ab_FORMS_12, (List.forall_mem_cons.mpr ⟨ab_FORMS_13, (List.forall_mem_cons.mpr ⟨ab_FORMS_14, (List.forall_mem_cons.mpr ⟨ab_FORMS_15, (List.forall_mem_cons.mpr ⟨ab_FORMS_16, (List.forall_mem_cons.mpr ⟨ab_FORMS_17, (List.forall_mem_cons.mpr ⟨ab_FORMS_18, (List.forall_mem_cons.mpr ⟨ab_FORMS_19, (List.forall_mem_cons.mpr ⟨ab_FORMS_20, (List.forall_mem_cons.mpr ⟨ab_FORMS_21, (List.forall_mem_cons.mpr ⟨ab_FORMS_22, (List.forall_mem_cons.mpr ⟨ab_FORMS_23, (List.forall_mem_cons.mpr ⟨ab_FORMS_24, (List.forall_mem_cons.mpr ⟨ab_FORMS_25, (List.forall_mem_cons.mpr ⟨ab_FORMS_26, (List.forall_mem_cons.mpr ⟨ab_FORMS_27, (List.forall_mem_cons.mpr ⟨ab_FORMS_28, (List.forall_mem_cons.mpr ⟨ab_FORMS_29, (List.forall_mem_cons.mpr ⟨ab_FORMS_30, (List.forall_mem_cons.mpr ⟨ab_FORMS_31, (List.forall_mem_cons.mpr ⟨ab_FORMS_32, (List.forall_mem_nil _)⟩)⟩)⟩)⟩)⟩)⟩)⟩)⟩)⟩)⟩)⟩)⟩)⟩)⟩)⟩)⟩)⟩)⟩)⟩)⟩)⟩)⟩)⟩)⟩)⟩)⟩)⟩)⟩)⟩)⟩)⟩)⟩)⟩)⟩⟩, ⟨_, PySem.W.mg_of X G g_MOST_FIGURES, ⟨_, rfl⟩⟩, ⟨_, PySem.W.mg_of X G g_NO_NUMBERS, ⟨_, rfl⟩⟩, D_z0, D_z8, D_z12, D_z13, D_z14, D_z11, D_z15, D_z1, D_z7, D_z3, D_z4, D_z2, D_z5, D_z6, D_z9, D_law, PySem.W.mg_of X G n_BadLine, PySem.W.mg_of X G n_LoomError, PySem.W.mg_of X G n_NoCell, PySem.W.mg_of X G n_NoTable, PySem.W.mg_of X G n_NoText, x_NoText, ⟨Di_NoText.1, Di_NoText.2⟩, es_NoText_row, (show XFld K mg ["NoText"] "row" from (List.forall_mem_cons.mpr ⟨⟨_, PySem.W.mg_of X G n_NoText, ec_NoText.toErrK, es_NoText_row.na, es_NoText_row.hd⟩, (List.forall_mem_nil _)⟩)), ct_LoomError, (List.forall_mem_cons.mpr ⟨fun _ => ⟨_, PySem.W.mg_of X G n_NoText, em_LoomError_NoText⟩, (List.forall_mem_nil _)⟩), ct_NoText, (List.forall_mem_cons.mpr ⟨fun _ => ⟨_, PySem.W.mg_of X G n_NoText, em_NoText_NoText⟩, (List.forall_mem_nil _)⟩), ⟨sp_, tk_, (List.forall_mem_cons.mpr ⟨⟨_, PySem.W.mg_of X G n_NoText, ec_NoText, ei_BadLine_NoText⟩, (List.forall_mem_nil _)⟩)⟩, ⟨sp_, tk_, (List.forall_mem_cons.mpr ⟨⟨_, PySem.W.mg_of X G n_NoText, ec_NoText, ei_NoCell_NoText⟩, (List.forall_mem_nil _)⟩)⟩, ⟨sp_, tk_, (List.forall_mem_cons.mpr ⟨⟨_, PySem.W.mg_of X G n_NoText, ec_NoText, ei_NoTable_NoText⟩, (List.forall_mem_nil _)⟩)⟩, ⟨sp_, tk_, (List.forall_mem_cons.mpr ⟨⟨_, PySem.W.mg_of X G n_NoText, ec_NoText, ei_ValueError_NoText⟩, (List.forall_mem_nil _)⟩)⟩⟩, B_law⟩
def spL (K : Frag) : Sp := fun vs H Q _ => ∃ (a : Addr) (ns : List Int), vs = [.ref a] ∧ SqL K H a (ns.map V.int) ∧ ns.length ≤ 63 ∧ ∀ H', Q (.bl true) H'
theorem law_fn {P : Program} {w : World} {K : Frag} {mg : MG} {base : Heap} {a : Adr} (T : Txt w K mg a) : FnOk P w K mg base CX0 7 a.a_law a.fd_law ["_law_script"] (spL K) := FnOk.no (ok_law T) fun vs H Q E ⟨p, ns, e, hs, hl, q⟩ => by
  subst e
  refine ⟨rfl, H, [Z ns], Same.refl _, ⟨.lst hs (DenL.ints ns), trivial⟩, by simp [ioAd, ioAs], ?_⟩
  rw [law_at]
  exact fun F' H' v _ hv => by cases hv; exact q H'
theorem walk {l : PySem.W.OpenLaw} {q : Program} {loose : List Str} {XP : (Str → Option Value) → Heap → Prop} {YP : World → Heap → Prop} {d : DefRec} {K : Params → PySem.W.Frag} (hn : l.most = some 63) (hdf : d.params.defaults = [])
    (hY : ∀ (w : World) (h : Heap), YP w h → (K w.params).In h)
    (F : ∀ (w : World) (mg : Str → Option Value) (fa : Addr) (h : Heap), (K w.params).In h → h.Ns mainGlobals mg → mg d.name = some (.ref fa) →
      ∃ fd : FuncData, (∀ (s : Shared) (u : Value), BindsTo s fd ⟨[u], []⟩ [("_law_script", u)]) ∧ ∀ base : Heap, (K w.params).In base → base.Ns mainGlobals mg → FnOk l.prog w (K w.params) mg base CX0 7 fa fd ["_law_script"] (spL (K w.params))) :
    PySem.W.WalkO q loose XP YP l.row.toRowW d [] (fun f vs => PySem.call f vs) :=
  L2.walk_of (n := 63) (k := 7) (x := "_law_script") (CX := fun _ => CX0) (sp := fun w => spL (K w.params)) hn (by decide) hdf ⟨rfl, by decide, by decide⟩ hY F (fun _ _ a ns hl _ hS => ⟨a, ns, rfl, hS, hl, fun _ => rfl⟩) fun _ _ _ _ _ z => z
theorem all_mk {l : PySem.W.OpenLaw} {w : World} {K : Frag} {mg : MG} {h : Heap} {fa : Addr} (X : K.In h) (G : h.Ns mainGlobals mg) (hfa : mg "law" = some (.ref fa)) (E : ∃ a : Adr, Txt w K mg a ∧ ∀ (s : Shared) (v : Value), BindsTo s a.fd_law ⟨[v], []⟩ [("_law_script", v)]) :
    ∃ fd : FuncData, (∀ (s : Shared) (v : Value), BindsTo s fd ⟨[v], []⟩ [("_law_script", v)]) ∧ ∀ base : Heap, K.In base → base.Ns mainGlobals mg → FnOk l.prog w K mg base CX0 7 fa fd ["_law_script"] (spL K) := by
  obtain ⟨a, T, hb⟩ := E
  have e := hfa.symm.trans T.d_law.mg
  cases e
  exact ⟨_, hb, fun base _ _ => law_fn T⟩
end LW
def PySem.W.Fast.tw16617386052622124109 : Nat := 0
def PySem.W.Fast.tw7844876771436624178 : Nat := 0
def PySem.W.Fast.tw2148928464401306774 : Nat := 0
def PySem.W.Fast.tw5332667504937424895 : Nat := 0
def PySem.W.Fast.tw5608018377311498820 : Nat := 0
def PySem.W.Fast.tw13167351775025578904 : Nat := 0
def PySem.W.Fast.tw1425400964202093883 : Nat := 0
def PySem.W.Fast.tw10694396890160531517 : Nat := 0
def PySem.W.Fast.tw8870174207888604717 : Nat := 0
def PySem.W.Fast.tw9830559466364648619 : Nat := 0
def PySem.W.Fast.tw9023681602898091031 : Nat := 0
def PySem.W.Fast.tw6371651946434679367 : Nat := 0
def PySem.W.Fast.tw2472924727443025868 : Nat := 0
def PySem.W.Fast.tw7352192282614763550 : Nat := 0
def PySem.W.Fast.tw8737866432721900135 : Nat := 0
def PySem.W.Fast.tw2353108732222226056 : Nat := 0
def PySem.W.Fast.tw10245340742193228554 : Nat := 0
def PySem.W.Fast.tw13523538970011092231 : Nat := 0
def PySem.W.Fast.tw5537208457589432426 : Nat := 0
def PySem.W.Fast.tw16318841667448936844 : Nat := 0
def PySem.W.Fast.tw3934791469386508493 : Nat := 0
def PySem.W.Fast.tw7805601212570945221 : Nat := 0
def PySem.W.Fast.tw4555245798881428253 : Nat := 0
def PySem.W.Fast.tw11904852381585909020 : Nat := 0
def PySem.W.Fast.tw480781669516138581 : Nat := 0
def PySem.W.Fast.tw6535341657363003768 : Nat := 0
def PySem.W.Fast.tw17592880345579358897 : Nat := 0
def PySem.W.Fast.tw3645946293848857225 : Nat := 0
def PySem.W.Fast.tw15206240858698559003 : Nat := 0
def PySem.W.Fast.tw2509276096308317124 : Nat := 0
def PySem.W.Fast.tw13584804511259684246 : Nat := 0
def PySem.W.Fast.tw5171589811346253142 : Nat := 0
def PySem.W.Fast.tw13048392246950401710 : Nat := 0
def PySem.W.Fast.tw9530946800919853321 : Nat := 0
def PySem.W.Fast.tw14690258369695473615 : Nat := 0
def PySem.W.Fast.tw4592447376850074106 : Nat := 0
def PySem.W.Fast.tw8231750148699071370 : Nat := 0
def PySem.W.Fast.tw5503376881454154426 : Nat := 0
def PySem.W.Fast.tw16839062690294070797 : Nat := 0
def PySem.W.Fast.tw14915625125341200670 : Nat := 0
def PySem.W.Fast.tw8821190013218446963 : Nat := 0
def PySem.W.Fast.tw782358914918523436 : Nat := 0
def PySem.W.Fast.tw6912966809828512664 : Nat := 0
def PySem.W.Fast.tw9319578416404650264 : Nat := 0
def PySem.W.Fast.tw2198240774524603979 : Nat := 0
def PySem.W.Fast.tw17948428108081599794 : Nat := 0
def PySem.W.Fast.tw15371317334256155007 : Nat := 0
def PySem.W.Fast.tw3860766080064319753 : Nat := 0
def PySem.W.Fast.tw14455117757688596171 : Nat := 0
def PySem.W.Fast.tw12474083185875068295 : Nat := 0
def PySem.W.Fast.tw4778477941488192868 : Nat := 0
def PySem.W.Fast.tw5242229370811943658 : Nat := 0
def PySem.W.Fast.tw4563390414214572483 : Nat := 0
def PySem.W.Fast.tw14926486397415135061 : Nat := 0
def PySem.W.Fast.tw834039447270653732 : Nat := 0
def PySem.W.Fast.tw12277117418889802900 : Nat := 0
def PySem.W.Fast.tw1140936683841126608 : Nat := 0
def PySem.W.Fast.tw10153920383632877042 : Nat := 0
def PySem.W.Fast.tw11267468526507185025 : Nat := 0
def PySem.W.Fast.tw9990857254871699596 : Nat := 0
def PySem.W.Fast.tw6843493606448911087 : Nat := 0
def PySem.W.Fast.tw16978836357388963722 : Nat := 0
def PySem.W.Fast.tw15212866207044793531 : Nat := 0
def PySem.W.Fast.tw11396321067420802259 : Nat := 0
def PySem.W.Fast.tw16156460489286175998 : Nat := 0
def PySem.W.Fast.tw17155098650255396804 : Nat := 0
def PySem.W.Fast.tw16572004627221904708 : Nat := 0
def PySem.W.Fast.tw13479392230823359759 : Nat := 0
def PySem.W.Fast.tw12504785938940848872 : Nat := 0
def PySem.W.Fast.tw10377952730283020064 : Nat := 0
def PySem.W.Fast.tw13688838031377281504 : Nat := 0
def PySem.W.Fast.tw1497909746188789407 : Nat := 0
open PySem PySem.W PyProof.Rows
set_option maxRecDepth 100000 in
set_option maxHeartbeats 0 in
theorem PySem.Challenge.cw_loomarrays_k08_texts_that_write_none_holds : PySem.Challenge.rw_loomarrays_k08_texts_that_write_none.Holds := by
  w_on; o_law; k_head; (case hw => w_witness2)
  k_fill
  refine LW.walk (l := PySem.Challenge.rw_loomarrays_k08_texts_that_write_none) rfl rfl (fun w h Y => PySem.W.kIn_of Y) ?F
  case F =>
    intro w mg fa h KX G hmg
    refine' LW.all_mk KX G hmg (LW.txt_mk KX G ..)
    any_goals (first | exact ⟨by k_is, ⟨⟨_, _, _, _, _, _, _, _, _, by k_is, by k_is⟩, by k_is⟩⟩ | exact ⟨⟨_, _, _, _, _, _, _, _, _, by k_is, by k_is⟩, by k_is⟩ | k_is | kit_is | k_exc | exact ⟨⟨by k_is, by k_is, by k_is, by k_is⟩, by k_is, by k_is⟩ | exact ⟨by k_is, by k_is, by k_is⟩ | exact ⟨⟨_, _, _, _, _, _, _, _, _, _, _, _, _, _, _, _, by k_is, by kernel_rfl, by k_is, by kernel_rfl⟩, by k_is⟩ | exact ⟨by k_is, by kernel_rfl, by k_is, by k_is⟩ | k_keys | rfl)
    try any_goals (first | exact ⟨by k_is, ⟨⟨_, _, _, _, _, _, _, _, _, by k_is, by k_is⟩, by k_is⟩⟩ | exact ⟨⟨_, _, _, _, _, _, _, _, _, by k_is, by k_is⟩, by k_is⟩ | k_is | kit_is | k_exc | exact ⟨⟨by k_is, by k_is, by k_is, by k_is⟩, by k_is, by k_is⟩ | exact ⟨by k_is, by k_is, by k_is⟩ | exact ⟨⟨_, _, _, _, _, _, _, _, _, _, _, _, _, _, _, _, by k_is, by kernel_rfl, by k_is, by kernel_rfl⟩, by k_is⟩ | exact ⟨by k_is, by kernel_rfl, by k_is, by k_is⟩ | k_keys | rfl)
    all_goals rfl

end
