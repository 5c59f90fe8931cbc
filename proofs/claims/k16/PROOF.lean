import PyProof.Rows.All
import Wide.All
import OpenK.AllK
import Wide.FinOn
import Lean
import PyProof.EqAt
import PyProof.EqKinds
import PyProof.TupleCall
import PySem.Str
import KE.KRevIter
import PyProof.CollectIter
import PyProof.TupleOfGen
import PyProof.Rows.SortWalk
import PyProof.ListRange
import PyProof.WalkInts
import PyProof.WalksMore
import PyProof.Rows.CallKwBuiltin
import PySem.Challenge.RW_loomarrays_k16_wanted_and_kept
set_option Elab.async false
section
set_option Elab.async false
set_option linter.all false
set_option maxRecDepth 100000
namespace L2
open PySem PySem.Spec PyProof.Rows
abbrev Key := Sum Int Str
def keyIs : Key → Value → Bool
  | .inl k, v => Value.isInt k v
  | .inr x, v => Value.isStrOf x v
def keyH (w : World) : Key → Int
  | .inl k => hashInt k
  | .inr x => hashStr w x
theorem keyIs_shape : ∀ {k : Key} {v : Value}, keyIs k v = true → (∃ i t, k = Sum.inl i ∧ v = Value.int i t) ∨ (∃ x t, k = Sum.inr x ∧ v = Value.str x t)
  | .inl i, v, h => by
    obtain ⟨t, e⟩ := Value.isInt_shape (k := i) (v := v) h
    exact .inl ⟨i, t, rfl, e⟩
  | .inr x, v, h => by
    obtain ⟨t, e⟩ := Value.isStrOf_shape (x := x) (v := v) h
    exact .inr ⟨x, t, rfl, e⟩
theorem key_ll (a b : Int) : decide ((Sum.inl a : Key) = Sum.inl b) = (a == b) := by
  by_cases e : a = b
  · subst e; simp
  · have h : ¬ (Sum.inl a : Key) = Sum.inl b := fun q => e (Sum.inl.inj q)
    rw [decide_eq_false h]
    exact (beq_eq_false_iff_ne.mpr e).symm
theorem key_rr (a b : Str) : decide ((Sum.inr a : Key) = Sum.inr b) = decide (a = b) := by
  by_cases e : a = b
  · subst e; simp
  · have h : ¬ (Sum.inr a : Key) = Sum.inr b := fun q => e (Sum.inr.inj q)
    rw [decide_eq_false h, decide_eq_false e]
theorem key_lr (a : Int) (b : Str) : decide ((Sum.inl a : Key) = Sum.inr b) = false := decide_eq_false (fun q => nomatch q)
theorem key_rl (a : Str) (b : Int) : decide ((Sum.inr a : Key) = Sum.inl b) = false := decide_eq_false (fun q => nomatch q)
def mixKind (prog : Program) (w : World) : PySem.KeyKind prog w Key where
  is := keyIs
  hash := keyH w
  inj := fun v a b ha hb => by
    rcases keyIs_shape ha with ⟨i, t, rfl, rfl⟩ | ⟨x, t, rfl, rfl⟩
    · rcases keyIs_shape hb with ⟨j, u, rfl, e⟩ | ⟨y, u, rfl, e⟩
      · injection e with e1 _; rw [e1]
      · exact nomatch e
    · rcases keyIs_shape hb with ⟨j, u, rfl, e⟩ | ⟨y, u, rfl, e⟩
      · exact nomatch e
      · injection e with e1 _; rw [e1]
  byValue := fun k v h => by
    rcases keyIs_shape h with ⟨i, t, rfl, rfl⟩ | ⟨x, t, rfl, rfl⟩ <;> rfl
  pyHash := fun hv h => by
    rcases keyIs_shape hv with ⟨i, t, rfl, rfl⟩ | ⟨x, t, rfl, rfl⟩
    · exact wpAny_pyHash_int h
    · exact wpAny_pyHash_str h
  eqBool := fun hu hv h => by
    rcases keyIs_shape hu with ⟨i, t, rfl, rfl⟩ | ⟨x, t, rfl, rfl⟩
    · rcases keyIs_shape hv with ⟨j, u, rfl, rfl⟩ | ⟨y, u, rfl, rfl⟩
      · rw [key_ll] at h; exact wpAny_eqBool_int h
      · rw [key_lr] at h; exact SeqAt.EqAt.int_str i t y u _ _ _ _ h
    · rcases keyIs_shape hv with ⟨j, u, rfl, rfl⟩ | ⟨y, u, rfl, rfl⟩
      · rw [key_rl] at h; exact SeqAt.EqAt.str_int x t j u _ _ _ _ h
      · rw [key_rr] at h; exact wpAny_eqBool_str h
  «strs» := fun k x t v h => by
    rcases keyIs_shape h with ⟨i, u, rfl, e⟩ | ⟨y, u, rfl, e⟩
    · exact nomatch e
    · injection e with e1 _
      subst e1
      cases v <;> rfl
end L2
namespace L2
open PySem PySem.Spec PyProof.Rows
inductive V where
  | non | bl (b : Bool) | int (i : Int) | str (x : Str) | byt (b : Array UInt8) | flt (b : UInt64) | ref (a : Addr) | ty (n : String)
  deriving DecidableEq
def RelV : V → Value → Prop
  | .non, u => u = Value.none
  | .bl b, u => u = Value.bool b
  | .int i, u => ∃ t, u = Value.int i t
  | .str x, u => ∃ t, u = Value.str x t
  | .byt b, u => ∃ t, u = Value.bytes b t
  | .flt b, u => ∃ t, u = Value.float b t
  | .ref a, u => u = Value.ref a
  | .ty n, u => u = Value.type n
abbrev Vals : List V → List Value → Prop := Paired RelV
theorem Vals.length {xs : List V} {us : List Value} (r : Vals xs us) : xs.length = us.length := Paired.length r
theorem Vals.get : ∀ {xs : List V} {us : List Value} {i : Nat} {x : V}, Vals xs us → xs[i]? = some x → ∃ u, us[i]? = some u ∧ RelV x u
  | _, _, _, _, .nil, e => by simp at e
  | _, _, 0, _, .cons r _, e => by simp at e; subst e; exact ⟨_, rfl, r⟩
  | _, _, i + 1, x, .cons _ t, e => by
    obtain ⟨u, h1, h2⟩ := Vals.get (i := i) (x := x) t (by simpa using e)
    exact ⟨u, by simpa using h1, h2⟩
theorem Vals.set {x : V} {u : Value} (r : RelV x u) : ∀ {xs : List V} {us : List Value} (i : Nat), Vals xs us → Vals (xs.set i x) (us.set i u)
  | _, _, _, .nil => .nil
  | _, _, 0, .cons _ t => .cons r t
  | _, _, i + 1, .cons q t => .cons q (Vals.set r i t)
theorem Vals.append : ∀ {xs ys : List V} {us ws : List Value}, Vals xs us → Vals ys ws → Vals (xs ++ ys) (us ++ ws)
  | _, _, _, _, .nil, s => s
  | _, _, _, _, .cons r t, s => .cons r (Vals.append t s)
theorem Vals.take : ∀ {xs : List V} {us : List Value} (n : Nat), Vals xs us → Vals (xs.take n) (us.take n)
  | _, _, 0, _ => .nil
  | _, _, _ + 1, .nil => .nil
  | _, _, n + 1, .cons r t => .cons r (Vals.take n t)
theorem Vals.drop : ∀ {xs : List V} {us : List Value} (n : Nat), Vals xs us → Vals (xs.drop n) (us.drop n)
  | _, _, 0, r => r
  | _, _, _ + 1, .nil => .nil
  | _, _, n + 1, .cons _ t => Vals.drop n t
def RelO : Option V → Option Value → Prop
  | some v, some u => RelV v u
  | none, none => True
  | _, _ => False
def KV {κ : Type} : List (κ × V) → List (κ × Value) → Prop := Paired fun (p : κ × V) (q : κ × Value) => p.1 = q.1 ∧ RelV p.2 q.2
def kV : Key → V
  | .inl i => .int i
  | .inr x => .str x
inductive HO where
  | lst (xs : List V)
  | tup (xs : List V)
  | dK (kvs : List (Key × V)) | dT (kvs : List (List Key × V))
  | set (S : Int → Bool) (n : Nat)
  | ins (C dx : Addr) (fs : List (Str × V))
  | own (x : Addr)
  | xd (fs : List (Str × V))
  | met (f x : Addr)
  | rng (lo hi : Int)
  | frz (o : Obj) (u : HO)
  | tbl (ps : Array Value)
  | ext (φ : Heap → Prop)
abbrev Hp := Addr → Option HO
def upd (H : Hp) (a : Addr) (o : HO) : Hp := fun b => if b = a then some o else H b
theorem upd_same {H : Hp} {a : Addr} {o : HO} : upd H a o a = some o := by unfold upd; rw [if_pos rfl]
theorem upd_ne {H : Hp} {a b : Addr} {o : HO} (h : b ≠ a) : upd H a o b = H b := by unfold upd; rw [if_neg h]
theorem ne_of_none {H : Hp} {a b : Addr} {o : HO} (h : H a = some o) (h' : H b = none) : a ≠ b := by
  intro e; subst e; rw [h] at h'; cases h'
section
variable (P : Program) (w : World)
def ObjOk (H : Hp) (h : Heap) (a : Addr) : HO → Prop
  | .lst xs => xs.length ≤ sizeLine ∧ ∃ (its : List Value) (n : Nat), Vals xs its ∧ h.get? a = some { cls := .type "list", data := .seq its.toArray n }
  | .tup xs => xs.length ≤ sizeLine ∧ ∃ its : List Value, Vals xs its ∧ IsTup h a its.toArray
  | .dK kvs => kvs.length ≤ sizeLine ∧ (a == sysModules) = false ∧ ∃ vs, KV kvs vs ∧ h.DictOf (mixKind P w) a vs
  | .dT kvs => kvs.length ≤ sizeLine ∧ (a == sysModules) = false ∧ ∃ xs : List (List Key × Addr × Value),
      Paired (fun (p : List Key × V) (q : List Key × Addr × Value) => p.1 = q.1 ∧ H q.2.1 = some (.tup (p.1.map kV)) ∧ RelV p.2 q.2.2) kvs xs ∧
      ∃ o es ep, h.get? a = some o ∧ o.ExactDict ∧ o.data = .dict es ep ∧ es.toList = xs.map (entryOfKey (tupleKind (mixKind P w))) ∧ (xs.map (·.1)).Nodup
  | .set S n => h.SetOf (intKind P w) a S n
  | .ins C dx fs => H dx = some (.own a) ∧ fs.length ≤ 1000 ∧ dx ≠ a ∧ h.get? a = some (PySem.W.instObj C dx) ∧
      ∃ mA, h.Ns1 dx mA ∧ (∀ f, RelO (fs.lookup f) (mA f)) ∧ PySem.Within mA (fs.map (·.1))
  | .own _ => ∃ o, h.get? a = some o
  | .xd fs => ∃ mA, h.Ns1 a mA ∧ ∀ f, RelO (fs.lookup f) (mA f)
  | .rng lo hi => ∃ t u v, h.get? a = some { cls := .type "range", data := .fields #[.int lo t, .int hi u, .int 1 v] }
  | .frz o u => h.get? a = some o ∧ ObjOk H h a u
  | .tbl ps => h.get? a = some { cls := .none, data := .fields ps }
  | .met f x => h.get? a = some (PySem.W.methodObj (.ref f) (.ref x))
  | .ext φ => φ h ∧ (∃ o, h.get? a = some o) ∧ ∀ h1 h2 : Heap, φ h1 → (∀ o, h1.get? a = some o → h2.get? a = some o) → φ h2
def HOk (H : Hp) (h : Heap) : Prop := ∀ a o, H a = some o → ObjOk P w H h a o
end
section
variable {P : Program} {w : World} {H H' : Hp} {h h' : Heap} {a : Addr} {o : HO}
theorem ObjOk.lt (x : ObjOk P w H h a o) : a < h.objs.size := by
  cases o with
  | lst xs => obtain ⟨_, _, _, _, e⟩ := x; exact Heap.lt_size e
  | tup xs => obtain ⟨_, _, _, p⟩ := x; exact p.lt
  | dK kvs => obtain ⟨_, _, _, _, o, _, _, e, _⟩ := x; exact Heap.lt_size e
  | dT kvs => obtain ⟨_, _, _, _, o, _, _, e, _⟩ := x; exact Heap.lt_size e
  | set S n => obtain ⟨o, _, _, _, e, _⟩ := x; exact Heap.lt_size e
  | ins C dx fs => obtain ⟨_, _, _, e, _⟩ := x; exact Heap.lt_size e
  | own y => obtain ⟨_, e⟩ := x; exact Heap.lt_size e
  | xd fs => obtain ⟨_, ⟨_, _, _, e, _⟩, _⟩ := x; exact Heap.lt_size e
  | rng lo hi => obtain ⟨_, _, _, e⟩ := x; exact Heap.lt_size e
  | frz ob u => obtain ⟨e, _⟩ := x; exact Heap.lt_size e
  | tbl ps => exact Heap.lt_size (show h.get? a = some _ from x)
  | met f y => exact Heap.lt_size (show h.get? a = some _ from x)
  | ext φ => obtain ⟨_, ⟨_, e⟩, _⟩ := x; exact Heap.lt_size e
theorem Paired.mapP {α β : Type} {F G : α → β → Prop} : ∀ {l₁ : List α} {l₂ : List β}, Paired F l₁ l₂ → (∀ a b, F a b → G a b) → Paired G l₁ l₂
  | _, _, .nil, _ => .nil
  | _, _, .cons r t, f => .cons (f _ _ r) (Paired.mapP t f)
theorem ObjOk.stay (x : ObjOk P w H h a o) (k : ∀ b u, (b = a ∨ H b = some (.own a)) → h.get? b = some u → h'.get? b = some u)
    (ho : ∀ b, H b = some (.own a) → H' b = some (.own a)) (ht : ∀ b xs, H b = some (.tup xs) → H' b = some (.tup xs)) : ObjOk P w H' h' a o := by
  induction o with
  | lst xs => obtain ⟨z, its, n, r, e⟩ := x; exact ⟨z, its, n, r, k _ _ (.inl rfl) e⟩
  | tup xs => obtain ⟨z, its, r, ob, e, c⟩ := x; exact ⟨z, its, r, ob, k _ _ (.inl rfl) e, c⟩
  | dK kvs => obtain ⟨z, y, vs, r, ob, es, ep, e, c⟩ := x; exact ⟨z, y, vs, r, ob, es, ep, k _ _ (.inl rfl) e, c⟩
  | dT kvs =>
    obtain ⟨z, y, xs, r, ob, es, ep, e, c⟩ := x
    exact ⟨z, y, xs, Paired.mapP r fun p q z => ⟨z.1, ht _ _ z.2.1, z.2.2⟩, ob, es, ep, k _ _ (.inl rfl) e, c⟩
  | set S n => obtain ⟨ob, es, ep, t, e, c⟩ := x; exact ⟨ob, es, ep, t, k _ _ (.inl rfl) e, c⟩
  | ins C dx fs =>
    obtain ⟨d, z, ne, e, mA, ⟨od, es, ep, e2, c⟩, r⟩ := x
    exact ⟨ho _ d, z, ne, k _ _ (.inl rfl) e, mA, ⟨od, es, ep, k _ _ (.inr d) e2, c⟩, r⟩
  | own y => obtain ⟨ob, e⟩ := x; exact ⟨ob, k _ _ (.inl rfl) e⟩
  | xd fs => obtain ⟨mA, ⟨od, es, ep, e, c⟩, r⟩ := x; exact ⟨mA, ⟨od, es, ep, k _ _ (.inl rfl) e, c⟩, r⟩
  | rng lo hi => obtain ⟨t, u, v, e⟩ := x; exact ⟨t, u, v, k _ _ (.inl rfl) e⟩
  | frz ob u ih => obtain ⟨e, q⟩ := x; exact ⟨k _ _ (.inl rfl) e, ih q⟩
  | tbl ps =>
    have e : h.get? a = some { cls := .none, data := .fields ps } := x
    show h'.get? a = some { cls := .none, data := .fields ps }
    exact k a _ (.inl rfl) e
  | met f y =>
    have e : h.get? a = some (PySem.W.methodObj (.ref f) (.ref y)) := x
    show h'.get? a = some (PySem.W.methodObj (.ref f) (.ref y))
    exact k a _ (.inl rfl) e
  | ext φ => obtain ⟨p, ⟨o, e⟩, st⟩ := x; exact ⟨st _ _ p fun o q => k _ _ (.inl rfl) q, ⟨o, k _ _ (.inl rfl) e⟩, st⟩
theorem HOk.lt (x : HOk P w H h) (e : H a = some o) : a < h.objs.size := (x a o e).lt
theorem HOk.fresh (x : HOk P w H h) (e : h.objs.size ≤ a) : H a = none := by
  cases q : H a with
  | none => rfl
  | some u => exact absurd (Nat.lt_of_lt_of_le (x.lt q) e) (Nat.lt_irrefl _)
theorem HOk.kept (x : HOk P w H h) (k : ∀ b u, h.get? b = some u → h'.get? b = some u) : HOk P w H h' := fun a o e =>
  (x a o e).stay (fun b u _ q => k b u q) (fun _ q => q) fun _ _ q => q
theorem HOk.laid (x : HOk P w H h) (k : ∀ b u, h.get? b = some u → h'.get? b = some u) (hp : h.objs.size ≤ a) (new : ObjOk P w (upd H a o) h' a o) : HOk P w (upd H a o) h' := fun b u e => by
  have hn := x.fresh hp
  by_cases hb : b = a
  · subst hb; rw [upd_same] at e; cases e; exact new
  · rw [upd_ne hb] at e
    exact (x b u e).stay (fun c v _ q => k c v q) (fun c q => by rw [upd_ne (ne_of_none q hn)]; exact q) fun c xs q => by rw [upd_ne (ne_of_none q hn)]; exact q
end
def Rd (H : Hp) (a : Addr) (u : HO) : Prop := H a = some u ∨ ∃ o, H a = some (.frz o u)
theorem Rd.ok {P : Program} {w : World} {H : Hp} {h : Heap} {a : Addr} {u : HO} (r : Rd H a u) (x : HOk P w H h) : ObjOk P w H h a u := by
  rcases r with r | ⟨o, r⟩
  · exact x a u r
  · obtain ⟨_, q⟩ := x a _ r
    exact q
def Mut : Option HO → Prop
  | some (.lst _) => True
  | some (.dK _) => True
  | some (.dT _) => True
  | some (.set _ _) => True
  | some (.ins _ _ _) => True
  | some (.ext _) => True
  | _ => False
section
variable {P : Program} {w : World} {H : Hp} {h h' : Heap} {x e : Addr} {o' : HO}
theorem HOk.write (ok : HOk P w H h) (mu : Mut (H x)) (he : e = x ∨ H e = some (.own x)) (k : ∀ b u, b ≠ e → h.get? b = some u → h'.get? b = some u) (heo : ∃ u, h'.get? e = some u)
    (new : ObjOk P w (upd H x o') h' x o') : HOk P w (upd H x o') h' := fun b u q => by
  have nown : ∀ c y, H c = some (.own y) → c ≠ x := fun c y r z => by subst z; rw [r] at mu; exact mu
  have ntup : ∀ c xs, H c = some (.tup xs) → c ≠ x := fun c xs r z => by subst z; rw [r] at mu; exact mu
  by_cases hb : b = x
  · subst hb; rw [upd_same] at q; cases q; exact new
  · rw [upd_ne hb] at q
    by_cases hbe : b = e
    · have q' : H b = some (.own x) := by
        rcases he with z | z
        · exact absurd (hbe.trans z) hb
        · rw [hbe]; exact z
      rw [q] at q'; cases q'
      obtain ⟨v, hv⟩ := heo
      exact ⟨v, by rw [hbe]; exact hv⟩
    · refine (ok b u q).stay (fun c v hc r => k c v ?_ r) (fun c r => by rw [upd_ne (nown c b r)]; exact r) fun c xs r => by rw [upd_ne (ntup c xs r)]; exact r
      rcases hc with rfl | hc
      · exact hbe
      · rintro rfl
        rcases he with z | z
        · exact nown c b hc z
        · rw [hc] at z; cases z; exact hb rfl
end
structure Un (fs ex : List Addr) (H H' : Hp) (h h' : Heap) : Prop where
  keep : ∀ b o, h.get? b = some o → H b = none → b ∉ fs → b ∉ ex → h'.get? b = some o
  slot : ∀ b o, h.get? b = some o → H b = none → b ∈ fs → b ∉ ex → ∃ sl, h'.get? b = some { o with slots := sl }
  free : ∀ b o, h.get? b = some o → H b = none → b ∉ ex → H' b = none
  there : ∀ b o, h.get? b = some o → b ∉ ex → ∃ o', h'.get? b = some o'
  tups : ∀ b xs, H b = some (.tup xs) → H' b = some (.tup xs)
  frzs : ∀ b o u, H b = some (.frz o u) → H' b = some (.frz o u)
  tbls : ∀ b ps, H b = some (.tbl ps) → ∃ more, H' b = some (.tbl (ps ++ more))
section
variable {fs fs' ex ex' : List Addr} {H H1 H2 : Hp} {h h1 h2 h' : Heap} {a x e : Addr} {o : HO}
theorem Un.any (u : Un fs ex H H1 h h1) {b : Addr} {ob : Obj} (q : h.get? b = some ob) (n : H b = none) (hx : b ∉ ex) : ∃ sl, h1.get? b = some { ob with slots := sl } := by
  by_cases hb : b ∈ fs
  · exact u.slot b ob q n hb hx
  · exact ⟨ob.slots, u.keep b ob q n hb hx⟩
theorem Un.kept (k : ∀ b u, h.get? b = some u → h'.get? b = some u) : Un fs ex H H h h' :=
  ⟨fun b ob q _ _ _ => k b ob q, fun b ob q _ _ _ => ⟨ob.slots, k b ob q⟩, fun _ _ _ n _ => n, fun b ob q _ => ⟨ob, k b ob q⟩, fun _ _ q => q, fun _ _ _ q => q, fun _ ps q => ⟨#[], by rw [q]; simp⟩⟩
theorem Un.refl : Un fs ex H H h h := Un.kept fun _ _ q => q
theorem Un.laid (k : ∀ b u, h.get? b = some u → h'.get? b = some u) (hp : h.objs.size ≤ a) (hn : H a = none) : Un fs ex H (upd H a o) h h' where
  keep := fun b u q _ _ _ => k b u q
  slot := fun b u q _ _ _ => ⟨u.slots, k b u q⟩
  free := fun b u q n _ => by rw [upd_ne (Nat.ne_of_lt (Nat.lt_of_lt_of_le (Heap.lt_size q) hp))]; exact n
  there := fun b u q _ => ⟨u, k b u q⟩
  tups := fun b xs q => by rw [upd_ne (ne_of_none q hn)]; exact q
  frzs := fun b u xs q => by rw [upd_ne (ne_of_none q hn)]; exact q
  tbls := fun b ps q => ⟨#[], by rw [upd_ne (ne_of_none q hn), q]; simp⟩
theorem Un.write (mu : Mut (H x)) (he : e = x ∨ H e = some (.own x)) (k : ∀ b u, b ≠ e → h.get? b = some u → h'.get? b = some u) (heo : ∃ u, h'.get? e = some u) : Un fs ex H (upd H x o) h h' := by
  have hx : ∀ b, H b = none → b ≠ x := fun b n z => by subst z; rw [n] at mu; exact mu
  have hb : ∀ b, H b = none → b ≠ e := fun b n z => by
    subst z
    rcases he with r | r
    · exact hx b n r
    · rw [n] at r; cases r
  have hm : ∀ b u, H b = some u → ¬ Mut (some u) → b ≠ x := fun b u q nm z => by subst z; rw [q] at mu; exact nm mu
  refine ⟨fun b u q n _ _ => k b u (hb b n) q, fun b u q n _ _ => ⟨u.slots, k b u (hb b n) q⟩, fun b u q n _ => by rw [upd_ne (hx b n)]; exact n, fun b u q _ => ?_,
    fun b xs q => by rw [upd_ne (hm b _ q fun z => z)]; exact q, fun b u xs q => by rw [upd_ne (hm b _ q fun z => z)]; exact q, fun b ps q => ⟨#[], by rw [upd_ne (hm b _ q fun z => z), q]; simp⟩⟩
  by_cases hbe : b = e
  · subst hbe; exact heo
  · exact ⟨u, k b u hbe q⟩
end
def trk (h : Heap) (H : Hp) : List Addr := (List.range h.objs.size).filter fun a => (H a).isSome
def hidT (h : Heap) (H : Hp) : Heap := PySem.W.hideAll h (trk h H)
theorem hidT_size (h : Heap) (H : Hp) : (hidT h H).objs.size = h.objs.size := PySem.W.hideAll_size _ _
theorem hidT_get {h : Heap} {H : Hp} {b : Addr} {o : Obj} (e : h.get? b = some o) (n : H b = none) : (hidT h H).get? b = some o :=
  PySem.W.hideAll_get _ e fun hm => by
    have q : (H b).isSome = true := (List.mem_filter.mp hm).2
    rw [n] at q; simp at q
theorem of_hidT {h : Heap} {H : Hp} {b : Addr} {o : Obj} (e : (hidT h H).get? b = some o) : h.get? b = some o ∧ H b = none := by
  have e' : h.get? b = some o := PySem.W.of_hideAll (trk h H) e
  refine ⟨e', ?_⟩
  cases q : H b with
  | none => rfl
  | some x =>
    have hm : b ∈ trk h H := List.mem_filter.mpr ⟨List.mem_range.mpr (Heap.lt_size e'), by simp [q]⟩
    have z : (hidT h H).get? b = none := PySem.W.hideAll_none (trk h H) hm
    rw [z] at e; cases e
def allNews (g h : Heap) (L : Addr) : List (Addr × Obj) := (List.range h.objs.size).filterMap fun a => if a = L ∨ (g.get? a).isSome = true then none else (h.get? a).map fun o => (a, o)
def rest (g h : Heap) (L d : Addr) : List (Addr × Obj) := (allNews g h L).filter fun p => decide (p.1 ≠ d)
end L2
namespace L2
open PySem PySem.Spec PyProof.Rows
structure Mod (K : PySem.W.Frag) (mg : Str → Option Value) (base : Heap) : Prop where
  kin : K.In base
  glob : base.Ns mainGlobals mg
  blt : ∃ mb, base.Ns builtinsNs mb ∧ ∀ x : Str, x ≠ "__name__" → mb x = bootBuiltins x
  nolimit : base.NoLimit
structure Cx where
  prog : Program
  w : World
  K : PySem.W.Frag
  mg : Str → Option Value
  base : Heap
  A : Around
  N : List Str
  s₀ : Shared
  H₀ : Hp
  env : Env
  outer : List Env
  stack : List Env
  ex : List Addr
  fn : Str → Bool
  calm : Bool
  pn : List (Addr × Obj)
  xe : Value → Shared → Prop
def frs (l : List Env) : List Addr := l.filterMap (·.frame)
abbrev Cx.fs (X : Cx) : List Addr := frs X.outer
def Vis (sc : Scope) (x : Str) : Prop := sc.names.lookup x = some .local ∨ sc.names.lookup x = some .cell ∨ sc.names.lookup x = some .free
def Loc (sc : Scope) (x : Str) : Prop := sc.names.lookup x = some .local ∨ sc.names.lookup x = some .cell
def Look (env : Env) (h : Heap) (m : Str → Option Value) (x : Str) (u : Value) : Prop :=
  (env.kindOf x = some .local ∧ m x = some u) ∨ ((env.kindOf x = some .cell ∨ env.kindOf x = some .free) ∧ ∃ c, env.cells.lookup x = some c ∧ h.IsCell c (some u))
structure Cx.Ok (X : Cx) : Prop where
  mod : Mod X.K X.mg X.base
  kind : X.env.scope.kind = .function
  glob : X.env.globals = mainGlobals
  blt : X.env.builtins = builtinsNs
  above : X.s₀.heap.objs.size ≤ X.env.locals
  inj : ∀ x y c, X.env.cells.lookup x = some c → X.env.cells.lookup y = some c → x = y
  has : ∀ x, (X.env.kindOf x = some .cell ∨ X.env.kindOf x = some .free) → ∃ c, X.env.cells.lookup x = some c
  cab : ∀ x c, X.fn x = true → X.env.cells.lookup x = some c → X.s₀.heap.objs.size ≤ c
  hd : X.calm = true → X.A.handled = none
  frames : X.A.frames = some X.stack
  stk : X.stack = X.outer ∨ (X.stack = X.env :: X.outer ∧ X.env.frame = some X.env.locals)
  exf : ∀ b ∈ X.ex, b ≠ X.env.locals ∧ ∀ x c, X.env.cells.lookup x = some c → c ≠ b
  bs : ∀ b o, X.base.get? b = some o → X.s₀.heap.get? b = some o ∧ X.H₀ b = none
  bsz : X.base.objs.size ≤ X.s₀.heap.objs.size
  noex : ∀ b o, X.base.get? b = some o → b ∉ X.ex
  exfs : ∀ b ∈ X.ex, b ∉ X.fs
  funs : X.s₀.heap.FunFrames X.base X.outer
  frf : ∀ b ∈ X.fs, X.H₀ b = none
structure Inv (X : Cx) (pins : List (Addr × Obj)) (σ : List (Option V)) (H : Hp) (s : Shared) : Prop where
  ok : X.Ok
  os : s.os = X.s₀.os
  bare : AllBare s.gens
  base : Un X.fs X.ex X.H₀ H X.s₀.heap s.heap
  loc : ∃ m, s.heap.Ns X.env.locals m ∧ ∀ (i : Nat) (x : Str) (v : V), X.N[i]? = some x → σ[i]? = some (some v) → Vis X.env.scope x → ∃ u, RelV v u ∧ Look X.env s.heap m x u
  cell : ∀ x c, X.env.cells.lookup x = some c → ∃ v, s.heap.IsCell c v
  free : H X.env.locals = none
  freeC : ∀ x c, X.env.cells.lookup x = some c → H c = none
  pin : ∀ p ∈ X.pn ++ pins, s.heap.get? p.1 = some p.2 ∧ H p.1 = none ∧ p.1 ≠ X.env.locals ∧ p.1 ∉ X.fs ∧ ∀ v, p.2.data ≠ .cell v
  hok : HOk X.prog X.w H s.heap
  len : σ.length = X.N.length
section
variable {X : Cx} {pins : List (Addr × Obj)} {σ : List (Option V)} {H H' : Hp} {s : Shared} {h' : Heap}
theorem Cx.Ok.nofr (ok : X.Ok) {b : Addr} {o : Obj} (e : X.base.get? b = some o) : b ∉ X.fs := fun hb => by
  have := (ok.funs.mem hb).1
  rw [e] at this; cases this
theorem Inv.bs (I : Inv X pins σ H s) : ∀ b o, X.base.get? b = some o → s.heap.get? b = some o ∧ H b = none := fun b o e =>
  ⟨I.base.keep b o (I.ok.bs b o e).1 (I.ok.bs b o e).2 (I.ok.nofr e) (I.ok.noex b o e), I.base.free b o (I.ok.bs b o e).1 (I.ok.bs b o e).2 (I.ok.noex b o e)⟩
theorem Inv.bk (I : Inv X pins σ H s) : ∀ b o, X.base.get? b = some o → s.heap.get? b = some o := fun b o e => (I.bs b o e).1
theorem Inv.mod (I : Inv X pins σ H s) : Mod X.K X.mg X.base := I.ok.mod
theorem Inv.kIn (I : Inv X pins σ H s) : X.K.In s.heap := I.ok.mod.kin.keeps I.bk
theorem Inv.nolimit (I : Inv X pins σ H s) : s.heap.NoLimit := I.ok.mod.nolimit.keeps I.bk
theorem Inv.lt (I : Inv X pins σ H s) : X.env.locals < s.heap.objs.size := let ⟨_, hn, _⟩ := I.loc; hn.lt
theorem Inv.sz (I : Inv X pins σ H s) : X.s₀.heap.objs.size ≤ s.heap.objs.size := Nat.le_trans I.ok.above (Nat.le_of_lt I.lt)
theorem Inv.nofs (I : Inv X pins σ H s) {a : Addr} (h : s.heap.objs.size ≤ a) : a ∉ X.fs := fun hb => by
  obtain ⟨_, o, ho, _⟩ := I.ok.funs.mem hb
  exact absurd (Nat.lt_of_lt_of_le (Heap.lt_size ho) (Nat.le_trans I.sz h)) (Nat.lt_irrefl _)
theorem Inv.cne (I : Inv X pins σ H s) : ∀ x c, X.env.cells.lookup x = some c → c ≠ X.env.locals := fun x c e z => by
  obtain ⟨v, o, ho, hd⟩ := I.cell x c e
  obtain ⟨m, ⟨o', es, ep, ho', hd', _⟩, _⟩ := I.loc
  rw [z, ho'] at ho; cases ho; rw [hd'] at hd; cases hd
theorem Inv.funs (I : Inv X pins σ H s) : s.heap.FunFrames X.base X.outer := by
  have all : ∀ (l : List Env), (∀ b ∈ frs l, b ∈ X.fs) → X.s₀.heap.FunFrames X.base l → s.heap.FunFrames X.base l := by
    intro l
    induction l with
    | nil => intro _ _; trivial
    | cons env r ih =>
      intro hs hl
      obtain ⟨hk, ⟨L, o, hf, hn, ho, hd⟩, hr⟩ := hl
      have hL : L ∈ X.fs := hs L (by unfold frs; rw [List.filterMap_cons, hf]; exact List.mem_cons_self)
      obtain ⟨sl, e⟩ := I.base.slot L o ho (I.ok.frf L hL) hL fun z => I.ok.exfs L z hL
      exact ⟨hk, ⟨L, _, hf, hn, e, hd⟩, ih (fun b hb => hs b (by unfold frs; rw [List.filterMap_cons, hf]; exact List.mem_cons_of_mem _ hb)) hr⟩
  exact all X.outer (fun _ hb => hb) I.ok.funs
theorem Inv.stack (I : Inv X pins σ H s) : s.heap.FunFrames X.base X.stack := by
  rcases I.ok.stk with e | ⟨e, hf⟩
  · rw [e]; exact I.funs
  · rw [e]
    obtain ⟨m, hn, _⟩ := I.loc
    refine .cons (by rw [I.ok.kind]; decide) hf hn ?_ I.funs
    exact Heap.get?_none_of_le (Nat.le_trans I.ok.bsz I.ok.above)
theorem Inv.stkSub (I : Inv X pins σ H s) : ∀ b ∈ frs X.stack, b ∈ X.env.locals :: X.fs := fun b hb => by
  rcases I.ok.stk with e | ⟨e, hf⟩
  · rw [e] at hb; exact List.mem_cons_of_mem _ hb
  · rw [e] at hb
    unfold frs at hb
    rw [List.filterMap_cons, hf] at hb
    exact hb
theorem Inv.stkFree (I : Inv X pins σ H s) : ∀ b ∈ frs X.stack, H b = none := fun b hb => by
  rcases List.mem_cons.mp (I.stkSub b hb) with e | hb
  · rw [e]; exact I.free
  · obtain ⟨_, o, ho, _⟩ := I.ok.funs.mem hb
    exact I.base.free b o ho (I.ok.frf b hb) fun z => I.ok.exfs b z hb
theorem Inv.step {g' : Array GenState} {t' : Nat} {d' : Drawn} {ch : List Addr} (I : Inv X pins σ H s)
    (hch : ∀ b ∈ ch, (b ∈ X.ex ∨ X.s₀.heap.objs.size ≤ b) ∧ b ≠ X.env.locals ∧ (∀ x c, X.env.cells.lookup x = some c → c ≠ b) ∧ ∀ p ∈ X.pn ++ pins, p.1 ≠ b)
    (keep : ∀ b o, b ≠ X.env.locals → b ∉ X.fs → b ∉ ch → s.heap.get? b = some o → H b = none → h'.get? b = some o)
    (slot : ∀ b o, b ≠ X.env.locals → b ∈ X.fs → b ∉ ch → s.heap.get? b = some o → H b = none → ∃ sl, h'.get? b = some { o with slots := sl }) (free : ∀ b o, b ∉ ch → s.heap.get? b = some o → H b = none → H' b = none)
    (there : ∀ b o, b ∉ ch → s.heap.get? b = some o → ∃ o', h'.get? b = some o')
    (tups : ∀ b xs, H b = some (.tup xs) → H' b = some (.tup xs)) (frzs : ∀ b o u, H b = some (.frz o u) → H' b = some (.frz o u)) (tbls : ∀ b ps, H b = some (.tbl ps) → ∃ more, H' b = some (.tbl (ps ++ more)))
    (ns : ∀ m, s.heap.Ns X.env.locals m → h'.Ns X.env.locals m) (hok : HOk X.prog X.w H' h') (hg : AllBare g') :
    Inv X pins σ H' { s with heap := h', gens := g', drawn := d', toks := t' } := by
  have neL : ∀ b o, X.s₀.heap.get? b = some o → b ≠ X.env.locals := fun b o e => Nat.ne_of_lt (Nat.lt_of_lt_of_le (Heap.lt_size e) I.ok.above)
  have neC : ∀ b o, X.s₀.heap.get? b = some o → b ∉ X.ex → b ∉ ch := fun b o e hx hb => by
    rcases (hch b hb).1 with z | z
    · exact hx z
    · exact absurd (Nat.lt_of_lt_of_le (Heap.lt_size e) z) (Nat.lt_irrefl _)
  have cellK : ∀ x c, X.env.cells.lookup x = some c → ∀ v, s.heap.IsCell c v → h'.IsCell c v := fun x c e v ⟨o, ho, hd⟩ => by
    have nch : c ∉ ch := fun z => (hch c z).2.2.1 x c e rfl
    by_cases hc : c ∈ X.fs
    · obtain ⟨sl, q⟩ := slot c o (I.cne x c e) hc nch ho (I.freeC x c e)
      exact ⟨_, q, hd⟩
    · exact ⟨o, keep c o (I.cne x c e) hc nch ho (I.freeC x c e), hd⟩
  refine ⟨I.ok, I.os, hg, ⟨fun b o e n hb hx => ?_, fun b o e n hb hx => ?_, fun b o e n hx => ?_, fun b o e hx => ?_, fun b xs e => tups b xs (I.base.tups b xs e), fun b o xs e => frzs b o xs (I.base.frzs b o xs e), fun b ps e => ?_⟩, ?_, fun x c e => ?_, ?_, fun x c e => ?_, fun p hp => ?_, hok, I.len⟩
  · exact keep b o (neL b o e) hb (neC b o e hx) (I.base.keep b o e n hb hx) (I.base.free b o e n hx)
  · obtain ⟨sl, e1⟩ := I.base.slot b o e n hb hx
    obtain ⟨sl', e2⟩ := slot b _ (neL b o e) hb (neC b o e hx) e1 (I.base.free b o e n hx)
    exact ⟨sl', e2⟩
  · obtain ⟨o', e1⟩ := I.base.there b o e hx
    exact free b o' (neC b o e hx) e1 (I.base.free b o e n hx)
  · obtain ⟨o', e1⟩ := I.base.there b o e hx
    exact there b o' (neC b o e hx) e1
  · obtain ⟨m1, e1⟩ := I.base.tbls b ps e
    obtain ⟨m2, e2⟩ := tbls b _ e1
    exact ⟨m1 ++ m2, by rw [e2, Array.append_assoc]⟩
  · obtain ⟨m, hn, hl⟩ := I.loc
    refine ⟨m, ns m hn, fun i x v e1 e2 e3 => ?_⟩
    obtain ⟨u, r, l⟩ := hl i x v e1 e2 e3
    refine ⟨u, r, ?_⟩
    rcases l with l | ⟨k, c, e, z⟩
    · exact .inl l
    · exact .inr ⟨k, c, e, cellK x c e _ z⟩
  · obtain ⟨v, z⟩ := I.cell x c e
    exact ⟨v, cellK x c e v z⟩
  · obtain ⟨m, ⟨o, _, _, ho, _⟩, _⟩ := I.loc
    exact free _ o (fun z => (hch _ z).2.1 rfl) ho I.free
  · obtain ⟨v, o, ho, hd⟩ := I.cell x c e
    exact free c o (fun z => (hch c z).2.2.1 x c e rfl) ho (I.freeC x c e)
  · obtain ⟨e, n, ne, nf, d⟩ := I.pin p hp
    have nch : p.1 ∉ ch := fun z => (hch p.1 z).2.2.2 p hp rfl
    exact ⟨keep p.1 p.2 ne nf nch e n, free p.1 p.2 nch e n, ne, nf, d⟩
theorem Inv.un {t' : Nat} (I : Inv X pins σ H s) (u : Un X.fs [] H H' s.heap h') (hok : HOk X.prog X.w H' h') : Inv X pins σ H' { s with heap := h', toks := t' } := by
  obtain ⟨m, ⟨o, es, ep, ho, r⟩, _⟩ := id I.loc
  obtain ⟨sl, hL⟩ := u.any ho I.free (by simp)
  exact I.step (g' := s.gens) (d' := s.drawn) (ch := []) (fun _ z => nomatch z) (fun b o _ hb _ e n => u.keep b o e n hb (by simp)) (fun b o _ hb _ e n => u.slot b o e n hb (by simp)) (fun b o _ e n => u.free b o e n (by simp)) (fun b o _ e => u.there b o e (by simp)) u.tups u.frzs u.tbls (fun m' hm => by
    obtain ⟨o', es', ep', ho', r'⟩ := hm
    rw [ho] at ho'; cases ho'
    exact ⟨_, es', ep', hL, r'⟩) hok I.bare
theorem Inv.call {g' : Array GenState} {t' : Nat} {d' : Drawn} {ch : List Addr} (I : Inv X pins σ H s) (u : Un (frs X.stack) ch H H' s.heap h') (hok : HOk X.prog X.w H' h') (hg : AllBare g')
    (hch : ∀ b ∈ ch, (b ∈ X.ex ∨ X.s₀.heap.objs.size ≤ b) ∧ b ≠ X.env.locals ∧ (∀ x c, X.env.cells.lookup x = some c → c ≠ b) ∧ ∀ p ∈ X.pn ++ pins, p.1 ≠ b) :
    Inv X pins σ H' { s with heap := h', gens := g', drawn := d', toks := t' } := by
  obtain ⟨m, ⟨o, es, ep, ho, r⟩, _⟩ := id I.loc
  obtain ⟨sl, hL⟩ := u.any ho I.free fun z => (hch _ z).2.1 rfl
  exact I.step (ch := ch) hch (fun b o hL hb hc e n => u.keep b o e n (fun z => (List.mem_cons.mp (I.stkSub b z)).elim hL hb) hc) (fun b o _ _ hc e n => u.any e n hc) (fun b o hc e n => u.free b o e n hc) (fun b o hc e => u.there b o e hc) u.tups u.frzs u.tbls (fun m' hm => by
    obtain ⟨o', es', ep', ho', r'⟩ := hm
    rw [ho] at ho'; cases ho'
    exact ⟨_, es', ep', hL, r'⟩) hok hg
theorem Inv.turned {t' : Nat} {it : Addr} (I : Inv X pins σ H s) (k : ∀ b o, b ≠ it → s.heap.get? b = some o → h'.get? b = some o) (hn : H it = none) (hL : it ≠ X.env.locals)
    (h1 : it ∈ X.ex ∨ X.s₀.heap.objs.size ≤ it) (h2 : ∀ x c, X.env.cells.lookup x = some c → c ≠ it) (h3 : ∀ p ∈ X.pn ++ pins, p.1 ≠ it) : Inv X pins σ H { s with heap := h', toks := t' } := by
  have nit : ∀ b u, H b = some u → b ≠ it := fun b u e z => by rw [z, hn] at e; cases e
  refine I.step (g' := s.gens) (d' := s.drawn) (ch := [it]) (fun b hb => ?_) (fun b o _ _ hc e _ => k b o (fun z => hc (by simp [z])) e) (fun b o _ _ hc e _ => ⟨o.slots, k b o (fun z => hc (by simp [z])) e⟩) (fun _ _ _ _ n => n)
    (fun b o hc e => ⟨o, k b o (fun z => hc (by simp [z])) e⟩) (fun _ _ e => e) (fun _ _ _ e => e) (fun b ps e => ⟨#[], by rw [e]; simp⟩) (fun m hm => ?_) (fun b u e => ?_) I.bare
  · have e : b = it := by simpa using hb
    subst e
    exact ⟨h1, hL, h2, h3⟩
  · obtain ⟨o, es, ep, ho, r⟩ := hm
    exact ⟨o, es, ep, k _ o (Ne.symm hL) ho, r⟩
  · refine (I.hok b u e).stay (fun c v hc q => k c v ?_ q) (fun _ q => q) fun _ _ q => q
    rcases hc with z | z
    · rw [z]; exact nit b u e
    · exact nit c _ z
theorem Inv.tok (I : Inv X pins σ H s) (t : Nat) : Inv X pins σ H { s with toks := t } := I.un (h' := s.heap) (t' := t) Un.refl I.hok
theorem Inv.kept {t' : Nat} (I : Inv X pins σ H s) (k : ∀ b u, s.heap.get? b = some u → h'.get? b = some u) : Inv X pins σ H { s with heap := h', toks := t' } := I.un (Un.kept k) (I.hok.kept k)
theorem Inv.laid {a : Addr} {o : HO} {t' : Nat} (I : Inv X pins σ H s) (k : ∀ b u, s.heap.get? b = some u → h'.get? b = some u) (hp : s.heap.objs.size ≤ a) (new : ObjOk X.prog X.w (upd H a o) h' a o) :
    Inv X pins σ (upd H a o) { s with heap := h', toks := t' } := I.un (Un.laid k hp (I.hok.fresh hp)) (I.hok.laid k hp new)
theorem Inv.write {x e : Addr} {o : HO} {t' : Nat} (I : Inv X pins σ H s) (mu : Mut (H x)) (he : e = x ∨ H e = some (.own x)) (k : ∀ b u, b ≠ e → s.heap.get? b = some u → h'.get? b = some u) (heo : ∃ u, h'.get? e = some u)
    (new : ObjOk X.prog X.w (upd H x o) h' x o) : Inv X pins σ (upd H x o) { s with heap := h', toks := t' } := I.un (Un.write mu he k heo) (I.hok.write mu he k heo new)
theorem Inv.pins_of {pins' : List (Addr × Obj)} (I : Inv X pins σ H s) (h : ∀ p ∈ pins', s.heap.get? p.1 = some p.2 ∧ H p.1 = none ∧ p.1 ≠ X.env.locals ∧ p.1 ∉ X.fs ∧ ∀ v, p.2.data ≠ .cell v) : Inv X pins' σ H s :=
  ⟨I.ok, I.os, I.bare, I.base, I.loc, I.cell, I.free, I.freeC, fun p hp => (List.mem_append.mp hp).elim (fun z => I.pin p (List.mem_append_left _ z)) (h p), I.hok, I.len⟩
theorem nodup_ix {N : List Str} (hN : N.Nodup) {i j : Nat} {x : Str} (a : N[i]? = some x) (b : N[j]? = some x) : i = j := by
  obtain ⟨h1, e1⟩ := List.getElem?_eq_some_iff.mp a
  obtain ⟨h2, e2⟩ := List.getElem?_eq_some_iff.mp b
  exact (List.getElem_inj hN).mp (e1.trans e2.symm)
theorem store_ok2 {M : Model} {A : Around} {E : Value → Shared → Prop} {i : Nat} {x : Str} {v : V} {u : Value} {Q : Unit → Shared → Prop} (I : Inv X pins σ H s) (hN : X.N.Nodup) (hi : X.N[i]? = some x) (hx : Loc X.env.scope x) (r : RelV v u)
    (h : ∀ s', Inv X pins (σ.set i (some v)) H s' → (∃ a, Heap.SameBut a s.heap s'.heap ∧ (a = X.env.locals ∨ X.env.cells.lookup x = some a)) → Q () s') (hf : X.fn x = true ∨ X.env.scope.names.lookup x = some .local := by first | exact .inl rfl | exact .inr rfl | assumption) : wpAny M A (storeName X.env x u) Q E s := by
  obtain ⟨m, hn, hl⟩ := id I.loc
  have hcls : (X.env.scope.kind == .class || (X.env.scope.kind == .module && X.env.locals != X.env.globals)) = false := by rw [I.ok.kind]; rfl
  have hiσ : i < σ.length := by rw [I.len]; exact (List.getElem?_eq_some_iff.mp hi).1
  have cne := I.cne
  have tracked : ∀ {a : Addr} {h' : Heap}, (∃ o, s.heap.get? a = some o ∧ H a = none) → Heap.SameBut a s.heap h' → HOk X.prog X.w H h' := fun {a h'} ha hs b ob e => by
    obtain ⟨_, _, hfree⟩ := ha
    refine (I.hok b ob e).stay (fun c w' hc q => (hs.2 c ?_).trans q) (fun _ q => q) fun _ _ q => q
    rintro rfl
    rcases hc with rfl | hc
    · rw [hfree] at e; cases e
    · rw [hfree] at hc; cases hc
  rcases hx with hk | hk
  · refine wpAny_storeName_local hk hn (fun h' hn' hs => ?_) hcls
    obtain ⟨oL, _, _, hoL, _⟩ := id hn
    refine h _ ⟨I.ok, I.os, I.bare, ⟨fun b o e n hb hx => ?_, fun b o e n hb hx => ?_, I.base.free, fun b o e hx => ?_, I.base.tups, I.base.frzs, I.base.tbls⟩, ⟨_, hn', fun j y v' e1 e2 e3 => ?_⟩, fun y c e => ?_, I.free, I.freeC, fun p hp => ?_, tracked ⟨oL, hoL, I.free⟩ hs, by simpa using I.len⟩ ⟨_, hs, .inl rfl⟩
    · exact (hs.2 b (Nat.ne_of_lt (Nat.lt_of_lt_of_le (Heap.lt_size e) I.ok.above))).trans (I.base.keep b o e n hb hx)
    · obtain ⟨sl, e1⟩ := I.base.slot b o e n hb hx
      exact ⟨sl, (hs.2 b (Nat.ne_of_lt (Nat.lt_of_lt_of_le (Heap.lt_size e) I.ok.above))).trans e1⟩
    · obtain ⟨o', e1⟩ := I.base.there b o e hx
      exact ⟨o', (hs.2 b (Nat.ne_of_lt (Nat.lt_of_lt_of_le (Heap.lt_size e) I.ok.above))).trans e1⟩
    · by_cases hj : j = i
      · subst hj
        rw [hi] at e1; cases e1
        rw [List.getElem?_set_self hiσ] at e2
        cases e2
        exact ⟨u, r, .inl ⟨hk, by simp⟩⟩
      · rw [List.getElem?_set_ne (Ne.symm hj)] at e2
        obtain ⟨u', r', q⟩ := hl j y v' e1 e2 e3
        refine ⟨u', r', ?_⟩
        rcases q with ⟨k, e⟩ | ⟨k, c, e, z⟩
        · refine .inl ⟨k, ?_⟩
          have : y ≠ x := fun e => hj (nodup_ix hN e1 (e ▸ hi))
          simp [this, e]
        · exact .inr ⟨k, c, e, z.sameBut hs (cne y c e)⟩
    · obtain ⟨w', z⟩ := I.cell y c e
      exact ⟨w', z.sameBut hs (cne y c e)⟩
    · obtain ⟨e, n, ne, nf, d⟩ := I.pin p hp
      exact ⟨(hs.2 p.1 ne).trans e, n, ne, nf, d⟩
  · have hfn : X.fn x = true := by
      rcases hf with z | z
      · exact z
      · rw [z] at hk; cases hk
    obtain ⟨c, hc⟩ := I.ok.has x (.inl hk)
    obtain ⟨w', z⟩ := I.cell x c hc
    refine wpAny_storeName_cell I.ok.kind hk hc z (fun h' hc' hs => ?_)
    obtain ⟨oc, hoc, hocd⟩ := id z
    refine h { s with heap := h' } ⟨I.ok, I.os, I.bare, ⟨fun b o e n hb hx => ?_, fun b o e n hb hx => ?_, I.base.free, fun b o e hx => ?_, I.base.tups, I.base.frzs, I.base.tbls⟩, ⟨m, hn.sameBut hs (Ne.symm (cne x c hc)), fun j y v' e1 e2 e3 => ?_⟩, fun y c' e => ?_, I.free, I.freeC, fun p hp => ?_, tracked ⟨oc, hoc, I.freeC x c hc⟩ hs, by simpa using I.len⟩ ⟨c, hs, .inr hc⟩
    · exact (hs.2 b (Nat.ne_of_lt (Nat.lt_of_lt_of_le (Heap.lt_size e) (I.ok.cab x c hfn hc)))).trans (I.base.keep b o e n hb hx)
    · obtain ⟨sl, e1⟩ := I.base.slot b o e n hb hx
      exact ⟨sl, (hs.2 b (Nat.ne_of_lt (Nat.lt_of_lt_of_le (Heap.lt_size e) (I.ok.cab x c hfn hc)))).trans e1⟩
    · obtain ⟨o', e1⟩ := I.base.there b o e hx
      exact ⟨o', (hs.2 b (Nat.ne_of_lt (Nat.lt_of_lt_of_le (Heap.lt_size e) (I.ok.cab x c hfn hc)))).trans e1⟩
    · by_cases hj : j = i
      · subst hj
        rw [hi] at e1; cases e1
        rw [List.getElem?_set_self hiσ] at e2
        cases e2
        exact ⟨u, r, .inr ⟨.inl hk, c, hc, hc'⟩⟩
      · rw [List.getElem?_set_ne (Ne.symm hj)] at e2
        obtain ⟨u', r', q⟩ := hl j y v' e1 e2 e3
        refine ⟨u', r', ?_⟩
        rcases q with q | ⟨k, c', e, z'⟩
        · exact .inl q
        · refine .inr ⟨k, c', e, z'.sameBut hs ?_⟩
          rintro rfl
          exact hj (nodup_ix hN e1 (I.ok.inj _ _ _ e hc ▸ hi))
    · by_cases hcc : c' = c
      · subst hcc; exact ⟨_, hc'⟩
      · obtain ⟨w2, z2⟩ := I.cell y c' e
        exact ⟨w2, z2.sameBut hs hcc⟩
    · obtain ⟨e, n, ne, nf, d⟩ := I.pin p hp
      refine ⟨(hs.2 p.1 ?_).trans e, n, ne, nf, d⟩
      intro q
      rw [q, hoc] at e
      have q' : oc = p.2 := Option.some.inj e
      exact d w' (by rw [← q']; exact hocd)
theorem store_ok {M : Model} {A : Around} {E : Value → Shared → Prop} {i : Nat} {x : Str} {v : V} {u : Value} {Q : Unit → Shared → Prop} (I : Inv X pins σ H s) (hN : X.N.Nodup) (hi : X.N[i]? = some x) (hx : Loc X.env.scope x) (r : RelV v u)
    (h : ∀ s', Inv X pins (σ.set i (some v)) H s' → Q () s') (hf : X.fn x = true ∨ X.env.scope.names.lookup x = some .local := by first | exact .inl rfl | exact .inr rfl | assumption) : wpAny M A (storeName X.env x u) Q E s :=
  store_ok2 I hN hi hx r (fun s' I' _ => h s' I') hf
theorem Inv.call' {s' : Shared} {ch : List Addr} (I : Inv X pins σ H s) (ho : s'.os = s.os) (u : Un (frs X.stack) ch H H' s.heap s'.heap) (hok : HOk X.prog X.w H' s'.heap) (hg : AllBare s'.gens)
    (hch : ∀ b ∈ ch, (b ∈ X.ex ∨ X.s₀.heap.objs.size ≤ b) ∧ b ≠ X.env.locals ∧ (∀ x c, X.env.cells.lookup x = some c → c ≠ b) ∧ ∀ p ∈ X.pn ++ pins, p.1 ≠ b) : Inv X pins σ H' s' := by
  obtain ⟨h', g', d', t', o'⟩ := s'
  have e : o' = s.os := ho
  subst e
  exact I.call (g' := g') (t' := t') (d' := d') u hok hg hch
end
abbrev XK := Value → Option Addr → Hp → Prop
abbrev St := List (Option V)
abbrev VK := V → Hp → Prop
abbrev TE := St → Hp → VK → Prop
abbrev TT := St → Hp → (Bool → Hp → Prop) → Prop
abbrev TA := St → Hp → (List V → Hp → Prop) → Prop
structure Ends where
  nx : St → Hp → Prop
  rt : VK
  bk : St → Hp → Prop := fun _ _ => False
  ct : St → Hp → Prop := fun _ _ => False
abbrev TS := Ends → St → Hp → Prop
def EP (X : Cx) (pins : List (Addr × Obj)) (σ : St) (Q : VK) (u : Value) (s' : Shared) : Prop := ∃ v H', Inv X pins σ H' s' ∧ RelV v u ∧ Q v H'
def TP (X : Cx) (pins : List (Addr × Obj)) (σ : St) (Q : Bool → Hp → Prop) (b : Bool) (s' : Shared) : Prop := ∃ H', Inv X pins σ H' s' ∧ Q b H'
def AP (X : Cx) (pins : List (Addr × Obj)) (σ : St) (Q : List V → Hp → Prop) (us : List Value) (s' : Shared) : Prop := ∃ vs H', Inv X pins σ H' s' ∧ Vals vs us ∧ Q vs H'
def SP (X : Cx) (pins : List (Addr × Obj)) (D : Ends) (f : Flow) (s' : Shared) : Prop :=
  match f with
  | .next => ∃ σ' H', Inv X pins σ' H' s' ∧ D.nx σ' H'
  | .brk => ∃ σ' H', Inv X pins σ' H' s' ∧ D.bk σ' H'
  | .cont => ∃ σ' H', Inv X pins σ' H' s' ∧ D.ct σ' H'
  | .ret u => ∃ v σ' H', Inv X pins σ' H' s' ∧ RelV v u ∧ D.rt v H'
def PE (X : Cx) (e : Expr) (t : TE) : Prop :=
  ∀ (pins : List (Addr × Obj)) (s : Shared) (σ : St) (H : Hp) (Q : VK), Inv X pins σ H s → t σ H Q → wpAny (model X.prog X.w) X.A (eval e X.env) (EP X pins σ Q) X.xe s
def PT (X : Cx) (e : Expr) (t : TT) : Prop :=
  ∀ (pins : List (Addr × Obj)) (s : Shared) (σ : St) (H : Hp) (Q : Bool → Hp → Prop), Inv X pins σ H s → t σ H Q → wpAny (model X.prog X.w) X.A (isTrue e X.env (eval e X.env)) (TP X pins σ Q) X.xe s
def PW (X : Cx) (e : Expr) (t : TT) : Prop :=
  ∀ (whole : Sem Value) (pins : List (Addr × Obj)) (s : Shared) (σ : St) (H : Hp) (Q : Bool → Hp → Prop), Inv X pins σ H s → t σ H Q → wpAny (model X.prog X.w) X.A (isTrue e X.env whole) (TP X pins σ Q) X.xe s
theorem PW.pt {X : Cx} {e : Expr} {t : TT} (h : PW X e t) : PT X e t := h _
def PA (X : Cx) (es : List Expr) (t : TA) : Prop :=
  ∀ (pos : Pos) (pins : List (Addr × Obj)) (s : Shared) (σ : St) (H : Hp) (Q : List V → Hp → Prop), Inv X pins σ H s → t σ H Q → wpAny (model X.prog X.w) X.A (spliced (backTo pos (starEach es X.env))) (AP X pins σ Q) X.xe s
def PS (X : Cx) (st : Stmt) (t : TS) : Prop :=
  ∀ (pins : List (Addr × Obj)) (s : Shared) (σ : St) (H : Hp) (D : Ends), Inv X pins σ H s → t D σ H → wpAny (model X.prog X.w) X.A (exec st X.env) (SP X pins D) X.xe s
def PSs (X : Cx) (st : List Stmt) (t : TS) : Prop :=
  ∀ (pins : List (Addr × Obj)) (s : Shared) (σ : St) (H : Hp) (D : Ends), Inv X pins σ H s → t D σ H → wpAny (model X.prog X.w) X.A (execs st X.env) (SP X pins D) X.xe s
theorem thn {α : Type} {t : Sem α} {Q Q' : α → Shared → Prop} {M : Model} {A : Around} {E : Value → Shared → Prop} {s : Shared} (h : wpAny M A t Q E s) (hQ : ∀ a s, Q a s → Q' a s) : wpAny M A t Q' E s := wpAny_mono h hQ fun _ _ x => x
end L2
namespace L2
open PySem PySem.Spec PyProof.Rows
section
variable {X : Cx}
theorem bin {a b : Expr} {ta tb : TE} (ha : PE X a ta) (hb : PE X b tb) {pins : List (Addr × Obj)} {s : Shared} {σ : St} {H : Hp} {R : V → V → Hp → Prop} (I : Inv X pins σ H s) (h : ta σ H fun x H1 => tb σ H1 fun y H2 => R x y H2)
    {α : Type} {Q : α → Shared → Prop} {f : Value → Value → Sem α}
    (hf : ∀ v u s2 x y H2, Inv X pins σ H2 s2 → RelV x v → RelV y u → R x y H2 → wpAny (model X.prog X.w) X.A (f v u) Q X.xe s2) :
    wpAny (model X.prog X.w) X.A (eval a X.env) (fun v s₁ => wpAny (model X.prog X.w) X.A (eval b X.env) (fun u s₂ => wpAny (model X.prog X.w) X.A (f v u) Q X.xe s₂) X.xe s₁) X.xe s := by
  refine thn (ha pins s σ H _ I h) fun v s1 ⟨x, H1, I1, r1, q1⟩ => ?_
  refine thn (hb pins s1 σ H1 _ I1 q1) fun u s2 ⟨y, H2, I2, r2, q2⟩ => ?_
  exact hf v u s2 x y H2 I2 r1 r2 q2
def tVar (i : Nat) : TE := fun σ H Q => ∃ v, σ[i]? = some (some v) ∧ Q v H
def tC (v : V) : TE := fun _ H Q => Q v H
theorem pe_var {i : Nat} {x : Str} {pos : Pos} (hN : X.N[i]? = some x) (hv : Vis X.env.scope x) (hd : (x == ("__debug__" : Str)) = false := by decide) (hcd : (x == ("__classdict__" : Str)) = false := by decide) : PE X (.Name x pos) (tVar i) := by
  intro pins s σ H Q I h
  obtain ⟨v, e, h⟩ := h
  obtain ⟨m, hn, hl⟩ := I.loc
  obtain ⟨u, r, l⟩ := hl i x v hN e hv
  have fin : EP X pins σ Q u s := ⟨v, H, I, r, h⟩
  rcases l with ⟨hk, hm⟩ | ⟨hk, c, hc, hcell⟩
  · exact wpAny_Name (wpAny_loadName_local I.ok.kind hk hn hm fin) hd
  · rcases hk with hk | hk
    · exact wpAny_Name (wpAny_loadName_cell I.ok.kind hk hc hcell fin) hd
    · exact wpAny_Name (wpAny_loadName_free I.ok.kind hk hc hcell fin hcd) hd
theorem pe_int {i j pos} : PE X (.Constant (.int i) j pos) (tC (.int i)) := fun _ _ _ H _ I h => wpAny_Constant_int ⟨.int i, H, I.tok _, ⟨_, rfl⟩, h⟩
theorem pe_bl {b j pos} : PE X (.Constant (.bool b) j pos) (tC (.bl b)) := fun _ _ _ H _ I h => Constant_bool ⟨.bl b, H, I, rfl, h⟩
theorem pe_non {j pos} : PE X (.Constant .none j pos) (tC .non) := fun _ _ _ H _ I h => Constant_none ⟨.non, H, I, rfl, h⟩
theorem pe_str {x j pos} : PE X (.Constant (.str x) j pos) (tC (.str x)) := fun _ _ _ H _ I h => Calls.Constant_str ⟨.str x, H, I.tok _, ⟨_, rfl⟩, h⟩
def Gl (X : Cx) (x : Str) : Prop := X.env.kindOf x = some .globalImplicit
theorem ld_glob {E : Value → Shared → Prop} {pins : List (Addr × Obj)} {s : Shared} {σ : St} {H : Hp} {x : Str} {u : Value} {pos : Pos} {Q : Value → Shared → Prop} (I : Inv X pins σ H s) (hg : Gl X x) (hm : X.mg x = some u) (h : Q u s)
    (hd : (x == ("__debug__" : Str)) = false := by decide) : wpAny (model X.prog X.w) X.A (eval (.Name x pos) X.env) Q E s :=
  Calls.Name_function_global I.ok.kind hg (Calls.loadGlobal_global (by rw [I.ok.glob]; exact I.mod.glob.keeps I.bk) hm h) hd
theorem ld_blt {E : Value → Shared → Prop} {pins : List (Addr × Obj)} {s : Shared} {σ : St} {H : Hp} {x : Str} {u : Value} {pos : Pos} {Q : Value → Shared → Prop} (I : Inv X pins σ H s) (hg : Gl X x) (hm : X.mg x = none) (hv : bootBuiltins x = some u) (h : Q u s)
    (hn : x ≠ "__name__" := by decide) (hd : (x == ("__debug__" : Str)) = false := by decide) : wpAny (model X.prog X.w) X.A (eval (.Name x pos) X.env) Q E s := by
  obtain ⟨mb, h1, h2⟩ := I.mod.blt
  exact Calls.Name_function_global I.ok.kind hg (Calls.loadGlobal_builtin (by rw [I.ok.glob]; exact I.mod.glob.keeps I.bk) hm (by rw [I.ok.blt]; exact h1.keeps I.bk) ((h2 x hn).trans hv) h) hd
theorem pe_bltn {x : Str} {v : V} {u : Value} {pos : Pos} (hg : Gl X x) (hm : X.mg x = none) (hv : bootBuiltins x = some u) (r : RelV v u) (hn : x ≠ "__name__" := by decide) (hd : (x == ("__debug__" : Str)) = false := by decide) : PE X (.Name x pos) (tC v) :=
  fun _ _ _ H _ I h => ld_blt I hg hm hv ⟨v, H, I, r, h⟩ hn hd
variable {a b : Expr} {ta tb : TE} {pos : Pos}
def PC (X : Cx) (op : CmpOp) (a b : Expr) (t : TE) : Prop :=
  ∀ (pins : List (Addr × Obj)) (s : Shared) (σ : St) (H : Hp) (Q : VK), Inv X pins σ H s → t σ H Q →
    wpAny (model X.prog X.w) X.A (eval a X.env) (fun v s₁ => wpAny (model X.prog X.w) X.A (eval b X.env) (fun u s₂ => wpAny (model X.prog X.w) X.A (compareOp op v u) (EP X pins σ Q) X.xe s₂) X.xe s₁) X.xe s
theorem nobehind (b : Expr) {op : CmpOp} (h : op ≠ .In) (h2 : op ≠ .NotIn) : behindInMarks op b = false := by
  have e1 : (op == CmpOp.In) = false := by cases op <;> first | rfl | exact absurd rfl h
  have e2 : (op == CmpOp.NotIn) = false := by cases op <;> first | rfl | exact absurd rfl h2
  cases b <;> simp [behindInMarks, e1, e2]
def tB (t : TE) : TT := fun σ H Q => t σ H fun x H1 => ∃ c, x = .bl c ∧ Q c H1
theorem pt_cmp {op : CmpOp} {t : TE} (h : PC X op a b t) (h1 : behindInMarks op b = false := by first | exact nobehind _ (by decide) (by decide) | rfl) : PT X (.Compare a [op] [b] pos) (tB t) := by
  intro pins s σ H Q I hw
  refine wpAny_isTrue_Compare1 (thn (h pins s σ H _ I hw) fun v s1 h1 => thn h1 fun u s2 h2 => thn h2 fun c s3 ⟨x, H1, I1, r1, q1⟩ => ?_) h1
  obtain ⟨d, rfl, q⟩ := q1
  cases r1
  exact wpAny_truthy_bool ⟨H1, I1, q⟩
theorem pt_val {e : Expr} {t : TE} (h : PE X e t) (he : ∀ whole, isTrue e X.env whole = (do let v ← whole; standAt e.pos; holding [v] (truthy v)) := by intro _; rfl) : PT X e (tB t) := by
  intro pins s σ H Q I hw
  refine isTrue_plain (thn (h pins s σ H _ I hw) fun v s1 ⟨x, H1, I1, r1, q1⟩ => ?_) (he _)
  obtain ⟨d, rfl, q⟩ := q1
  cases r1
  exact wpAny_truthy_bool ⟨H1, I1, q⟩
variable {tA tB' : TT} {rest : List Expr}
def tAnd (t u : TT) : TT := fun σ H Q => t σ H fun c H1 => if c = true then u σ H1 Q else Q false H1
def tOr (t u : TT) : TT := fun σ H Q => t σ H fun c H1 => if c = true then Q true H1 else u σ H1 Q
def tNot (t : TT) : TT := fun σ H Q => t σ H fun c H1 => Q (!c) H1
theorem pw_and1 (ha : PT X a tA) : PW X (.BoolOp .And [a] pos) tA := by
  intro wh pins s σ H Q I h
  refine isTrue_and (thn (ha pins s σ H Q I h) fun c s1 e => ?_)
  cases c with
  | true => exact isTrue_and_nil e
  | false => exact e
theorem pw_or1 (ha : PT X a tA) : PW X (.BoolOp .Or [a] pos) tA := by
  intro wh pins s σ H Q I h
  refine isTrue_or (thn (ha pins s σ H Q I h) fun c s1 e => ?_)
  cases c with
  | false => exact isTrue_or_nil e
  | true => exact e
theorem pw_and (ha : PT X a tA) (hb : PW X (.BoolOp .And (b :: rest) pos) tB') : PW X (.BoolOp .And (a :: b :: rest) pos) (tAnd tA tB') := by
  intro wh pins s σ H Q I h
  refine isTrue_and (thn (ha pins s σ H _ I h) fun c s1 ⟨H1, I1, q1⟩ => ?_)
  cases c with
  | true => exact hb wh pins s1 σ H1 Q I1 q1
  | false => exact ⟨H1, I1, q1⟩
theorem pw_or (ha : PT X a tA) (hb : PW X (.BoolOp .Or (b :: rest) pos) tB') : PW X (.BoolOp .Or (a :: b :: rest) pos) (tOr tA tB') := by
  intro wh pins s σ H Q I h
  refine isTrue_or (thn (ha pins s σ H _ I h) fun c s1 ⟨H1, I1, q1⟩ => ?_)
  cases c with
  | true => exact ⟨H1, I1, q1⟩
  | false => exact hb wh pins s1 σ H1 Q I1 q1
theorem pt_not (ha : PT X a tA) : PT X (.UnaryOp .Not a pos) (tNot tA) := by
  intro pins s σ H Q I h
  exact isTrue_not (ha pins s σ H (fun c H1 => Q (!c) H1) I h)
def tAndV (ta tb : TE) : TE := fun σ H Q => ta σ H fun x H1 => ∃ c, x = .bl c ∧ if c = true then tb σ H1 Q else Q (.bl false) H1
def tOrV (ta tb : TE) : TE := fun σ H Q => ta σ H fun x H1 => ∃ c, x = .bl c ∧ if c = true then Q (.bl true) H1 else tb σ H1 Q
def tNotV (ta : TE) : TE := fun σ H Q => ta σ H fun x H1 => ∃ c, x = .bl c ∧ Q (.bl (!c)) H1
theorem pe_one {op} {t : TE} (h : PE X a t) : PE X (.BoolOp op [a] pos) t := fun pins s σ H Q I hw => BoolOp_one (h pins s σ H Q I hw)
theorem pe_and (ha : PE X a ta) (hb : PE X (.BoolOp .And (b :: rest) pos) tb) : PE X (.BoolOp .And (a :: b :: rest) pos) (tAndV ta tb) := by
  intro pins s σ H Q I h
  refine BoolOp_and (thn (ha pins s σ H _ I h) fun v s1 ⟨x, H1, I1, r1, q1⟩ => ?_)
  obtain ⟨c, rfl, q1⟩ := q1
  cases r1
  refine wpAny_truthy_bool ?_
  cases c with
  | true => exact hb pins s1 σ H1 Q I1 q1
  | false => exact ⟨.bl false, H1, I1, rfl, q1⟩
theorem pe_or (ha : PE X a ta) (hb : PE X (.BoolOp .Or (b :: rest) pos) tb) : PE X (.BoolOp .Or (a :: b :: rest) pos) (tOrV ta tb) := by
  intro pins s σ H Q I h
  refine BoolOp_or (thn (ha pins s σ H _ I h) fun v s1 ⟨x, H1, I1, r1, q1⟩ => ?_)
  obtain ⟨c, rfl, q1⟩ := q1
  cases r1
  refine wpAny_truthy_bool ?_
  cases c with
  | false => exact hb pins s1 σ H1 Q I1 q1
  | true => exact ⟨.bl true, H1, I1, rfl, q1⟩
theorem pe_not (ha : PE X a ta) : PE X (.UnaryOp .Not a pos) (tNotV ta) := by
  intro pins s σ H Q I h
  refine UnaryOp_ (thn (ha pins s σ H _ I h) fun v s1 ⟨x, H1, I1, r1, q1⟩ => ?_)
  obtain ⟨c, rfl, q1⟩ := q1
  cases r1
  exact not_of (wpAny_truthy_bool ⟨.bl (!c), H1, I1, rfl, q1⟩)
end
end L2
namespace L2
open PySem PySem.Spec PyProof.Rows
def SqL (K : PySem.W.Frag) (H : Hp) (a : Addr) (xs : List V) : Prop :=
  Rd H a (.lst xs) ∨
    ∃ (o : Obj) (its : Array Value) (n : Nat), K.lookup a = some o ∧ o.cls = .type "list" ∧ o.dict = none ∧ o.data = .seq its n ∧ its.size ≤ sizeLine ∧ Vals xs its.toList
def SqT (K : PySem.W.Frag) (H : Hp) (a : Addr) (xs : List V) : Prop :=
  Rd H a (.tup xs) ∨
    ∃ (o : Obj) (its : Array Value) (n : Nat), K.lookup a = some o ∧ o.cls = .type "tuple" ∧ o.data = .seq its n ∧ its.size ≤ sizeLine ∧ Vals xs its.toList
def absV : Value → Option V
  | .none => some .non
  | .bool b => some (.bl b)
  | .int i _ => some (.int i)
  | .str x _ => some (.str x)
  | .bytes b _ => some (.byt b)
  | .float b _ => some (.flt b)
  | .ref a => some (.ref a)
  | .type n => some (.ty n)
  | _ => none
theorem RelV.abs {x : V} {u : Value} (r : RelV x u) : absV u = some x := by
  cases x with
  | non => cases r; rfl
  | bl _ => cases r; rfl
  | int _ => obtain ⟨t, rfl⟩ := r; rfl
  | str _ => obtain ⟨t, rfl⟩ := r; rfl
  | byt _ => obtain ⟨t, rfl⟩ := r; rfl
  | flt _ => obtain ⟨t, rfl⟩ := r; rfl
  | ref _ => cases r; rfl
  | ty _ => cases r; rfl
theorem RelV.inj {x y : V} {u : Value} (r : RelV x u) (q : RelV y u) : x = y := Option.some.inj (r.abs.symm.trans q.abs)
theorem Vals.inj : ∀ {xs ys : List V} {us : List Value}, Vals xs us → Vals ys us → xs = ys
  | _, _, _, .nil, .nil => rfl
  | _, _, _, .cons r t, .cons r' t' => by rw [r.inj r', Vals.inj t t']
section
variable {X : Cx} {pins : List (Addr × Obj)} {σ : St} {H : Hp} {s : Shared} {a : Addr} {xs ys : List V}
theorem SqL.of {K : PySem.W.Frag} (h : H a = some (.lst xs)) : SqL K H a xs := .inl (.inl h)
theorem SqT.of {K : PySem.W.Frag} (h : H a = some (.tup xs)) : SqT K H a xs := .inl (.inl h)
theorem Inv.list (I : Inv X pins σ H s) (h : SqL X.K H a xs) : ∃ its : List Value, Vals xs its ∧ PlainL s.heap a its.toArray ∧ xs.length ≤ sizeLine := by
  rcases h with h | ⟨o, its, n, hk, hc, hd, hs, hz, r⟩
  · obtain ⟨z, its, n, r, e⟩ := h.ok I.hok
    exact ⟨its, r, ⟨_, n, e, rfl, rfl, rfl⟩, z⟩
  · refine ⟨its.toList, r, ⟨o, n, I.kIn a o hk, hc, hd, by simpa using hs⟩, ?_⟩
    have e := r.length
    simp only [Array.length_toList] at e
    omega
theorem Inv.tuple (I : Inv X pins σ H s) (h : SqT X.K H a xs) : ∃ its : List Value, Vals xs its ∧ IsTup s.heap a its.toArray ∧ xs.length ≤ sizeLine := by
  rcases h with h | ⟨o, its, n, hk, hc, hs, hz, r⟩
  · obtain ⟨z, its, r, p⟩ := h.ok I.hok
    exact ⟨its, r, p, z⟩
  · refine ⟨its.toList, r, ⟨o, I.kIn a o hk, hc, n, by simpa using hs⟩, ?_⟩
    have e := r.length
    simp only [Array.length_toList] at e
    omega
theorem Inv.list_inj (I : Inv X pins σ H s) (h : SqL X.K H a xs) (h' : SqL X.K H a ys) : xs = ys := by
  obtain ⟨its, r, ⟨o, n, e, _, _, d⟩, _⟩ := I.list h
  obtain ⟨its', r', ⟨o', n', e', _, _, d'⟩, _⟩ := I.list h'
  rw [e] at e'; cases e'
  rw [d] at d'
  injection d' with d1 _
  have : its = its' := by simpa using congrArg Array.toList d1
  subst this
  exact r.inj r'
theorem Inv.tuple_inj (I : Inv X pins σ H s) (h : SqT X.K H a xs) (h' : SqT X.K H a ys) : xs = ys := by
  obtain ⟨its, r, ⟨o, e, _, n, d⟩, _⟩ := I.tuple h
  obtain ⟨its', r', ⟨o', e', _, n', d'⟩, _⟩ := I.tuple h'
  rw [e] at e'; cases e'
  rw [d] at d'
  injection d' with d1 _
  have : its = its' := by simpa using congrArg Array.toList d1
  subst this
  exact r.inj r'
end
abbrev Cx.wish (X : Cx) (E : Value → Shared → Prop) : Cx := { X with xe := E }
abbrev Cx.nox (X : Cx) : Cx := X.wish fun _ _ => False
theorem Cx.Ok.wish {X : Cx} (ok : X.Ok) (E : Value → Shared → Prop) : (X.wish E).Ok :=
  ⟨ok.mod, ok.kind, ok.glob, ok.blt, ok.above, ok.inj, ok.has, ok.cab, ok.hd, ok.frames, ok.stk, ok.exf, ok.bs, ok.bsz, ok.noex, ok.exfs, ok.funs, ok.frf⟩
theorem Cx.Ok.unwish {X : Cx} {E : Value → Shared → Prop} (ok : (X.wish E).Ok) : X.Ok :=
  ⟨ok.mod, ok.kind, ok.glob, ok.blt, ok.above, ok.inj, ok.has, ok.cab, ok.hd, ok.frames, ok.stk, ok.exf, ok.bs, ok.bsz, ok.noex, ok.exfs, ok.funs, ok.frf⟩
section
variable {X : Cx} {pins : List (Addr × Obj)} {σ : St} {H : Hp} {s : Shared} {E : Value → Shared → Prop}
theorem Inv.wish (I : Inv X pins σ H s) (E : Value → Shared → Prop) : Inv (X.wish E) pins σ H s := ⟨I.ok.wish E, I.os, I.bare, I.base, I.loc, I.cell, I.free, I.freeC, I.pin, I.hok, I.len⟩
theorem Inv.unwish (I : Inv (X.wish E) pins σ H s) : Inv X pins σ H s := ⟨I.ok.unwish, I.os, I.bare, I.base, I.loc, I.cell, I.free, I.freeC, I.pin, I.hok, I.len⟩
theorem SP.unwish {D : Ends} {f : Flow} {s' : Shared} (h : SP (X.wish E) pins D f s') : SP X pins D f s' := by
  cases f with
  | next => obtain ⟨σ', H', I, q⟩ := h; exact ⟨σ', H', I.unwish, q⟩
  | brk => obtain ⟨σ', H', I, q⟩ := h; exact ⟨σ', H', I.unwish, q⟩
  | cont => obtain ⟨σ', H', I, q⟩ := h; exact ⟨σ', H', I.unwish, q⟩
  | ret u => obtain ⟨v, σ', H', I, r, q⟩ := h; exact ⟨v, σ', H', I.unwish, r, q⟩
theorem PSs.nox {st : List Stmt} {t : TS} (h : PSs X.nox st t) : PSs X st t := fun pins s σ H D I hw =>
  wpAny_mono (h pins s σ H D (I.wish _) hw) (fun _ _ q => q.unwish) fun _ _ z => False.elim z
end
section
variable {X : Cx} {st : Stmt} {rest : List Stmt} {t u : TS} {e : Expr} {te : TE} {pos : Pos}
def tNext : TS := fun D σ H => D.nx σ H
def tSeq (t u : TS) : TS := fun D σ H => t { D with nx := u D } σ H
theorem pss_nil : PSs X [] tNext := fun _ _ σ H _ I h => wpAny_execs_nil ⟨σ, H, I, h⟩
theorem pss_cons (h1 : PS X st t) (h2 : PSs X rest u) : PSs X (st :: rest) (tSeq t u) := by
  intro pins s σ H D I h
  refine wpAny_execs_cons (thn (h1 pins s σ H { D with nx := u D } I h) fun f s1 q => ?_)
  cases f with
  | next =>
    obtain ⟨σ', H', I', q⟩ := q
    exact h2 pins s1 σ' H' D I' q
  | ret v => exact q
  | brk => exact q
  | cont => exact q
theorem pss_one (h1 : PS X st t) : PSs X [st] t := by
  intro pins s σ H D I h
  refine wpAny_execs_cons (thn (h1 pins s σ H D I h) fun f s1 q => ?_)
  cases f with
  | next => exact wpAny_execs_nil q
  | ret v => exact q
  | brk => exact q
  | cont => exact q
theorem Inv.quiet {pins : List (Addr × Obj)} {σ : St} {H : Hp} {s : Shared} (I : Inv X pins σ H s) : interactive X.env = false := by simp [interactive, I.ok.kind]
def tDrop (te : TE) : TS := fun D σ H => te σ H fun _ H1 => D.nx σ H1
theorem ps_expr (he : PE X e te) (hs : swapsWith e none pos.line X.env = pure false := by rfl) : PS X (.Expr e pos) (tDrop te) := by
  intro pins s σ H D I h
  exact wpAny_Expr_any (thn (he pins s σ H _ I h) fun v s1 ⟨x, H1, I1, r1, q1⟩ => ⟨σ, H1, I1, q1⟩) I.quiet hs
def tRet (te : TE) : TS := fun D σ H => te σ H D.rt
theorem ps_ret (he : PE X e te) : PS X (.Return (some e) pos) (tRet te) := by
  intro pins s σ H D I h
  exact wpAny_Return_some (thn (he pins s σ H _ I h) fun v s1 ⟨x, H1, I1, r1, q1⟩ => ⟨x, σ, H1, I1, r1, q1⟩)
def tIfS (c : TT) (t u : TS) : TS := fun D σ H => c σ H fun b H1 => if b = true then t D σ H1 else u D σ H1
theorem ps_if {c : Expr} {a b : List Stmt} {tc : TT} (hc : PT X c tc) (ha : PSs X a t) (hb : PSs X b u) : PS X (.If c a b pos) (tIfS tc t u) := by
  intro pins s σ H D I h
  refine wpAny_If (thn (hc pins s σ H _ I h) fun d s1 ⟨H1, I1, q1⟩ => ?_)
  cases d with
  | true => exact ha pins s1 σ H1 D I1 q1
  | false => exact hb pins s1 σ H1 D I1 q1
end
abbrev TG := V → St → Hp → (St → Hp → Prop) → Prop
abbrev TGs := List V → St → Hp → (St → Hp → Prop) → Prop
def PG (X : Cx) (target : Expr) (t : TG) : Prop :=
  ∀ (pins : List (Addr × Obj)) (s : Shared) (σ : St) (H : Hp) (v : V) (u : Value) (Q : St → Hp → Prop), Inv X pins σ H s → RelV v u → t v σ H Q →
    wpAny (model X.prog X.w) X.A (assign target X.env u) (fun _ s' => ∃ σ' H', Inv X pins σ' H' s' ∧ Q σ' H') X.xe s
def PGs (X : Cx) (ts : List Expr) (t : TGs) : Prop :=
  ∀ (pins : List (Addr × Obj)) (s : Shared) (σ : St) (H : Hp) (vs : List V) (us : List Value) (Q : St → Hp → Prop), Inv X pins σ H s → Vals vs us → t vs σ H Q →
    wpAny (model X.prog X.w) X.A (assignInOrder ((assignEach ts X.env).map (·.2)) us) (fun _ s' => ∃ σ' H', Inv X pins σ' H' s' ∧ Q σ' H') X.xe s
abbrev TSet := V → V → V → Hp → (Hp → Prop) → Prop
def PSet (X : Cx) (t : TSet) : Prop :=
  ∀ (pins : List (Addr × Obj)) (s : Shared) (σ : St) (H : Hp) (o i v : V) (ov iv u : Value) (Q : Hp → Prop), Inv X pins σ H s → RelV o ov → RelV i iv → RelV v u → t o i v H Q →
    wpAny (model X.prog X.w) X.A (setItem ov iv u) (fun _ s' => ∃ H', Inv X pins σ H' s' ∧ Q H') X.xe s
section
variable {X : Cx} {pos : Pos}
def gName (i : Nat) : TG := fun v σ H Q => Q (σ.set i (some v)) H
theorem pg_name {i : Nat} {x : Str} (hN : X.N.Nodup) (hi : X.N[i]? = some x) (hx : Loc X.env.scope x) (hf : X.fn x = true ∨ X.env.scope.names.lookup x = some .local := by first | exact .inl rfl | exact .inr rfl | assumption) : PG X (.Name x pos) (gName i) := by
  intro pins s σ H v u Q I r h
  exact wpAny_assign_Name (store_ok I hN hi hx r (fun s' I' => ⟨_, H, I', h⟩) hf)
def gNil : TGs := fun vs σ H Q => vs = [] ∧ Q σ H
def gCons (t : TG) (u : TGs) : TGs := fun vs σ H Q => ∃ v r, vs = v :: r ∧ t v σ H fun σ' H' => u r σ' H' Q
theorem pgs_nil : PGs X [] gNil := by
  intro pins s σ H vs us Q I r h
  obtain ⟨e, h⟩ := h
  subst e
  cases r
  exact assignInOrder_nil ⟨σ, H, I, h⟩
theorem pgs_cons {e : Expr} {es : List Expr} {t : TG} {u : TGs} (h1 : PG X e t) (h2 : PGs X es u)
    (hs : (assignEach (e :: es) X.env).map (·.2) = assign e X.env :: (assignEach es X.env).map (·.2) := by rfl) : PGs X (e :: es) (gCons t u) := by
  intro pins s σ H vs us Q I r h
  obtain ⟨v, vr, e1, h⟩ := h
  subst e1
  cases r with
  | cons r rr =>
    rw [hs]
    refine assignInOrder_cons (thn (h1 pins s σ H _ _ _ I r h) fun _ s1 ⟨σ1, H1, I1, q1⟩ => ?_)
    exact h2 pins s1 σ1 H1 _ _ Q I1 rr q1
def gTup (K : PySem.W.Frag) (n : Nat) (t : TGs) : TG := fun v σ H Q => ∃ a xs, v = .ref a ∧ SqT K H a xs ∧ xs.length = n ∧ t xs σ H Q
theorem pg_tup {es : List Expr} {k : Nat} {t : TGs} {n : Nat} (hc : X.calm = true) (h : PGs X es t)
    (hn : (assignEach es X.env).length = n := by rfl) (hst : (assignEach es X.env).findIdx? (·.1) = none := by rfl) : PG X (.Tuple es k pos) (gTup X.K n t) := by
  intro pins s σ H v u Q I r hw
  obtain ⟨a, xs, e1, hq, hl, hw⟩ := hw
  subst e1
  cases r
  obtain ⟨its, rv, ht, hz⟩ := I.tuple hq
  refine assign_Tuple_tuple (I.ok.hd hc) ht (by simp [hn, ← hl, rv.length]) hst fun h' hx => ?_
  have I1 : Inv X pins σ H { s with heap := h' } := I.kept (t' := s.toks) fun b o e => hx b o (Nat.ne_of_lt (Heap.lt_size e)) e
  exact h pins _ σ H xs _ Q I1 (by simpa using rv) hw
def gSub (to ti : TE) (t : TSet) : TG := fun v σ H Q => to σ H fun o H1 => ti σ H1 fun i H2 => t o i v H2 fun H3 => Q σ H3
theorem pg_sub {o i : Expr} {to ti : TE} {t : TSet} (ho : PE X o to) (hi : PE X i ti) (hs : PSet X t)
    (ha : ∀ v, assign (.Subscript o i pos) X.env v = (do
      let ov ← holding [v] (eval o X.env)
      let iv ← holding [v, ov] (eval i X.env)
      standAt pos
      holding [v, ov, iv] (setItem ov iv v)
      release [v, ov, iv] []) := by intro _; rfl) : PG X (.Subscript o i pos) (gSub to ti t) := by
  intro pins s σ H v u Q I r h
  rw [ha]
  refine wpAny_bind (wpAny_holding (thn (ho pins s σ H _ I h) fun ov s1 ⟨x, H1, I1, r1, q1⟩ => ?_))
  refine wpAny_bind (wpAny_holding (thn (hi pins s1 σ H1 _ I1 q1) fun iv s2 ⟨y, H2, I2, r2, q2⟩ => ?_))
  refine wpAny_bind (wpAny_standAt (wpAny_bind (wpAny_holding (thn (hs pins s2 σ H2 x y v ov iv u _ I2 r1 r2 r q2) fun _ s3 ⟨H3, I3, q3⟩ => ?_))))
  exact wpAny_release ⟨σ, H3, I3, q3⟩
def tAsg (te : TE) (g : TG) : TS := fun D σ H => te σ H fun x H1 => g x σ H1 D.nx
theorem ps_asg {tg e : Expr} {te : TE} {g : TG} (he : PE X e te) (hg : PG X tg g) (hs : swapsWithSole [tg] e pos.line X.env = pure false := by rfl) (hw : swappedStores [tg] e X.env = pure none := by rfl)
    (h1 : (assignEach [tg] X.env).map (·.2) = [assign tg X.env] := by rfl) : PS X (.Assign [tg] e pos) (tAsg te g) := by
  intro pins s σ H D I h
  refine wpAny_Assign_stores (thn (he pins s σ H _ I h) fun v s1 ⟨x, H1, I1, r1, q1⟩ => ?_) hs hw
  rw [h1]
  exact thn (hg pins s1 σ H1 x v _ I1 r1 q1) fun _ s2 q => q
theorem ps_set {i : Nat} {x : Str} {e : Expr} {te : TE} {pos' : Pos} (hN : X.N.Nodup) (hi : X.N[i]? = some x) (hx : Loc X.env.scope x) (he : PE X e te) (hs : swapsWith e (some (.Name x pos')) pos.line X.env = pure false := by rfl) (hf : X.fn x = true ∨ X.env.scope.names.lookup x = some .local := by first | exact .inl rfl | exact .inr rfl | assumption) :
    PS X (.Assign [.Name x pos'] e pos) (tAsg te (gName i)) := by
  intro pins s σ H D I h
  refine wpAny_Assign_Name (thn (he pins s σ H _ I h) fun v s1 ⟨y, H1, I1, r1, q1⟩ => ?_) hs
  exact store_ok I1 hN hi hx r1 (fun s2 I2 => ⟨_, H1, I2, q1⟩) hf
end
section
variable {X : Cx} {pos : Pos}
def tWhile (c : TT) (tb : TS) : TS := fun D σ H => ∃ W : Nat → St → Hp → Prop, (∃ m, W m σ H) ∧ ∀ m σ H, W m σ H →
  c σ H fun b H1 => if b = true then ∃ N : St → Hp → Prop, (∀ σ' H', N σ' H' → ∃ m', m' < m ∧ W m' σ' H') ∧ tb { D with nx := N, ct := N, bk := D.nx } σ H1 else D.nx σ H1
theorem ps_while {c : Expr} {body : List Stmt} {tc : TT} {tb : TS} (hp : PassesOwn (model X.prog X.w) X.A X.env X.xe) (hc : PT X c tc) (hb : PSs X body tb) : PS X (.While c body [] pos) (tWhile tc tb) := by
  intro pins s σ H D I h
  obtain ⟨W, ⟨m0, w0⟩, turn⟩ := h
  refine wpAny_While (codeAny_whileLoop (fun n s' => ∃ σ' H', Inv X pins σ' H' s' ∧ W n σ' H') ?_ m0 ⟨σ, H, I, w0⟩)
  rintro n s1 ⟨σ1, H1, I1, w1⟩
  refine wpAny_passesOwn hp (thn (hc pins s1 σ1 H1 _ I1 (turn n σ1 H1 w1)) fun b s2 ⟨H2, I2, q2⟩ => ?_)
  cases b with
  | true =>
    obtain ⟨N, hN, q2⟩ := q2
    rw [if_pos rfl]
    refine wpAny_passesOwn hp (thn (hb pins s2 σ1 H2 _ I2 q2) fun f s3 q3 => ?_)
    cases f with
    | next =>
      obtain ⟨σ3, H3, I3, n3⟩ := q3
      obtain ⟨m', hm, w3⟩ := hN σ3 H3 n3
      exact ⟨m', hm, σ3, H3, I3, w3⟩
    | cont =>
      obtain ⟨σ3, H3, I3, n3⟩ := q3
      obtain ⟨m', hm, w3⟩ := hN σ3 H3 n3
      exact ⟨m', hm, σ3, H3, I3, w3⟩
    | brk => exact q3
    | ret v => exact q3
  | false =>
    rw [if_neg Bool.false_ne_true]
    exact wpAny_execs_nil ⟨σ1, H2, I2, q2⟩
end
structure It where
  go : Nat → Hp → Prop
  yld : Nat → Hp → V → Hp → Prop
  stop : Nat → Hp → Prop
def FpOk (X : Cx) (pins : List (Addr × Obj)) (H : Hp) (b : Addr) : Prop :=
  H b = none ∧ b ≠ X.env.locals ∧ b ∉ X.fs ∧ (b ∈ X.ex ∨ X.s₀.heap.objs.size ≤ b) ∧ (∀ x c, X.env.cells.lookup x = some c → c ≠ b) ∧ ∀ p ∈ X.pn ++ pins, p.1 ≠ b
theorem Inv.fpOk {X : Cx} {pins : List (Addr × Obj)} {σ : St} {H H' : Hp} {s : Shared} {b : Addr} (I : Inv X pins σ H s) (hb : s.heap.objs.size ≤ b) (hn : H' b = none) : FpOk X pins H' b := by
  refine ⟨hn, Nat.ne_of_gt (Nat.lt_of_lt_of_le I.lt hb), I.nofs hb, .inr (Nat.le_trans I.sz hb), fun x c e z => ?_, fun p hp z => ?_⟩
  · obtain ⟨v, q⟩ := I.cell x c e
    exact absurd (Nat.lt_of_lt_of_le q.lt (by rw [z]; exact hb)) (Nat.lt_irrefl _)
  · exact absurd (Nat.lt_of_lt_of_le (Heap.lt_size (I.pin p hp).1) (by rw [z]; exact hb)) (Nat.lt_irrefl _)
structure Turn (P : Program) (w : World) (K : PySem.W.Frag) (tg : Expr) (J : It) (fp : List Addr) (it : Addr) (tn : Nat → Heap → Prop) : Prop where
  mem : it ∈ fp
  obj : ∀ i h, tn i h → ∀ b ∈ fp, ∃ o, h.get? b = some o ∧ ∀ v, o.data ≠ .cell v
  keep : ∀ i h h', tn i h → (∀ b ∈ fp, ∀ o, h.get? b = some o → h'.get? b = some o) → tn i h'
  item : ∀ (X : Cx), X.prog = P → X.w = w → X.K = K → X.calm = true → ∀ (i : Nat) (pins : List (Addr × Obj)) (s : Shared) (σ : St) (H : Hp) (E : Value → Shared → Prop), Inv X pins σ H s → (∀ b ∈ fp, FpOk X pins H b) → tn i s.heap → J.go i H →
    wpAny (model P w) X.A (pyNext (.ref it)) (fun r s1 => ∃ u, r = some u ∧
      wpAny (model P w) X.A (letOwnedTupleGo tg (.ref it) u) (fun _ s2 => ∃ x H', Inv X pins σ H' s2 ∧ RelV x u ∧ J.yld i H x H' ∧ tn (i + 1) s2.heap ∧ ∀ b ∈ fp, H' b = none) E s1) E s
  done : ∀ (X : Cx), X.prog = P → X.w = w → X.K = K → X.calm = true → ∀ (i : Nat) (pins : List (Addr × Obj)) (s : Shared) (σ : St) (H : Hp) (E : Value → Shared → Prop), Inv X pins σ H s → (∀ b ∈ fp, FpOk X pins H b) → tn i s.heap → J.stop i H →
    wpAny (model P w) X.A (pyNext (.ref it)) (fun r s1 => r = none ∧ Inv X pins σ H s1) E s
  self : ∀ (A : Around) (i : Nat) (s : Shared) (Q : Value → Shared → Prop) (E : Value → Shared → Prop), tn i s.heap → Q (.ref it) s → wpAny (model P w) A (pyIter (.ref it)) Q E s
abbrev TI := St → Hp → (It → Hp → Prop) → Prop
def PIE (X : Cx) (pins : List (Addr × Obj)) (σ : St) (tg : Expr) (R : It → Hp → Prop) (itv : Value) (s2 : Shared) : Prop :=
  ∃ (it : Addr) (fp : List Addr) (tn : Nat → Heap → Prop) (J : It) (H' : Hp), itv = .ref it ∧ Inv X pins σ H' s2 ∧ Turn X.prog X.w X.K tg J fp it tn ∧ tn 0 s2.heap ∧ (∀ b ∈ fp, FpOk X pins H' b) ∧ R J H'
def PI (X : Cx) (tg iter : Expr) (wi : TI) : Prop :=
  ∀ (pins : List (Addr × Obj)) (s : Shared) (σ : St) (H : Hp) (R : It → Hp → Prop), Inv X pins σ H s → wi σ H R →
    wpAny (model X.prog X.w) X.A (eval iter X.env) (fun v s1 => wpAny (model X.prog X.w) X.A (pyIter v) (PIE X pins σ tg R) X.xe s1) X.xe s
theorem go_of {M : Model} {A : Around} {E : Value → Shared → Prop} {s : Shared} {tg : Expr} {it : Addr} {u : Value} {o : Obj} {n : String} {vs : Array Value} {Q : Unit → Shared → Prop} (ho : s.heap.get? it = some o) (hc : o.cls = .type n) (hd : o.data = .fields vs)
    (hn : ["enumerate", "zip", "dict_itemiterator", "dict_reverseitemiterator", "odict_iterator", "itertools.zip_longest", "itertools.pairwise"].contains n = false) (hQ : Q () s) : wpAny M A (letOwnedTupleGo tg (.ref it) u) Q E s := by
  unfold letOwnedTupleGo
  cases tg <;> first
    | exact wpAny_pure hQ
    | (cases u <;> first
        | exact wpAny_pure hQ
        | (refine wpAny_bind (wpAny_load ho ?_)
           rw [hc, hd]
           show wpAny M A (if (["enumerate", "zip", "dict_itemiterator", "dict_reverseitemiterator", "odict_iterator", "itertools.zip_longest", "itertools.pairwise"].contains n && vs[0]? == some (rawInt _)) = true then _ else _) Q E s
           rw [if_neg (by intro h; rw [hn, Bool.false_and] at h; cases h)]
           exact wpAny_pure hQ))
def Itl (K : PySem.W.Frag) (a : Addr) : It :=
  ⟨fun i H => ∃ xs x, SqL K H a xs ∧ xs[i]? = some x, fun i H x H' => H' = H ∧ ∀ xs, SqL K H a xs → xs[i]? = some x, fun i H => ∃ xs, SqL K H a xs ∧ xs.length ≤ i⟩
def Itt (K : PySem.W.Frag) (a : Addr) : It :=
  ⟨fun i H => ∃ xs x, SqT K H a xs ∧ xs[i]? = some x, fun i H x H' => H' = H ∧ ∀ xs, SqT K H a xs → xs[i]? = some x, fun i H => ∃ xs, SqT K H a xs ∧ xs.length ≤ i⟩
def Itr (lo : Int) (n : Nat) : It := ⟨fun i _ => i < n, fun i H x H' => H' = H ∧ x = .int (lo + i), fun i _ => n ≤ i⟩
theorem turn_list {P : Program} {w : World} {K : PySem.W.Frag} {tg : Expr} (a it : Addr) : Turn P w K tg (Itl K a) [it] it (fun i h => h.IsListIter it a i) where
  mem := by simp
  obj := fun i h st b hb => by
    have e : b = it := by simpa using hb
    subst e
    obtain ⟨o, e, c, d⟩ := st
    exact ⟨o, e, fun v z => by rw [d] at z; cases z⟩
  keep := fun i h h' st k => st.at fun o e => k it (by simp) o e
  item := by
    intro X hP hw hK hc i pins s σ H E I hf st hg
    subst hP hw hK
    obtain ⟨xs, x, hq, hx⟩ := hg
    obtain ⟨its, rv, p, hz⟩ := I.list hq
    obtain ⟨u, hu, ru⟩ := rv.get hx
    obtain ⟨f0, f1, f2, f3, f4, f5⟩ := hf it (by simp)
    refine wpAny_pyNext_list_item st p.isList (x := u) (by simpa using hu) fun h' st' sb => ?_
    have I1 : Inv X pins σ H { s with heap := h' } := I.turned (t' := s.toks) (fun b o hb e => (sb.2 b hb).trans e) f0 f1 f3 f4 f5
    obtain ⟨o, e, c, d⟩ := id st'
    exact ⟨u, rfl, go_of (s := { s with heap := h' }) e c d (by decide) ⟨x, H, I1, ru, ⟨rfl, fun ys hy => by rw [I.list_inj hy hq]; exact hx⟩, st', fun b hb => (hf b hb).1⟩⟩
  done := by
    intro X hP hw hK hc i pins s σ H E I hf st hg
    subst hP hw hK
    obtain ⟨xs, hq, hx⟩ := hg
    obtain ⟨its, rv, p, hz⟩ := I.list hq
    obtain ⟨f0, f1, f2, f3, f4, f5⟩ := hf it (by simp)
    have hl := rv.length
    exact wpAny_pyNext_list_end (I.ok.hd hc) st p.isList (by simp; omega) fun h' eb => ⟨rfl, I.turned (t' := s.toks) (fun b o hb e => eb b o hb e) f0 f1 f3 f4 f5⟩
  self := fun _ _ _ _ _ st h => wpAny_pyIter_listiter st h
theorem turn_tuple {P : Program} {w : World} {K : PySem.W.Frag} {tg : Expr} (a it : Addr) : Turn P w K tg (Itt K a) [it] it (fun i h => h.IsTupleIter it a i) where
  mem := by simp
  obj := fun i h st b hb => by
    have e : b = it := by simpa using hb
    subst e
    obtain ⟨o, e, c, d⟩ := st
    exact ⟨o, e, fun v z => by rw [d] at z; cases z⟩
  keep := fun i h h' st k => st.at fun o e => k it (by simp) o e
  item := by
    intro X hP hw hK hc i pins s σ H E I hf st hg
    subst hP hw hK
    obtain ⟨xs, x, hq, hx⟩ := hg
    obtain ⟨its, rv, p, hz⟩ := I.tuple hq
    obtain ⟨u, hu, ru⟩ := rv.get hx
    obtain ⟨f0, f1, f2, f3, f4, f5⟩ := hf it (by simp)
    refine wpAny_pyNext_tuple_item st (show s.heap.IsTuple a its.toArray from p) (x := u) (by simpa using hu) fun h' st' sb => ?_
    have I1 : Inv X pins σ H { s with heap := h' } := I.turned (t' := s.toks) (fun b o hb e => (sb.2 b hb).trans e) f0 f1 f3 f4 f5
    obtain ⟨o, e, c, d⟩ := id st'
    exact ⟨u, rfl, go_of (s := { s with heap := h' }) e c d (by decide) ⟨x, H, I1, ru, ⟨rfl, fun ys hy => by rw [I.tuple_inj hy hq]; exact hx⟩, st', fun b hb => (hf b hb).1⟩⟩
  done := by
    intro X hP hw hK hc i pins s σ H E I hf st hg
    subst hP hw hK
    obtain ⟨xs, hq, hx⟩ := hg
    obtain ⟨its, rv, p, hz⟩ := I.tuple hq
    obtain ⟨f0, f1, f2, f3, f4, f5⟩ := hf it (by simp)
    have hl := rv.length
    exact wpAny_pyNext_tuple_end (I.ok.hd hc) st (show s.heap.IsTuple a its.toArray from p) (by simp; omega) fun h' eb => ⟨rfl, I.turned (t' := s.toks) (fun b o hb e => eb b o hb e) f0 f1 f3 f4 f5⟩
  self := fun _ _ _ _ _ st h => wpAny_pyIter_tupleiter st h
theorem turn_range {P : Program} {w : World} {K : PySem.W.Frag} {tg : Expr} (it : Addr) (lo : Int) (n : Nat) : Turn P w K tg (Itr lo n) [it] it (fun i h => IsRangeIter h it (lo + (i : Nat) * 1) ((n : Int) - (i : Nat)) 1) where
  mem := by simp
  obj := fun i h st b hb => by
    have e : b = it := by simpa using hb
    subst e
    exact ⟨_, st, fun v z => by
      have z' : Data.fields _ = Data.cell v := z
      cases z'⟩
  keep := fun i h h' st k => k it (by simp) _ st
  item := by
    intro X hP hw hK hc i pins s σ H E I hf st hg
    subst hP hw hK
    obtain ⟨f0, f1, f2, f3, f4, f5⟩ := hf it (by simp)
    have W := Walks.range (prog := X.prog) (w := X.w) (I.ok.hd hc) it lo 1 n
    refine W.item i s _ _ hg st fun v h' tk hv st' kk => ?_
    obtain ⟨t, rfl⟩ := hv
    have I1 : Inv X pins σ H { s with heap := h', toks := tk } := I.turned (fun b o hb e => kk b o (by simpa using hb) e) f0 f1 f3 f4 f5
    refine ⟨_, rfl, go_of (s := { s with heap := h', toks := tk }) (n := "range_iterator") st' rfl rfl (by decide) ⟨.int (lo + i), H, I1, ⟨t, ?_⟩, ⟨rfl, rfl⟩, st', fun b hb => (hf b hb).1⟩⟩
    rw [Int.mul_one]
  done := by
    intro X hP hw hK hc i pins s σ H E I hf st hg
    subst hP hw hK
    obtain ⟨f0, f1, f2, f3, f4, f5⟩ := hf it (by simp)
    exact wpAny_pyNext_range_end (I.ok.hd hc) st (by have : n ≤ i := hg; omega) fun h' eb => ⟨rfl, I.turned (t' := s.toks) (fun b o hb e => eb b o hb e) f0 f1 f3 f4 f5⟩
  self := fun _ _ _ _ _ st h => wpAny_pyIter_rangeiter st h
end L2
namespace L2
open PySem PySem.Spec PyProof.Rows
section
variable {X : Cx} {tg : Expr}
theorem range_it {pins : List (Addr × Obj)} {σ : St} {H : Hp} {s : Shared} {R : It → Hp → Prop} {E : Value → Shared → Prop} {lo hi : Int} {t u v : Tok} {tk : Nat} (I : Inv X pins σ H s) (h1 : -(2 ^ 62) ≤ lo) (h2 : lo < 2 ^ 62) (h3 : -(2 ^ 62) ≤ hi) (h4 : hi < 2 ^ 62)
    (q : R (Itr lo (hi - lo).toNat) H) : wpAny (model X.prog X.w) X.A (pyIter (.ref s.heap.objs.size)) (PIE X pins σ tg R) E { s with heap := s.heap.push { cls := .type "range", data := .fields #[.int lo t, .int hi u, .int 1 v] }, toks := tk } := by
  refine wpAny_pyIter_range (IsRange.new ..) (small_one h1 h2 h3 h4) ?_
  have I1 : Inv X pins σ H { s with heap := s.heap.push { cls := .type "range", data := .fields #[.int lo t, .int hi u, .int 1 v] }, toks := tk } := I.kept fun b o e => Heap.get?_push_of_some _ e
  refine ⟨(s.heap.push { cls := .type "range", data := .fields #[.int lo t, .int hi u, .int 1 v] }).objs.size, [(s.heap.push { cls := .type "range", data := .fields #[.int lo t, .int hi u, .int 1 v] }).objs.size], _, _, H, rfl,
    I1.kept (t' := tk) fun b o e => Heap.get?_push_of_some _ e, turn_range _ lo (hi - lo).toNat, ?_, fun b hb => ?_, q⟩
  · have e1 : lo + ((0 : Nat) : Int) * 1 = lo := by simp
    have e2 : (((hi - lo).toNat : Nat) : Int) - ((0 : Nat) : Int) = Builtin.Range.rangeSize lo hi 1 := by rw [rangeSize_one]; split <;> omega
    show IsRangeIter _ _ (lo + ((0 : Nat) : Int) * 1) ((((hi - lo).toNat : Nat) : Int) - ((0 : Nat) : Int)) 1
    rw [e1, e2]
    exact Heap.get?_push_size _ rfl
  · have e : b = (s.heap.push { cls := .type "range", data := .fields #[.int lo t, .int hi u, .int 1 v] }).objs.size := by simpa using hb
    subst e
    exact I1.fpOk (Nat.le_refl _) (I1.hok.fresh (Nat.le_refl _))
def iRng1 (ta : TA) : TI := fun σ H R => ta σ H fun vs H1 => ∃ j : Int, vs = [.int j] ∧ -(2 ^ 62) ≤ j ∧ j < 2 ^ 62 ∧ R (Itr 0 j.toNat) H1
theorem pi_range1 {a : Expr} {ta : TA} {p pos : Pos} (hg : Gl X "range") (hm : X.mg "range" = none) (ha : PA X [a] ta) (hs : starEach [a] X.env = [(false, eval a X.env)] := by rfl) : PI X tg (.Call (.Name "range" p) [a] [] pos) (iRng1 ta) := by
  intro pins s σ H R I h
  refine Call_ (ld_blt I hg hm boot_range (PyProof.Rows.callWith_type1 (thn (ha pos pins s σ H _ I h) fun us s1 ⟨vs, H1, I1, r1, q1⟩ => ?_) hs rfl))
  obtain ⟨j, e, q1, q2, q⟩ := q1
  subst e
  cases r1 with
  | cons r rr =>
    cases rr
    obtain ⟨t, rfl⟩ := r
    exact call_range_1 (range_it I1 (by omega) (by omega) q1 q2 (by simpa using q))
def tFor (wi : TI) (g : TG) (tb : TS) : TS := fun D σ H => wi σ H fun J H1 => ∃ W : Nat → Nat → St → Hp → Prop, (∃ m, W 0 m σ H1) ∧ ∀ i m σ H, W i m σ H →
  (J.stop i H ∧ D.nx σ H) ∨ (J.go i H ∧ ∃ N : St → Hp → Prop, (∀ σ' H', N σ' H' → ∃ m', m' < m ∧ W (i + 1) m' σ' H') ∧ ∀ x H', J.yld i H x H' → g x σ H' fun σ2 H2 => tb { D with nx := N, ct := N, bk := D.nx } σ2 H2)
def pinsAt (fp : List Addr) (h : Heap) : List (Addr × Obj) := fp.filterMap fun b => (h.get? b).map fun o => (b, o)
theorem mem_pinsAt {fp : List Addr} {h : Heap} {b : Addr} {o : Obj} (hb : b ∈ fp) (e : h.get? b = some o) : (b, o) ∈ pinsAt fp h := List.mem_filterMap.mpr ⟨b, hb, by rw [e]; rfl⟩
theorem of_pinsAt {fp : List Addr} {h : Heap} {p : Addr × Obj} (hp : p ∈ pinsAt fp h) : p.1 ∈ fp ∧ h.get? p.1 = some p.2 := by
  obtain ⟨b, hb, e⟩ := List.mem_filterMap.mp hp
  cases q : h.get? b with
  | none => rw [q] at e; cases e
  | some o =>
    rw [q] at e
    have e' : (b, o) = p := Option.some.inj e
    subst e'
    exact ⟨hb, q⟩
theorem Inv.pinned {pins : List (Addr × Obj)} {σ : St} {H : Hp} {s : Shared} {fp : List Addr} (I : Inv X pins σ H s) (hf : ∀ b ∈ fp, FpOk X pins H b) (ho : ∀ b ∈ fp, ∃ o, s.heap.get? b = some o ∧ ∀ v, o.data ≠ .cell v) : Inv X (pins ++ pinsAt fp s.heap) σ H s :=
  I.pins_of fun p hp => (List.mem_append.mp hp).elim (fun z => I.pin p (List.mem_append_right _ z)) fun z => by
    obtain ⟨hb, e⟩ := of_pinsAt z
    obtain ⟨f0, f1, f2, _⟩ := hf p.1 hb
    obtain ⟨o, e', d⟩ := ho p.1 hb
    rw [e] at e'; cases e'
    exact ⟨e, f0, f1, f2, d⟩
theorem Inv.unpinned {pins pl : List (Addr × Obj)} {σ : St} {H : Hp} {s : Shared} (I : Inv X (pins ++ pl) σ H s) : Inv X pins σ H s := I.pins_of fun p hp => I.pin p (List.mem_append_right _ (List.mem_append_left _ hp))
theorem ps_for {iter : Expr} {body : List Stmt} {wi : TI} {g : TG} {tb : TS} {pos : Pos} (hp : PassesOwn (model X.prog X.w) X.A X.env X.xe) (hc : X.calm = true) (hi : PI X tg iter wi) (hg : PG X tg g) (hb : PSs X body tb)
    (hs : ∀ x, foldedSetIterable iter X.env x = pure x := by intro _; rfl) : PS X (.For tg iter body [] pos) (tFor wi g tb) := by
  intro pins s σ H D I h
  refine wpAny_For (thn (hi pins s σ H _ I h) fun v s1 h1 => thn h1 fun itv s2 h2 => ?_) hs
  obtain ⟨it, fp, tn, J, H2, e, I2, T, st2, f2, W, ⟨m0, w0⟩, turn⟩ := h2
  subst e
  have stat : ∀ {H' : Hp}, (∀ b ∈ fp, H' b = none) → ∀ b ∈ fp, FpOk X pins H' b := fun hn b hb => ⟨hn b hb, (f2 b hb).2⟩
  refine codeAny_forLoop_any (fun n s' => ∃ i σ' H', Inv X pins σ' H' s' ∧ tn i s'.heap ∧ (∀ b ∈ fp, H' b = none) ∧ W i n σ' H') ?_ m0 ⟨0, σ, H2, I2, st2, fun b hb => (f2 b hb).1, w0⟩
  rintro n s3 ⟨i, σ3, H3, I3, st3, fr3, w3⟩
  rcases turn i n σ3 H3 w3 with ⟨stop, qn⟩ | ⟨go, N, hN, step⟩
  · refine wpAny_passesOwn hp (thn (T.done X rfl rfl rfl hc i pins s3 σ3 H3 X.xe I3 (stat fr3) st3 stop) fun r s4 ⟨hr, I4⟩ => ?_)
    subst hr
    exact wpAny_execs_nil ⟨σ3, H3, I4, qn⟩
  · refine wpAny_passesOwn hp (thn (T.item X rfl rfl rfl hc i pins s3 σ3 H3 X.xe I3 (stat fr3) st3 go) fun r s4 ⟨u, hr, h4⟩ => ?_)
    subst hr
    refine wpAny_passesOwn hp (thn h4 fun _ s5 ⟨x, H5, I5, r5, y5, st5, fr5⟩ => ?_)
    have I5' := I5.pinned (stat fr5) (T.obj _ _ st5)
    refine wpAny_passesOwn hp (thn (hg _ s5 σ3 H5 x u _ I5' r5 (step x H5 y5)) fun _ s6 ⟨σ6, H6, I6, q6⟩ => ?_)
    refine wpAny_passesOwn hp (thn (hb _ s6 σ6 H6 _ I6 q6) fun f s7 q7 => ?_)
    have again : ∀ {σ7 : St} {H7 : Hp}, Inv X (pins ++ pinsAt fp s5.heap) σ7 H7 s7 → N σ7 H7 → ∃ m, m < n ∧ ∃ i σ' H', Inv X pins σ' H' s7 ∧ tn i s7.heap ∧ (∀ b ∈ fp, H' b = none) ∧ W i m σ' H' := fun {σ7 H7} I7 n7 => by
      obtain ⟨m', hm, w7⟩ := hN σ7 H7 n7
      refine ⟨m', hm, i + 1, σ7, H7, I7.unpinned, T.keep _ _ _ st5 fun b hb o e => (I7.pin (b, o) (List.mem_append_right _ (List.mem_append_right _ (mem_pinsAt hb e)))).1, fun b hb => ?_, w7⟩
      obtain ⟨o, e, d⟩ := T.obj _ _ st5 b hb
      exact (I7.pin (b, o) (List.mem_append_right _ (List.mem_append_right _ (mem_pinsAt hb e)))).2.1
    cases f with
    | next => obtain ⟨σ7, H7, I7, n7⟩ := q7; exact again I7 n7
    | cont => obtain ⟨σ7, H7, I7, n7⟩ := q7; exact again I7 n7
    | brk => obtain ⟨σ7, H7, I7, q7⟩ := q7; exact ⟨σ7, H7, I7.unpinned, q7⟩
    | ret v => obtain ⟨x7, σ7, H7, I7, r7, q7⟩ := q7; exact ⟨x7, σ7, H7, I7.unpinned, r7, q7⟩
end
end L2
namespace L2
open PySem PySem.Spec PyProof.Rows
abbrev R2 := V → V → Hp → VK → Prop
def OpR (X : Cx) (f : Value → Value → Sem Value) (r : R2) : Prop :=
  ∀ (pins : List (Addr × Obj)) (s : Shared) (σ : St) (H : Hp) (x y : V) (v u : Value) (Q : VK), Inv X pins σ H s → RelV x v → RelV y u → r x y H Q →
    wpAny (model X.prog X.w) X.A (f v u) (EP X pins σ Q) X.xe s
def UnR (X : Cx) (f : Value → Sem Value) (r : V → Hp → VK → Prop) : Prop :=
  ∀ (pins : List (Addr × Obj)) (s : Shared) (σ : St) (H : Hp) (x : V) (v : Value) (Q : VK), Inv X pins σ H s → RelV x v → r x H Q →
    wpAny (model X.prog X.w) X.A (f v) (EP X pins σ Q) X.xe s
def CallR (X : Cx) (f : Value) (r : List V → Hp → VK → Prop) : Prop :=
  ∀ (pins : List (Addr × Obj)) (s : Shared) (σ : St) (H : Hp) (xs : List V) (us : List Value) (Q : VK), Inv X pins σ H s → Vals xs us → r xs H Q →
    wpAny (model X.prog X.w) X.A (call f us) (EP X pins σ Q) X.xe s
def tOp (r : R2) (ta tb : TE) : TE := fun σ H Q => ta σ H fun x H1 => tb σ H1 fun y H2 => r x y H2 Q
def tUn (r : V → Hp → VK → Prop) (ta : TE) : TE := fun σ H Q => ta σ H fun x H1 => r x H1 Q
def rI (C : Int → Int → Prop) (g : Int → Int → V) : R2 := fun x y H Q => ∃ i j, x = .int i ∧ y = .int j ∧ C i j ∧ Q (g i j) H
def rI0 (g : Int → Int → V) : R2 := fun x y H Q => ∃ i j, x = .int i ∧ y = .int j ∧ Q (g i j) H
def rU (g : Int → V) : V → Hp → VK → Prop := fun x H Q => ∃ i, x = .int i ∧ Q (g i) H
section
variable {X : Cx} {a b c : Expr} {ta tb tc : TE} {pos : Pos}
theorem binT (ha : PE X a ta) (hb : PE X b tb) {pins : List (Addr × Obj)} {s : Shared} {σ : St} {H : Hp} {R : V → V → Hp → Prop} (I : Inv X pins σ H s)
    (h : ta σ H fun x H1 => tb σ H1 fun y H2 => R x y H2) {Q : Value → Shared → Prop} {f : Value → Value → Sem Value}
    (hf : ∀ v u s2 x y H2, Inv X pins σ H2 s2 → RelV x v → RelV y u → R x y H2 → wpAny (model X.prog X.w) X.A (f v u) Q X.xe s2) :
    wpAny (model X.prog X.w) X.A (eval a X.env) (fun v s₁ => wpAny (model X.prog X.w) X.A (eval b X.env) (fun u s₂ => wpAny (model X.prog X.w) X.A (f v u) Q X.xe s₂) X.xe s₁) X.xe s := by
  refine thn (ha pins s σ H _ I h) fun v s1 ⟨x, H1, I1, r1, q1⟩ => ?_
  refine thn (hb pins s1 σ H1 _ I1 q1) fun u s2 ⟨y, H2, I2, r2, q2⟩ => ?_
  exact hf v u s2 x y H2 I2 r1 r2 q2
theorem pe_op {op : Operator} {r : R2} (ho : OpR X (binaryOp op) r) (ha : PE X a ta) (hb : PE X b tb) : PE X (.BinOp a op b pos) (tOp r ta tb) := by
  intro pins s σ H Q I h
  exact wpAny_BinOp (binT ha hb I h fun v u s2 x y H2 I2 rx ry q => ho pins s2 σ H2 x y v u Q I2 rx ry q)
theorem pe_un {op : UnaryOp} {r : V → Hp → VK → Prop} (ho : UnR X (unaryOp op) r) (ha : PE X a ta) : PE X (.UnaryOp op a pos) (tUn r ta) := by
  intro pins s σ H Q I h
  exact UnaryOp_ (thn (ha pins s σ H _ I h) fun v s1 ⟨x, H1, I1, r1, q1⟩ => ho pins s1 σ H1 x v Q I1 r1 q1)
theorem opI {f : Value → Value → Sem Value} {C : Int → Int → Prop} {g : Int → Int → Int}
    (rule : ∀ (i j : Int) (t u : Tok) (s : Shared) (Q : Value → Shared → Prop) (E : Value → Shared → Prop), C i j → Q (.int (g i j) s.toks) { s with toks := s.toks + 1 } → wpAny (model X.prog X.w) X.A (f (.int i t) (.int j u)) Q E s) :
    OpR X f (rI C fun i j => .int (g i j)) := by
  intro pins s σ H x y v u Q I rx ry h
  obtain ⟨i, j, rfl, rfl, hc, q⟩ := h
  obtain ⟨t, rfl⟩ := rx
  obtain ⟨t', rfl⟩ := ry
  exact rule i j t t' s _ _ hc ⟨.int (g i j), H, I.tok _, ⟨_, rfl⟩, q⟩
theorem opI0 {f : Value → Value → Sem Value} {g : Int → Int → Int}
    (rule : ∀ (i j : Int) (t u : Tok) (s : Shared) (Q : Value → Shared → Prop) (E : Value → Shared → Prop), Q (.int (g i j) s.toks) { s with toks := s.toks + 1 } → wpAny (model X.prog X.w) X.A (f (.int i t) (.int j u)) Q E s) :
    OpR X f (rI0 fun i j => .int (g i j)) := by
  intro pins s σ H x y v u Q I rx ry h
  obtain ⟨i, j, rfl, rfl, q⟩ := h
  obtain ⟨t, rfl⟩ := rx
  obtain ⟨t', rfl⟩ := ry
  exact rule i j t t' s _ _ ⟨.int (g i j), H, I.tok _, ⟨_, rfl⟩, q⟩
theorem opB0 {f : Value → Value → Sem Value} {g : Int → Int → Bool}
    (rule : ∀ (i j : Int) (t u : Tok) (s : Shared) (Q : Value → Shared → Prop) (E : Value → Shared → Prop), Q (.bool (g i j)) s → wpAny (model X.prog X.w) X.A (f (.int i t) (.int j u)) Q E s) :
    OpR X f (rI0 fun i j => .bl (g i j)) := by
  intro pins s σ H x y v u Q I rx ry h
  obtain ⟨i, j, rfl, rfl, q⟩ := h
  obtain ⟨t, rfl⟩ := rx
  obtain ⟨t', rfl⟩ := ry
  exact rule i j t t' s _ _ ⟨.bl (g i j), H, I, rfl, q⟩
def CDiv (i j : Int) : Prop := 0 < j ∧ j < 1073741824
def CMul (i j : Int) : Prop := (-(2 ^ 64) < i ∧ i < 2 ^ 64) ∨ (-(2 ^ 64) < j ∧ j < 2 ^ 64)
theorem CMul.ok {i j : Int} (h : CMul i j) : IntMulOk i j := by
  rcases h with ⟨h1, h2⟩ | ⟨h1, h2⟩
  · exact .of_left (intBits_le_64 h1 h2)
  · exact .of_right (intBits_le_64 h1 h2)
theorem op_add : OpR X (binaryOp .Add) (rI0 fun i j => .int (i + j)) := opI0 fun _ _ _ _ _ _ _ q => add_int q
theorem op_sub : OpR X (binaryOp .Sub) (rI0 fun i j => .int (i - j)) := opI0 fun _ _ _ _ _ _ _ q => sub_int q
theorem op_mul : OpR X (binaryOp .Mult) (rI CMul fun i j => .int (i * j)) := opI fun _ _ _ _ _ _ _ hc q => mul_int q hc.ok
theorem op_fdiv : OpR X (binaryOp .FloorDiv) (rI CDiv fun i j => .int (i / j)) := opI fun i j _ _ _ _ _ hc q => by
  have h1 : (0 : Int) < j := hc.1
  have h2 : j < 1073741824 := hc.2
  exact floordiv_int (by omega) (by rw [Int.fdiv_eq_ediv_of_nonneg i (by omega)]; exact q) (.inl (PyProof.noPylong_small (by omega)))
theorem op_mod : OpR X (binaryOp .Mod) (rI (fun _ j => 0 < j) fun i j => .int (i % j)) := opI fun i j _ _ _ _ _ hc q => by
  have h1 : (0 : Int) < j := hc
  exact mod_int' (by omega) (by rw [Int.fmod_eq_emod_of_nonneg i (by omega)]; exact q)
theorem unI {f : Value → Sem Value} {g : Int → Int}
    (rule : ∀ (i : Int) (t : Tok) (s : Shared) (Q : Value → Shared → Prop) (E : Value → Shared → Prop), Q (.int (g i) s.toks) { s with toks := s.toks + 1 } → wpAny (model X.prog X.w) X.A (f (.int i t)) Q E s) :
    UnR X f (rU fun i => .int (g i)) := by
  intro pins s σ H x v Q I rx h
  obtain ⟨i, rfl, q⟩ := h
  obtain ⟨t, rfl⟩ := rx
  exact rule i t s _ _ ⟨.int (g i), H, I.tok _, ⟨_, rfl⟩, q⟩
theorem un_neg : UnR X (unaryOp .USub) (rU fun i => .int (-i)) := unI fun _ _ _ _ _ q => neg_int q
end
section
variable {X : Cx} {a b c : Expr} {ta tb tc : TE} {pos : Pos}
theorem fin_bl {pins : List (Addr × Obj)} {σ : St} {H : Hp} {s : Shared} {Q : VK} {k k' : Bool} (I : Inv X pins σ H s) (q : Q (.bl k) H) (e : k = k') : EP X pins σ Q (.bool k') s := by
  subst e
  exact ⟨.bl k, H, I, rfl, q⟩
theorem op_lt : OpR X (compareOp .Lt) (rI0 fun i j => .bl (decide (i < j))) := opB0 fun _ _ _ _ _ _ _ q => lt_int q
theorem op_le : OpR X (compareOp .LtE) (rI0 fun i j => .bl (decide (i ≤ j))) := opB0 fun _ _ _ _ _ _ _ q => le_int q
theorem op_gt : OpR X (compareOp .Gt) (rI0 fun i j => .bl (decide (j < i))) := opB0 fun _ _ _ _ _ _ _ q => gt_int q
theorem op_isN : OpR X (compareOp .Is) (fun x y H Q => y = .non ∧ Q (.bl (decide (x = .non))) H) := by
  intro pins s σ H x y v u Q I rx ry h
  obtain ⟨rfl, q⟩ := h
  cases ry
  refine is_none_gen (fin_bl I q ?_)
  cases x <;> first
    | (cases rx; rfl)
    | (obtain ⟨t, rfl⟩ := rx; rfl)
theorem OpR.or {f : Value → Value → Sem Value} {r r' : R2} (h : OpR X f r) (h' : OpR X f r') : OpR X f (fun x y H Q => r x y H Q ∨ r' x y H Q) := by
  intro pins s σ H x y v u Q I rx ry q
  rcases q with q | q
  · exact h pins s σ H x y v u Q I rx ry q
  · exact h' pins s σ H x y v u Q I rx ry q
theorem nomark (b : Expr) {op : CmpOp} (h : op ≠ .In := by decide) (h2 : op ≠ .NotIn := by decide) : behindInMarks op b = false := by
  have e1 : (op == CmpOp.In) = false := by cases op <;> first | rfl | exact absurd rfl h
  have e2 : (op == CmpOp.NotIn) = false := by cases op <;> first | rfl | exact absurd rfl h2
  cases b <;> simp [behindInMarks, e1, e2]
theorem pe_cmpR {op : CmpOp} {r : R2} (ho : OpR X (compareOp op) r) (ha : PE X a ta) (hb : PE X b tb) (hm : behindInMarks op b = false) : PE X (.Compare a [op] [b] pos) (tOp r ta tb) := by
  intro pins s σ H Q I h
  exact wpAny_Compare1 (binT ha hb I h fun v u s2 x y H2 I2 rx ry q => ho pins s2 σ H2 x y v u Q I2 rx ry q) hm
def tTest (t : TE) : TT := fun σ H Q => t σ H fun x H' => ∃ k, x = .bl k ∧ Q k H'
theorem pt_cmpR {op : CmpOp} {r : R2} (ho : OpR X (compareOp op) r) (ha : PE X a ta) (hb : PE X b tb) (hm : behindInMarks op b = false) : PT X (.Compare a [op] [b] pos) (tTest (tOp r ta tb)) := by
  intro pins s σ H Q I h
  refine wpAny_isTrue_Compare1 (thn (ha pins s σ H _ I h) fun v s1 ⟨x, H1, I1, r1, q1⟩ => thn (hb pins s1 σ H1 _ I1 q1) fun u s2 ⟨y, H2, I2, r2, q2⟩ =>
    thn (ho pins s2 σ H2 x y v u _ I2 r1 r2 q2) fun c s3 ⟨z, H3, I3, r3, k, e, q3⟩ => ?_) hm
  subst e
  cases r3
  exact wpAny_truthy_bool ⟨H3, I3, q3⟩
theorem line63 : (sizeLine : Nat) < 2 ^ 63 := by rw [sizeLine_eq]; decide
theorem vals1 {x : V} {us : List Value} (r : Vals [x] us) : ∃ u, us = [u] ∧ RelV x u := by
  cases r with
  | cons r1 r2 => cases r2; exact ⟨_, rfl, r1⟩
theorem vals2 {x y : V} {us : List Value} (r : Vals [x, y] us) : ∃ u w', us = [u, w'] ∧ RelV x u ∧ RelV y w' := by
  cases r with
  | cons r1 r2 =>
    cases r2 with
    | cons r3 r4 => cases r4; exact ⟨_, _, rfl, r1, r3⟩
theorem call_max2 (hc : X.calm = true) : CallR X (.builtin "max") (fun xs H Q => ∃ i j, xs = [.int i, .int j] ∧ Q (.int (if j > i then j else i)) H) := by
  intro pins s σ H xs us Q I r h
  obtain ⟨i, j, rfl, q⟩ := h
  obtain ⟨u, w', rfl, ⟨t, rfl⟩, ⟨t', rfl⟩⟩ := vals2 r
  refine max_two_ints (I.ok.hd hc) fun h' tk k => ⟨_, H, I.kept k, ?_, q⟩
  by_cases hj : j > i
  · rw [if_pos hj, if_pos hj]; exact ⟨_, rfl⟩
  · rw [if_neg hj, if_neg hj]; exact ⟨_, rfl⟩
theorem call_int1 : CallR X (.type "int") (fun xs H Q => (∃ i, xs = [.int i] ∧ Q (.int i) H) ∨ ∃ k, xs = [.bl k] ∧ Q (.int (if k then 1 else 0)) H) := by
  intro pins s σ H xs us Q I r h
  rcases h with ⟨i, rfl, q⟩ | ⟨k, rfl, q⟩
  · obtain ⟨u, rfl, t, rfl⟩ := vals1 r
    exact call_int_int ⟨.int i, H, I, ⟨_, rfl⟩, q⟩
  · obtain ⟨u, rfl, r1⟩ := vals1 r
    cases r1
    exact call_int_bool ⟨.int (if k then 1 else 0), H, I.tok _, ⟨_, rfl⟩, q⟩
end
end L2
namespace L2
open PySem PySem.Spec PyProof.Rows
section
variable {prog : Program} {w : World} {A : Around} {E : Value → Shared → Prop} {s : Shared} {K : PySem.W.Frag} {x dx C f : Addr} {mA : Str → Option Value} {name : Str} {v : Value}
end
section
variable {P : Program} {w : World} {H H' : Hp} {h h' : Heap} {a C dx : Addr} {fs fs' : List (Str × V)}
end
section
variable {X : Cx} {pins : List (Addr × Obj)} {σ : St} {H : Hp} {s : Shared} {a C dx : Addr} {fs : List (Str × V)} {f : Str} {v : V} {A : Around} {E : Value → Shared → Prop}
end
section
variable {X : Cx} {o e value : Expr} {f : Str} {pos pos' tpos : Pos} {ta tv : TE}
end
section
variable {X : Cx} {pins : List (Addr × Obj)} {σ : St} {H : Hp} {s : Shared} {A : Around} {E : Value → Shared → Prop} {Q : Value → Shared → Prop} {c : Value} {b : Bool}
end
end L2
namespace L2
open PySem PySem.Spec PyProof.Rows
structure Room (k : Nat) (A : Around) : Prop where
  hd : A.handled = none
  dp : A.depth + 3 * k + 5 < recursionLimit
  un : A.units + 16 * k + 200 < cLine
theorem Room.mono {j k : Nat} {A : Around} (r : Room k A) (h : j ≤ k) : Room j A := ⟨r.hd, by have := r.dp; omega, by have := r.un; omega⟩
theorem Room.deeper {k : Nat} {A : Around} (r : Room (k + 1) A) (env : Env) : Room k (A.deeper env) :=
  ⟨r.hd, by have := r.dp; show A.depth + 1 + 3 * k + 5 < _; omega, by have := r.un; show A.units + 3 + 16 * k + 200 < _; omega⟩
theorem Room.in1 {k : Nat} {A : Around} (r : Room (k + 1) A) : Room k A.in1 :=
  ⟨r.hd, by have := r.dp; show A.depth + 3 * k + 5 < _; omega, by have := r.un; show A.units + 1 + 16 * k + 200 < _; omega⟩
theorem Room.depth {k : Nat} {A : Around} (r : Room k A) : A.depth < recursionLimit := by have := r.dp; omega
theorem Room.units {k : Nat} {A : Around} (r : Room k A) : A.units + 64 < cLine := by have := r.un; omega
def tNil : TA := fun _ H Q => Q [] H
def tCons (ta : TE) (tr : TA) : TA := fun σ H Q => ta σ H fun x H1 => tr σ H1 fun xs H2 => Q (x :: xs) H2
section
variable {X : Cx} {e : Expr} {es : List Expr} {te : TE} {t : TA} {pos : Pos}
theorem pa_nil : PA X [] tNil := fun _ _ _ _ H Q I h => Calls.spliced_nil ⟨[], H, I, .nil, h⟩
theorem pa_cons (ha : PE X e te) (hr : PA X es t) (hs : starEach (e :: es) X.env = (false, eval e X.env) :: starEach es X.env := by rfl) : PA X (e :: es) (tCons te t) := by
  intro pos pins s σ H Q I h
  rw [hs]
  show wpAny _ _ (spliced ((false, eval e X.env) :: backTo pos (starEach es X.env))) _ _ s
  refine Calls.spliced_cons (thn (ha pins s σ H _ I h) fun u s1 ⟨x, H1, I1, r1, q1⟩ => ?_)
  exact thn (hr pos pins s1 σ H1 _ I1 q1) fun us s2 ⟨xs, H2, I2, r2, q2⟩ => ⟨x :: xs, H2, I2, .cons r1 r2, q2⟩
def tTup (t : TA) : TE := fun σ H Q => t σ H fun xs H1 => xs.length ≤ sizeLine ∧ ∀ p, H1 p = none → Q (.ref p) (upd H1 p (.tup xs))
def tLst (t : TA) : TE := fun σ H Q => t σ H fun xs H1 => xs.length ≤ sizeLine ∧ ∀ p, H1 p = none → Q (.ref p) (upd H1 p (.lst xs))
theorem pe_tup {x1} (h : PA X es t) : PE X (.Tuple es x1 pos) (tTup t) := by
  intro pins s σ H Q I hq
  refine wpAny_Tuple_spliced (thn (h pos pins s σ H _ I hq) fun us s1 ⟨xs, H1, I1, r, z, q⟩ => ⟨by rw [← r.length]; exact z, ?_⟩)
  have hf : H1 s1.heap.objs.size = none := I1.hok.fresh (Nat.le_refl _)
  refine ⟨.ref s1.heap.objs.size, upd H1 s1.heap.objs.size (.tup xs), I1.laid (t' := s1.toks) (fun b u e => Heap.get?_push_of_some _ e) (Nat.le_refl _) ?_, rfl, q _ hf⟩
  exact ⟨z, us, r, ⟨_, Heap.get?_push_size _ rfl, rfl, _, rfl⟩⟩
theorem pe_lst (h : PA X es t) : PE X (.List es pos) (tLst t) := by
  intro pins s σ H Q I hq
  refine wpAny_List_spliced (thn (h pos pins s σ H _ I hq) fun us s1 ⟨xs, H1, I1, r, z, q⟩ => ⟨by rw [← r.length]; exact z, ?_⟩)
  have hf : H1 s1.heap.objs.size = none := I1.hok.fresh (Nat.le_refl _)
  refine ⟨.ref s1.heap.objs.size, upd H1 s1.heap.objs.size (.lst xs), I1.laid (t' := s1.toks) (fun b u e => Heap.get?_push_of_some _ e) (Nat.le_refl _) ?_, rfl, q _ hf⟩
  exact ⟨z, us, 0, r, Heap.get?_push_size _ rfl⟩
end
abbrev Sp := List V → Hp → VK → XK → Prop
abbrev CXT := List Env → Hp → Shared → XK → Value → Shared → Prop
structure Env0 (P : Program) (w : World) (K : PySem.W.Frag) (mg : Str → Option Value) (base : Heap) (A : Around) (outer : List Env) (s : Shared) (H : Hp) : Prop where
  frames : A.frames = some outer
  mod : Mod K mg base
  bs : ∀ b o, base.get? b = some o → s.heap.get? b = some o ∧ H b = none
  bsz : base.objs.size ≤ s.heap.objs.size
  funs : s.heap.FunFrames base outer
  frf : ∀ b ∈ frs outer, H b = none
  hok : HOk P w H s.heap
  bare : AllBare s.gens
def CE (outer : List Env) (P : Program) (w : World) (H : Hp) (s : Shared) (Q : VK) (u : Value) (s' : Shared) : Prop :=
  ∃ v H', s'.os = s.os ∧ AllBare s'.gens ∧ Un (frs outer) [] H H' s.heap s'.heap ∧ HOk P w H' s'.heap ∧ RelV v u ∧ Q v H'
def CR (CX : CXT) (outer : List Env) (P : Program) (w : World) (H : Hp) (s : Shared) (Q : VK) (E : XK) (r : Result) (s' : Shared) : Prop :=
  match r with
  | .ok (.ret u) => CE outer P w H s Q u s'
  | .ok _ => False
  | .error e => CX outer H s E e s'
structure FnOk (P : Program) (w : World) (K : PySem.W.Frag) (mg : Str → Option Value) (base : Heap) (CX : CXT) (k : Nat) (f : Addr) (fd : FuncData) (ps : List Str) (sp : Sp) : Prop where
  len : ∀ vs H Q E, sp vs H Q E → vs.length = ps.length
  run : ∀ (A : Around) (outer : List Env) (s : Shared) (H : Hp) (args : Args) (us : List Value) (vs : List V) (Q : VK) (E : XK), Room k A → Env0 P w K mg base A outer s H → BindsTo s fd args (ps.zip us) → Vals vs us → sp vs H Q E →
    codeAny (model P w) A (.call (.ref f) args) (CR CX outer P w H s Q E) s
theorem FnOk.imp {P : Program} {w : World} {K : PySem.W.Frag} {mg : Str → Option Value} {base : Heap} {CX : CXT} {k : Nat} {f : Addr} {fd : FuncData} {ps : List Str} {sp sp' : Sp} (F : FnOk P w K mg base CX k f fd ps sp)
    (h : ∀ vs H Q E, sp' vs H Q E → sp vs H Q E) : FnOk P w K mg base CX k f fd ps sp' :=
  ⟨fun vs H Q E q => F.len vs H Q E (h _ _ _ _ q), fun A outer s H args us vs Q E hr he hb hv hs => F.run A outer s H args us vs Q E hr he hb hv (h _ _ _ _ hs)⟩
theorem Env0.in1 {P : Program} {w : World} {K : PySem.W.Frag} {mg : Str → Option Value} {base : Heap} {A : Around} {outer : List Env} {s : Shared} {H : Hp} (e : Env0 P w K mg base A outer s H) :
    Env0 P w K mg base A.in1 outer s H := ⟨e.frames, e.mod, e.bs, e.bsz, e.funs, e.frf, e.hok, e.bare⟩
section
variable {X : Cx} {pins : List (Addr × Obj)} {σ : St} {H : Hp} {s s' : Shared}
theorem Inv.env0 (I : Inv X pins σ H s) : Env0 X.prog X.w X.K X.mg X.base X.A X.stack s H :=
  ⟨I.ok.frames, I.ok.mod, I.bs, Nat.le_trans I.ok.bsz I.sz, I.stack, I.stkFree, I.hok, I.bare⟩
theorem Inv.after {Q : VK} {u : Value} (I : Inv X pins σ H s) (h : CE X.stack X.prog X.w H s Q u s') : EP X pins σ Q u s' := by
  obtain ⟨v, H', os, bare, un, hok, r, q⟩ := h
  obtain ⟨hh, g, d, t, os'⟩ := s'
  obtain rfl : os' = s.os := os
  exact ⟨v, H', I.call (h' := hh) (g' := g) (d' := d) (t' := t) (ch := []) un hok bare (fun b z => absurd z (by simp)), r, q⟩
end
def Binds (K : PySem.W.Frag) (fd : FuncData) (ps : List Str) (ds : List Value) : Prop :=
  ∀ (s : Shared) (us : List Value), K.In s.heap → (us ++ ds).length = ps.length → BindsTo s fd ⟨us, []⟩ (ps.zip (us ++ ds))
theorem Binds.all {K : PySem.W.Frag} {fd : FuncData} {ps : List Str} (h : ∀ us : List Value, us.length = ps.length → bindArgs fd ⟨us, []⟩ = pure (ps.zip us)) : Binds K fd ps [] := fun s us _ hl => by
  rw [List.append_nil] at hl ⊢
  exact .of_eq (h us hl)
section
variable {X : Cx} {CX : CXT} {k : Nat} {f C : Addr} {fd : FuncData} {ps : List Str} {sp : Sp} {dvs : List V} {ds : List Value} {E : XK} {x m : Str} {p pos apos : Pos} {e o : Expr} {es : List Expr} {ta : TE} {t : TA}
end
section
variable {X : Cx} {CX : CXT} {k : Nat} {f C : Addr} {fd : FuncData} {ps ks : List Str} {sp : Sp} {E : XK} {x m : Str} {p pos apos kpos : Pos} {e o : Expr} {es : List Expr} {kws : List Keyword} {te ta : TE} {t tk : TA} {nm : Option Str}
variable {g : List Value → List Value → List Value} {gV : List V → List V → List V}
end
structure FnScope (N P : List Str) (sc : Scope) : Prop where
  kind : sc.kind = .function
  co : sc.isCoroutine = false
  gen : sc.isGenerator = false
  nd : N.Nodup
  pre : N.take P.length = P
  par : ∀ x ∈ P, sc.names.lookup x = some .local ∨ sc.names.lookup x = some .cell
  nofree : ∀ y ∈ sc.names, y.2 ≠ .free
theorem bindL_out {kindOf : Str → Option NameKind} {x : Str} : ∀ {binds : List (Str × Value)} {m : Str → Option Value}, (∀ v, (x, v) ∉ binds) → bindL kindOf binds m x = m x
  | [], _, _ => rfl
  | (n, v) :: r, m, h => by
    unfold bindL
    rw [bindL_out fun w hw => h w (List.mem_cons_of_mem _ hw)]
    split
    · have : x ≠ n := by rintro rfl; exact h v List.mem_cons_self
      simp [this]
    · rfl
theorem bindC_out {kindOf : Str → Option NameKind} {x : Str} : ∀ {binds : List (Str × Value)} {m : Str → Option Value}, (∀ v, (x, v) ∉ binds) → bindC kindOf binds m x = m x
  | [], _, _ => rfl
  | (n, v) :: r, m, h => by
    unfold bindC
    rw [bindC_out fun w hw => h w (List.mem_cons_of_mem _ hw)]
    split
    · rfl
    · have : x ≠ n := by rintro rfl; exact h v List.mem_cons_self
      simp [this]
theorem bindL_get {kindOf : Str → Option NameKind} {x : Str} {v : Value} : ∀ {P : List Str} {vs : List Value} {i : Nat} {m : Str → Option Value}, P.Nodup → P[i]? = some x → vs[i]? = some v → kindOf x = some .local →
    bindL kindOf (P.zip vs) m x = some v
  | [], _, _, _, _, h, _, _ => by simp at h
  | _ :: _, [], _, _, _, _, h, _ => by simp at h
  | p :: P, w :: vs, 0, m, nd, h1, h2, hk => by
    simp at h1 h2; subst h1; subst h2
    show bindL kindOf ((p, w) :: P.zip vs) m p = _
    unfold bindL
    rw [bindL_out fun v hv => (List.nodup_cons.mp nd).1 (List.of_mem_zip hv).1, if_pos hk]
    simp
  | p :: P, w :: vs, i + 1, m, nd, h1, h2, hk => by
    show bindL kindOf ((p, w) :: P.zip vs) m x = _
    unfold bindL
    exact bindL_get (i := i) (List.nodup_cons.mp nd).2 (by simpa using h1) (by simpa using h2) hk
theorem bindC_get {kindOf : Str → Option NameKind} {x : Str} {v : Value} : ∀ {P : List Str} {vs : List Value} {i : Nat} {m : Str → Option Value}, P.Nodup → P[i]? = some x → vs[i]? = some v → kindOf x ≠ some .local →
    bindC kindOf (P.zip vs) m x = some v
  | [], _, _, _, _, h, _, _ => by simp at h
  | _ :: _, [], _, _, _, _, h, _ => by simp at h
  | p :: P, w :: vs, 0, m, nd, h1, h2, hk => by
    simp at h1 h2; subst h1; subst h2
    show bindC kindOf ((p, w) :: P.zip vs) m p = _
    unfold bindC
    rw [bindC_out fun v hv => (List.nodup_cons.mp nd).1 (List.of_mem_zip hv).1, if_neg hk]
    simp
  | p :: P, w :: vs, i + 1, m, nd, h1, h2, hk => by
    show bindC kindOf ((p, w) :: P.zip vs) m x = _
    unfold bindC
    exact bindC_get (i := i) (List.nodup_cons.mp nd).2 (by simpa using h1) (by simpa using h2) hk
def start (N : List Str) (vs : List V) : St := vs.map some ++ List.replicate (N.length - vs.length) none
def cxOf (CX : CXT) (P : Program) (w : World) (K : PySem.W.Frag) (mg : Str → Option Value) (base : Heap) (N : List Str) (qual : Str) (scope : Scope) (f : Addr) (cd : Value) (A : Around) (outer : List Env) (s : Shared) (H : Hp) (E : XK) : Cx where
  prog := P
  w := w
  K := K
  mg := mg
  base := base
  A := A.deeper (envOfC qual scope s.heap.objs.size f cd)
  N := N
  s₀ := s
  H₀ := H
  env := envOfC qual scope s.heap.objs.size f cd
  outer := outer
  stack := envOfC qual scope s.heap.objs.size f cd :: outer
  ex := []
  calm := true
  fn := fun _ => true
  pn := []
  xe := fun e s' => wpAny (model P w) (A.deeper (envOfC qual scope s.heap.objs.size f cd)) (leaving (envOfC qual scope s.heap.objs.size f cd) e) (fun _ s'' => CX outer H s E e s'') (fun e' s'' => CX outer H s E e' s'') s'
theorem cell_has {sc : Scope} {n : Nat} {x : Str} (h : sc.names.lookup x = some .cell) : ∃ c, (cellsFrom n sc.names []).lookup x = some c := by
  have q := PySem.W.cellsFrom_some sc.names n [] (.inl h)
  exact Option.isSome_iff_exists.mp q
theorem inv_start {CX : CXT} {P : Program} {w : World} {K : PySem.W.Frag} {mg : Str → Option Value} {base : Heap} {N ps : List Str} {qual : Str} {scope : Scope} {f : Addr} {cd : Value} {A : Around} {outer : List Env} {s s1 : Shared} {H : Hp} {E : XK} {us : List Value} {vs : List V}
    (S : FnScope N ps scope) (hd : A.handled = none) (e0 : Env0 P w K mg base A outer s H) (hl : vs.length = ps.length) (r : Vals vs us)
    (x : InCallC s s.heap.objs.size (bindL (envOfC qual scope s.heap.objs.size f cd).kindOf (ps.zip us) fun _ => none) (cellsFrom (s.heap.objs.size + 1) scope.names []) (bindC (envOfC qual scope s.heap.objs.size f cd).kindOf (ps.zip us) fun _ => none) s1) :
    Inv (cxOf CX P w K mg base N qual scope f cd A outer s H E) [] (start N vs) H s1 := by
  have hpl : ps.length ≤ N.length := by have := congrArg List.length S.pre; rw [List.length_take] at this; omega
  obtain ⟨h1, tk, rfl, hk⟩ := x.done
  have noA : ∀ b : Addr, b ∉ (cxOf CX P w K mg base N qual scope f cd A outer s H E).ex := fun b z => absurd (show b ∈ ([] : List Addr) from z) (by simp)
  refine ⟨⟨e0.mod, S.kind, rfl, rfl, Nat.le_refl _, fun y z c h1 h2 => ?_, fun y hy => ?_, fun y c _ h => ?_, fun _ => hd, Around.frames_deeper e0.frames, .inr ⟨rfl, rfl⟩, fun b z => absurd z (noA b), e0.bs, e0.bsz, fun b _ _ => noA b, fun b z => absurd z (noA b), e0.funs, e0.frf⟩,
    rfl, e0.bare, Un.kept hk, ⟨_, x.toInCall.ns, fun i y v h1 h2 h3 => ?_⟩, fun y c h => ⟨_, x.cell y c h⟩, e0.hok.fresh (Nat.le_refl _), fun y c h => ?_, fun p hp => absurd (show p ∈ ([] : List (Addr × Obj)) from hp) (by simp), e0.hok.kept hk, ?_⟩
  · exact name_of_addr x.apart (PySem.mem_of_lookup h1) (PySem.mem_of_lookup h2)
  · have hy : scope.names.lookup y = some .cell ∨ scope.names.lookup y = some .free := hy
    rcases hy with hy | hy
    · exact cell_has hy
    · exact absurd rfl (S.nofree _ (PySem.mem_of_lookup hy))
  · exact Nat.le_of_lt (x.above y c (PySem.mem_of_lookup h))
  · have hi : i < vs.length := by
      unfold start at h2
      by_cases hi : i < vs.length
      · exact hi
      · rw [List.getElem?_append_right (by simpa using hi)] at h2
        rw [List.getElem?_replicate] at h2
        split at h2 <;> cases h2
    have ha : vs[i]? = some v := by
      unfold start at h2
      rw [List.getElem?_append_left (by simpa using hi), List.getElem?_map] at h2
      cases e : vs[i]? with
      | none => rw [e] at h2; cases h2
      | some a => rw [e] at h2; cases h2; rfl
    obtain ⟨u, hu, rv⟩ := r.get ha
    have hp : ps[i]? = some y := by
      rw [← S.pre, List.getElem?_take_of_lt (by omega)]; exact h1
    have ndP : ps.Nodup := by rw [← S.pre]; exact S.nd.sublist (List.take_sublist _ _)
    refine ⟨u, rv, ?_⟩
    rcases S.par y (List.mem_of_getElem? hp) with k | k
    · exact .inl ⟨k, bindL_get ndP hp hu k⟩
    · obtain ⟨c, e⟩ := cell_has (n := s.heap.objs.size + 1) k
      refine .inr ⟨.inl k, c, e, ?_⟩
      have q := x.cell y c e
      rw [bindC_get ndP hp hu (by show scope.names.lookup y ≠ _; rw [k]; decide)] at q
      exact q
  · exact e0.hok.fresh (Nat.le_of_lt (x.above y c (PySem.mem_of_lookup h)))
  · unfold start
    show _ = N.length
    rw [List.length_append, List.length_map, List.length_replicate]
    omega
theorem fn_of {CX : CXT} {P : Program} {w : World} {K : PySem.W.Frag} {mg : Str → Option Value} {base : Heap} {k : Nat} {f : Addr} {name qual : Str} {params : Arguments} {body : List Stmt} {scope : Scope} {dV kV doc pm cdv ct oc : Value} {an od : Option Addr}
    {osl : Array (Option Value)} {N ps : List Str} {sp : Sp} (lk : K.lookup f = some ⟨oc, od, .func (PySem.W.fnOf name qual params body scope dV kV doc pm an cdv ct), osl⟩) (hcd : PySem.W.codeIn K cdv qual = true) (S : FnScope N ps scope)
    (len : ∀ vs H Q E, sp vs H Q E → vs.length = ps.length)
    (hbody : ∀ (A : Around) (outer : List Env) (s : Shared) (H : Hp) (vs : List V) (Q : VK) (E : XK), Room k (A.deeper (envOfC qual scope s.heap.objs.size f cdv)) → sp vs H Q E →
      ∃ t, PSs (cxOf CX P w K mg base N qual scope f cdv A outer s H E) body t ∧ t { nx := fun _ H' => Q .non H', rt := Q } (start N vs) H) :
    FnOk P w K mg base CX (k + 1) f (PySem.W.fnOf name qual params body scope dV kV doc pm an cdv ct) ps sp := by
  refine ⟨len, fun A outer s H args us vs Q E hr e0 hb r hsp => ?_⟩
  have hl := len _ _ _ _ hsp
  have KX : K.In s.heap := e0.mod.kin.keeps fun b o e => (e0.bs b o e).1
  have lim : s.heap.NoLimit := e0.mod.nolimit.keeps fun b o e => (e0.bs b o e).1
  have hkind : ∀ y ∈ ps.zip us, scope.names.lookup y.1 = some .local ∨ (scope.names.lookup y.1 = some .cell ∧ ((cellsFrom (s.heap.objs.size + 1) scope.names []).lookup y.1).isSome = true) := fun ⟨n, v⟩ hy => by
    rcases S.par n (List.of_mem_zip hy).1 with q | q
    · exact .inl q
    · exact .inr ⟨q, PySem.W.cellsFrom_some _ _ _ (.inl q)⟩
  refine codeAny_call_function hr.depth (KX _ _ lk) rfl S.co S.gen rfl (PySem.W.codeRec_of KX hcd) (hb _ _ _ _ ?_)
  refine wpAny_newFunctionEnv_cells S.kind hkind fun env he s1 x => ?_
  subst he
  refine ⟨lim.keeps x.toInCall.keep, codeAny_func ?_⟩
  obtain ⟨t, ht, hq⟩ := hbody A outer s H vs Q E (hr.deeper _) hsp
  have I : Inv (cxOf CX P w K mg base N qual scope f cdv A outer s H E) [] (start N vs) H s1 := inv_start S hr.hd e0 hl r x
  refine wpAny_mono (ht [] s1 (start N vs) H _ I hq) (fun fl s' hs => ?_) fun e s' hs => hs
  have fin : ∀ {σ' : St} {H' : Hp} {v : V} {u : Value}, Inv (cxOf CX P w K mg base N qual scope f cdv A outer s H E) [] σ' H' s' → RelV v u → Q v H' → CE outer P w H s Q u s' :=
    fun {σ' H' v u} J rv q => ⟨v, H', J.os, J.bare, J.base, J.hok, rv, q⟩
  cases fl with
  | ret u =>
    obtain ⟨v, σ', H', J, rv, q⟩ := hs
    exact fin J rv q
  | next =>
    obtain ⟨σ', H', J, q⟩ := hs
    exact fin (v := V.non) (u := Value.none) J rfl q
  | brk =>
    obtain ⟨_, _, _, q⟩ := hs
    exact False.elim q
  | cont =>
    obtain ⟨_, _, _, q⟩ := hs
    exact False.elim q
end L2
namespace L2
open PySem PySem.Spec PyProof.Rows
section
variable {X : Cx} {x : Str} {p pos : Pos} {e : Expr} {es : List Expr} {t : TA} {id T : String} {r : List V → Hp → VK → Prop}
def tCB (r : List V → Hp → VK → Prop) (t : TA) : TE := fun σ H Q => t σ H fun vs H1 => r vs H1 Q
theorem pe_callB (hc : CallR X (.builtin id) r) (hg : Gl X x) (hm : X.mg x = none) (hv : bootBuiltins x = some (.builtin id)) (ha : PA X (e :: es) t) (hn : x ≠ "__name__" := by decide) (hdb : (x == ("__debug__" : Str)) = false := by decide)
    (he : starEach (e :: es) X.env = (false, eval e X.env) :: starEach es X.env := by rfl) (hpl : (backTo pos (starEach es X.env)).any (·.1) = false := by rfl) : PE X (.Call (.Name x p) (e :: es) [] pos) (tCB r t) := by
  intro pins s σ H Q I h
  refine wpAny_Call_Name_kw (ld_blt I hg hm hv ?_ hn hdb)
  exact PyProof.Rows.callWith_builtin1 (thn (ha pos pins s σ H _ I h) fun us s1 ⟨vs, H1, I1, r1, q1⟩ => hc pins s1 σ H1 vs us Q I1 r1 q1) he hpl
theorem pe_callTy (hc : CallR X (.type T) r) (hg : Gl X x) (hm : X.mg x = none) (hv : bootBuiltins x = some (.type T)) (ha : PA X (e :: es) t) (hn : x ≠ "__name__" := by decide) (hdb : (x == ("__debug__" : Str)) = false := by decide)
    (he : starEach (e :: es) X.env = (false, eval e X.env) :: starEach es X.env := by rfl) (hpl : (backTo pos (starEach es X.env)).any (·.1) = false := by rfl) : PE X (.Call (.Name x p) (e :: es) [] pos) (tCB r t) := by
  intro pins s σ H Q I h
  refine wpAny_Call_Name_kw (ld_blt I hg hm hv ?_ hn hdb)
  exact PyProof.Rows.callWith_type1 (thn (ha pos pins s σ H _ I h) fun us s1 ⟨vs, H1, I1, r1, q1⟩ => hc pins s1 σ H1 vs us Q I1 r1 q1) he hpl
end
end L2
namespace HT
open PySem PyProof.Rows
section
open PySem.SeqAt
open PySem.AutoSeq1 (wpAny_loadPart')
open PySem.MeetsSeq PySem.MeetsSeq2 PySem.MeetsSeq3
end
section
variable {prog : Program} {w : World} {A : Around} {E : Value → Shared → Prop} {s : Shared}
theorem cat_tup {t b : Addr} {vs ws : List Value} {Q : Value → Shared → Prop} (ht : IsTup s.heap t vs.toArray) (hb : IsTup s.heap b ws.toArray) (hv : vs ≠ [])
    (h1 : ws = [] → Q (.ref t) s) (h2 : ws ≠ [] → Q (.ref s.heap.objs.size) { s with heap := s.heap.push { cls := .type "tuple", data := .seq (vs ++ ws).toArray } })
    (hsz : vs.length + ws.length ≤ sizeLine) : wpAny (model prog w) A (binaryOp .Add (.ref t) (.ref b)) Q E s := by
  obtain ⟨⟨cls, dd, data, sl⟩, ho, hc, n, hd⟩ := id ht
  obtain ⟨⟨cls2, dd2, data2, sl2⟩, ho2, hc2, n2, hd2⟩ := id hb
  simp only at hc hd hc2 hd2
  subst hc hd hc2 hd2
  have e : vs.toArray ++ ws.toArray = (vs ++ ws).toArray := by simp
  by_cases hw : ws = []
  · exact concat_meets ⟨_, ho, rfl⟩ ⟨_, ho2, rfl⟩ noFill_tuple_add seq_tuple_add PySem.F.slot_tuple_add PySem.F.entry_tuple_add (PySem.F.args_tuple_add_2 _ _)
      (tuple_addW1 t b vs.toArray ws.toArray n n2 dd dd2 sl sl2 (by simpa using hv) (by simp [hw])) ⟨ho, ho2, h1 hw⟩
  · refine concat_meets ⟨_, ho, rfl⟩ ⟨_, ho2, rfl⟩ noFill_tuple_add seq_tuple_add PySem.F.slot_tuple_add PySem.F.entry_tuple_add (PySem.F.args_tuple_add_2 _ _)
      (tuple_addW2 t b vs.toArray ws.toArray n n2 dd dd2 sl sl2 (by simpa using hv) (by simpa using hw) (by rw [List.size_toArray, List.size_toArray]; exact hsz)) ⟨ho, ho2, ?_⟩
    rw [e]
    exact h2 hw
def sIx (n d : Nat) : Option Int → Nat
  | none => d
  | some v => if v < 0 then (v + (n : Int)).toNat else min v.toNat n
theorem sIx_none (n d : Nat) : sIx n d none = d := rfl
theorem sIx_nat (n d k : Nat) : sIx n d (some (k : Int)) = min k n := by
  show (if (k : Int) < 0 then ((k : Int) + (n : Int)).toNat else min (k : Int).toNat n) = min k n
  rw [if_neg (by omega), Int.toNat_natCast]
theorem sIx_le (n d : Nat) (hd : d ≤ n) (o : Option Int) : sIx n d o ≤ n := by
  cases o with
  | none => exact hd
  | some v =>
    show (if v < 0 then (v + (n : Int)).toNat else min v.toNat n) ≤ n
    by_cases hv : v < 0
    · rw [if_pos hv]; omega
    · rw [if_neg hv]; exact Nat.min_le_right _ _
theorem clip_eq (v : Int) (n d : Nat) : (if v < 0 then max (v + (n : Int)) 0 else min v (n : Int)) = ((sIx n d (some v) : Nat) : Int) := by
  show (if v < 0 then max (v + (n : Int)) 0 else min v (n : Int)) = (((if v < 0 then (v + (n : Int)).toNat else min v.toNat n) : Nat) : Int)
  by_cases hv : v < 0
  · simp only [if_pos hv]; omega
  · simp only [if_neg hv]; omega
theorem adjust_gen (lo hi : Option Int) (n : Nat) : Builtin.Slice.sliceAdjust lo hi 1 (n : Int) = (((sIx n 0 lo : Nat) : Int), ((sIx n n hi : Nat) : Int)) := by
  have h1 : ¬ ((1 : Int) < 0) := by omega
  unfold Builtin.Slice.sliceAdjust
  simp only [h1, if_false]
  refine Prod.ext ?_ ?_
  · cases lo with
    | none => rfl
    | some v => exact clip_eq v n 0
  · cases hi with
    | none => rfl
    | some v => exact clip_eq v n n
theorem places_gen (i j : Nat) : Builtin.Slice.slicePlaces (i : Int) (j : Int) 1 = j - i := by
  unfold Builtin.Slice.slicePlaces
  have h1 : (1 : Int) > 0 := by omega
  simp only [h1, if_true, Int.ediv_one]
  split <;> omega
theorem slicePart_ {v : Value} {o : Option Int} {Q : Option Int → Shared → Prop} (p : IsPart v o) (h : Q o s) : wpAny (model prog w) A (Builtin.Slice.slicePartIndex v) Q E s := by
  cases p with
  | none => exact slicePart_none h
  | int i t => exact slicePart_int h
theorem sliceApplied_gen {sl : Addr} {vl vu : Value} {lo hi : Option Int} {n : Nat} {Q : Int × Int × Nat → Shared → Prop} (hs : s.heap.IsSliceOf sl vl vu .none) (pl : IsPart vl lo) (pu : IsPart vu hi)
    (h : Q (((sIx n 0 lo : Nat) : Int), 1, sIx n n hi - sIx n 0 lo) s) : wpAny (model prog w) A (Builtin.Slice.sliceApplied (.ref sl) (pure (n : Int))) Q E s := by
  obtain ⟨os, hos, hcs, hds⟩ := id hs
  unfold Builtin.Slice.sliceApplied Builtin.Slice.sliceFields
  refine wpAny_bind (wpAny_bind (wpAny_field hos hds (x := vl) rfl (wpAny_bind (wpAny_field hos hds (x := vu) rfl (wpAny_bind (wpAny_field hos hds (x := .none) rfl (wpAny_pure ?_)))))))
  refine wpAny_bind (slicePart_none ?_)
  show wpAny _ _ (if ((1 : Int) == 0) = true then _ else _) _ _ s
  rw [if_neg (by decide)]
  refine wpAny_bind (slicePart_ pl (wpAny_bind (slicePart_ pu (wpAny_bind (wpAny_pure ?_)))))
  show wpAny _ _ (match Builtin.Slice.sliceAdjust lo hi 1 (n : Int) with | (lo, hi) => pure (lo, (1 : Int), Builtin.Slice.slicePlaces lo hi 1)) _ _ s
  rw [adjust_gen lo hi n]
  show wpAny _ _ (pure (((sIx n 0 lo : Nat) : Int), (1 : Int), Builtin.Slice.slicePlaces ((sIx n 0 lo : Nat) : Int) ((sIx n n hi : Nat) : Int) 1)) _ _ s
  rw [places_gen]
  exact wpAny_pure h
theorem pick_gen (xs : Array Value) (i k : Nat) : ((List.range k).filterMap fun (m : Nat) => xs[((i : Int) + (m : Int) * 1).toNat]?).toArray = ((xs.toList.drop i).take k).toArray := by
  have e : (fun (m : Nat) => xs[((i : Int) + (m : Int) * 1).toNat]?) = fun m => xs[i + m]? := by
    funext m
    have : ((i : Int) + (m : Int) * 1).toNat = i + m := by omega
    rw [this]
  rw [e]
  have := pick_run xs i k
  rw [List.filterMap_map] at this
  have e2 : ((fun x => xs[x]?) ∘ fun x => i + x) = fun m => xs[i + m]? := rfl
  rw [e2] at this
  rw [this]
theorem getItem_tuple_cut {t sl : Addr} {items : Array Value} {vl vu : Value} {lo hi : Option Int} {Q : Value → Shared → Prop} (ht : IsTup s.heap t items) (hs : s.heap.IsSliceOf sl vl vu .none) (pl : IsPart vl lo) (pu : IsPart vu hi)
    (hw : ¬ (sIx items.size 0 lo = 0 ∧ sIx items.size items.size hi = items.size))
    (h : Q (.ref s.heap.objs.size) { s with heap := s.heap.push { cls := .type "tuple", data := .seq ((items.toList.drop (sIx items.size 0 lo)).take (sIx items.size items.size hi - sIx items.size 0 lo)).toArray } })
    (hsz : items.size ≤ sizeLine) : wpAny (model prog w) A (getItem (.ref t) (.ref sl)) Q E s := by
  have htake : sizeOk (.seq ((items.toList.drop (sIx items.size 0 lo)).take (sIx items.size items.size hi - sIx items.size 0 lo)).toArray) := by
    show ((items.toList.drop (sIx items.size 0 lo)).take (sIx items.size items.size hi - sIx items.size 0 lo)).toArray.size ≤ sizeLine
    rw [List.size_toArray, List.length_take, List.length_drop, Array.length_toList]
    omega
  have hj : sIx items.size items.size hi ≤ items.size := sIx_le _ _ (Nat.le_refl _) hi
  obtain ⟨os, hos, hcs, hds⟩ := id hs
  have hTs : s.TypeIs (.ref sl) "slice" := ⟨os, hos, hcs⟩
  unfold getItem
  try with_reducible refine wpAny_holding ?_
  first | refine wpAny_bind (wpAny_pure ?_) | skip
  refine wpAny_bind (wpAny_sequenceKey ht.typeIs (by decide) ?_)
  refine wpAny_bind (wpAny_callSpecial?_slot (name := Str.ofString "__getitem__") ht.typeIs PyProof.Rows.slot_tuple_getitem
    (wpAny_call_entry PyProof.Rows.slot_tuple_getitem ht.typeIs entry_tuple_getitem ?_ (args_tuple_getitem _ _)))
  show wpAny _ _ (Builtin.Tuple.tupleItemsOf (.ref t) >>= _) _ _ s
  refine wpAny_bind (tupleItemsOf_ ht ?_)
  refine wpAny_bind (wpAny_typeOf hTs ?_)
  rw [if_pos (by decide)]
  refine wpAny_bind (sliceApplied_gen hs pl pu ?_)
  have hno : ¬ ((((sIx items.size 0 lo : Nat) : Int) == 0 && (1 : Int) == 1 && (sIx items.size items.size hi - sIx items.size 0 lo) == items.size) = true) := by
    intro q
    rw [Bool.and_eq_true, Bool.and_eq_true] at q
    have q1 : ((sIx items.size 0 lo : Nat) : Int) = 0 := eq_of_beq q.1.1
    have q2 : sIx items.size items.size hi - sIx items.size 0 lo = items.size := eq_of_beq q.2
    exact hw ⟨by omega, by omega⟩
  show wpAny _ _ (if (((sIx items.size 0 lo : Nat) : Int) == 0 && (1 : Int) == 1 && (sIx items.size items.size hi - sIx items.size 0 lo) == items.size) = true then _ else _) _ _ s
  rw [if_neg hno, pick_gen]
  first
    | exact wpAny_bind (m := Builtin.Tuple.tupleExact _) (wpAny_newObj_type (wpAny_pure ⟨_, rfl, wpAny_pure h⟩) htake)
    | exact wpAny_bind (m := Builtin.Tuple.tupleExact _) (wpAny_newObj_type (wpAny_bind (wpAny_pure (wpAny_pure ⟨_, rfl, wpAny_pure h⟩))) htake)
    | exact wpAny_bind (wpAny_bind (m := Builtin.Tuple.tupleExact _) (wpAny_newObj_type (wpAny_pure (wpAny_pure ⟨_, rfl, wpAny_pure h⟩)) htake))
    | exact wpAny_bind (wpAny_bind (m := Builtin.Tuple.tupleExact _) (wpAny_newObj_type (wpAny_pure ⟨_, rfl, wpAny_pure h⟩) htake))
end
end HT
namespace L2
open PySem PySem.Spec PyProof.Rows
abbrev TO := St → Hp → (Option Int → Hp → Prop) → Prop
def PO (X : Cx) (e : Option Expr) (t : TO) : Prop :=
  ∀ (pins : List (Addr × Obj)) (s : Shared) (σ : St) (H : Hp) (Q : Option Int → Hp → Prop), Inv X pins σ H s → t σ H Q →
    wpAny (model X.prog X.w) X.A (evalPart e X.env) (fun u s' => ∃ o H', Inv X pins σ H' s' ∧ IsPart u o ∧ Q o H') X.xe s
def tNoPart : TO := fun _ H Q => Q none H
def tPart (t : TE) : TO := fun σ H Q => t σ H fun x H1 => ∃ i, x = .int i ∧ Q (some i) H1
theorem intsAre_of {ns : List Int} : ∀ {us : List Value}, Vals (ns.map V.int) us → IntsAre us ns := by
  induction ns with
  | nil => intro us r; rw [List.map_nil] at r; cases r; exact .nil
  | cons n ns ih =>
    intro us r
    rw [List.map_cons] at r
    cases r with
    | cons r1 r2 =>
      obtain ⟨t, e⟩ := r1
      subst e
      exact .cons n t (ih r2)
section
variable {X : Cx} {e : Expr} {te : TE} {lo hi : Option Expr} {tl th : TO} {pos p2 : Pos}
theorem po_none : PO X none tNoPart := by
  intro pins s σ H Q I h
  rw [evalPart_none]
  exact wpAny_pure ⟨none, H, I, .none, h⟩
theorem po_some (h : PE X e te) : PO X (some e) (tPart te) := by
  intro pins s σ H Q I hw
  rw [evalPart_some]
  refine thn (h pins s σ H _ I hw) fun u s1 ⟨x, H1, I1, r1, q1⟩ => ?_
  obtain ⟨i, rfl, q⟩ := q1
  obtain ⟨t, rfl⟩ := r1
  exact ⟨some i, H1, I1, .int i t, q⟩
def SlR (X : Cx) (r : V → Option Int → Option Int → Hp → VK → Prop) : Prop :=
  ∀ (pins : List (Addr × Obj)) (s : Shared) (σ : St) (H : Hp) (x : V) (v vl vu : Value) (lo hi : Option Int) (sl : Addr) (Q : VK), Inv X pins σ H s → RelV x v → s.heap.IsSliceOf sl vl vu .none → IsPart vl lo → IsPart vu hi → r x lo hi H Q →
    ∃ T id, typeLookup (.type T) "__getitem__" = pure (some (.builtin id)) ∧ s.TypeIs v T ∧ wpAny (model X.prog X.w) X.A (getItem v (.ref sl)) (EP X pins σ Q) X.xe s
theorem SlR.or {r r' : V → Option Int → Option Int → Hp → VK → Prop} (h : SlR X r) (h' : SlR X r') : SlR X (fun x lo hi H Q => r x lo hi H Q ∨ r' x lo hi H Q) := by
  intro pins s σ H x v vl vu lo hi sl Q I rx hs pl pu q
  rcases q with q | q
  · exact h pins s σ H x v vl vu lo hi sl Q I rx hs pl pu q
  · exact h' pins s σ H x v vl vu lo hi sl Q I rx hs pl pu q
def tSl (r : V → Option Int → Option Int → Hp → VK → Prop) (te : TE) (tl th : TO) : TE := fun σ H Q => te σ H fun x H1 => tl σ H1 fun l H2 => th σ H2 fun u H3 => r x l u H3 Q
theorem pe_slice {r : V → Option Int → Option Int → Hp → VK → Prop} (hr : SlR X r) (he : PE X e te) (hl : PO X lo tl) (hu : PO X hi th) : PE X (.Subscript e (.Slice lo hi none p2) pos) (tSl r te tl th) := by
  intro pins s σ H Q I h
  refine Subscript_ (thn (he pins s σ H _ I h) fun v s1 ⟨x, H1, I1, r1, q1⟩ => ?_)
  refine wpAny_Slice (thn (hl pins s1 σ H1 _ I1 q1) fun vl s2 ⟨l, H2, I2, pl, q2⟩ => thn (hu pins s2 σ H2 _ I2 q2) fun vu s3 ⟨u, H3, I3, pu, q3⟩ => ?_)
  rw [evalPart_none]
  refine wpAny_pure ?_
  have I4 : Inv X pins σ H3 { s3 with heap := s3.heap.push { cls := .type "slice", data := .fields #[vl, vu, .none] } } := I3.kept (t' := s3.toks) fun b ob q => Heap.get?_push_of_some _ q
  obtain ⟨T, id, hT, ht, hg⟩ := hr pins { s3 with heap := s3.heap.push { cls := .type "slice", data := .fields #[vl, vu, .none] } } σ H3 x v vl vu l u s3.heap.objs.size Q I4 r1 (Heap.IsSliceOf.new ..) pl pu q3
  show wpAny (model X.prog X.w) X.A (subscriptTail e (.Slice lo hi none p2) v (.ref s3.heap.objs.size)) (EP X pins σ Q) X.xe { s3 with heap := s3.heap.push { cls := .type "slice", data := .fields #[vl, vu, .none] } }
  exact tail_any (ops := [.ref s3.heap.objs.size, v]) ht hT hg (by with_unfolding_all rfl)
def cutV (xs : List V) (lo hi : Option Int) : List V := (xs.drop (HT.sIx xs.length 0 lo)).take (HT.sIx xs.length xs.length hi - HT.sIx xs.length 0 lo)
theorem cutV_length (xs : List V) (lo hi : Option Int) : (cutV xs lo hi).length ≤ xs.length := by
  unfold cutV
  rw [List.length_take, List.length_drop]
  omega
def rSlT (K : PySem.W.Frag) : V → Option Int → Option Int → Hp → VK → Prop := fun x lo hi H Q => ∃ a xs, x = .ref a ∧ SqT K H a xs ∧
  ¬ (HT.sIx xs.length 0 lo = 0 ∧ HT.sIx xs.length xs.length hi = xs.length) ∧ ∀ p, H p = none → Q (.ref p) (upd H p (.tup (cutV xs lo hi)))
theorem sl_tup : SlR X (rSlT X.K) := by
  intro pins s σ H x v vl vu lo hi sl Q I rx hs pl pu h
  obtain ⟨a, xs, rfl, hx, hw, q⟩ := h
  cases rx
  obtain ⟨its, r, ht, hz⟩ := I.tuple hx
  have hlen : its.toArray.size = xs.length := by rw [List.size_toArray]; exact r.length.symm
  refine ⟨"tuple", _, PyProof.Rows.slot_tuple_getitem.lookup, ht.typeIs, ?_⟩
  refine HT.getItem_tuple_cut ht hs pl pu (by rw [hlen]; exact hw) ?_ (by rw [hlen]; exact hz)
  rw [hlen]
  refine ⟨.ref s.heap.objs.size, _, I.laid (t' := s.toks) (o := .tup (cutV xs lo hi)) (fun b ob q => Heap.get?_push_of_some _ q) (Nat.le_refl _) ?_, rfl, q _ (I.hok.fresh (Nat.le_refl _))⟩
  exact ⟨Nat.le_trans (cutV_length xs lo hi) hz, _, (r.drop (HT.sIx xs.length 0 lo)).take (HT.sIx xs.length xs.length hi - HT.sIx xs.length 0 lo), IsTup.new _ _⟩
def rCatT (K : PySem.W.Frag) : R2 := fun x y H Q => ∃ a b xs ys, x = .ref a ∧ y = .ref b ∧ SqT K H a xs ∧ SqT K H b ys ∧ xs ≠ [] ∧ xs.length + ys.length ≤ sizeLine ∧
  (ys = [] → Q (.ref a) H) ∧ (ys ≠ [] → ∀ p, H p = none → Q (.ref p) (upd H p (.tup (xs ++ ys))))
theorem Vals.nil_iff {xs : List V} {us : List Value} (r : Vals xs us) : us = [] ↔ xs = [] := by
  cases r with
  | nil => simp
  | cons _ _ => simp
theorem op_catT : OpR X (binaryOp .Add) (rCatT X.K) := by
  intro pins s σ H x y v u Q I rx ry h
  obtain ⟨a, b, xs, ys, rfl, rfl, ha, hb, hx, hz, q1, q2⟩ := h
  cases rx
  cases ry
  obtain ⟨its, r1, p1, _⟩ := I.tuple ha
  obtain ⟨its2, r2, p2, _⟩ := I.tuple hb
  refine HT.cat_tup p1 p2 (fun z => hx (r1.nil_iff.mp z)) (fun z => ⟨.ref a, H, I, rfl, q1 (r2.nil_iff.mp z)⟩) (fun z => ?_) (by rw [← r1.length, ← r2.length]; exact hz)
  refine ⟨.ref s.heap.objs.size, _, I.laid (t' := s.toks) (o := .tup (xs ++ ys)) (fun b ob q => Heap.get?_push_of_some _ q) (Nat.le_refl _) ?_, rfl, q2 (fun w => z (r2.nil_iff.mpr w)) _ (I.hok.fresh (Nat.le_refl _))⟩
  exact ⟨by rw [List.length_append]; exact hz, _, r1.append r2, IsTup.new _ _⟩
end
end L2
namespace L2
open PySem PySem.Spec PyProof.Rows
def ixN (n : Nat) (i : Int) : Option Nat := if 0 ≤ i then (if i < n then some i.toNat else none) else if -(n : Int) ≤ i then some (i + n).toNat else none
def atI {α : Type} (xs : List α) (i : Int) : Option α := (ixN xs.length i).bind fun j => xs[j]?
theorem ixN_seq {n : Nat} {i : Int} {j : Nat} (h : ixN n i = some j) : seqIndex? i n = some j ∧ j < n ∧ -(n : Int) ≤ i ∧ i < n := by
  unfold ixN at h
  by_cases h0 : 0 ≤ i
  · rw [if_pos h0] at h
    by_cases h1 : i < n
    · rw [if_pos h1] at h
      have e : i.toNat = j := Option.some.inj h
      exact ⟨by rw [seqIndex_of h0 h1, e], by omega, by omega, h1⟩
    · rw [if_neg h1] at h; cases h
  · rw [if_neg h0] at h
    by_cases h1 : -(n : Int) ≤ i
    · rw [if_pos h1] at h
      have e : (i + n).toNat = j := Option.some.inj h
      exact ⟨by rw [seqIndex_neg (by omega) h1, e], by omega, h1, by omega⟩
    · rw [if_neg h1] at h; cases h
theorem atI_get {α : Type} {xs : List α} {i : Int} {v : α} (h : atI xs i = some v) : ∃ j, seqIndex? i xs.length = some j ∧ xs[j]? = some v ∧ j < xs.length ∧ -(xs.length : Int) ≤ i ∧ i < xs.length := by
  unfold atI at h
  cases e : ixN xs.length i with
  | none => rw [e] at h; cases h
  | some j =>
    rw [e] at h
    obtain ⟨h1, h2, h3, h4⟩ := ixN_seq e
    exact ⟨j, h1, h, h2, h3, h4⟩
def PlainIx (b : Expr) : Prop := ∀ o i, subscripted b false o i = operate [o, i] (getItem o i)
def IxR (X : Cx) (r : R2) : Prop :=
  ∀ (value slice : Expr) (pins : List (Addr × Obj)) (s : Shared) (σ : St) (H : Hp) (x y : V) (v u : Value) (Q : VK), Inv X pins σ H s → RelV x v → RelV y u → r x y H Q →
    subscripted slice false v u = operate [v, u] (getItem v u) → wpAny (model X.prog X.w) X.A (subscriptTail value slice v u) (EP X pins σ Q) X.xe s
def MtR (X : Cx) (id : String) (r : V → List V → Hp → VK → Prop) : Prop :=
  ∀ (pins : List (Addr × Obj)) (s : Shared) (σ : St) (H : Hp) (x : V) (xs : List V) (v : Value) (us : List Value) (Q : VK), Inv X pins σ H s → RelV x v → Vals xs us → r x xs H Q →
    wpAny (model X.prog X.w) X.A (call (.builtin id) (v :: us)) (EP X pins σ Q) X.xe s
section
variable {X : Cx} {a b : Expr} {ta tb : TE} {pos : Pos}
theorem IxR.or {r r' : R2} (h : IxR X r) (h' : IxR X r') : IxR X (fun x y H Q => r x y H Q ∨ r' x y H Q) := by
  intro value slice pins s σ H x y v u Q I rx ry q hs
  rcases q with q | q
  · exact h value slice pins s σ H x y v u Q I rx ry q hs
  · exact h' value slice pins s σ H x y v u Q I rx ry q hs
theorem pe_ix {r : R2} (hr : IxR X r) (ha : PE X a ta) (hb : PE X b tb) (hs : PlainIx b) : PE X (.Subscript a b pos) (tOp r ta tb) := by
  intro pins s σ H Q I h
  exact Subscript_ (binT ha hb I h fun v u s2 x y H2 I2 rx ry q => hr a b pins s2 σ H2 x y v u Q I2 rx ry q (hs _ _))
def rIxL (K : PySem.W.Frag) : R2 := fun x y H Q => ∃ p xs i v, x = .ref p ∧ y = .int i ∧ SqL K H p xs ∧ atI xs i = some v ∧ Q v H
def rIxT (K : PySem.W.Frag) : R2 := fun x y H Q => ∃ p xs i v, x = .ref p ∧ y = .int i ∧ SqT K H p xs ∧ atI xs i = some v ∧ Q v H
def rIxS : R2 := fun x y H Q => ∃ z i c, x = .str z ∧ y = .int i ∧ z.length ≤ sizeLine ∧ atI z.cps.toList i = some c ∧ Q (.str ⟨#[c]⟩) H
theorem ix_list : IxR X (rIxL X.K) := by
  intro value slice pins s σ H x y v u Q I rx ry h hs
  obtain ⟨p, xs, i, z, rfl, rfl, hq, he, q⟩ := h
  cases rx
  obtain ⟨t, rfl⟩ := ry
  obtain ⟨its, r, pl, hz⟩ := I.list hq
  obtain ⟨j, h1, h2, h3, h4, h5⟩ := atI_get he
  obtain ⟨w, ew, rw'⟩ := r.get h2
  have hl := r.length
  have hn := line63
  have fin : EP X pins σ Q w s := ⟨z, H, I, rw', q⟩
  by_cases h0 : 0 ≤ i
  · have hj : i.toNat = j := by
      rw [seqIndex_of h0 h5] at h1
      exact Option.some.inj h1
    exact item_listR pl.isList h0 (by omega) (by rw [hj]; simpa using ew) fin hs
  · have hj : (i + (its.toArray.size : Int)).toNat = j := by
      rw [seqIndex_neg (by omega) h4] at h1
      rw [List.size_toArray, ← hl]
      exact Option.some.inj h1
    exact subscriptTail_builtinR (x := w) pl.isList.typeIs slot_list_getitem.lookup
      (wpAny_getItem_list_neg (Q := fun r s' => r = w ∧ EP X pins σ Q r s') pl.isList (by omega) (by rw [List.size_toArray] <;> omega) (by omega) (by rw [hj]; simpa using ew) ⟨rfl, fin⟩) hs
theorem ix_tup : IxR X (rIxT X.K) := by
  intro value slice pins s σ H x y v u Q I rx ry h hs
  obtain ⟨p, xs, i, z, rfl, rfl, hq, he, q⟩ := h
  cases rx
  obtain ⟨t, rfl⟩ := ry
  obtain ⟨its, r, pl, hz⟩ := I.tuple hq
  obtain ⟨j, h1, h2, h3, h4, h5⟩ := atI_get he
  obtain ⟨w, ew, rw'⟩ := r.get h2
  have hl := r.length
  have hn := line63
  have fin : EP X pins σ Q w s := ⟨z, H, I, rw', q⟩
  exact subscriptTail_builtinR (x := w) pl.typeIs slot_tuple_getitem.lookup
    (getItem_tuple (j := j) (Q := fun r s' => r = w ∧ EP X pins σ Q r s') pl (by omega) (by omega) (by rw [List.size_toArray, ← hl]; exact h1) (by simpa using ew) ⟨rfl, fin⟩) hs
theorem ix_str : IxR X rIxS := by
  intro value slice pins s σ H x y v u Q I rx ry h hs
  obtain ⟨z, i, c, rfl, rfl, hz, he, q⟩ := h
  obtain ⟨t, rfl⟩ := rx
  obtain ⟨t', rfl⟩ := ry
  obtain ⟨j, h1, h2, h3, h4, h5⟩ := atI_get he
  have hl : z.cps.toList.length = z.length := by simp [Str.length]
  rw [hl] at h1 h4 h5
  have hn := line63
  exact tail_any (typeIs_str s z t) slot_str_getitem.lookup (getItem_str (c := c) (by
    have e1 : decide (i < -(2 ^ 63 : Int)) = false := decide_eq_false (by omega)
    have e2 : decide (i ≥ 2 ^ 63) = false := decide_eq_false (by omega)
    rw [e1, e2, Bool.or_false]) (by rw [h1]; simpa using h2) ⟨.str ⟨#[c]⟩, H, I.tok _, ⟨_, rfl⟩, q⟩) hs
def rIx (K : PySem.W.Frag) : R2 := fun x y H Q => rIxL K x y H Q ∨ rIxT K x y H Q ∨ rIxS x y H Q
theorem ix_seq : IxR X (rIx X.K) := ix_list.or (ix_tup.or ix_str)
theorem mapSeq_set (its : List Value) (n j : Nat) (u : Value) : Obj.mapSeq (·.setIfInBounds j u) { cls := .type "list", data := .seq its.toArray n } = { cls := .type "list", data := .seq (its.set j u).toArray n } := by
  simp [Obj.mapSeq]
theorem Inv.lst {pins : List (Addr × Obj)} {σ : St} {H : Hp} {s : Shared} {p : Addr} {xs : List V} (I : Inv X pins σ H s) (h : H p = some (.lst xs)) :
    ∃ (its : List Value) (n : Nat), Vals xs its ∧ s.heap.get? p = some { cls := .type "list", data := .seq its.toArray n } ∧ xs.length ≤ sizeLine := by
  obtain ⟨z, its, n, r, e⟩ := I.hok p _ h
  exact ⟨its, n, r, e, z⟩
theorem Inv.lstUpd {pins : List (Addr × Obj)} {σ : St} {H : Hp} {s : Shared} {p : Addr} {xs ys : List V} {its its' : List Value} {n n' : Nat} {f : Obj → Obj} (I : Inv X pins σ H s) (h : H p = some (.lst xs))
    (ho : s.heap.get? p = some { cls := .type "list", data := .seq its.toArray n }) (hf : f { cls := .type "list", data := .seq its.toArray n } = { cls := .type "list", data := .seq its'.toArray n' }) (r : Vals ys its') (hz : ys.length ≤ sizeLine) (t : Nat) :
    Inv X pins σ (upd H p (.lst ys)) { s with heap := s.heap.update p f, toks := t } := by
  have e : (s.heap.update p f).get? p = some { cls := .type "list", data := .seq its'.toArray n' } := by
    rw [Heap.get?_update_self f ho (by rw [hf] <;> rfl), hf]
  refine I.write (x := p) (e := p) (by rw [h]; trivial) (.inl rfl) (fun b u hb q => (Heap.get?_update_other _ _ (Ne.symm hb)).trans q) ⟨_, e⟩ ?_
  exact ⟨hz, its', n', r, e⟩
def rSetL : V → V → V → Hp → (Hp → Prop) → Prop := fun o i v H Q => ∃ p xs k j, o = .ref p ∧ i = .int k ∧ H p = some (.lst xs) ∧ ixN xs.length k = some j ∧ Q (upd H p (.lst (xs.set j v)))
theorem set_list : PSet X rSetL := by
  intro pins s σ H o i v ov iv u Q I ro ri rv h
  obtain ⟨p, xs, k, j, rfl, rfl, hp, hj, q⟩ := h
  cases ro
  obtain ⟨t, rfl⟩ := ri
  obtain ⟨its, n, r, ho, hz⟩ := I.lst hp
  obtain ⟨h1, h2, h3, h4⟩ := ixN_seq hj
  have hl := r.length
  have hn := line63
  have I' : Inv X pins σ (upd H p (.lst (xs.set j v))) { s with heap := s.heap.update p (Obj.mapSeq (·.setIfInBounds j u)) } :=
    I.lstUpd hp ho (mapSeq_set its n j u) (r.set rv j) (by rw [List.length_set]; exact hz) s.toks
  by_cases h0 : 0 ≤ k
  · have hk : k.toNat = j := by
      rw [seqIndex_of h0 h4] at h1
      exact Option.some.inj h1
    exact PySem.W.ki_setAt ho h0 (by omega) (by rw [List.size_toArray, ← hl]; exact h4) (by rw [hk]; exact ⟨_, I', q⟩)
  · have hk : (k + (its.toArray.size : Int)).toNat = j := by
      rw [seqIndex_neg (by omega) h3] at h1
      rw [List.size_toArray, ← hl]
      exact Option.some.inj h1
    exact PySem.W.ki_setBack ho (by omega) (by rw [List.size_toArray, ← hl]; exact h3) (by omega) (by rw [hk]; exact ⟨_, I', q⟩)
theorem slice_bounds (lo hi : Option Int) (n : Nat) : (sliceBounds lo hi none n).1 = ((HT.sIx n 0 lo : Nat) : Int) ∧ (sliceBounds lo hi none n).2.1 = ((HT.sIx n n hi : Nat) : Int) ∧ (sliceBounds lo hi none n).2.2 = 1 := by
  refine ⟨?_, ?_, rfl⟩
  · cases lo with
    | none => simp [sliceBounds, HT.sIx]
    | some i =>
      simp only [sliceBounds, HT.sIx, Option.getD_none, show (1 : Int) > 0 by decide, if_true]
      by_cases h : i < 0
      · simp only [h, if_true] <;> omega
      · simp only [h, if_false] <;> omega
  · cases hi with
    | none => simp [sliceBounds, HT.sIx]
    | some i =>
      simp only [sliceBounds, HT.sIx, Option.getD_none, show (1 : Int) > 0 by decide, if_true]
      by_cases h : i < 0
      · simp only [h, if_true] <;> omega
      · simp only [h, if_false] <;> omega
theorem slicePick_cut (its : List Value) (lo hi : Option Int) : slicePick its.toArray lo hi none = ((its.drop (HT.sIx its.length 0 lo)).take (HT.sIx its.length its.length hi - HT.sIx its.length 0 lo)).toArray := by
  obtain ⟨h1, h2, h3⟩ := slice_bounds lo hi its.toArray.size
  unfold slicePick
  rw [h1, h2, h3]
  simp only [sliceRange_one, pick_run, List.size_toArray] <;> rfl
def rSlL (K : PySem.W.Frag) : V → Option Int → Option Int → Hp → VK → Prop := fun x lo hi H Q => ∃ a xs, x = .ref a ∧ SqL K H a xs ∧ ∀ p, H p = none → Q (.ref p) (upd H p (.lst (cutV xs lo hi)))
theorem sl_list : SlR X (rSlL X.K) := by
  intro pins s σ H x v vl vu lo hi sl Q I rx hs pl pu h
  obtain ⟨a, xs, rfl, hx, q⟩ := h
  cases rx
  obtain ⟨its, r, ht, hz⟩ := I.list hx
  have hlen := r.length
  refine ⟨"list", _, slot_list_getitem.lookup, ht.isList.typeIs, ?_⟩
  refine wpAny_getItem_list_slice ht.isList hs pl pu .none (by simp) ?_ (by rw [List.size_toArray] <;> omega)
  rw [slicePick_cut, ← hlen]
  refine ⟨.ref s.heap.objs.size, _, I.laid (t' := s.toks) (o := .lst (cutV xs lo hi)) (fun b ob q => Heap.get?_push_of_some _ q) (Nat.le_refl _) ?_, rfl, q _ (I.hok.fresh (Nat.le_refl _))⟩
  exact ⟨Nat.le_trans (cutV_length xs lo hi) hz, _, 0, (r.drop (HT.sIx xs.length 0 lo)).take (HT.sIx xs.length xs.length hi - HT.sIx xs.length 0 lo), Heap.get?_push_size _ rfl⟩
def flatV : V → Bool
  | .non => true
  | .bl _ => true
  | .int _ => true
  | .str _ => true
  | _ => false
def eqV : V → V → Bool
  | .non, .non => true
  | .bl a, .bl b => a == b
  | .bl a, .int b => (if a then 1 else 0) == b
  | .int a, .bl b => a == (if b then 1 else 0)
  | .int a, .int b => a == b
  | .str a, .str b => a == b
  | _, _ => false
theorem eqAt_V {A : Around} {s : Shared} {y x : V} {u v : Value} (ry : RelV y u) (rx : RelV x v) (fy : flatV y = true) (fx : flatV x = true) : SeqAt.EqAt A s u v (eqV y x) := by
  cases y with
  | non =>
    cases ry
    cases x with
    | non => cases rx; exact SeqAt.EqAt.same _
    | bl b => cases rx; exact SeqAt.EqAt.none_bool b
    | int b => obtain ⟨t, rfl⟩ := rx; exact SeqAt.EqAt.none_int b t
    | str b => obtain ⟨t, rfl⟩ := rx; exact SeqAt.EqAt.none_str b t
    | _ => exact absurd (show false = true from fx) Bool.false_ne_true
  | bl a =>
    cases ry
    cases x with
    | non => cases rx; exact SeqAt.EqAt.bool_none a
    | bl b => cases rx; exact SeqAt.EqAt.bool_bool a b
    | int b => obtain ⟨t, rfl⟩ := rx; exact SeqAt.EqAt.bool_int a b t
    | str b => obtain ⟨t, rfl⟩ := rx; exact SeqAt.EqAt.bool_str a b t
    | _ => exact absurd (show false = true from fx) Bool.false_ne_true
  | int a =>
    obtain ⟨t', rfl⟩ := ry
    cases x with
    | non => cases rx; exact SeqAt.EqAt.int_none a t'
    | bl b => cases rx; exact SeqAt.EqAt.int_bool a t' b
    | int b => obtain ⟨t, rfl⟩ := rx; exact SeqAt.EqAt.int_int a t' b t
    | str b => obtain ⟨t, rfl⟩ := rx; exact SeqAt.EqAt.int_str a t' b t
    | _ => exact absurd (show false = true from fx) Bool.false_ne_true
  | str a =>
    obtain ⟨t', rfl⟩ := ry
    cases x with
    | non => cases rx; exact SeqAt.EqAt.str_none a t'
    | bl b => cases rx; exact SeqAt.EqAt.str_bool a t' b
    | int b => obtain ⟨t, rfl⟩ := rx; exact SeqAt.EqAt.str_int a t' b t
    | str b => obtain ⟨t, rfl⟩ := rx; exact SeqAt.EqAt.str_str a t' b t
    | _ => exact absurd (show false = true from fx) Bool.false_ne_true
  | _ => exact absurd (show false = true from fy) Bool.false_ne_true
def eqU (x : V) (u : Value) : Bool := match u with
  | .none => eqV .non x
  | .bool b => eqV (.bl b) x
  | .int i _ => eqV (.int i) x
  | .str z _ => eqV (.str z) x
  | _ => false
theorem eqU_of {x y : V} {u : Value} (r : RelV y u) (f : flatV y = true) : eqU x u = eqV y x := by
  cases y with
  | non => cases r; rfl
  | bl b => cases r; rfl
  | int i => obtain ⟨t, rfl⟩ := r; rfl
  | str z => obtain ⟨t, rfl⟩ := r; rfl
  | _ => exact absurd (show false = true from f) Bool.false_ne_true
theorem any_eqU {x : V} : ∀ {xs : List V} {us : List Value}, Vals xs us → xs.all flatV = true → us.any (eqU x) = xs.any fun y => eqV y x
  | _, _, .nil, _ => rfl
  | y :: xs, u :: us, .cons r t, f => by
    rw [List.all_cons, Bool.and_eq_true] at f
    rw [List.any_cons, List.any_cons, eqU_of r f.1, any_eqU t f.2]
theorem mem_eqAt {A : Around} {s : Shared} {x : V} {v : Value} (rx : RelV x v) (fx : flatV x = true) : ∀ {xs : List V} {us : List Value}, Vals xs us → xs.all flatV = true → ∀ u ∈ us, SeqAt.EqAt A s u v (eqU x u)
  | _, _, .nil, _ => fun u hu => by cases hu
  | y :: xs, u :: us, .cons r t, f => fun u' hu => by
    rw [List.all_cons, Bool.and_eq_true] at f
    rcases List.mem_cons.mp hu with rfl | hu
    · rw [eqU_of r f.1]; exact eqAt_V r rx f.1 fx
    · exact mem_eqAt rx fx t f.2 u' hu
def inV (x : V) (xs : List V) : Bool := xs.any fun y => eqV y x
def rIn (K : PySem.W.Frag) (neg : Bool) : R2 := fun x y H Q => ∃ p xs, y = .ref p ∧ (SqL K H p xs ∨ SqT K H p xs) ∧ flatV x = true ∧ xs.all flatV = true ∧ Q (.bl (if neg then !inV x xs else inV x xs)) H
theorem op_in_seq : OpR X (compareOp .In) (rIn X.K false) := by
  intro pins s σ H x y v u Q I rx ry h
  obtain ⟨p, xs, rfl, hq, fx, fs, q⟩ := h
  cases ry
  rcases hq with hq | hq
  · obtain ⟨its, r, pl, hz⟩ := I.list hq
    refine SeqAt.in_listAt (eqU x) pl.isList (fun w hw => mem_eqAt rx fx r fs w (by simpa using hw)) ⟨.bl _, H, I, rfl, ?_⟩
    rw [show its.toArray.any (eqU x) = its.any (eqU x) by simp, any_eqU r fs]
    exact q
  · obtain ⟨its, r, pl, hz⟩ := I.tuple hq
    refine SeqAt.in_tupleAt (eqU x) pl (fun w hw => mem_eqAt rx fx r fs w (by simpa using hw)) ⟨.bl _, H, I, rfl, ?_⟩
    rw [show its.toArray.any (eqU x) = its.any (eqU x) by simp, any_eqU r fs]
    exact q
theorem op_notIn_seq : OpR X (compareOp .NotIn) (rIn X.K true) := by
  intro pins s σ H x y v u Q I rx ry h
  obtain ⟨p, xs, rfl, hq, fx, fs, q⟩ := h
  cases ry
  rcases hq with hq | hq
  · obtain ⟨its, r, pl, hz⟩ := I.list hq
    refine SeqAt.notIn_listAt (eqU x) pl.isList (fun w hw => mem_eqAt rx fx r fs w (by simpa using hw)) ⟨.bl _, H, I, rfl, ?_⟩
    rw [show its.toArray.any (eqU x) = its.any (eqU x) by simp, any_eqU r fs]
    exact q
  · obtain ⟨its, r, pl, hz⟩ := I.tuple hq
    refine SeqAt.notIn_tupleAt (eqU x) pl (fun w hw => mem_eqAt rx fx r fs w (by simpa using hw)) ⟨.bl _, H, I, rfl, ?_⟩
    rw [show its.toArray.any (eqU x) = its.any (eqU x) by simp, any_eqU r fs]
    exact q
theorem call_len_seq : CallR X (.builtin "len") (fun xs H Q => ∃ p ys, xs = [.ref p] ∧ (SqL X.K H p ys ∨ SqT X.K H p ys) ∧ Q (.int ys.length) H) := by
  intro pins s σ H xs us Q I r h
  obtain ⟨p, ys, rfl, hq, q⟩ := h
  obtain ⟨u, rfl, rx⟩ := vals1 r
  cases rx
  have hn := line63
  rcases hq with hq | hq
  · obtain ⟨its, r', pl, hz⟩ := I.list hq
    have hlen := r'.length
    exact Calls.call_len_list pl.isList (by simp only [List.size_toArray] <;> omega) ⟨.int ys.length, H, I.tok _, ⟨s.toks + 1, by rw [List.size_toArray, hlen]⟩, q⟩
  · obtain ⟨its, r', pl, hz⟩ := I.tuple hq
    have hlen := r'.length
    exact len_tuple pl (by simp only [List.size_toArray] <;> omega) ⟨.int ys.length, H, I.tok _, ⟨s.toks + 1, by rw [List.size_toArray, hlen]⟩, q⟩
theorem call_list_of : CallR X (.type "list") (fun xs H Q => ∃ p ys, xs = [.ref p] ∧ (SqL X.K H p ys ∨ SqT X.K H p ys) ∧ ∀ l, H l = none → Q (.ref l) (upd H l (.lst ys))) := by
  intro pins s σ H xs us Q I r h
  obtain ⟨p, ys, rfl, hq, q⟩ := h
  obtain ⟨u, rfl, rx⟩ := vals1 r
  cases rx
  have fin : ∀ (its : List Value), Vals ys its → ys.length ≤ sizeLine → ∀ (h' : Heap) (c' : Nat), (∀ b o', s.heap.get? b = some o' → h'.get? b = some o') →
      h'.get? s.heap.objs.size = some { cls := .type "list", dict := none, data := .seq its.toArray c', slots := #[] } → EP X pins σ Q (.ref s.heap.objs.size) { s with heap := h' } := fun its r' hz h' c' kp e =>
    ⟨.ref s.heap.objs.size, _, I.laid (t' := s.toks) kp (Nat.le_refl _) (show ObjOk X.prog X.w _ h' _ (.lst ys) from ⟨hz, its, c', r', e⟩), rfl, q _ (I.hok.fresh (Nat.le_refl _))⟩
  rcases hq with hq | hq
  · obtain ⟨its, r', pl, hz⟩ := I.list hq
    have hlen := r'.length
    obtain ⟨o, ho, hc, n, hd⟩ := pl.isList
    exact call_list_seq p (.inl rfl) ho hc hd (fun h' c' kp e => fin its r' hz h' c' kp e) (by simp only [List.size_toArray] <;> omega)
  · obtain ⟨its, r', pl, hz⟩ := I.tuple hq
    have hlen := r'.length
    obtain ⟨o, ho, hc, n, hd⟩ := pl
    exact call_list_seq p (.inr rfl) ho hc hd (fun h' c' kp e => fin its r' hz h' c' kp e) (by simp only [List.size_toArray] <;> omega)
theorem call_tuple_of : CallR X (.type "tuple") (fun xs H Q => ∃ p ys, xs = [.ref p] ∧ ((SqL X.K H p ys ∧ ∀ l, H l = none → Q (.ref l) (upd H l (.tup ys))) ∨ (SqT X.K H p ys ∧ Q (.ref p) H))) := by
  intro pins s σ H xs us Q I r h
  obtain ⟨p, ys, rfl, h⟩ := h
  obtain ⟨u, rfl, rx⟩ := vals1 r
  cases rx
  rcases h with ⟨hq, q⟩ | ⟨hq, q⟩
  · obtain ⟨its, r', pl, hz⟩ := I.list hq
    have hlen := r'.length
    refine call_tuple_list pl.isList (fun h' kp => ?_) (by simp only [List.size_toArray] <;> omega)
    have I1 : Inv X pins σ H { s with heap := h' } := I.kept (t' := s.toks) kp
    have I2 : Inv X pins σ (upd H h'.objs.size (.tup ys)) { s with heap := h'.push { cls := .type "tuple", data := .seq its.toArray } } :=
      I1.laid (t' := s.toks) (fun b o e => Heap.get?_push_of_some _ e) (Nat.le_refl _) (show ObjOk X.prog X.w _ _ _ (.tup ys) from ⟨hz, its, r', IsTup.new _ _⟩)
    exact ⟨.ref h'.objs.size, _, I2, rfl, q _ (I1.hok.fresh (Nat.le_refl _))⟩
  · obtain ⟨its, r', pl, hz⟩ := I.tuple hq
    exact call_tuple_same pl ⟨.ref p, H, I, rfl, q⟩
def tyV (K : PySem.W.Frag) (T : String) (x : V) (H : Hp) : Prop := match x with
  | .str _ => T = "str"
  | .int _ => T = "int"
  | .ref p => (T = "list" ∧ ∃ xs, SqL K H p xs) ∨ (T = "tuple" ∧ ∃ o, K.lookup p = some o ∧ o.cls = .type "tuple" ∧ o.dict = none) ∨
      (T = "dict" ∧ ((∃ kvs, H p = some (.dK kvs)) ∨ ∃ kvs, H p = some (.dT kvs))) ∨ (T = "set" ∧ ∃ S n, H p = some (.set S n))
  | _ => False
theorem tyV_is {pins : List (Addr × Obj)} {σ : St} {H : Hp} {s : Shared} {T : String} {x : V} {v : Value} (I : Inv X pins σ H s) (r : RelV x v) (ty : tyV X.K T x H) :
    s.TypeIs v T ∧ ∀ a, v = .ref a → ∃ ob, s.heap.get? a = some ob ∧ ob.dict = none := by
  cases x with
  | str z =>
    obtain ⟨t, rfl⟩ := r
    cases (show T = "str" from ty)
    exact ⟨typeIs_str s z t, fun _ e => nomatch e⟩
  | int i =>
    obtain ⟨t, rfl⟩ := r
    cases (show T = "int" from ty)
    exact ⟨typeIs_int s i t, fun _ e => nomatch e⟩
  | ref p =>
    cases r
    rcases ty with ⟨rfl, xs, hq⟩ | ⟨rfl, o, hk, hc, hd⟩ | ⟨rfl, hk⟩ | ⟨rfl, S, n, hk⟩
    · obtain ⟨its, _, pl, _⟩ := I.list hq
      refine ⟨pl.isList.typeIs, fun a e => ?_⟩
      cases e
      obtain ⟨o, n, e, c, hd, _⟩ := pl
      exact ⟨o, e, hd⟩
    · refine ⟨⟨o, I.kIn p o hk, hc⟩, fun a e => ?_⟩
      cases e
      exact ⟨o, I.kIn _ o hk, hd⟩
    · have z : ∃ o, s.heap.get? p = some o ∧ o.ExactDict := by
        rcases hk with ⟨kvs, hk⟩ | ⟨kvs, hk⟩
        · obtain ⟨_, _, _, _, o, _, _, e, ex, _⟩ := I.hok p _ hk
          exact ⟨o, e, ex⟩
        · obtain ⟨_, _, _, _, o, _, _, e, ex, _⟩ := I.hok p _ hk
          exact ⟨o, e, ex⟩
      obtain ⟨o, e, ex⟩ := z
      refine ⟨⟨o, e, ex.1⟩, fun a e2 => ?_⟩
      cases e2
      exact ⟨o, e, ex.2.1⟩
    · obtain ⟨o, _, _, _, e, ex, _⟩ := I.hok p _ hk
      refine ⟨⟨o, e, ex.1⟩, fun a e2 => ?_⟩
      cases e2
      exact ⟨o, e, ex.2.1⟩
  | _ => exact False.elim ty
def tBM0 (K : PySem.W.Frag) (T : String) (r : V → List V → Hp → VK → Prop) (to : TE) : TE := fun σ H Q => to σ H fun x H1 => tyV K T x H1 ∧ r x [] H1 Q
def tBM (K : PySem.W.Frag) (T : String) (r : V → List V → Hp → VK → Prop) (to : TE) (t : TA) : TE := fun σ H Q => to σ H fun x H1 => tyV K T x H1 ∧ t σ H1 fun xs H2 => r x xs H2 Q
variable {o e : Expr} {es : List Expr} {to : TE} {t : TA} {name : Str} {apos cpos : Pos} {T id : String} {r : V → List V → Hp → VK → Prop}
theorem pe_bm0 (pa : PlainAttrs T) (slot : Slot T name id) (hty : typeOf (.builtin id) = pure (.type "method_descriptor")) (hm : MtR X id r) (ho : PE X o to)
    (hbase : attributeBase o name X.env (eval o X.env) = eval o X.env := by rfl) (hline : (apos.endLine == cpos.line) = true := by rfl) : PE X (.Call (.Attribute o name apos) [] [] cpos) (tBM0 X.K T r to) := by
  intro pins s σ H Q I h
  refine wpAny_Call_method0_late hbase hline (thn (ho pins s σ H _ I h) fun v s1 ⟨x, H1, I1, r1, ty, q1⟩ => ?_)
  obtain ⟨h1, h2⟩ := tyV_is I1 r1 ty
  exact ⟨T, id, pa, slot, hty, h1, h2, Calls.callWith_builtin rfl (PySem.evalArgs_none (hm pins s1 σ H1 x [] v [] Q I1 r1 .nil q1))⟩
theorem pe_bm (pa : PlainAttrs T) (slot : Slot T name id) (hty : typeOf (.builtin id) = pure (.type "method_descriptor")) (hm : MtR X id r) (ho : PE X o to) (ha : PA X (e :: es) t)
    (hbase : attributeBase o name X.env (eval o X.env) = eval o X.env := by rfl)
    (hfew : ((backTo cpos (starEach (e :: es) X.env)).all (fun x => !x.1) && (backToKw cpos (keywordEach [] X.env)).all (fun x => x.1.isSome)
      && decide ((e :: es).length + ([] : List Keyword).length + (if ([] : List Keyword).isEmpty then 0 else 1) < 30)) = true := by rfl)
    (hline : (apos.endLine == cpos.line) = true := by rfl) (hs : starEach (e :: es) X.env = (false, eval e X.env) :: starEach es X.env := by rfl) (hplain : (backTo cpos (starEach es X.env)).any (·.1) = false := by rfl) :
    PE X (.Call (.Attribute o name apos) (e :: es) [] cpos) (tBM X.K T r to t) := by
  intro pins s σ H Q I h
  refine wpAny_Call_method_late hbase hfew hline rfl (thn (ho pins s σ H _ I h) fun v s1 ⟨x, H1, I1, r1, ty, q1⟩ => ?_)
  obtain ⟨h1, h2⟩ := tyV_is I1 r1 ty
  refine ⟨T, id, pa, slot, hty, h1, h2, ?_⟩
  have hA := ha cpos pins s1 σ H1 _ I1 q1
  rw [hs] at hA ⊢
  refine Calls.callWith_builtin (by show (false || (backTo cpos (starEach es X.env)).any (·.1)) = false; rw [hplain] <;> rfl) (Calls.evalArgs_plain ?_)
  exact thn hA fun us s2 ⟨vs, H2, I2, r2, q2⟩ => hm pins s2 σ H2 x vs v us Q I2 r1 r2 q2
end
end L2
namespace L2
open PySem PySem.Spec PyProof.Rows
def MtM (X : Cx) (id : String) (r : V → List V → Hp → VK → Prop) : Prop :=
  ∀ (pins : List (Addr × Obj)) (s : Shared) (σ : St) (H : Hp) (x : V) (xs : List V) (v : Value) (us : List Value) (Q : VK), Inv X pins σ H s → RelV x v → Vals xs us → r x xs H Q →
    wpAny (model X.prog X.w) X.A (call (.builtin id) (v :: us)) (EP X pins σ Q) X.xe s
theorem Vals.one : ∀ {x : V} {us : List Value}, Vals [x] us → ∃ u, us = [u] ∧ RelV x u
  | _, _, .cons r .nil => ⟨_, rfl, r⟩
theorem Vals.zero : ∀ {us : List Value}, Vals [] us → us = []
  | _, .nil => rfl
theorem Vals.dropLast {xs : List V} {us : List Value} (h : Vals xs us) : Vals xs.dropLast us.dropLast := by
  induction h with
  | nil => exact .nil
  | cons r t ih =>
    cases t with
    | nil => exact .nil
    | cons q t' => exact .cons r ih
theorem Vals.eraseIdx : ∀ {xs : List V} {us : List Value} (i : Nat), Vals xs us → Vals (xs.eraseIdx i) (us.eraseIdx i)
  | _, _, _, .nil => .nil
  | _, _, 0, .cons _ t => t
  | _, _, i + 1, .cons r t => .cons r (Vals.eraseIdx i t)
theorem Vals.reverse {xs : List V} {us : List Value} (h : Vals xs us) : Vals xs.reverse us.reverse := by
  induction h with
  | nil => exact .nil
  | cons r t ih => rw [List.reverse_cons, List.reverse_cons]; exact Vals.append ih (.cons r .nil)
theorem Vals.rep {xs : List V} {us : List Value} (h : Vals xs us) : ∀ k : Nat, Vals (List.replicate k xs).flatten (List.replicate k us).flatten
  | 0 => .nil
  | k + 1 => by
    rw [List.replicate_succ, List.replicate_succ, List.flatten_cons, List.flatten_cons]
    exact Vals.append h (Vals.rep h k)
theorem erase_last {α : Type} (l : List α) : l.eraseIdx (l.length - 1) = l.dropLast := by
  induction l with
  | nil => rfl
  | cons a r ih =>
    cases r with
    | nil => rfl
    | cons b r =>
      have e : (a :: b :: r).length - 1 = ((b :: r).length - 1) + 1 := by
        have h1 : (a :: b :: r).length = r.length + 2 := rfl
        have h2 : (b :: r).length = r.length + 1 := rfl
        omega
      rw [e, List.eraseIdx_cons_succ, ih]
      all_goals rfl
theorem foldl_rep (its : List Value) : ∀ (k : Nat) (acc : List Value),
    List.foldl (fun x1 x2 => x1 ++ x2) acc.toArray (List.replicate k its.toArray) = (acc ++ (List.replicate k its).flatten).toArray
  | 0, acc => by simp
  | k + 1, acc => by
    have e : acc.toArray ++ its.toArray = (acc ++ its).toArray := by simp
    have e2 : (acc ++ its) ++ (List.replicate k its).flatten = acc ++ (List.replicate (k + 1) its).flatten := by
      rw [List.replicate_succ, List.flatten_cons, List.append_assoc]
    rw [← e2, ← foldl_rep its k (acc ++ its), ← e, List.replicate_succ, List.foldl_cons]
section
variable {X : Cx} {pins : List (Addr × Obj)} {σ : St} {H : Hp} {s : Shared} {l b : Addr} {xs ys zs : List V}
theorem Inv.lset {its its' : List Value} {n : Nat} {f : Array Value → Array Value} {t' : Nat} (I : Inv X pins σ H s) (hH : H l = some (.lst xs))
    (e : s.heap.get? l = some { cls := .type "list", data := .seq its.toArray n }) (hf : f its.toArray = its'.toArray) (hv : Vals ys its') (hz : ys.length ≤ sizeLine) :
    Inv X pins σ (upd H l (.lst ys)) { s with heap := s.heap.update l (Obj.mapSeq f), toks := t' } := by
  have q := PySem.IsL.update e f
  rw [hf] at q
  refine I.write (x := l) (e := l) (by rw [hH]; exact trivial) (.inl rfl) (fun b' u hb hu => (Heap.get?_update_other s.heap (Obj.mapSeq f) (Ne.symm hb)).trans hu) ⟨_, q⟩ ?_
  exact ⟨hz, its', _, hv, q⟩
theorem Inv.lnew {its : List Value} {t' : Nat} (I : Inv X pins σ H s) (hv : Vals ys its) (hz : ys.length ≤ sizeLine) :
    Inv X pins σ (upd H s.heap.objs.size (.lst ys)) { s with heap := s.heap.push { cls := .type "list", data := .seq its.toArray }, toks := t' } :=
  I.laid (fun _ _ q => Heap.get?_push_of_some _ q) (Nat.le_refl _) ⟨hz, its, 0, hv, Heap.get?_push_size _ rfl⟩
theorem Inv.fresh (I : Inv X pins σ H s) : H s.heap.objs.size = none := I.hok.fresh (Nat.le_refl _)
theorem Inv.lstM (I : Inv X pins σ H s) (hH : H l = some (.lst xs)) : xs.length ≤ sizeLine ∧ ∃ (its : List Value) (n : Nat), Vals xs its ∧ xs.length = its.length ∧ s.heap.get? l = some { cls := .type "list", data := .seq its.toArray n } := by
  obtain ⟨z, its, n, r, e⟩ := I.hok l _ hH
  exact ⟨z, its, n, r, r.length, e⟩
theorem notLongL {n : Nat} (h : n ≤ sizeLine) : Builtin.List.listTooLong n = false := by
  unfold Builtin.List.listTooLong
  exact decide_eq_false (by omega)
end
section
variable {X : Cx}
def rAppend : V → List V → Hp → VK → Prop := fun x vs H Q => ∃ l xs y, x = .ref l ∧ vs = [y] ∧ H l = some (.lst xs) ∧ xs.length < sizeLine ∧ Q .non (upd H l (.lst (xs ++ [y])))
theorem mt_append : MtM X "list.append" rAppend := by
  intro pins s σ H x vs v us Q I rx rv h
  obtain ⟨l, xs, y, rfl, rfl, hH, hz, q⟩ := h
  cases rx
  obtain ⟨u, rfl, ru⟩ := rv.one
  obtain ⟨z, its, n, r, hl, e⟩ := I.lstM hH
  refine call_meets F.slot_list_append ⟨_, e, rfl⟩ F.entry_list_append (F.args_list_append_2 _ _) (PySem.list_append l its.toArray n u (by rw [List.size_toArray]; omega)) ⟨e, ?_⟩
  refine ⟨.non, _, I.lset (its' := its ++ [u]) hH e (by simp) (r.append (.cons ru .nil)) ?_, rfl, q⟩
  rw [List.length_append, List.length_singleton]
  omega
def rExtend : V → List V → Hp → VK → Prop := fun x vs H Q => ∃ l b xs zs, x = .ref l ∧ vs = [.ref b] ∧ H l = some (.lst xs) ∧ H b = some (.lst zs) ∧ xs.length + zs.length ≤ sizeLine ∧ Q .non (upd H l (.lst (xs ++ zs)))
theorem mt_extend : MtM X "list.extend" rExtend := by
  intro pins s σ H x vs v us Q I rx rv h
  obtain ⟨l, b, xs, zs, rfl, rfl, hH, hB, hz, q⟩ := h
  cases rx
  obtain ⟨u, rfl, ru⟩ := rv.one
  cases ru
  obtain ⟨z, its, n, r, hl, e⟩ := I.lstM hH
  obtain ⟨z2, its2, n2, r2, hl2, e2⟩ := I.lstM hB
  have hsz : its.toArray.size + its2.toArray.size ≤ sizeLine := by rw [List.size_toArray, List.size_toArray]; omega
  have hlong : ¬ (!its.toArray.isEmpty && Builtin.List.listTooLong (its.toArray.size + its2.toArray.size)) = true := by
    rw [notLongL hsz, Bool.and_false]
    exact Bool.false_ne_true
  refine call_meets F.slot_list_extend ⟨_, e, rfl⟩ F.entry_list_extend (F.args_list_extend_2 _ _)
    (AutoSeq1.list_extend_list_list_0 l its.toArray n b its2.toArray n2 hlong (by rw [List.size_toArray]; omega) (by omega)) ⟨e, e2, ?_⟩
  refine ⟨.non, _, I.lset (its' := its ++ its2) hH e (by simp) (r.append r2) ?_, rfl, q⟩
  rw [List.length_append]
  omega
def rPop : V → List V → Hp → VK → Prop := fun x vs H Q => ∃ l xs y, x = .ref l ∧ vs = [] ∧ H l = some (.lst xs) ∧ xs[xs.length - 1]? = some y ∧ Q y (upd H l (.lst xs.dropLast))
theorem mt_pop : MtM X "list.pop" rPop := by
  intro pins s σ H x vs v us Q I rx rv h
  obtain ⟨l, xs, y, rfl, rfl, hH, hy, q⟩ := h
  cases rx
  have hus := rv.zero
  subst hus
  obtain ⟨z, its, n, r, hl, e⟩ := I.lstM hH
  obtain ⟨u, hu, ru⟩ := r.get hy
  have hy' : its.toArray[its.toArray.size - 1]? = some u := by
    show its.toArray[its.length - 1]? = some u
    rw [← Array.getElem?_toList, ← hl]
    exact hu
  refine call_meets F.slot_list_pop ⟨_, e, rfl⟩ F.entry_list_pop (F.args_list_pop_1 _) (MeetsSeq.list_pop_last l its.toArray n u hy' (by rw [List.size_toArray]; omega)) ⟨e, ?_⟩
  refine ⟨y, _, I.lset (its' := its.dropLast) hH e ?_ r.dropLast ?_, ru, q⟩
  · show its.toArray.eraseIdxIfInBounds (its.toArray.size - 1) = its.dropLast.toArray
    rw [List.size_toArray, List.eraseIdxIfInBounds_toArray, erase_last]
  · rw [List.length_dropLast]
    omega
def rRep : R2 := fun x y H Q => ∃ l k xs, x = .ref l ∧ y = .int k ∧ H l = some (.lst xs) ∧ -(2 ^ 63) ≤ k ∧ k < 2 ^ 63 ∧ xs.length * k.toNat ≤ sizeLine ∧
  ∀ p, H p = none → Q (.ref p) (upd H p (.lst (List.replicate k.toNat xs).flatten))
theorem len_rep {α : Type} (xs : List α) (k : Nat) : (List.replicate k xs).flatten.length = k * xs.length := by
  induction k with
  | zero => simp
  | succ k ih => rw [List.replicate_succ, List.flatten_cons, List.length_append, ih, Nat.succ_mul, Nat.add_comm]
theorem op_rep : OpR X (binaryOp .Mult) rRep := by
  intro pins s σ H x y v u Q I rx ry h
  obtain ⟨l, k, xs, rfl, rfl, hH, h1, h2, hz, q⟩ := h
  cases rx
  obtain ⟨t, rfl⟩ := ry
  obtain ⟨z, its, n, r, hl, e⟩ := I.lstM hH
  have hlen : its.toArray.size * k.toNat ≤ sizeLine := by rw [List.size_toArray, ← hl]; exact hz
  have hcap : ¬ its.toArray.size * k.toNat > (2 ^ 63 - 1) / 8 := by
    have : (sizeLine : Nat) ≤ (2 ^ 63 - 1) / 8 := by decide
    omega
  have hfit : ¬ (!Builtin.List.listFitsIndex k) = true := by
    rw [fitsIndex_both h1 h2]
    exact Bool.false_ne_true
  have hlong : ¬ Builtin.List.listTooLong (its.toArray.size * k.toNat) = true := by
    rw [notLongL hlen]
    exact Bool.false_ne_true
  have hnew : List.foldl (fun x1 x2 => x1 ++ x2) #[] (List.replicate (if its.toArray.isEmpty = true then 0 else k.toNat) its.toArray) = (List.replicate k.toNat its).flatten.toArray := by
    have f0 : ∀ m : Nat, List.foldl (fun x1 x2 => x1 ++ x2) #[] (List.replicate m its.toArray) = (List.replicate m its).flatten.toArray := fun m => by
      have := foldl_rep its m []
      rw [List.nil_append] at this
      exact this
    rw [f0]
    cases its with
    | nil => simp
    | cons a r' => rw [if_neg (by simp)]
  refine wpAny_binaryOp_repeat_ref (T := "list") (U := "int") (by decide) ⟨_, e, rfl⟩ (fun s' => typeIs_int s' k t) noFill_list_mul F.fills_int_mul F.slot_int_rmul repeat_list F.slot_int_index.lookup
    (call_meets F.slot_int_rmul (typeIs_int s k t) F.entry_int_rmul (F.args_int_rmul_2 _ _) (int___rmul___int_list k t l its.toArray n)
      ⟨e, rfl, ⟨_, e, rfl⟩, call_meets F.slot_list_mul ⟨_, e, rfl⟩ F.entry_list_mul (F.args_list_mul_2 _ _) (AutoListH.list___mul___list_int_3 l its.toArray n k t hfit hcap hlong) ⟨e, ?_⟩⟩)
  rw [hnew]
  exact ⟨.ref _, _, I.lnew (t' := s.toks) (r.rep k.toNat) (by rw [len_rep, Nat.mul_comm]; exact hz), rfl, q _ I.fresh⟩
end
section
variable {prog : Program} {w : World} {A : Around} {E : Value → Shared → Prop} {s : Shared}
end
section
variable {X : Cx}
end
end L2
namespace Att
open PySem PySem.W PySem.Calls PyProof.Rows
theorem ints_of_wellAll {P : Params} {h : Heap} : ∀ (ns : List Int) (vs : List Value), WellAll P h vs (ns.map WData.int) → IntsAre vs ns := by
  intro ns
  induction ns with
  | nil =>
    intro vs w
    rw [List.map_nil] at w
    cases w
    exact .nil
  | cons n ns ih =>
    intro vs w
    rw [List.map_cons] at w
    cases w with
    | cons a b =>
      cases a
      exact .cons _ _ (ih _ b)
theorem script_of {l : OpenLaw} {n : Nat} (hn : l.most = some n) {P : Params} {h : Heap} {args : List WData} {vals : List Value}
    (hpre : l.row.toRowW.claim.pre args = true) (hwl : WellAll P h vals args) :
    ∃ a vs ns, vals = [Value.ref a] ∧ args = [WData.list (ns.map WData.int)] ∧ h.get? a = some { cls := .type "list", data := .seq vs.toArray } ∧ IntsAre vs ns ∧ ns.length ≤ n := by
  have hsh : WShape.hasAll [] args [.list .int] = true := (pre_splitW hpre).1
  have hc : l.pre.holds [] { args := args } = true := (pre_splitW hpre).2
  obtain ⟨d, r, rfl, h1, h2⟩ := hasAllW_cons hsh
  obtain rfl := hasAllW_nil h2
  obtain ⟨xs, rfl, h3⟩ := hasW_list h1
  obtain ⟨ns, rfl⟩ := items_int h3
  have hlen : ns.length ≤ n := by
    unfold OpenLaw.pre at hc
    have h4 : (WTm.not (.lt (.lit (.int (n : Int))) (.len (.arg 0)))).holds [] { args := [.list (ns.map .int)] } = true := by
      have h4 := (holds_andW hc).1
      rw [hn] at h4
      exact h4
    have h5 := condW_of h4 (w_not (w_lt w_lit (w_len_list (w_arg rfl))))
    rw [List.length_map] at h5
    refine Nat.le_of_not_lt fun q => ?_
    have q' : (n : Int) < ((ns.length : Nat) : Int) := by omega
    first
      | (rw [decide_eq_true q'] at h5; exact absurd h5 (by decide))
      | (simp at h5; omega)
  cases hwl with
  | cons w1 w2 =>
    cases w2
    cases w1 with
    | list ho hall => exact ⟨_, _, ns, rfl, rfl, ho, ints_of_wellAll ns _ hall, hlen⟩
theorem post_true (l : OpenLaw) (args : List WData) : l.row.toRowW.claim.post args (.bool true) args = true :=
  postW_of (r := l.row.toRowW) (X := (true == true))
    (show WShape.has [] (.bool true) .bool = true by first | rfl | decide | simp [WShape.has, WShape.arms, WShape.armsAll])
    (show (WTm.eq .res (.lit (.bool true))).value [] { args := args, res := some (.bool true), after := args } = some (.bool (true == true)) from w_eq_bool (w_res rfl) w_lit) rfl
theorem attach_call {l : OpenLaw} {n : Nat} {q : Program} {loose : List Str} {XP : (Str → Option Value) → Heap → Prop} {YP : World → Heap → Prop} {d : DefRec}
    (hn : l.most = some n) (hdf : d.params.defaults = [])
    (call : ∀ (w : World) (s₀ s₁ : Shared) (mg mb : Str → Option Value) (fa : Addr) (o : Obj) (pm cd doc : Value) (a : Addr) (vs : List Value) (ns : List Int),
      Ground q loose [] XP w s₀ mg mb s₁.heap → YP w s₁.heap →
      s₁.heap.get? fa = some o → o.data = .func (docDef d.name d.params d.body d.scope pm cd doc) → s₁.heap.CodeRec cd d.name → mg d.name = some (.ref fa) →
      s₁.heap.get? a = some { cls := .type "list", data := .seq vs.toArray } → IntsAre vs ns → ns.length ≤ n → s₁.gens = #[] →
      codeAny (model l.prog w) callerA (.call (.ref fa) ⟨[.ref a], []⟩) (fun r s' => r = .ok (.ret (.bool true)) ∧ OldK s₁.heap s'.heap ∧ s'.os = s₁.os ∧ AllBare s'.gens) s₁) :
    WalkO q loose XP YP l.row.toRowW d [] (fun f vs => PySem.call f vs) := by
  intro w s₀ s₁ mg mb G Y fa o pm cd doc dV kV ho hd hcd hD hmg hg args vals as hpre hlay hrd hwl hlo
  obtain rfl : dV = .none := Dflts.none hD hdf
  obtain rfl : kV = .none := Dflts.noKw hD
  obtain ⟨a, vs, ns, rfl, rfl, hobj, hints, hlen⟩ := script_of hn hpre hwl
  refine enter_call (codeAny_mono (call w s₀ s₁ mg mb fa o pm cd doc a vs ns G Y ho (fd_plain hd) hcd hmg hobj hints hlen hg) fun r s' hq => ?_)
  obtain ⟨rfl, h2, h3, h4⟩ := hq
  exact ⟨.inl ⟨.bool true, .bool true, [], rfl, fun _ => rfl, .bool true, post_true l _, fun _ => ⟨List.Pairwise.nil, fun _ hm => (nomatch hm)⟩⟩, h2, h3, h4⟩
section
variable {prog : Program} {w : World} {A : Around} {E : Value → Shared → Prop} {s : Shared} {K : Frag}
end
end Att
namespace L2
open PySem PySem.Spec PyProof.Rows
theorem vals_ints : ∀ {vs : List Value} {ns : List Int}, IntsAre vs ns → Vals (ns.map V.int) vs
  | _, _, .nil => .nil
  | _, _, .cons n t h => .cons ⟨t, rfl⟩ (vals_ints h)
def Only (H : Hp) : Prop := ∀ b, H b = none ∨ ∃ o xs, H b = some (.frz o (.lst xs))
theorem law_call {P : Program} {w : World} {K : PySem.W.Frag} {mg mb : Str → Option Value} {CX : CXT} {k : Nat} {fa a : Addr} {fd : FuncData} {x : Str} {sp : Sp} {s₁ : Shared} {vs : List Value} {ns : List Int}
    (KX : K.In s₁.heap) (hns : s₁.heap.Ns mainGlobals mg) (hb : s₁.heap.Ns builtinsNs mb) (hbb : ∀ x : Str, x ≠ "__name__" → mb x = bootBuiltins x) (hlim : s₁.heap.NoLimit) (hg : s₁.gens = #[])
    (ha : s₁.heap.get? a = some { cls := .type "list", data := .seq vs.toArray }) (hi : IntsAre vs ns) (hl : ns.length ≤ sizeLine) (hr : Room k callerA)
    (F : ∀ base : Heap, K.In base → base.Ns mainGlobals mg → FnOk P w K mg base CX k fa fd [x] sp) (hbind : ∀ (s : Shared) (u : Value), BindsTo s fd ⟨[u], []⟩ [(x, u)])
    (hsp : ∀ H : Hp, Only H → SqL K H a (ns.map V.int) → sp [.ref a] H (fun v _ => v = .bl true) fun _ _ _ => False)
    (hCX : ∀ H e s', CX [] H s₁ (fun _ _ _ => False) e s' → False) :
    codeAny (model P w) callerA (.call (.ref fa) ⟨[.ref a], []⟩) (fun r s' => r = .ok (.ret (.bool true)) ∧ OldK s₁.heap s'.heap ∧ s'.os = s₁.os ∧ AllBare s'.gens) s₁ := by
  have rv := vals_ints hi
  have lenV := hi.length
  have core : ∀ H : Hp, Only H → SqL K H a (ns.map V.int) → HOk P w H s₁.heap → (∀ b, H b ≠ none → b = a) → (H a ≠ none → K.lookup a = none) →
      codeAny (model P w) callerA (.call (.ref fa) ⟨[.ref a], []⟩) (fun r s' => r = .ok (.ret (.bool true)) ∧ OldK s₁.heap s'.heap ∧ s'.os = s₁.os ∧ AllBare s'.gens) s₁ := by
    intro H hO hS hok hA hK
    have base_of : ∀ {b : Addr} {o : Obj}, s₁.heap.get? b = some o → H b = none → (hidT s₁.heap H).get? b = some o := fun e n => hidT_get e n
    have noA : ∀ {b : Addr} {o : Obj} {es : Array DictEntry} {ep : Nat}, s₁.heap.get? b = some o → o.data = .dict es ep → H b = none := fun {b o es ep} e d => by
      cases q : H b with
      | none => rfl
      | some u =>
        have e' : b = a := hA b (by rw [q]; simp)
        subst e'
        rw [ha] at e; cases e
        have d' : Data.seq vs.toArray _ = Data.dict es ep := d
        cases d'
    have nsK : ∀ {b : Addr} {m : Str → Option Value}, s₁.heap.Ns b m → (hidT s₁.heap H).Ns b m := fun {b m} ⟨o, es, ep, e, d, r⟩ => ⟨o, es, ep, base_of e (noA e d), d, r⟩
    have hKb : K.In (hidT s₁.heap H) := fun b o e => base_of (KX b o e) (by
      cases q : H b with
      | none => rfl
      | some u =>
        have e' : b = a := hA b (by rw [q]; simp)
        subst e'
        rw [hK (by rw [q]; simp)] at e; cases e)
    have hM : Mod K mg (hidT s₁.heap H) := ⟨hKb, nsK hns, ⟨mb, nsK hb, hbb⟩, let ⟨mc, h1, h2⟩ := hlim; ⟨mc, nsK h1, h2⟩⟩
    have e0 : Env0 P w K mg (hidT s₁.heap H) callerA [] s₁ H := ⟨rfl, hM, fun b o e => of_hidT e, Nat.le_of_eq (hidT_size _ _), trivial, fun b hb => absurd (show b ∈ ([] : List Addr) from hb) (by simp), hok, .of_eq hg⟩
    refine codeAny_mono ((F _ hKb (nsK hns)).run callerA [] s₁ H ⟨[.ref a], []⟩ [.ref a] [.ref a] _ _ hr e0 (hbind s₁ (.ref a)) (.cons rfl .nil) (hsp H hO hS)) fun r s' h => ?_
    cases r with
    | error e => exact (hCX H e s' h).elim
    | ok fl =>
      cases fl with
      | next => exact False.elim h
      | brk => exact False.elim h
      | cont => exact False.elim h
      | ret u =>
        obtain ⟨v, H', os, bare, un, hok', r', q⟩ := h
        have q' : v = .bl true := q
        subst q'
        obtain rfl : u = Value.bool true := r'
        refine ⟨rfl, OldK.of_keep fun b o e => ?_, os, bare⟩
        cases q : H b with
        | none => exact un.keep b o e q (by intro z; exact absurd (show b ∈ ([] : List Addr) from z) (by simp)) (by simp)
        | some u =>
          rcases hO b with z | ⟨ob, xs, z⟩
          · rw [q] at z; cases z
          · have z2 := un.frzs b ob _ z
            obtain ⟨e1, _⟩ := hok b _ z
            obtain ⟨e2, _⟩ := hok' b _ z2
            rw [e] at e1; cases e1
            exact e2
  cases hk : K.lookup a with
  | some o =>
    have e := KX a o hk
    rw [ha] at e
    cases e
    refine core (fun _ => none) (fun _ => .inl rfl) (.inr ⟨_, vs.toArray, _, hk, rfl, rfl, rfl, by rw [List.size_toArray, lenV]; exact hl, by simpa using rv⟩) (fun b u z => by have z' : (none : Option HO) = some u := z; cases z') (fun b z => absurd rfl z) fun z => absurd rfl z
  | none =>
    refine core (fun b => if b = a then some (.frz { cls := .type "list", data := .seq vs.toArray } (.lst (ns.map V.int))) else none) (fun b => ?_) (.inl (.inr ⟨{ cls := .type "list", data := .seq vs.toArray }, if_pos rfl⟩)) (fun b u z => ?_) (fun b z => ?_) fun _ => hk
    · by_cases hb : b = a
      · exact .inr ⟨_, _, if_pos hb⟩
      · exact .inl (if_neg hb)
    · by_cases hb : b = a
      · have z' := (if_pos hb).symm.trans z
        cases z'
        subst hb
        exact ⟨ha, by rw [List.length_map]; exact hl, vs, _, rv, ha⟩
      · have z' := (if_neg hb).symm.trans z
        cases z'
    · by_cases hb : b = a
      · exact hb
      · exact absurd (if_neg hb) z
end L2
namespace L2
open PySem PySem.Spec PyProof.Rows
theorem walk_of {l : PySem.W.OpenLaw} {n k : Nat} {q : Program} {loose : List Str} {XP : (Str → Option Value) → Heap → Prop} {YP : World → Heap → Prop} {d : DefRec} {K : Params → PySem.W.Frag} {CX : World → CXT} {sp : World → Sp} {x : Str}
    (hn : l.most = some n) (hn2 : n ≤ sizeLine) (hdf : d.params.defaults = []) (hr : Room k callerA)
    (hY : ∀ (w : World) (h : Heap), YP w h → (K w.params).In h)
    (F : ∀ (w : World) (mg : Str → Option Value) (fa : Addr) (h : Heap), (K w.params).In h → h.Ns mainGlobals mg → mg d.name = some (.ref fa) →
      ∃ fd : FuncData, (∀ (s : Shared) (u : Value), BindsTo s fd ⟨[u], []⟩ [(x, u)]) ∧
        ∀ base : Heap, (K w.params).In base → base.Ns mainGlobals mg → FnOk l.prog w (K w.params) mg base (CX w) k fa fd [x] (sp w))
    (hsp : ∀ (w : World) (H : Hp) (a : Addr) (ns : List Int), ns.length ≤ n → Only H → SqL (K w.params) H a (ns.map V.int) → sp w [.ref a] H (fun v _ => v = .bl true) fun _ _ _ => False)
    (hCX : ∀ (w : World) (H : Hp) (s : Shared) (e : Value) (s' : Shared), CX w [] H s (fun _ _ _ => False) e s' → False) :
    PySem.W.WalkO q loose XP YP l.row.toRowW d [] (fun f vs => PySem.call f vs) := by
  refine Att.attach_call hn hdf fun w s₀ s₁ mg mb fa o pm cd doc a vs ns G Y ho hd hcd hmg hobj hints hlen hg => ?_
  have KX := hY w _ Y
  obtain ⟨fd, hb, hF⟩ := F w mg fa _ KX G.T.g hmg
  exact law_call KX G.T.g G.T.b G.T.builtins G.T.nolimit hg hobj hints (Nat.le_trans hlen hn2) hr hF hb (fun H hO hS => hsp w H a ns hlen hO hS) fun H e s' => hCX w H s₁ e s'
end L2
namespace L2
open PySem PySem.Spec PyProof.Rows
def defArgs (s : Stmt) : Arguments := match s with
  | .FunctionDef _ a _ _ _ _ _ _ _ _ => a
  | _ => { posonlyargs := [], args := [], vararg := none, kwonlyargs := [], kw_defaults := [], kwarg := none, defaults := [] }
def defBody (s : Stmt) : List Stmt := match s with
  | .FunctionDef _ _ b _ _ _ _ _ _ _ => b
  | _ => []
def defScope (s : Stmt) : Scope := match s with
  | .FunctionDef _ _ _ _ _ _ sc _ _ _ => sc
  | _ => { kind := .function, names := [], isGenerator := false, isCoroutine := false }
abbrev CX0 : CXT := fun _ _ _ _ _ _ => False
structure Fun (K : PySem.W.Frag) (x qual : Str) (st : Stmt) (f : Addr) (fd : FuncData) : Prop where
  ex : ∃ (oc : Value) (od : Option Addr) (kV doc pm : Value) (an : Option Addr) (cdv ct : Value) (osl : Array (Option Value)),
    fd = PySem.W.fnOf x qual (defArgs st) (defBody st) (defScope st) .none kV doc pm an cdv ct ∧ K.lookup f = some ⟨oc, od, .func fd, osl⟩ ∧ PySem.W.codeIn K cdv qual = true
  kp : PySem.W.keepIn K (.ref f) = true
section
variable {P : Program} {w : World} {K : PySem.W.Frag} {mg : Str → Option Value} {base : Heap}
theorem Fun.ok {x qual : Str} {st : Stmt} {f : Addr} {fd : FuncData} {N ps : List Str} {k : Nat} {sp : Sp} (F : Fun K x qual st f fd) (S : FnScope N ps (defScope st)) (len : ∀ vs H Q E, sp vs H Q E → vs.length = ps.length)
    (hbody : ∀ (cdv : Value) (A : Around) (outer : List Env) (s : Shared) (H : Hp) (vs : List V) (Q : VK) (E : XK), Room k (A.deeper (envOfC qual (defScope st) s.heap.objs.size f cdv)) → sp vs H Q E →
      ∃ t, PSs (cxOf CX0 P w K mg base N qual (defScope st) f cdv A outer s H E).nox (defBody st) t ∧ t { nx := fun _ H' => Q .non H', rt := Q } (start N vs) H) : FnOk P w K mg base CX0 (k + 1) f fd ps sp := by
  obtain ⟨oc, od, kV, doc, pm, an, cdv, ct, osl, rfl, lk, hcd⟩ := F.ex
  refine fn_of lk hcd S len fun A outer s H vs Q E hr hsp => ?_
  obtain ⟨t, h, q⟩ := hbody cdv A outer s H vs Q E hr hsp
  exact ⟨t, h.nox, q⟩
theorem Fun.binds {x qual : Str} {st : Stmt} {f : Addr} {fd : FuncData} {ps : List Str} (F : Fun K x qual st f fd)
    (h : ∀ (kV doc pm : Value) (an : Option Addr) (cdv ct : Value) (us : List Value), us.length = ps.length → bindArgs (PySem.W.fnOf x qual (defArgs st) (defBody st) (defScope st) .none kV doc pm an cdv ct) ⟨us, []⟩ = pure (ps.zip us)) : Binds K fd ps [] := by
  obtain ⟨oc, od, kV, doc, pm, an, cdv, ct, osl, rfl, lk, hcd⟩ := F.ex
  exact .all (h kV doc pm an cdv ct)
theorem fun_mk {x qual : Str} {st : Stmt} {f : Addr} {oc : Value} {od an : Option Addr} {osl : Array (Option Value)} {kV doc pm cdv ct : Value} (l : K.lookup f = some ⟨oc, od, .func (PySem.W.fnOf x qual (defArgs st) (defBody st) (defScope st) .none kV doc pm an cdv ct), osl⟩)
    (c : PySem.W.codeIn K cdv qual = true) (k : PySem.W.keepIn K (.ref f) = true) : Fun K x qual st f (PySem.W.fnOf x qual (defArgs st) (defBody st) (defScope st) .none kV doc pm an cdv ct) := ⟨⟨oc, od, kV, doc, pm, an, cdv, ct, osl, rfl, l, c⟩, k⟩
end
section
variable {X : Cx}
theorem pv (i : Nat) {x : Str} {pos : Pos} (hN : X.N[i]? = some x := by rfl) (hv : Vis X.env.scope x := by first | exact Or.inl rfl | exact Or.inr (Or.inl rfl) | exact Or.inr (Or.inr rfl)) (hd : (x == ("__debug__" : Str)) = false := by decide)
    (hcd : (x == ("__classdict__" : Str)) = false := by decide) : PE X (.Name x pos) (tVar i) := pe_var hN hv hd hcd
end
theorem iteF {A B : Prop} (h : B) : if false = true then A else B := by
  rw [if_neg Bool.false_ne_true]
  exact h
theorem iteT {A B : Prop} (h : A) : if true = true then A else B := by
  rw [if_pos rfl]
  exact h
def Same (H H' : Hp) : Prop := ∀ b o, H b = some o → H' b = some o
theorem Same.refl (H : Hp) : Same H H := fun _ _ h => h
theorem Same.trans {H H1 H2 : Hp} (a : Same H H1) (b : Same H1 H2) : Same H H2 := fun c o h => b c o (a c o h)
theorem Same.free {H H' : Hp} (e : Same H H') {l : Addr} (h : H' l = Option.none) : H l = Option.none := by
  cases q : H l with
  | none => rfl
  | some o =>
    rw [e l o q] at h
    cases h
theorem Same.seq {K : PySem.W.Frag} {H H' : Hp} {a : Addr} {xs : List V} (e : Same H H') (h : SqL K H a xs) : SqL K H' a xs := by
  rcases h with (h | ⟨o, h⟩) | h
  · exact .inl (.inl (e _ _ h))
  · exact .inl (.inr ⟨o, e _ _ h⟩)
  · exact .inr h
end L2

end
section
namespace VP
open PySem
inductive D where
  | non
  | bl (b : Bool)
  | int (i : Int)
  | str (x : Str)
  | tup (xs : List D)
  | lst (xs : List D)
  | dct (ks : List (Sum Int Str)) (vs : List D)
  | ins (c : Str) (ns : List Str) (vs : List D)
  | exn (c : Str) (ns : List Str) (vs : List D)
  deriving Inhabited
inductive Sl where
  | no
  | sh (d : D)
  | ow (d : D)
  | io (d : D)
  deriving Inhabited
abbrev Rho := List Sl
structure Xn where
  cls : Str
  ns : List Str
  vs : List D
inductive Res (α : Type) where
  | ok (a : α) (r : Rho)
  | exc (x : Xn) (r : Rho)
  | no
abbrev M (α : Type) := Rho → Res α
inductive Fl where
  | nx | bk | ct | rt (d : D)
def ret {α : Type} (a : α) : M α := fun r => .ok a r
def bnd {α β : Type} (f : M α) (g : α → M β) : M β := fun r =>
  match f r with
  | .ok a r' => g a r'
  | .exc x r' => .exc x r'
  | .no => .no
def stuck {α : Type} : M α := fun _ => .no
def opt {α : Type} : Option α → M α
  | some a => ret a
  | none => stuck
def mVar (i : Nat) : M D := fun r => match r[i]? with
  | some (.sh d) => .ok d r
  | _ => .no
def mRd (i : Nat) : M D := fun r => match r[i]? with
  | some (.sh d) => .ok d r
  | some (.ow d) => .ok d r
  | some (.io d) => .ok d r
  | _ => .no
def free : Option Sl → Bool
  | some (.io _) => false
  | some _ => true
  | none => false
def mSet (i : Nat) (d : D) : M Unit := fun r => if free r[i]? then .ok () (r.set i (.sh d)) else .no
def mOwn (i : Nat) (d : D) : M Unit := fun r => if free r[i]? then .ok () (r.set i (.ow d)) else .no
def own : Option Sl → Option D
  | some (.ow d) => some d
  | some (.io d) => some d
  | _ => none
def putS (i : Nat) (d : D) (r : Rho) : Rho := match r[i]? with
  | some (.ow _) => r.set i (.ow d)
  | some (.io _) => r.set i (.io d)
  | _ => r
def mFz (i : Nat) : M Unit := fun r => match r[i]? with
  | some (.ow d) => .ok () (r.set i (.sh d))
  | some (.sh d) => .ok () r
  | _ => .no
def mUpd (i : Nat) (g : D → Option D) : M Unit := fun r => match own r[i]? with
  | some d => match g d with
    | some d' => .ok () (putS i d' r)
    | none => .no
  | none => .no
def mC (d : D) : M D := ret d
def m1 (g : D → Option D) (a : M D) : M D := bnd a fun x => opt (g x)
def m2 (g : D → D → Option D) (a b : M D) : M D := bnd a fun x => bnd b fun y => opt (g x y)
def mL : List (M D) → M (List D)
  | [] => ret []
  | f :: fs => bnd f fun x => bnd (mL fs) fun xs => ret (x :: xs)
def mF (g : List D → Option D) (as : List (M D)) : M D := bnd (mL as) fun xs => opt (g xs)
def tB (a : M D) : M Bool := bnd a fun x => match x with
  | .bl b => ret b
  | _ => stuck
def tNot (a : M Bool) : M Bool := bnd a fun b => ret (!b)
def tAnd (a b : M Bool) : M Bool := bnd a fun x => if x then b else ret false
def tOr (a b : M Bool) : M Bool := bnd a fun x => if x then ret true else b
def mOfT (a : M Bool) : M D := bnd a fun b => ret (.bl b)
def mIf (c : M Bool) (a b : M D) : M D := bnd c fun x => if x then a else b
def sSeq (f g : M Fl) : M Fl := bnd f fun k => match k with
  | .nx => g
  | .bk => ret .bk
  | .ct => ret .ct
  | .rt d => ret (.rt d)
def sNx : M Fl := ret .nx
def sBk : M Fl := ret .bk
def sCt : M Fl := ret .ct
def sDo (f : M Unit) : M Fl := bnd f fun _ => ret .nx
def sDrop (f : M D) : M Fl := bnd f fun _ => ret .nx
def sRet (f : M D) : M Fl := bnd f fun d => ret (.rt d)
def sIf (c : M Bool) (a b : M Fl) : M Fl := bnd c fun x => if x then a else b
def sSet (i : Nat) (f : M D) : M Fl := bnd f fun d => sDo (mSet i d)
def sOwn (i : Nat) (f : M D) : M Fl := bnd f fun d => sDo (mOwn i d)
def sFz (i : Nat) (f : M Fl) : M Fl := bnd (mFz i) fun _ => f
def gName (i : Nat) : D → M Unit := fun d => mSet i d
def gAll : List Nat → List D → M Unit
  | [], [] => ret ()
  | i :: is, d :: ds => bnd (mSet i d) fun _ => gAll is ds
  | _, _ => stuck
def gTup (is : List Nat) : D → M Unit := fun d => match d with
  | .tup ds => gAll is ds
  | _ => stuck
def loop (g : D → M Unit) (body : M Fl) : List D → M Fl
  | [] => ret .nx
  | d :: ds => bnd (g d) fun _ => bnd body fun k => match k with
    | .nx => loop g body ds
    | .ct => loop g body ds
    | .bk => ret .nx
    | .rt e => ret (.rt e)
def sFor (it : M (List D)) (g : D → M Unit) (body : M Fl) : M Fl := bnd it fun ds => loop g body ds
def appD (x : D) : D → Option D
  | .lst xs => if xs.length < 16777216 then some (.lst (xs ++ [x])) else none
  | _ => none
def turns (k : Nat) (g : D → M Unit) (test : M Bool) (elt : M D) : List D → M Unit
  | [] => ret ()
  | d :: ds => bnd (g d) fun _ => bnd test fun b => if b
      then bnd elt fun x => bnd (mUpd k (appD x)) fun _ => turns k g test elt ds
      else turns k g test elt ds
def inner (n : Nat) (f : Nat → M Unit) : M D := fun r => match f (r.length + n) (r ++ List.replicate n .no ++ [.ow (.lst [])]) with
  | .ok _ r' => match r'[r.length + n]? with
    | some (.ow d) => .ok d (r'.take r.length)
    | _ => .no
  | .exc _ _ => .no
  | .no => .no
def mComp (n : Nat) (it : M (List D)) (g : D → M Unit) (test : M Bool) (elt : M D) : M D :=
  bnd it fun ds => inner n fun k => turns k g test elt ds
def whileN (c : M Bool) (body : M Fl) : Nat → M Fl
  | 0 => stuck
  | n + 1 => bnd c fun b => if b
      then bnd body fun k => match k with
        | .nx => whileN c body n
        | .ct => whileN c body n
        | .bk => ret .nx
        | .rt e => ret (.rt e)
      else ret .nx
inductive FR where
  | ok (d : D) (ios : List D)
  | exc (x : Xn) (ios : List D)
  | no
abbrev Fn := List D → FR
def startR (n : Nat) : List Bool → List D → Rho
  | b :: bs, d :: ds => (if b then .io d else .sh d) :: startR (n - 1) bs ds
  | _, _ => List.replicate n .no
def iosOf : List Bool → Rho → Option (List D)
  | [], _ => some []
  | true :: bs, .io d :: r => (iosOf bs r).map (d :: ·)
  | false :: bs, _ :: r => iosOf bs r
  | _, _ => none
def defn (n : Nat) (fl : List Bool) (body : M Fl) : Fn := fun ds =>
  if ds.length = fl.length then
    match body (startR n fl ds) with
    | .ok (.rt d) r => match iosOf fl r with
      | some ios => .ok d ios
      | none => .no
    | .ok .nx r => match iosOf fl r with
      | some ios => .ok .non ios
      | none => .no
    | .ok .bk _ => .no
    | .ok .ct _ => .no
    | .exc x r => match iosOf fl r with
      | some ios => .exc x ios
      | none => .no
    | .no => .no
  else .no
inductive Arg where
  | val (f : M D)
  | io (j : Nat)
inductive AV where
  | val (d : D)
  | io (j : Nat)
def mArgs : List Arg → M (List AV)
  | [] => ret []
  | .val f :: as => bnd f fun d => bnd (mArgs as) fun vs => ret (.val d :: vs)
  | .io j :: as => fun r => if (own r[j]?).isSome then bnd (mArgs as) (fun vs => ret (.io j :: vs)) r else .no
def avs : List AV → Rho → Option (List D)
  | [], _ => some []
  | .val d :: as, r => (avs as r).map (d :: ·)
  | .io j :: as, r => match own r[j]? with
    | some d => (avs as r).map (d :: ·)
    | none => none
def ioSl : List AV → List Nat
  | [] => []
  | .val _ :: as => ioSl as
  | .io j :: as => j :: ioSl as
def putAll : List Nat → List D → Rho → Rho
  | j :: js, d :: ds, r => putAll js ds (putS j d r)
  | _, _, r => r
def Arg.isIo : Arg → Bool
  | .val _ => false
  | .io _ => true
def mApp (f : Fn) (vs : List AV) : M D := fun r =>
  match avs vs r with
  | some ds => if (ioSl vs).Nodup then match f ds with
      | .ok d ios => .ok d (putAll (ioSl vs) ios r)
      | .exc x ios => .exc x (putAll (ioSl vs) ios r)
      | .no => .no
    else .no
  | none => .no
def mCall (f : Fn) (as : List Arg) : M D := bnd (mArgs as) fun vs => mApp f vs
def mAndV (a b : M D) : M D := bnd a fun x => match x with
  | .bl true => b
  | .bl false => ret (.bl false)
  | _ => stuck
def mOrV (a b : M D) : M D := bnd a fun x => match x with
  | .bl true => ret (.bl true)
  | .bl false => b
  | _ => stuck
def tupD (ds : List D) : Option D := if ds.length ≤ 16777216 then some (.tup ds) else none
def lstD (ds : List D) : Option D := if ds.length ≤ 16777216 then some (.lst ds) else none
def mTup (fl : List (M D)) : M D := bnd (mL fl) fun xs => opt (tupD xs)
def mLst (fl : List (M D)) : M D := bnd (mL fl) fun xs => opt (lstD xs)
end VP

end
section
namespace VP
open PySem
def LIM : Nat := 16777216
def addI : D → D → Option D
  | .int i, .int j => some (.int (i + j))
  | _, _ => none
def subI : D → D → Option D
  | .int i, .int j => some (.int (i - j))
  | _, _ => none
def mulI : D → D → Option D
  | .int i, .int j => if (-(2 ^ 64) < i ∧ i < 2 ^ 64) ∨ (-(2 ^ 64) < j ∧ j < 2 ^ 64) then some (.int (i * j)) else none
  | _, _ => none
def fdivI : D → D → Option D
  | .int i, .int j => if 0 < j ∧ j < 1073741824 then some (.int (i / j)) else none
  | _, _ => none
def modI : D → D → Option D
  | .int i, .int j => if 0 < j then some (.int (i % j)) else none
  | _, _ => none
def negI : D → Option D
  | .int i => some (.int (-i))
  | _ => none
def ltI : D → D → Option D
  | .int i, .int j => some (.bl (decide (i < j)))
  | _, _ => none
def leI : D → D → Option D
  | .int i, .int j => some (.bl (decide (i ≤ j)))
  | _, _ => none
def gtI : D → D → Option D
  | .int i, .int j => some (.bl (decide (j < i)))
  | _, _ => none
def geI : D → D → Option D
  | .int i, .int j => some (.bl (decide (j ≤ i)))
  | _, _ => none
def eqS : D → D → Option Bool
  | .non, .non => some true
  | .non, .int _ => some false
  | .int _, .non => some false
  | .non, .bl _ => some false
  | .bl _, .non => some false
  | .non, .str _ => some false
  | .str _, .non => some false
  | .int i, .int j => some (decide (i = j))
  | .bl i, .bl j => some (decide (i = j))
  | .str i, .str j => some (decide (i = j))
  | .int _, .str _ => some false
  | .str _, .int _ => some false
  | .bl _, .str _ => some false
  | .str _, .bl _ => some false
  | _, _ => none
def isNon : D → Bool
  | .non => true
  | _ => false
def isND (x y : D) : Option D := if isNon y then some (.bl (isNon x)) else none
def notND (x y : D) : Option D := if isNon y then some (.bl (!isNon x)) else none
def addT : D → D → Option D
  | .tup xs, .tup ys => if xs.length + ys.length ≤ LIM then some (.tup (xs ++ ys)) else none
  | _, _ => none
def addL : D → D → Option D
  | .lst xs, .lst ys => if xs.length + ys.length ≤ LIM then some (.lst (xs ++ ys)) else none
  | _, _ => none
def orE (g g' : D → D → Option D) (x y : D) : Option D := match g x y with
  | some d => some d
  | none => g' x y
def ixP (n : Nat) (i : Int) : Option Nat := if 0 ≤ i then (if i < n then some i.toNat else none) else if -(n : Int) ≤ i then some (i + n).toNat else none
def ixD (xs : List D) (i : Int) : Option D := (ixP xs.length i).bind fun j => xs[j]?
def itemD : D → D → Option D
  | .tup xs, .int i => ixD xs i
  | .lst xs, .int i => ixD xs i
  | _, _ => none
mutual
def eqB : D → D → Bool
  | .non, .non => true
  | .bl a, .bl b => a == b
  | .bl a, .int j => (if a then 1 else 0) == j
  | .int i, .bl b => i == (if b then 1 else 0)
  | .int i, .int j => i == j
  | .str x, .str y => x == y
  | .lst xs, .lst ys => eqBs xs ys
  | .tup xs, .tup ys => eqBs xs ys
  | _, _ => false
def eqBs : List D → List D → Bool
  | [], [] => true
  | x :: xs, y :: ys => eqB x y && eqBs xs ys
  | [], _ :: _ => false
  | _ :: _, [] => false
end
def strFine (x : Str) : Bool := x.cps.all (· < 0x110000)
mutual
def plain : Nat → D → Bool
  | _, .non => true
  | _, .bl _ => true
  | _, .int _ => true
  | _, .str x => strFine x
  | n + 1, .tup xs => plains n xs
  | n + 1, .lst xs => plains n xs
  | _, _ => false
def plains : Nat → List D → Bool
  | _, [] => true
  | n, x :: xs => plain n x && plains n xs
end
def eqG (x y : D) : Option D := if plain 60 x && plain 60 y then some (.bl (eqB x y)) else none
def neG (x y : D) : Option D := if plain 60 x && plain 60 y then some (.bl (!eqB x y)) else none
def seqD : D → Option (List D)
  | .tup ds => some ds
  | .lst ds => some ds
  | _ => none
def mSeq (f : M D) : M (List D) := bnd f fun d => opt (seqD d)
def rng1 : List D → Option (List D)
  | [.int j] => if -(2 ^ 62) ≤ j ∧ j < 2 ^ 62 then some ((List.range j.toNat).map fun (i : Nat) => .int i) else none
  | _ => none
def rng2 : List D → Option (List D)
  | [.int i, .int j] => if (-(2 ^ 62) ≤ i ∧ i < 2 ^ 62) ∧ -(2 ^ 62) ≤ j ∧ j < 2 ^ 62 then some ((List.range (j - i).toNat).map fun (k : Nat) => .int (i + k)) else none
  | _ => none
def mRng1 (fl : List (M D)) : M (List D) := bnd (mL fl) fun xs => opt (rng1 xs)
def mRng2 (fl : List (M D)) : M (List D) := bnd (mL fl) fun xs => opt (rng2 xs)
def lenD : D → Option D
  | .tup ds => some (.int ds.length)
  | .lst ds => some (.int ds.length)
  | _ => none
def tupOf : D → Option D
  | .tup ds => some (.tup ds)
  | .lst ds => some (.tup ds)
  | _ => none
def lstOf : D → Option D
  | .tup ds => some (.lst ds)
  | .lst ds => some (.lst ds)
  | _ => none
def maxD : List D → Option D
  | [.int i, .int j] => some (.int (if j > i then j else i))
  | _ => none
def minD : List D → Option D
  | [.int i, .int j] => some (.int (if j < i then j else i))
  | _ => none
def intD : List D → Option D
  | [.int i] => some (.int i)
  | [.bl b] => some (.int (if b then 1 else 0))
  | _ => none
def kindD : D → Option String
  | .non => some "NoneType"
  | .bl _ => some "bool"
  | .int _ => some "int"
  | .str _ => some "str"
  | .tup _ => some "tuple"
  | .lst _ => some "list"
  | .dct _ _ => some "dict"
  | .ins _ _ _ => none
  | .exn _ _ _ => none
def isaD (T : String) (x : D) : Option D := (kindD x).map fun k => .bl (k == T || (k == "bool" && T == "int"))
def zipL : List D → Option (List D)
  | [a, b] => match seqD a, seqD b with
    | some xs, some ys => some (List.zipWith (fun x y => D.tup [x, y]) xs ys)
    | _, _ => none
  | _ => none
def mZip (fl : List (M D)) : M (List D) := bnd (mL fl) fun xs => opt (zipL xs)
def intsD : List D → Option (List Int)
  | [] => some []
  | .int i :: r => (intsD r).map (i :: ·)
  | _ => none
def sumD (d : D) : Option D := match seqD d with
  | some ds => (intsD ds).map fun ns => .int ns.sum
  | none => none
def isLst : Option D → Bool
  | some (.lst _) => true
  | _ => false
def sApp (i : Nat) (fe : M D) : M Fl := fun r => if isLst (own r[i]?) then bnd fe (fun x => sDo (mUpd i (appD x))) r else .no
def setAt (k v : D) : D → Option D
  | .lst xs => match k with
    | .int i => (ixP xs.length i).map fun j => .lst (xs.set j v)
    | _ => none
  | _ => none
def sSetIx (i : Nat) (fk fv : M D) : M Fl := bnd fv fun v => fun r => if isLst (own r[i]?) then bnd fk (fun k => sDo (mUpd i (setAt k v))) r else .no
def sIxP (n d : Nat) : Option Int → Nat
  | none => d
  | some v => if v < 0 then (v + n).toNat else min v.toNat n
def cutD (xs : List D) (lo hi : Option Int) : List D := (xs.drop (sIxP xs.length 0 lo)).take (sIxP xs.length xs.length hi - sIxP xs.length 0 lo)
def mPart : Option (M D) → M (Option Int)
  | none => ret none
  | some f => bnd f fun d => match d with
    | .int i => ret (some i)
    | _ => stuck
def mSl (g : D → Option Int → Option Int → Option D) (f : M D) (lo hi : Option (M D)) : M D := bnd f fun d => bnd (mPart lo) fun l => bnd (mPart hi) fun h => opt (g d l h)
def ixAt (j : Nat) (i : D) : M D := fun r => match own r[j]? with
  | some d => opt (itemD d i) r
  | none => .no
def mIxO (j : Nat) (fb : M D) : M D := fun r => if (own r[j]?).isSome then bnd fb (ixAt j) r else .no
def addA : D → D → Option D
  | .int i, .int j => some (.int (i + j))
  | .tup xs, .tup ys => if xs.length + ys.length ≤ LIM then some (.tup (xs ++ ys)) else none
  | .lst xs, .lst ys => if xs.length + ys.length ≤ LIM then some (.lst (xs ++ ys)) else none
  | _, _ => none
def cutA (d : D) (lo hi : Option Int) : Option D := match d with
  | .tup xs => some (.tup (cutD xs lo hi))
  | .lst xs => some (.lst (cutD xs lo hi))
  | _ => none
def m3c (g g2 : D → D → Option D) (a b c : M D) : M D := bnd a fun x => bnd b fun y => bnd (opt (g x y)) fun d => match d with
  | .bl true => bnd c fun z => opt (g2 y z)
  | .bl false => ret (.bl false)
  | _ => stuck
def tabD (t : List (Str × D)) : D → Option D
  | .str k => t.lookup k
  | _ => none
def mRev (f : M D) : M (List D) := bnd f fun d => opt ((seqD d).map List.reverse)
def revT (d : D) : Option D := (seqD d).map fun xs => .tup xs.reverse
def revL (d : D) : Option D := (seqD d).map fun xs => .lst xs.reverse
def boolsD : List D → Option (List Bool)
  | [] => some []
  | .bl b :: r => (boolsD r).map (b :: ·)
  | _ => none
def allD (al : Bool) : D → Option D
  | .lst ds => (boolsD ds).map fun bs => .bl (if al then bs.all id else bs.any id)
  | _ => none
def flatD : D → Bool
  | .non => true
  | .bl _ => true
  | .int _ => true
  | .str _ => true
  | _ => false
def inD (neg : Bool) (x y : D) : Option D := match seqD y with
  | some ds => if flatD x && ds.all flatD then some (.bl (if neg then !(ds.any fun y => eqB y x) else ds.any fun y => eqB y x)) else none
  | none => none
def putND (f : Str) (v : D) : List Str → List D → List Str × List D
  | n :: ns, x :: vs => if n = f then (n :: ns, v :: vs) else (n :: (putND f v ns vs).1, x :: (putND f v ns vs).2)
  | _, _ => ([f], [v])
def setFD (cs : List Str) (f : Str) (v : D) : D → Option D
  | .ins c ns vs => if cs.contains c && decide (ns.length < 1000) then some (.ins c (putND f v ns vs).1 (putND f v ns vs).2) else none
  | _ => none
def sSetF (i : Nat) (cs : List Str) (f : Str) (fv : M D) : M Fl := bnd fv fun v => sDo (mUpd i (setFD cs f v))
def mNew (c : Str) (f : Fn) (vs : List AV) : M D := fun r => match mApp f (.io r.length :: vs) (r ++ [.ow (.ins c [] [])]) with
  | .ok .non r' => match r'[r.length]? with
    | some (.ow d) => .ok d (r'.take r.length)
    | _ => .no
  | .exc x r' => .exc x (r'.take r.length)
  | _ => .no
def mMake (c : Str) (f : Fn) (as : List Arg) : M D := bnd (mArgs as) fun vs => mNew c f vs
def insOf (c m : Str) : D → Bool
  | .ins c' ns _ => c' == c && !ns.contains m
  | _ => false
def mMeth (c m : Str) (f : Fn) (fo : M D) (as : List Arg) : M D := bnd fo fun o => if insOf c m o then bnd (mArgs as) fun vs => mApp f (.val o :: vs) else stuck
def sNever : M Fl := stuck
def enumL (ds : List D) : List D := List.zipWith (fun (i : Nat) d => D.tup [.int i, d]) (List.range ds.length) ds
def enumD : List D → Option (List D)
  | [.lst ds] => some (enumL ds)
  | _ => none
def mEnum (fl : List (M D)) : M (List D) := bnd (mL fl) fun xs => opt (enumD xs)
def rngD : List D → Option (List D)
  | [.int i, .int j, .int k] => if k = -1 ∧ (-(2 ^ 62) ≤ i ∧ i < 2 ^ 62) ∧ -(2 ^ 62) ≤ j ∧ j < 2 ^ 62 then some ((List.range (i - j).toNat).map fun (k : Nat) => .int (i - k)) else none
  | _ => none
def mDown (fl : List (M D)) : M (List D) := bnd (mL fl) fun xs => opt (rngD xs)
end VP

end
section
namespace VP
def mulA : D → D → Option D
  | .int i, .int j => mulI (.int i) (.int j)
  | .tup xs, .int k => if -(LIM : Int) ≤ k ∧ k ≤ LIM ∧ xs.length * k.toNat ≤ LIM then some (.tup (List.replicate k.toNat xs).flatten) else none
  | _, _ => none
def mulL : D → D → Option D
  | .lst xs, .int k => if -(LIM : Int) ≤ k ∧ k ≤ LIM ∧ xs.length * k.toNat ≤ LIM then some (.lst (List.replicate k.toNat xs).flatten) else none
  | _, _ => none
def eqN (neg : Bool) (x y : D) : Option D := if neg then neG x y else eqG x y
def cmpAt (g : D → D → Option D) (j : Nat) (d : D) : M D := fun r => match own r[j]? with
  | some x => opt (g x d) r
  | none => .no
def mCmpO (g : D → D → Option D) (j : Nat) (fb : M D) : M D := fun r => if (own r[j]?).isSome then bnd fb (cmpAt g j) r else .no
def mCmpOO (g : D → D → Option D) (i j : Nat) : M D := fun r => match own r[i]?, own r[j]? with
  | some x, some y => opt (g x y) r
  | _, _ => .no
def sRaise (c : PySem.Str) (fs : List (M D)) : M Fl := bnd (mL fs) fun ds r => if ds.length ≤ 1000 then .exc ⟨c, [], []⟩ r else .no
def sRaiseI (c : PySem.Str) (ns : List PySem.Str) (fs : List (M D)) : M Fl := bnd (mL fs) fun ds r => if ds.length = ns.length then .exc ⟨c, ns, ds⟩ r else .no
def fldX (cs : List PySem.Str) (f : PySem.Str) : D → Option D
  | .exn c ns vs => if cs.contains c then (ns.zip vs).lookup f else none
  | _ => none
def lstL : D → Option (List D)
  | .lst ds => some ds
  | _ => none
def mSeqL (f : M D) : M (List D) := bnd f fun d => opt (lstL d)
def exnR : Option Sl → Res Fl → Res Fl
  | some (.sh (.exn _ _ _)), x => x
  | _, _ => .no
def sForH (j : Nat) (it : M (List D)) (g : D → M Unit) (body : M Fl) : M Fl := fun r => exnR r[j]? (sFor it g body r)
def sCatch (subs : List (PySem.Str × Bool)) (j : Nat) (h : M Fl) (x : Xn) : M Fl := fun r => match subs.lookup x.cls, r[j]? with
  | some true, some .no => (match h (r.set j (.sh (.exn x.cls x.ns x.vs))) with
    | .ok f r2 => .ok f (r2.set j .no)
    | _ => .no)
  | _, _ => .no
def sTry (f : M Fl) (subs : List (PySem.Str × Bool)) (j : Nat) (h : M Fl) : M Fl := fun r => match f r with
  | .ok k r1 => .ok k r1
  | .exc x r1 => sCatch subs j h x r1
  | .no => .no
def isaX (subs : List (PySem.Str × Bool)) : D → Option D
  | .exn c _ _ => (subs.lookup c).map .bl
  | _ => none
end VP

end
section
namespace VP
end VP

end
section
namespace VP
open PySem
def sWhile (c : M Bool) (body : M Fl) : M Fl := whileN c body 10000
def mPop (i : Nat) : M D := fun r => match own r[i]? with
  | some (.lst xs) => match xs.getLast? with
    | some d => .ok d (putS i (.lst xs.dropLast) r)
    | none => .no
  | _ => .no
def extD (x : D) : D → Option D
  | .lst xs => match x with
    | .lst ys => if xs.length + ys.length ≤ LIM then some (.lst (xs ++ ys)) else none
    | _ => none
  | _ => none
def sExt (i : Nat) (fe : M D) : M Fl := fun r => if isLst (own r[i]?) then bnd fe (fun x => sDo (mUpd i (extD x))) r else .no
def inAt (neg : Bool) (j : Nat) (x : D) : M D := fun r => match own r[j]? with
  | some y => opt (inD neg x y) r
  | none => .no
def mInO (neg : Bool) (fa : M D) (j : Nat) : M D := bnd fa (inAt neg j)
def maxDef (x y : D) : Option D := match x with
  | .tup ds => match intsD ds with
    | some [] => some y
    | some (i :: is) => some (.int (is.foldl (fun a b => if a < b then b else a) i))
    | none => none
  | _ => none
def appL (f : Fn) (d : D) : M D := fun r => match f [d] with
  | .ok v [_] => .ok v r
  | .exc x [_] => .exc x r
  | _ => .no
def mCallL (f : Fn) (a : M D) : M D := bnd a (appL f)
def sSeqE (f g : M Fl) : M Fl := bnd f fun k => match k with
  | .nx => g
  | _ => stuck
def sRetO (i : Nat) : M Fl := fun r => match r[i]? with
  | some (.ow d) => .ok (.rt d) r
  | _ => .no
def viewS : Sl → Sl
  | .ow d => .sh d
  | .io d => .sh d
  | s => s
mutual
def noL : D → Bool
  | .non => true
  | .bl _ => true
  | .int _ => true
  | .str _ => true
  | .tup ds => noLs ds
  | _ => false
def noLs : List D → Bool
  | [] => true
  | d :: ds => noL d && noLs ds
end
def mView (f : M D) : M D := fun r => match f (r.map viewS) with
  | .ok (.lst ds) _ => if noLs ds then .ok (.lst ds) r else .no
  | _ => .no
def mViewV (f : M D) : M D := fun r => match f (r.map viewS) with
  | .ok d _ => if noL d then .ok d r else .no
  | _ => .no
end VP

end
section
set_option linter.all false
set_option maxRecDepth 100000
namespace VS
open PySem PySem.Spec PyProof.Rows L2 VP
abbrev Frag := PySem.W.Frag
abbrev St := L2.St
abbrev MG := Str → Option Value
def XOb (a C : Addr) (dx : Option Addr) : Heap → Prop := fun h => ∃ vs sl, h.get? a = some ⟨.ref C, dx, .fields vs, sl⟩ ∧ vs[2]? = some .none
mutual
inductive Den (K : Frag) (mg : MG) (F : Hp) : V → D → Prop where
  | non : Den K mg F .non .non
  | bl (b : Bool) : Den K mg F (.bl b) (.bl b)
  | int (i : Int) : Den K mg F (.int i) (.int i)
  | str (x : Str) : Den K mg F (.str x) (.str x)
  | tup {a : Addr} {vs : List V} {ds : List D} (h : SqT K F a vs) (r : DenL K mg F vs ds) : Den K mg F (.ref a) (.tup ds)
  | lst {a : Addr} {vs : List V} {ds : List D} (h : SqL K F a vs) (r : DenL K mg F vs ds) : Den K mg F (.ref a) (.lst ds)
  | dct {a : Addr} {kvs : List (Key × V)} {ds : List D} (h : F a = some (.dK kvs)) (r : DenL K mg F (kvs.map (·.2)) ds) : Den K mg F (.ref a) (.dct (kvs.map (·.1)) ds)
  | ins {a C dx : Addr} {c : Str} {fs : List (Str × V)} {ds : List D} (h : F a = some (.ins C dx fs)) (hc : mg c = some (.ref C)) (r : DenL K mg F (fs.map (·.2)) ds) : Den K mg F (.ref a) (.ins c (fs.map (·.1)) ds)
  | exn {a C : Addr} {dx : Option Addr} {c : Str} {fs : List (Str × V)} {ds : List D} (h : F a = some (.ext (XOb a C dx))) (hc : mg c = some (.ref C)) (hf : (dx = none ∧ fs = []) ∨ ∃ b, dx = some b ∧ F b = some (.xd fs)) (r : DenL K mg F (fs.map (·.2)) ds) : Den K mg F (.ref a) (.exn c (fs.map (·.1)) ds)
inductive DenL (K : Frag) (mg : MG) (F : Hp) : List V → List D → Prop where
  | nil : DenL K mg F [] []
  | cons {v : V} {d : D} {vs : List V} {ds : List D} (h : Den K mg F v d) (t : DenL K mg F vs ds) : DenL K mg F (v :: vs) (d :: ds)
end
theorem SqT.same {K : Frag} {F F' : Hp} {a : Addr} {xs : List V} (h : SqT K F a xs) (e : Same F F') : SqT K F' a xs := by
  rcases h with (h | ⟨o, h⟩) | h
  · exact .inl (.inl (e _ _ h))
  · exact .inl (.inr ⟨o, e _ _ h⟩)
  · exact .inr h
theorem SqL.same {K : Frag} {F F' : Hp} {a : Addr} {xs : List V} (h : SqL K F a xs) (e : Same F F') : SqL K F' a xs := e.seq h
section
variable {K : Frag} {mg : MG} {F F' H H' : Hp}
mutual
theorem Den.same (e : Same F F') : ∀ {v : V} {d : D}, Den K mg F v d → Den K mg F' v d
  | _, _, .non => .non
  | _, _, .bl b => .bl b
  | _, _, .int i => .int i
  | _, _, .str x => .str x
  | _, _, .tup h r => .tup (SqT.same h e) (DenL.same e r)
  | _, _, .lst h r => .lst (SqL.same h e) (DenL.same e r)
  | _, _, .dct h r => .dct (e _ _ h) (DenL.same e r)
  | _, _, .ins h hc r => .ins (e _ _ h) hc (DenL.same e r)
  | _, _, .exn h hc hf r => .exn (e _ _ h) hc (hf.imp id fun ⟨b, q, z⟩ => ⟨b, q, e _ _ z⟩) (DenL.same e r)
theorem DenL.same (e : Same F F') : ∀ {vs : List V} {ds : List D}, DenL K mg F vs ds → DenL K mg F' vs ds
  | _, _, .nil => .nil
  | _, _, .cons h t => .cons (Den.same e h) (DenL.same e t)
end
theorem DenL.length : ∀ {vs : List V} {ds : List D}, DenL K mg F vs ds → vs.length = ds.length
  | _, _, .nil => rfl
  | _, _, .cons _ t => by simp [DenL.length t]
theorem DenL.append : ∀ {vs ws : List V} {ds es : List D}, DenL K mg F vs ds → DenL K mg F ws es → DenL K mg F (vs ++ ws) (ds ++ es)
  | _, _, _, _, .nil, s => s
  | _, _, _, _, .cons h t, s => .cons h (DenL.append t s)
theorem DenL.get : ∀ {vs : List V} {ds : List D} {i : Nat} {d : D}, DenL K mg F vs ds → ds[i]? = some d → ∃ v, vs[i]? = some v ∧ Den K mg F v d
  | _, _, _, _, .nil, e => by simp at e
  | _, _, 0, _, .cons h _, e => by simp at e; subst e; exact ⟨_, rfl, h⟩
  | _, _, i + 1, _, .cons _ t, e => by
    obtain ⟨v, h1, h2⟩ := DenL.get (i := i) t (by simpa using e)
    exact ⟨v, by simpa using h1, h2⟩
theorem DenL.set : ∀ {vs : List V} {ds : List D} {v : V} {d : D} (i : Nat), DenL K mg F vs ds → Den K mg F v d → DenL K mg F (vs.set i v) (ds.set i d)
  | _, _, _, _, _, .nil, _ => .nil
  | _, _, _, _, 0, .cons _ t, h => .cons h t
  | _, _, _, _, i + 1, .cons q t, h => .cons q (DenL.set i t h)
theorem DenL.take : ∀ {vs : List V} {ds : List D} (n : Nat), DenL K mg F vs ds → DenL K mg F (vs.take n) (ds.take n)
  | _, _, 0, _ => by simpa using DenL.nil
  | _, _, _ + 1, .nil => .nil
  | _, _, n + 1, .cons h t => .cons h (DenL.take n t)
theorem DenL.drop : ∀ {vs : List V} {ds : List D} (n : Nat), DenL K mg F vs ds → DenL K mg F (vs.drop n) (ds.drop n)
  | _, _, 0, h => by simpa using h
  | _, _, _ + 1, .nil => .nil
  | _, _, n + 1, .cons _ t => DenL.drop n t
theorem DenL.reverse {vs : List V} {ds : List D} (h : DenL K mg F vs ds) : DenL K mg F vs.reverse ds.reverse := by
  induction vs generalizing ds with
  | nil => cases h; exact .nil
  | cons v vs ih =>
    cases h with
    | cons h t => simp only [List.reverse_cons]; exact (ih t).append (.cons h .nil)
theorem DenL.ints (ns : List Int) : DenL K mg F (ns.map V.int) (ns.map D.int) := by
  induction ns with
  | nil => exact .nil
  | cons n r ih => exact .cons (.int n) ih
theorem DenL.map {α : Type} {f : α → V} {g : α → D} (h : ∀ a, Den K mg F (f a) (g a)) (l : List α) : DenL K mg F (l.map f) (l.map g) := by
  induction l with
  | nil => exact .nil
  | cons a l ih => exact .cons (h a) ih
def Obj1 (K : Frag) (mg : MG) (F H : Hp) (l : Addr) : D → Prop
  | .lst ds => ∃ vs, H l = some (.lst vs) ∧ DenL K mg F vs ds
  | .dct ks ds => ∃ kvs, H l = some (.dK kvs) ∧ kvs.map (·.1) = ks ∧ DenL K mg F (kvs.map (·.2)) ds
  | .ins c ns ds => ∃ C dx fs, H l = some (.ins C dx fs) ∧ mg c = some (.ref C) ∧ fs.map (·.1) = ns ∧ DenL K mg F (fs.map (·.2)) ds
  | _ => False
theorem Obj1.same {l : Addr} {d : D} (h : Obj1 K mg F H l d) (e : Same F F') (eh : ∀ o, H l = some o → H' l = some o) : Obj1 K mg F' H' l d := by
  cases d with
  | lst ds => obtain ⟨vs, h1, h2⟩ := h; exact ⟨vs, eh _ h1, h2.same e⟩
  | dct ks ds => obtain ⟨kvs, h1, h2, h3⟩ := h; exact ⟨kvs, eh _ h1, h2, h3.same e⟩
  | ins c ns ds => obtain ⟨C, dx, fs, h1, h2, h3, h4⟩ := h; exact ⟨C, dx, fs, eh _ h1, h2, h3, h4.same e⟩
  | _ => exact h.elim
theorem Obj1.has {l : Addr} {d : D} (h : Obj1 K mg F H l d) : ∃ o, H l = some o := by
  cases d with
  | lst ds => obtain ⟨vs, h1, h2⟩ := h; exact ⟨_, h1⟩
  | dct ks ds => obtain ⟨kvs, h1, h2, h3⟩ := h; exact ⟨_, h1⟩
  | ins c ns ds => obtain ⟨C, dx, fs, h1, h2, h3, h4⟩ := h; exact ⟨_, h1⟩
  | _ => exact h.elim
theorem Obj1.den {l : Addr} {d : D} {o : HO} (h : Obj1 K mg F H l d) (ho : H l = some o) (e : Same F F') (hl : F' l = some o) : Den K mg F' (.ref l) d := by
  cases d with
  | lst ds =>
    obtain ⟨vs, h1, h2⟩ := h
    rw [ho] at h1; cases h1
    exact .lst (SqL.of hl) (h2.same e)
  | dct ks ds =>
    obtain ⟨kvs, h1, rfl, h3⟩ := h
    rw [ho] at h1; cases h1
    exact .dct hl (h3.same e)
  | ins c ns ds =>
    obtain ⟨C, dx, fs, h1, h2, rfl, h4⟩ := h
    rw [ho] at h1; cases h1
    exact .ins hl h2 (h4.same e)
  | _ => exact h.elim
end
structure Fx where
  H₀ : Hp
  F₀ : Hp
  io : List (Nat × Addr)
def SlR (K : Frag) (mg : MG) (G : Fx) (F H : Hp) (i : Nat) (v : Option V) : Sl → Prop
  | .no => True
  | .sh d => ∃ u, v = some u ∧ Den K mg F u d
  | .ow d => ∃ l, v = some (.ref l) ∧ F l = none ∧ G.H₀ l = none ∧ Obj1 K mg F H l d
  | .io d => ∃ l, v = some (.ref l) ∧ (i, l) ∈ G.io ∧ F l = none ∧ Obj1 K mg F H l d
def Owned : Sl → Bool
  | .ow _ => true
  | .io _ => true
  | _ => false
structure Good (K : Frag) (mg : MG) (G : Fx) (F H : Hp) (σ : St) (ρ : Rho) : Prop where
  sF : Same G.F₀ F
  sub : Same F H
  old : ∀ a o, G.H₀ a = some o → (∀ i, (i, a) ∉ G.io) → H a = some o
  new : ∀ a o, F a = some o → G.F₀ a = some o ∨ G.H₀ a = none
  len : σ.length = ρ.length
  slot : ∀ (i : Nat) (s : Sl), ρ[i]? = some s → SlR K mg G F H i (σ[i]?.join) s
  apart : ∀ (i j : Nat) (l : Addr) (s t : Sl), ρ[i]? = some s → ρ[j]? = some t → Owned s = true → Owned t = true → σ[i]? = some (some (V.ref l)) → σ[j]? = some (some (V.ref l)) → i = j
  ioT : ∀ i a, (i, a) ∈ G.io → (∃ o, H a = some o) ∧ F a = none ∧ ∃ o, G.H₀ a = some o
  ioU : ∀ i a b, (i, a) ∈ G.io → (i, b) ∈ G.io → a = b
section
variable {K : Frag} {mg : MG} {G : Fx} {F F' H H' : Hp} {σ : St} {ρ : Rho}
theorem SlR.own {i : Nat} {v : Option V} {s : Sl} (h : SlR K mg G F H i v s) (o : Owned s = true) : ∃ l d, v = some (.ref l) ∧ F l = none ∧ Obj1 K mg F H l d ∧ (s = .ow d ∨ s = .io d) := by
  cases s with
  | no => cases o
  | sh d => cases o
  | ow d => obtain ⟨l, h1, h2, h3, h4⟩ := h; exact ⟨l, d, h1, h2, h4, .inl rfl⟩
  | io d => obtain ⟨l, h1, h2, h3, h4⟩ := h; exact ⟨l, d, h1, h3, h4, .inr rfl⟩
theorem SlR.same {i : Nat} {v : Option V} {s : Sl} (h : SlR K mg G F H i v s) (e : Same F F') (hn : ∀ l, v = some (.ref l) → Owned s = true → F l = none → (∃ o, H l = some o) → F' l = none)
    (eh : ∀ l o, v = some (.ref l) → Owned s = true → H l = some o → H' l = some o) : SlR K mg G F' H' i v s := by
  cases s with
  | no => trivial
  | sh d => obtain ⟨u, h1, h2⟩ := h; exact ⟨u, h1, h2.same e⟩
  | ow d => obtain ⟨l, h1, h2, h3, h4⟩ := h; exact ⟨l, h1, hn l h1 rfl h2 h4.has, h3, h4.same e fun o => eh l o h1 rfl⟩
  | io d => obtain ⟨l, h1, h2, h3, h4⟩ := h; exact ⟨l, h1, h2, hn l h1 rfl h3 h4.has, h4.same e fun o => eh l o h1 rfl⟩
theorem Good.ext (g : Good K mg G F H σ ρ) (eF : Same F F') (eH : Same H H') (sub : Same F' H') (new : ∀ a o, F' a = some o → F a = some o ∨ H a = none) : Good K mg G F' H' σ ρ where
  sF := g.sF.trans eF
  sub := sub
  old := fun a o e n => eH _ _ (g.old a o e n)
  new := fun a o e => by
    rcases new a o e with h | h
    · exact g.new a o h
    · refine .inr ?_
      cases q : G.H₀ a with
      | none => rfl
      | some u =>
        by_cases z : ∃ i, (i, a) ∈ G.io
        · obtain ⟨i, z⟩ := z
          obtain ⟨⟨w, hw⟩, _⟩ := g.ioT i a z
          rw [h] at hw; cases hw
        · have := g.old a u q (fun i w => z ⟨i, w⟩)
          rw [h] at this; cases this
  len := g.len
  slot := fun i s h => (g.slot i s h).same eF (fun l _ _ hf ⟨o, ho⟩ => by
    cases q : F' l with
    | none => rfl
    | some u =>
      rcases new l u q with z | z
      · rw [hf] at z; cases z
      · rw [ho] at z; cases z) fun l o _ _ e => eH _ _ e
  apart := g.apart
  ioT := fun i a h => by
    obtain ⟨⟨o, h1⟩, h2, h3⟩ := g.ioT i a h
    refine ⟨⟨o, eH _ _ h1⟩, ?_, h3⟩
    cases q : F' a with
    | none => rfl
    | some u =>
      rcases new a u q with z | z
      · rw [h2] at z; cases z
      · rw [h1] at z; cases z
  ioU := g.ioU
theorem same_upd {A : Hp} {p : Addr} {o : HO} (h : A p = none) : Same A (upd A p o) := fun b q e => by rw [upd_ne (ne_of_none e h)]; exact e
theorem Good.laid {p : Addr} {o : HO} (g : Good K mg G F H σ ρ) (hp : H p = none) : Good K mg G (upd F p o) (upd H p o) σ ρ := by
  have fp : F p = none := g.sub.free hp
  refine g.ext (same_upd fp) (same_upd hp) (fun b q e => ?_) fun a u e => ?_
  · by_cases hb : b = p
    · subst hb; rw [upd_same] at e ⊢; exact e
    · rw [upd_ne hb] at e ⊢; exact g.sub _ _ e
  · by_cases hb : a = p
    · subst hb; exact .inr hp
    · rw [upd_ne hb] at e; exact .inl e
theorem Good.made {p : Addr} {o : HO} (g : Good K mg G F H σ ρ) (hp : H p = none) : Good K mg G F (upd H p o) σ ρ :=
  g.ext (Same.refl _) (same_upd hp) (g.sub.trans (same_upd hp)) fun a u e => .inl e
theorem Good.new0 {p : Addr} (g : Good K mg G F H σ ρ) (hp : H p = none) : G.H₀ p = none := by
  cases q : G.H₀ p with
  | none => rfl
  | some u =>
    by_cases z : ∃ i, (i, p) ∈ G.io
    · obtain ⟨i, z⟩ := z
      obtain ⟨⟨w, hw⟩, _⟩ := g.ioT i p z
      rw [hp] at hw; cases hw
    · have := g.old p u q (fun i w => z ⟨i, w⟩)
      rw [hp] at this; cases this
structure Loose (K : Frag) (mg : MG) (G : Fx) (F H : Hp) (σ : St) (ρ : Rho) (l : Addr) (d : D) : Prop where
  nF : F l = none
  n0 : G.H₀ l = none
  ob : Obj1 K mg F H l d
  ns : ∀ (i : Nat) (s : Sl), ρ[i]? = some s → Owned s = true → σ[i]? ≠ some (some (V.ref l))
theorem Good.loose {p : Addr} {o : HO} {d : D} (g : Good K mg G F H σ ρ) (hp : H p = none) (ho : Obj1 K mg F (upd H p o) p d) : Loose K mg G F (upd H p o) σ ρ p d where
  nF := g.sub.free hp
  n0 := g.new0 hp
  ob := ho
  ns := fun i s h o e => by
    obtain ⟨l, d, h1, h2, h3, h4⟩ := (g.slot i s h).own o
    rw [e] at h1
    cases h1
    obtain ⟨u, hu⟩ := h3.has
    rw [hp] at hu; cases hu
theorem Loose.fast {l : Addr} {d : D} (x : Loose K mg G F H σ ρ l d) (g : Good K mg G F H σ ρ) : ∃ F', Same F F' ∧ Good K mg G F' H σ ρ ∧ Den K mg F' (.ref l) d := by
  obtain ⟨o, ho⟩ := x.ob.has
  refine ⟨upd F l o, same_upd x.nF, ?_, x.ob.den ho (same_upd x.nF) upd_same⟩
  exact {
    sF := g.sF.trans (same_upd x.nF)
    sub := fun b q e => by
      by_cases hb : b = l
      · subst hb; rw [upd_same] at e; cases e; exact ho
      · rw [upd_ne hb] at e; exact g.sub _ _ e
    old := g.old
    new := fun a u e => by
      by_cases hb : a = l
      · subst hb; exact .inr x.n0
      · rw [upd_ne hb] at e; exact g.new a u e
    len := g.len
    slot := fun i s h => (g.slot i s h).same (same_upd x.nF) (fun m hv ow hf _ => by
      have : m ≠ l := fun z => by
        subst z
        refine x.ns i s h ow ?_
        cases q : σ[i]? with
        | none => rw [q] at hv; cases hv
        | some w => rw [q] at hv; exact congrArg some hv
      rw [upd_ne this]; exact hf) fun _ _ _ _ e => e
    apart := g.apart
    ioT := fun i a h => by
      obtain ⟨h1, h2, u, h3⟩ := g.ioT i a h
      refine ⟨h1, ?_, u, h3⟩
      have : a ≠ l := fun z => by subst z; rw [x.n0] at h3; cases h3
      rw [upd_ne this]; exact h2
    ioU := g.ioU }
theorem join_some {σ : St} {i : Nat} {v : V} (h : σ[i]?.join = some v) : σ[i]? = some (some v) := by
  cases q : σ[i]? with
  | none => rw [q] at h; cases h
  | some w => rw [q] at h; exact congrArg some h
theorem Good.store {i : Nat} {v : V} {s' : Sl} (g : Good K mg G F H σ ρ) (hf : free ρ[i]? = true) (hs : SlR K mg G F H i (some v) s')
    (hap : Owned s' = true → ∀ (j : Nat) (s : Sl), ρ[j]? = some s → Owned s = true → j ≠ i → σ[j]? ≠ some (some v)) : Good K mg G F H (σ.set i (some v)) (ρ.set i s') where
  sF := g.sF
  sub := g.sub
  old := g.old
  new := g.new
  len := by simp [g.len]
  slot := fun j s h => by
    by_cases hj : j = i
    · subst hj
      have hi : j < ρ.length := by
        cases q : ρ[j]? with
        | none => rw [q] at hf; cases hf
        | some w => exact (List.getElem?_eq_some_iff.mp q).1
      rw [List.getElem?_set_self hi] at h; cases h
      rw [List.getElem?_set_self (by rw [g.len]; exact hi)]
      exact hs
    · rw [List.getElem?_set_ne (Ne.symm hj)] at h ⊢
      exact g.slot j s h
  apart := fun j k l s t h1 h2 o1 o2 e1 e2 => by
    by_cases hj : j = i
    · by_cases hk : k = i
      · rw [hj, hk]
      · subst hj
        rw [List.getElem?_set_ne (Ne.symm hk)] at h2 e2
        have hi : j < ρ.length := by
          cases q : ρ[j]? with
          | none => rw [q] at hf; cases hf
          | some w => exact (List.getElem?_eq_some_iff.mp q).1
        rw [List.getElem?_set_self hi] at h1; cases h1
        rw [List.getElem?_set_self (by rw [g.len]; exact hi)] at e1
        cases e1
        exact absurd e2 (hap o1 k t h2 o2 hk)
    · rw [List.getElem?_set_ne (Ne.symm hj)] at h1 e1
      by_cases hk : k = i
      · subst hk
        have hi : k < ρ.length := by
          cases q : ρ[k]? with
          | none => rw [q] at hf; cases hf
          | some w => exact (List.getElem?_eq_some_iff.mp q).1
        rw [List.getElem?_set_self hi] at h2; cases h2
        rw [List.getElem?_set_self (by rw [g.len]; exact hi)] at e2
        cases e2
        exact absurd e1 (hap o2 j s h1 o1 hj)
      · rw [List.getElem?_set_ne (Ne.symm hk)] at h2 e2
        exact g.apart j k l s t h1 h2 o1 o2 e1 e2
  ioT := g.ioT
  ioU := g.ioU
theorem Good.write {i : Nat} {l : Addr} {s s' : Sl} {o : HO} {d : D} (g : Good K mg G F H σ ρ) (hr : ρ[i]? = some s) (ho : Owned s = true) (hl : σ[i]? = some (some (V.ref l)))
    (hs : (∃ e, s = .ow e ∧ s' = .ow d) ∨ (∃ e, s = .io e ∧ s' = .io d)) (hd : Obj1 K mg F (upd H l o) l d) : Good K mg G F (upd H l o) σ (ρ.set i s') := by
  have nF : F l = none := by
    obtain ⟨m, e, h1, h2, h3, _⟩ := (g.slot i s hr).own ho
    rw [hl] at h1; cases h1; exact h2
  have hi : i < ρ.length := (List.getElem?_eq_some_iff.mp hr).1
  have ow' : Owned s' = true := by rcases hs with ⟨e, _, rfl⟩ | ⟨e, _, rfl⟩ <;> rfl
  exact {
    sF := g.sF
    sub := fun b q e => by
      have : b ≠ l := ne_of_none e nF
      rw [upd_ne this]; exact g.sub _ _ e
    old := fun a q e n => by
      have : a ≠ l := fun z => by
        subst z
        have k := g.slot i s hr
        rcases hs with ⟨e', rfl, _⟩ | ⟨e', rfl, _⟩
        · obtain ⟨m, h1, h2, h3, _⟩ := k
          rw [hl] at h1; cases h1; rw [e] at h3; cases h3
        · obtain ⟨m, h1, h2, h3, _⟩ := k
          rw [hl] at h1; cases h1; exact n i h2
      rw [upd_ne this]; exact g.old a q e n
    new := g.new
    len := by simp [g.len]
    slot := fun j t h => by
      by_cases hj : j = i
      · subst hj
        rw [List.getElem?_set_self hi] at h; cases h
        have k := g.slot j s hr
        rcases hs with ⟨e', rfl, rfl⟩ | ⟨e', rfl, rfl⟩
        · obtain ⟨m, h1, h2, h3, _⟩ := k
          rw [hl] at h1; cases h1
          rw [hl]
          exact ⟨l, rfl, h2, h3, hd⟩
        · obtain ⟨m, h1, h2, h3, _⟩ := k
          rw [hl] at h1; cases h1
          rw [hl]
          exact ⟨l, rfl, h2, h3, hd⟩
      · rw [List.getElem?_set_ne (Ne.symm hj)] at h
        refine (g.slot j t h).same (Same.refl _) (fun _ _ _ z _ => z) fun m q hv ow e => ?_
        have : m ≠ l := fun z => by
          subst z
          exact hj (g.apart j i m t s h hr ow ho (join_some hv) hl)
        rw [upd_ne this]; exact e
    apart := fun j k m t u h1 h2 o1 o2 e1 e2 => by
      have f : ∀ {j : Nat} {t : Sl}, (ρ.set i s')[j]? = some t → Owned t = true → ∃ t', ρ[j]? = some t' ∧ Owned t' = true := fun {j t} h o => by
        by_cases hj : j = i
        · subst hj; exact ⟨s, hr, ho⟩
        · rw [List.getElem?_set_ne (Ne.symm hj)] at h; exact ⟨t, h, o⟩
      obtain ⟨t', a1, a2⟩ := f h1 o1
      obtain ⟨u', b1, b2⟩ := f h2 o2
      exact g.apart j k m t' u' a1 b1 a2 b2 e1 e2
    ioT := fun j a h => by
      obtain ⟨⟨q, h1⟩, h2, h3⟩ := g.ioT j a h
      refine ⟨?_, h2, h3⟩
      by_cases ha : a = l
      · subst ha; exact ⟨o, upd_same⟩
      · exact ⟨q, by rw [upd_ne ha]; exact h1⟩
    ioU := g.ioU }
theorem Good.fz {i : Nat} {d : D} (g : Good K mg G F H σ ρ) (hr : ρ[i]? = some (.ow d)) : ∃ F', Same F F' ∧ Good K mg G F' H σ (ρ.set i (.sh d)) := by
  obtain ⟨l, h1, h2, h3, h4⟩ := g.slot i _ hr
  have hl := join_some h1
  have hi : i < ρ.length := (List.getElem?_eq_some_iff.mp hr).1
  obtain ⟨o, ho⟩ := h4.has
  refine ⟨upd F l o, same_upd h2, ?_⟩
  exact {
    sF := g.sF.trans (same_upd h2)
    sub := fun b q e => by
      by_cases hb : b = l
      · subst hb; rw [upd_same] at e; cases e; exact ho
      · rw [upd_ne hb] at e; exact g.sub _ _ e
    old := g.old
    new := fun a u e => by
      by_cases hb : a = l
      · subst hb; exact .inr h3
      · rw [upd_ne hb] at e; exact g.new a u e
    len := by simp [g.len]
    slot := fun j s h => by
      by_cases hj : j = i
      · subst hj
        rw [List.getElem?_set_self hi] at h; cases h
        exact ⟨_, h1, h4.den ho (same_upd h2) upd_same⟩
      · rw [List.getElem?_set_ne (Ne.symm hj)] at h
        refine (g.slot j s h).same (same_upd h2) (fun m hv ow hf _ => ?_) fun _ _ _ _ e => e
        have : m ≠ l := fun z => by
          subst z
          exact hj (g.apart j i m s _ h hr ow rfl (join_some hv) hl)
        rw [upd_ne this]; exact hf
    apart := fun j k m t u h1 h2 o1 o2 e1 e2 => by
      have f : ∀ {j : Nat} {t : Sl}, (ρ.set i (.sh d))[j]? = some t → Owned t = true → ρ[j]? = some t := fun {j t} h o => by
        by_cases hj : j = i
        · subst hj; rw [List.getElem?_set_self hi] at h; cases h; cases o
        · rw [List.getElem?_set_ne (Ne.symm hj)] at h; exact h
      exact g.apart j k m t u (f h1 o1) (f h2 o2) o1 o2 e1 e2
    ioT := fun j a h => by
      obtain ⟨q1, q2, u, q3⟩ := g.ioT j a h
      refine ⟨q1, ?_, u, q3⟩
      have : a ≠ l := fun z => by subst z; rw [h3] at q3; cases q3
      rw [upd_ne this]; exact q2
    ioU := g.ioU }
end
end VS

end
section
set_option linter.all false
set_option maxRecDepth 100000
namespace VS
open PySem PySem.Spec PyProof.Rows L2 VP
def XR (K : Frag) (mg : MG) (F H : Hp) (c : Value) (dx : Option Addr) (x : Xn) : Prop :=
  ∃ C, c = .ref C ∧ mg x.cls = some (.ref C) ∧ ∃ fs : List (Str × V), ((dx = none ∧ fs = []) ∨ ∃ a, dx = some a ∧ F a = some (.xd fs)) ∧ fs.map (·.1) = x.ns ∧ DenL K mg F (fs.map (·.2)) x.vs
abbrev XE := St → XK
structure Lc where
  K : Frag
  mg : MG
  EX : XE
def Out {α : Type} : Res α → (α → Rho → Prop) → (Xn → Rho → Prop) → Prop
  | .ok a r, P, _ => P a r
  | .exc x r, _, E => E x r
  | .no, _, _ => False
theorem Out.bnd {α β : Type} {f : M α} {g : α → M β} {r : Rho} {P : β → Rho → Prop} {E : Xn → Rho → Prop} (h : Out (bnd f g r) P E) : Out (f r) (fun a r' => Out (g a r') P E) E := by
  unfold VP.bnd at h
  cases q : f r with
  | ok a r' => rw [q] at h; exact h
  | exc x r' => rw [q] at h; exact h
  | no => rw [q] at h; exact h
theorem Out.mono {α : Type} {r : Res α} {P P' : α → Rho → Prop} {E E' : Xn → Rho → Prop} (h : Out r P E) (hP : ∀ a r, P a r → P' a r) (hE : ∀ x r, E x r → E' x r) : Out r P' E' := by
  cases r with
  | ok a r => exact hP _ _ h
  | exc x r => exact hE _ _ h
  | no => exact h
theorem Out.opt {α : Type} {o : Option α} {r : Rho} {P : α → Rho → Prop} {E : Xn → Rho → Prop} (h : Out (opt o r) P E) : ∃ a, o = some a ∧ P a r := by
  cases o with
  | none => exact h.elim
  | some a => exact ⟨a, rfl, h⟩
theorem Out.ite {α : Type} {b : Bool} {f g : M α} {r : Rho} {P : α → Rho → Prop} {E : Xn → Rho → Prop} (h : Out ((if b then f else g) r) P E) : (b = true ∧ Out (f r) P E) ∨ (b = false ∧ Out (g r) P E) := by
  cases b with
  | true => exact .inl ⟨rfl, h⟩
  | false => exact .inr ⟨rfl, h⟩
abbrev Rl (α β : Type) := Fx → Hp → Hp → St → Rho → β → α → Prop
section
variable (L : Lc)
abbrev Lc.Good (G : Fx) (F H : Hp) (σ : St) (ρ : Rho) : Prop := VS.Good L.K L.mg G F H σ ρ
def RV : Rl D V := fun _ F _ _ _ v d => Den L.K L.mg F v d
def RR : Rl D V := fun _ F H _ _ v d => Den L.K L.mg F v d ∨ ∃ l, v = .ref l ∧ Obj1 L.K L.mg F H l d
def RF : Rl D V := fun G F H σ ρ v d => ∃ l, v = .ref l ∧ Loose L.K L.mg G F H σ ρ l d
def RB : Rl Bool Bool := fun _ _ _ _ _ b a => b = a
def RL : Rl (List D) (List V) := fun _ F _ _ _ vs ds => DenL L.K L.mg F vs ds
def PostX (G : Fx) (F : Hp) (σ : St) : Xn → Rho → Prop := fun x ρ' => ∀ F' H' c dx, Same F F' → L.Good G F' H' σ ρ' → XR L.K L.mg F' H' c dx x → L.EX σ c dx H'
def Post {α β : Type} (R : Rl α β) (G : Fx) (F : Hp) (σ : St) (Q : β → Hp → Prop) : α → Rho → Prop := fun a ρ' => ∀ F' H' b, Same F F' → L.Good G F' H' σ ρ' → R G F' H' σ ρ' b a → Q b H'
def lift {α β : Type} (R : Rl α β) (f : M α) : St → Hp → (β → Hp → Prop) → Prop := fun σ H Q =>
  ∃ G F ρ, L.Good G F H σ ρ ∧ Out (f ρ) (Post L R G F σ Q) (PostX L G F σ)
end
section
variable {L : Lc} {α β γ : Type} {G : Fx} {F F1 H : Hp} {σ : St} {ρ : Rho}
theorem at_bnd {Ra : Rl α β} {f : M α} {g : α → M γ} {P : γ → Rho → Prop} {E : Xn → Rho → Prop} {W : β → Hp → Prop} (g0 : L.Good G F H σ ρ) (o : Out (bnd f g ρ) P E) (hE : ∀ x r, E x r → PostX L G F σ x r)
    (k : ∀ F1 H1 ρ1 a b, Same F F1 → L.Good G F1 H1 σ ρ1 → Ra G F1 H1 σ ρ1 b a → Out (g a ρ1) P E → W b H1) : lift L Ra f σ H W :=
  ⟨G, F, ρ, g0, o.bnd.mono (fun a ρ1 q F1 H1 b e g1 r => k F1 H1 ρ1 a b e g1 r q) hE⟩
theorem PostX.same (e : Same F F1) {x : Xn} {r : Rho} (h : PostX L G F σ x r) : PostX L G F1 σ x r := fun F' H' c dx s g q => h F' H' c dx (e.trans s) g q
theorem Post.same {R : Rl α β} {Q : β → Hp → Prop} (e : Same F F1) {a : α} {r : Rho} (h : Post L R G F σ Q a r) : Post L R G F1 σ Q a r := fun F' H' b s g q => h F' H' b (e.trans s) g q
end
abbrev lc (X : Cx) (EX : XE) : Lc := ⟨X.K, X.mg, EX⟩
def PV (X : Cx) (EX : XE) (e : Expr) (f : M D) : Prop := PE X e (lift (lc X EX) (RV (lc X EX)) f)
def PR (X : Cx) (EX : XE) (e : Expr) (f : M D) : Prop := PE X e (lift (lc X EX) (RR (lc X EX)) f)
def PF (X : Cx) (EX : XE) (e : Expr) (f : M D) : Prop := PE X e (lift (lc X EX) (RF (lc X EX)) f)
def PB (X : Cx) (EX : XE) (e : Expr) (f : M Bool) : Prop := PT X e (lift (lc X EX) RB f)
def PLs (X : Cx) (EX : XE) (es : List Expr) (f : M (List D)) : Prop := PA X es (lift (lc X EX) (RL (lc X EX)) f)
theorem _root_.L2.PE.le {X : Cx} {e : Expr} {t t' : TE} (h : PE X e t) (k : ∀ σ H Q, t' σ H Q → t σ H Q) : PE X e t' := fun pins s σ H Q I q => h pins s σ H Q I (k _ _ _ q)
theorem _root_.L2.PT.le {X : Cx} {e : Expr} {t t' : TT} (h : PT X e t) (k : ∀ σ H Q, t' σ H Q → t σ H Q) : PT X e t' := fun pins s σ H Q I q => h pins s σ H Q I (k _ _ _ q)
theorem _root_.L2.PA.le {X : Cx} {es : List Expr} {t t' : TA} (h : PA X es t) (k : ∀ σ H Q, t' σ H Q → t σ H Q) : PA X es t' := fun pos pins s σ H Q I q => h pos pins s σ H Q I (k _ _ _ q)
theorem _root_.L2.PS.le {X : Cx} {e : Stmt} {t t' : TS} (h : PS X e t) (k : ∀ D σ H, t' D σ H → t D σ H) : PS X e t' := fun pins s σ H D I q => h pins s σ H D I (k _ _ _ q)
theorem _root_.L2.PSs.le {X : Cx} {e : List Stmt} {t t' : TS} (h : PSs X e t) (k : ∀ D σ H, t' D σ H → t D σ H) : PSs X e t' := fun pins s σ H D I q => h pins s σ H D I (k _ _ _ q)
section
variable {X : Cx} {EX : XE} {e a b c : Expr} {f fa fb fc : M D} {pos : Pos}
theorem PV.rd (h : PV X EX e f) : PR X EX e f := h.le fun σ H Q ⟨G, F, ρ, g, o⟩ => ⟨G, F, ρ, g, o.mono (fun a r q F' H' b s g' d => q F' H' b s g' (.inl d)) fun x r q => q⟩
theorem PF.pv (h : PF X EX e f) : PV X EX e f := h.le fun σ H Q ⟨G, F, ρ, g, o⟩ => ⟨G, F, ρ, g, o.mono (fun a r q F' H' b s g' ⟨l, e, d⟩ => by
  subst e
  obtain ⟨F2, s2, g2, d2⟩ := d.fast g'
  exact q F2 H' _ (s.trans s2) g2 d2) fun x r q => q⟩
theorem pv_var (i : Nat) {x : Str} (hN : X.N[i]? = some x := by rfl) (hv : Vis X.env.scope x := by first | exact Or.inl rfl | exact Or.inr (Or.inl rfl) | exact Or.inr (Or.inr rfl)) (hd : (x == ("__debug__" : Str)) = false := by decide)
    (hcd : (x == ("__classdict__" : Str)) = false := by decide) : PV X EX (.Name x pos) (mVar i) :=
  (pe_var hN hv hd hcd).le fun σ H Q ⟨G, F, ρ, g, o⟩ => by
    unfold mVar at o
    cases q : ρ[i]? with
    | none => rw [q] at o; exact o.elim
    | some s =>
      rw [q] at o
      cases s with
      | sh d =>
        obtain ⟨u, h1, h2⟩ := g.slot i _ q
        exact ⟨u, join_some h1, o F H u (Same.refl _) g h2⟩
      | _ => exact o.elim
theorem pr_var (i : Nat) {x : Str} (hN : X.N[i]? = some x := by rfl) (hv : Vis X.env.scope x := by first | exact Or.inl rfl | exact Or.inr (Or.inl rfl) | exact Or.inr (Or.inr rfl)) (hd : (x == ("__debug__" : Str)) = false := by decide)
    (hcd : (x == ("__classdict__" : Str)) = false := by decide) : PR X EX (.Name x pos) (mRd i) :=
  (pe_var hN hv hd hcd).le fun σ H Q ⟨G, F, ρ, g, o⟩ => by
    unfold mRd at o
    cases q : ρ[i]? with
    | none => rw [q] at o; exact o.elim
    | some s =>
      rw [q] at o
      have k := g.slot i _ q
      cases s with
      | no => exact o.elim
      | sh d =>
        obtain ⟨u, h1, h2⟩ := k
        exact ⟨u, join_some h1, o F H u (Same.refl _) g (.inl h2)⟩
      | ow d =>
        obtain ⟨l, h1, h2, h3, h4⟩ := k
        exact ⟨_, join_some h1, o F H _ (Same.refl _) g (.inr ⟨l, rfl, h4⟩)⟩
      | io d =>
        obtain ⟨l, h1, h2, h3, h4⟩ := k
        exact ⟨_, join_some h1, o F H _ (Same.refl _) g (.inr ⟨l, rfl, h4⟩)⟩
theorem pv_of {t : TE} {v : V} {d : D} (h : PE X e t) (k : ∀ σ H Q, Q v H → t σ H Q) (hd : ∀ F, Den X.K X.mg F v d) : PV X EX e (mC d) :=
  h.le fun σ H Q ⟨G, F, ρ, g, o⟩ => k σ H Q (o F H v (Same.refl _) g (hd F))
theorem pv_int {i : Int} {j} : PV X EX (.Constant (.int i) j pos) (mC (.int i)) := pv_of pe_int (fun _ _ _ q => q) fun _ => .int i
theorem pv_bl {i : Bool} {j} : PV X EX (.Constant (.bool i) j pos) (mC (.bl i)) := pv_of pe_bl (fun _ _ _ q => q) fun _ => .bl i
theorem pv_non {j} : PV X EX (.Constant .none j pos) (mC .non) := pv_of pe_non (fun _ _ _ q => q) fun _ => .non
theorem pv_str {i : Str} {j} : PV X EX (.Constant (.str i) j pos) (mC (.str i)) := pv_of pe_str (fun _ _ _ q => q) fun _ => .str i
abbrev Then (L : Lc) (G : Fx) (F : Hp) (σ : St) (ρ : Rho) (d : D) (Q : VK) : Prop := ∀ F' H' v, Same F F' → L.Good G F' H' σ ρ → Den L.K L.mg F' v d → Q v H'
def OpG (L : Lc) (r : R2) (g : D → D → Option D) : Prop := ∀ G F H σ ρ x y dx dy d Q, L.Good G F H σ ρ → Den L.K L.mg F x dx → Den L.K L.mg F y dy → g dx dy = some d → Then L G F σ ρ d Q → r x y H Q
def UnG (L : Lc) (r : V → Hp → VK → Prop) (g : D → Option D) : Prop := ∀ G F H σ ρ x dx d Q, L.Good G F H σ ρ → RR L G F H σ ρ x dx → g dx = some d → Then L G F σ ρ d Q → r x H Q
def FnG (L : Lc) (r : List V → Hp → VK → Prop) (g : List D → Option D) : Prop := ∀ G F H σ ρ xs dxs d Q, L.Good G F H σ ρ → DenL L.K L.mg F xs dxs → g dxs = some d → Then L G F σ ρ d Q → r xs H Q
theorem op_le {r : R2} {g : D → D → Option D} (hg : OpG (lc X EX) r g) {ta tb : TE} (ha : ∀ σ H Q, lift (lc X EX) (RV (lc X EX)) fa σ H Q → ta σ H Q) (hb : ∀ σ H Q, lift (lc X EX) (RV (lc X EX)) fb σ H Q → tb σ H Q)
    (σ : St) (H : Hp) (Q : VK) (h : lift (lc X EX) (RV (lc X EX)) (m2 g fa fb) σ H Q) : tOp r ta tb σ H Q := by
  obtain ⟨G, F, ρ, g0, o⟩ := h
  refine ha _ _ _ (at_bnd g0 o (fun x r q => q) fun F1 H1 ρ1 d1 x s1 g1 r1 o1 => ?_)
  refine hb _ _ _ (at_bnd g1 o1 (fun x r q => q.same s1) fun F2 H2 ρ2 d2 y s2 g2 r2 o2 => ?_)
  obtain ⟨d, e, q⟩ := o2.opt
  exact hg G F2 H2 σ ρ2 x y d1 d2 d Q g2 (r1.same s2) r2 e (Post.same (s1.trans s2) q)
theorem pv_op {op : Operator} {r : R2} {g : D → D → Option D} (ho : OpR X (binaryOp op) r) (hg : OpG (lc X EX) r g) (ha : PV X EX a fa) (hb : PV X EX b fb) : PV X EX (.BinOp a op b pos) (m2 g fa fb) :=
  (pe_op ho ha hb).le (op_le hg (fun _ _ _ q => q) fun _ _ _ q => q)
theorem pv_cmp {op : CmpOp} {r : R2} {g : D → D → Option D} (ho : OpR X (compareOp op) r) (hg : OpG (lc X EX) r g) (ha : PV X EX a fa) (hb : PV X EX b fb) (hm : behindInMarks op b = false) : PV X EX (.Compare a [op] [b] pos) (m2 g fa fb) :=
  (pe_cmpR ho ha hb hm).le (op_le hg (fun _ _ _ q => q) fun _ _ _ q => q)
theorem pv_un {op : UnaryOp} {r : V → Hp → VK → Prop} {g : D → Option D} (ho : UnR X (unaryOp op) r) (hg : UnG (lc X EX) r g) (ha : PV X EX a fa) : PV X EX (.UnaryOp op a pos) (m1 g fa) :=
  (pe_un ho ha).le fun σ H Q ⟨G, F, ρ, g0, o⟩ => at_bnd g0 o (fun x r q => q) fun F1 H1 ρ1 d1 x s1 g1 r1 o1 => by
    obtain ⟨d, e, q⟩ := o1.opt
    exact hg G F1 H1 σ ρ1 x d1 d Q g1 (.inl r1) e (Post.same s1 q)
theorem pb_val (h : PV X EX a fa) (he : ∀ whole, isTrue a X.env whole = (do let v ← whole; standAt a.pos; holding [v] (truthy v)) := by intro _; rfl) : PB X EX a (VP.tB fa) :=
  (pt_val h he).le fun σ H Q ⟨G, F, ρ, g0, o⟩ => at_bnd g0 o (fun x r q => q) fun F1 H1 ρ1 d1 x s1 g1 r1 o1 => by
    cases d1 with
    | bl k => cases r1; exact ⟨k, rfl, o1 F1 H1 k s1 g1 rfl⟩
    | _ => exact o1.elim
theorem pb_cmp {op : CmpOp} {r : R2} {g : D → D → Option D} (ho : OpR X (compareOp op) r) (hg : OpG (lc X EX) r g) (ha : PV X EX a fa) (hb : PV X EX b fb) (hm : behindInMarks op b = false) : PB X EX (.Compare a [op] [b] pos) (VP.tB (m2 g fa fb)) :=
  (pt_cmpR ho ha hb hm).le fun σ H Q ⟨G, F, ρ, g0, o⟩ => by
    refine op_le hg (fun _ _ _ q => q) (fun _ _ _ q => q) σ H _ (at_bnd g0 o (fun x r q => q) fun F1 H1 ρ1 d1 x s1 g1 r1 o1 => ?_)
    cases d1 with
    | bl k => cases r1; exact ⟨k, rfl, o1 F1 H1 k s1 g1 rfl⟩
    | _ => exact o1.elim
variable {f1 f2 : M Bool} {rest : List Expr}
def PBW (X : Cx) (EX : XE) (e : Expr) (f : M Bool) : Prop := PW X e (lift (lc X EX) RB f)
theorem _root_.L2.PW.le {X : Cx} {e : Expr} {t t' : TT} (h : PW X e t) (k : ∀ σ H Q, t' σ H Q → t σ H Q) : PW X e t' := fun w pins s σ H Q I q => h w pins s σ H Q I (k _ _ _ q)
theorem PBW.pb (h : PBW X EX e f1) : PB X EX e f1 := PW.pt h
theorem pb_not (h : PB X EX a f1) : PB X EX (.UnaryOp .Not a pos) (VP.tNot f1) :=
  (pt_not h).le fun σ H Q ⟨G, F, ρ, g0, o⟩ => at_bnd g0 o (fun x r q => q) fun F1 H1 ρ1 d1 x s1 g1 r1 o1 => by
    cases r1
    exact o1 F1 H1 _ s1 g1 rfl
theorem pb_and1 (h : PB X EX a f1) : PBW X EX (.BoolOp .And [a] pos) f1 := pw_and1 h
theorem pb_or1 (h : PB X EX a f1) : PBW X EX (.BoolOp .Or [a] pos) f1 := pw_or1 h
theorem pb_and (h1 : PB X EX a f1) (h2 : PBW X EX (.BoolOp .And (b :: rest) pos) f2) : PBW X EX (.BoolOp .And (a :: b :: rest) pos) (VP.tAnd f1 f2) :=
  L2.PW.le (pw_and h1 h2) fun σ H Q ⟨G, F, ρ, g0, o⟩ => at_bnd g0 o (fun x r q => q) fun F1 H1 ρ1 d1 x s1 g1 r1 o1 => by
    cases r1
    rcases o1.ite with ⟨e, o2⟩ | ⟨e, o2⟩
    · subst e
      exact iteT ⟨G, F1, ρ1, g1, o2.mono (fun _ _ => Post.same s1) fun _ _ => PostX.same s1⟩
    · subst e
      exact iteF (o2 F1 H1 false s1 g1 rfl)
theorem pb_or (h1 : PB X EX a f1) (h2 : PBW X EX (.BoolOp .Or (b :: rest) pos) f2) : PBW X EX (.BoolOp .Or (a :: b :: rest) pos) (VP.tOr f1 f2) :=
  L2.PW.le (pw_or h1 h2) fun σ H Q ⟨G, F, ρ, g0, o⟩ => at_bnd g0 o (fun x r q => q) fun F1 H1 ρ1 d1 x s1 g1 r1 o1 => by
    cases r1
    rcases o1.ite with ⟨e, o2⟩ | ⟨e, o2⟩
    · subst e
      exact iteT (o2 F1 H1 true s1 g1 rfl)
    · subst e
      exact iteF ⟨G, F1, ρ1, g1, o2.mono (fun _ _ => Post.same s1) fun _ _ => PostX.same s1⟩
theorem pv_not (ha : PV X EX a fa) : PV X EX (.UnaryOp .Not a pos) (mOfT (VP.tNot (VP.tB fa))) :=
  (pe_not ha).le fun σ H Q ⟨G, F, ρ, g0, o⟩ => by
    refine ⟨G, F, ρ, g0, o.bnd.bnd.bnd.mono (fun d1 ρ1 o1 F1 H1 x s1 g1 r1 => ?_) fun _ _ q => q⟩
    cases d1 with
    | bl k => cases r1; exact ⟨k, rfl, o1 F1 H1 _ s1 g1 (.bl _)⟩
    | _ => exact o1.elim
theorem pv_one {op} (h : PV X EX a fa) : PV X EX (.BoolOp op [a] pos) fa := pe_one h
theorem pv_and (ha : PV X EX a fa) (hb : PV X EX (.BoolOp .And (b :: rest) pos) fb) : PV X EX (.BoolOp .And (a :: b :: rest) pos) (VP.mAndV fa fb) :=
  (pe_and ha hb).le fun σ H Q ⟨G, F, ρ, g0, o⟩ => at_bnd g0 o (fun x r q => q) fun F1 H1 ρ1 d1 x s1 g1 r1 o1 => by
    cases d1 with
    | bl k =>
      cases r1
      refine ⟨k, rfl, ?_⟩
      cases k with
      | true => exact iteT ⟨G, F1, ρ1, g1, Out.mono o1 (fun _ _ => Post.same s1) fun _ _ => PostX.same s1⟩
      | false => exact iteF (o1 F1 H1 _ s1 g1 (.bl _))
    | _ => exact o1.elim
theorem pv_or (ha : PV X EX a fa) (hb : PV X EX (.BoolOp .Or (b :: rest) pos) fb) : PV X EX (.BoolOp .Or (a :: b :: rest) pos) (VP.mOrV fa fb) :=
  (pe_or ha hb).le fun σ H Q ⟨G, F, ρ, g0, o⟩ => at_bnd g0 o (fun x r q => q) fun F1 H1 ρ1 d1 x s1 g1 r1 o1 => by
    cases d1 with
    | bl k =>
      cases r1
      refine ⟨k, rfl, ?_⟩
      cases k with
      | true => exact iteT (o1 F1 H1 _ s1 g1 (.bl _))
      | false => exact iteF ⟨G, F1, ρ1, g1, Out.mono o1 (fun _ _ => Post.same s1) fun _ _ => PostX.same s1⟩
    | _ => exact o1.elim
variable {es : List Expr} {fs : M (List D)}
theorem pl_nil : PLs X EX [] (mL []) := pa_nil.le fun σ H Q ⟨G, F, ρ, g0, o⟩ => o F H [] (Same.refl _) g0 .nil
theorem pl_cons {fl : List (M D)} (ha : PV X EX a fa) (hr : PLs X EX es (mL fl)) (hs : starEach (a :: es) X.env = (false, eval a X.env) :: starEach es X.env := by rfl) : PLs X EX (a :: es) (mL (fa :: fl)) :=
  (pa_cons ha hr hs).le fun σ H Q ⟨G, F, ρ, g0, o⟩ => at_bnd g0 o (fun x r q => q) fun F1 H1 ρ1 d1 x s1 g1 r1 o1 =>
    at_bnd g1 o1 (fun x r q => q.same s1) fun F2 H2 ρ2 d2 y s2 g2 r2 o2 => o2 F2 H2 _ (s1.trans s2) g2 (.cons (r1.same s2) r2)
theorem tupD_le {ds : List D} {d : D} (h : tupD ds = some d) : ds.length ≤ sizeLine ∧ d = .tup ds := by
  unfold tupD at h
  split at h
  · cases h; exact ⟨by rw [sizeLine_eq]; assumption, rfl⟩
  · cases h
theorem lstD_le {ds : List D} {d : D} (h : lstD ds = some d) : ds.length ≤ sizeLine ∧ d = .lst ds := by
  unfold lstD at h
  split at h
  · cases h; exact ⟨by rw [sizeLine_eq]; assumption, rfl⟩
  · cases h
theorem pv_tup {fl : List (M D)} {x1} (h : PLs X EX es (mL fl)) : PV X EX (.Tuple es x1 pos) (mTup fl) :=
  (pe_tup h).le fun σ H Q ⟨G, F, ρ, g0, o⟩ => at_bnd g0 o (fun x r q => q) fun F1 H1 ρ1 d1 xs s1 g1 r1 o1 => by
    obtain ⟨d, e, q⟩ := o1.opt
    obtain ⟨hl, rfl⟩ := tupD_le e
    refine ⟨by rw [DenL.length r1]; exact hl, fun p hp => ?_⟩
    have sF := same_upd (o := .tup xs) (g1.sub.free hp)
    exact q _ _ _ (s1.trans sF) (g1.laid hp) (.tup (SqT.of upd_same) (DenL.same sF r1))
theorem pf_lst {fl : List (M D)} (h : PLs X EX es (mL fl)) : PF X EX (.List es pos) (mLst fl) :=
  (pe_lst h).le fun σ H Q ⟨G, F, ρ, g0, o⟩ => at_bnd g0 o (fun x r q => q) fun F1 H1 ρ1 d1 xs s1 g1 r1 o1 => by
    obtain ⟨d, e, q⟩ := o1.opt
    obtain ⟨hl, rfl⟩ := lstD_le e
    refine ⟨by rw [DenL.length r1]; exact hl, fun p hp => ?_⟩
    exact q _ _ _ s1 (g1.made hp) ⟨p, rfl, g1.loose hp ⟨xs, upd_same, r1⟩⟩
variable {x : Str} {p : Pos} {id T : String} {r : List V → Hp → VK → Prop} {g : List D → Option D}
theorem pv_callB {fl : List (M D)} (hc : CallR X (.builtin id) r) (hg : FnG (lc X EX) r g) (hgl : Gl X x) (hm : X.mg x = none) (hv : bootBuiltins x = some (.builtin id)) (ha : PLs X EX (e :: es) (mL fl)) (hn : x ≠ "__name__" := by decide) (hdb : (x == ("__debug__" : Str)) = false := by decide)
    (he : starEach (e :: es) X.env = (false, eval e X.env) :: starEach es X.env := by rfl) (hpl : (backTo pos (starEach es X.env)).any (·.1) = false := by rfl) : PV X EX (.Call (.Name x p) (e :: es) [] pos) (mF g fl) :=
  (pe_callB hc hgl hm hv ha hn hdb he hpl).le fun σ H Q ⟨G, F, ρ, g0, o⟩ => at_bnd g0 o (fun x r q => q) fun F1 H1 ρ1 d1 xs s1 g1 r1 o1 => by
    obtain ⟨d, e, q⟩ := o1.opt
    exact hg G F1 H1 σ ρ1 xs d1 d Q g1 r1 e (Post.same s1 q)
end
end VS

end
section
set_option linter.all false
set_option maxRecDepth 100000
namespace VS
open PySem PySem.Spec PyProof.Rows L2 VP
section
variable (L : Lc)
def PostXS (G : Fx) (F : Hp) : Xn → Rho → Prop := fun x ρ' => ∀ F' H' σ' c dx, Same F F' → L.Good G F' H' σ' ρ' → XR L.K L.mg F' H' c dx x → L.EX σ' c dx H'
def PostS (G : Fx) (F : Hp) (E : Ends) : Fl → Rho → Prop := fun k ρ' => match k with
  | .nx => ∀ F' H' σ', Same F F' → L.Good G F' H' σ' ρ' → E.nx σ' H'
  | .bk => ∀ F' H' σ', Same F F' → L.Good G F' H' σ' ρ' → E.bk σ' H'
  | .ct => ∀ F' H' σ', Same F F' → L.Good G F' H' σ' ρ' → E.ct σ' H'
  | .rt d => ∀ F' H' σ' v, Same F F' → L.Good G F' H' σ' ρ' → Den L.K L.mg F' v d → E.rt v H'
def liftS (f : M Fl) : TS := fun E σ H => ∃ G F ρ, L.Good G F H σ ρ ∧ Out (f ρ) (PostS L G F E) (PostXS L G F)
def liftG (js : List Nat) (g : D → M Unit) : TG := fun v σ H Q => ∃ G F ρ d, L.Good G F H σ ρ ∧ Den L.K L.mg F v d ∧ Out (g d ρ) (fun _ ρ' => ∀ F' H' σ', Same F F' → L.Good G F' H' σ' ρ' → (∀ j, j ∉ js → σ'[j]? = σ[j]?) → Q σ' H') (fun _ _ => False)
def ItR (G : Fx) (F : Hp) (J : It) (ds : List D) : Prop := ∀ σ i F' H' ρ, Same F F' → L.Good G F' H' σ ρ →
  (i < ds.length → J.go i H') ∧ (i = ds.length → J.stop i H') ∧ ∀ x H'', J.yld i H' x H'' → ∃ F'', Same F' F'' ∧ L.Good G F'' H'' σ ρ ∧ ∀ d, ds[i]? = some d → Den L.K L.mg F'' x d
def RI : Rl (List D) It := fun G F _ _ _ J ds => ItR L G F J ds
end
def PVS (X : Cx) (EX : XE) (st : Stmt) (f : M Fl) : Prop := PS X st (liftS (lc X EX) f)
def PVSs (X : Cx) (EX : XE) (st : List Stmt) (f : M Fl) : Prop := PSs X st (liftS (lc X EX) f)
def PVG (X : Cx) (EX : XE) (tg : Expr) (js : List Nat) (g : D → M Unit) : Prop := PG X tg (liftG (lc X EX) js g)
def PVI (X : Cx) (EX : XE) (tg iter : Expr) (f : M (List D)) : Prop := PI X tg iter (lift (lc X EX) (RI (lc X EX)) f)
theorem _root_.L2.PG.le {X : Cx} {tg : Expr} {t t' : TG} (h : PG X tg t) (k : ∀ v σ H Q, t' v σ H Q → t v σ H Q) : PG X tg t' := fun pins s σ H v u Q I r q => h pins s σ H v u Q I r (k _ _ _ _ q)
theorem _root_.L2.PI.le {X : Cx} {tg it : Expr} {t t' : TI} (h : PI X tg it t) (k : ∀ σ H Q, t' σ H Q → t σ H Q) : PI X tg it t' := fun pins s σ H R I q => h pins s σ H R I (k _ _ _ q)
section
variable {X : Cx} {EX : XE} {st : Stmt} {rest : List Stmt} {e a b c tg : Expr} {fe fa fb : M D} {f g : M Fl} {pos : Pos}
theorem PostXS.x {L : Lc} {G : Fx} {F : Hp} {σ : St} {x : Xn} {r : Rho} (h : PostXS L G F x r) : PostX L G F σ x r := fun F' H' c dx s g q => h F' H' σ c dx s g q
theorem PostXS.same {L : Lc} {G : Fx} {F F1 : Hp} (e : Same F F1) {x : Xn} {r : Rho} (h : PostXS L G F x r) : PostXS L G F1 x r := fun F' H' σ' c dx s g q => h F' H' σ' c dx (e.trans s) g q
theorem PostS.same {L : Lc} {G : Fx} {F F1 : Hp} {E : Ends} (e : Same F F1) {k : Fl} {r : Rho} (h : PostS L G F E k r) : PostS L G F1 E k r := by
  cases k with
  | nx => exact fun F' H' σ' s g => h F' H' σ' (e.trans s) g
  | bk => exact fun F' H' σ' s g => h F' H' σ' (e.trans s) g
  | ct => exact fun F' H' σ' s g => h F' H' σ' (e.trans s) g
  | rt d => exact fun F' H' σ' v s g => h F' H' σ' v (e.trans s) g
theorem vss_nil : PVSs X EX [] sNx := pss_nil.le fun E σ H ⟨G, F, ρ, g0, o⟩ => o F H σ (Same.refl _) g0
theorem vss_cons (h1 : PVS X EX st f) (h2 : PVSs X EX rest g) : PVSs X EX (st :: rest) (sSeq f g) :=
  (pss_cons h1 h2).le fun E σ H ⟨G, F, ρ, g0, o⟩ => ⟨G, F, ρ, g0, o.bnd.mono (fun k r q => by
    cases k with
    | nx => exact fun F' H' σ' s g' => ⟨G, F', r, g', Out.mono q (fun _ _ => PostS.same s) fun _ _ => PostXS.same s⟩
    | bk => exact q
    | ct => exact q
    | rt d => exact q) fun _ _ q => q⟩
theorem vs_fz {i : Nat} (h : PVS X EX st f) : PVS X EX st (sFz i f) := h.le fun E σ H ⟨G, F, ρ, g0, o⟩ => by
  unfold sFz VP.bnd mFz at o
  cases q : ρ[i]? with
  | none => simp only [q] at o; exact o.elim
  | some s =>
    simp only [q] at o
    cases s with
    | no => exact o.elim
    | io d => exact o.elim
    | sh d => exact ⟨G, F, ρ, g0, o⟩
    | ow d =>
      obtain ⟨F', s, g1⟩ := Good.fz g0 q
      exact ⟨G, F', _, g1, Out.mono o (fun _ _ => PostS.same s) fun _ _ => PostXS.same s⟩
theorem vs_ret (he : PV X EX e fe) : PVS X EX (.Return (some e) pos) (sRet fe) :=
  (ps_ret he).le fun E σ H ⟨G, F, ρ, g0, o⟩ => at_bnd g0 o (fun x r q => q.x) fun F1 H1 ρ1 d1 x s1 g1 r1 o1 => o1 F1 H1 σ x s1 g1 r1
theorem vs_if {f1 : M Bool} {sa sb : List Stmt} (hc : PB X EX c f1) (ha : PVSs X EX sa f) (hb : PVSs X EX sb g) : PVS X EX (.If c sa sb pos) (VP.sIf f1 f g) :=
  (ps_if hc ha hb).le fun E σ H ⟨G, F, ρ, g0, o⟩ => at_bnd g0 o (fun x r q => q.x) fun F1 H1 ρ1 d1 x s1 g1 r1 o1 => by
    cases r1
    rcases o1.ite with ⟨e, o2⟩ | ⟨e, o2⟩
    · subst e
      exact iteT ⟨G, F1, ρ1, g1, o2.mono (fun _ _ => PostS.same s1) fun _ _ => PostXS.same s1⟩
    · subst e
      exact iteF ⟨G, F1, ρ1, g1, o2.mono (fun _ _ => PostS.same s1) fun _ _ => PostXS.same s1⟩
theorem set_good {L : Lc} {G : Fx} {F H : Hp} {σ : St} {ρ : Rho} {i : Nat} {d : D} {v : V} {P : Unit → Rho → Prop} {E : Xn → Rho → Prop} (g0 : L.Good G F H σ ρ) (r : Den L.K L.mg F v d) (o : Out (mSet i d ρ) P E) :
    ∃ ρ', L.Good G F H (σ.set i (some v)) ρ' ∧ P () ρ' := by
  unfold mSet at o
  by_cases hf : free ρ[i]? = true
  · rw [if_pos hf] at o
    exact ⟨_, Good.store (s' := .sh d) g0 hf ⟨v, rfl, r⟩ (fun z => by cases z), o⟩
  · rw [if_neg hf] at o; exact o.elim
theorem own_good {L : Lc} {G : Fx} {F H : Hp} {σ : St} {ρ : Rho} {i : Nat} {d : D} {l : Addr} {P : Unit → Rho → Prop} {E : Xn → Rho → Prop} (g0 : L.Good G F H σ ρ) (r : Loose L.K L.mg G F H σ ρ l d) (o : Out (mOwn i d ρ) P E) :
    ∃ ρ', L.Good G F H (σ.set i (some (.ref l))) ρ' ∧ P () ρ' := by
  unfold mOwn at o
  by_cases hf : free ρ[i]? = true
  · rw [if_pos hf] at o
    exact ⟨_, Good.store (s' := .ow d) g0 hf ⟨l, rfl, r.nF, r.n0, r.ob⟩ (fun _ j s hj ho _ => r.ns j s hj ho), o⟩
  · rw [if_neg hf] at o; exact o.elim
theorem vs_set (i : Nat) {x : Str} {pos' : Pos} (hN : X.N.Nodup) (hi : X.N[i]? = some x) (hx : Loc X.env.scope x) (he : PV X EX e fe) (hs : swapsWith e (some (.Name x pos')) pos.line X.env = pure false := by rfl)
    (hf : X.fn x = true ∨ X.env.scope.names.lookup x = some .local := by first | exact .inl rfl | exact .inr rfl | assumption) : PVS X EX (.Assign [.Name x pos'] e pos) (sSet i fe) :=
  (ps_set hN hi hx he hs hf).le fun E σ H ⟨G, F, ρ, g0, o⟩ => at_bnd g0 o (fun x r q => q.x) fun F1 H1 ρ1 d1 v s1 g1 r1 o1 => by
    obtain ⟨ρ2, g2, q⟩ := set_good g1 r1 o1.bnd
    exact q F1 H1 _ s1 g2
theorem vs_own (i : Nat) {x : Str} {pos' : Pos} (hN : X.N.Nodup) (hi : X.N[i]? = some x) (hx : Loc X.env.scope x) (he : PF X EX e fe) (hs : swapsWith e (some (.Name x pos')) pos.line X.env = pure false := by rfl)
    (hf : X.fn x = true ∨ X.env.scope.names.lookup x = some .local := by first | exact .inl rfl | exact .inr rfl | assumption) : PVS X EX (.Assign [.Name x pos'] e pos) (sOwn i fe) :=
  (ps_set hN hi hx he hs hf).le fun E σ H ⟨G, F, ρ, g0, o⟩ => at_bnd g0 o (fun x r q => q.x) fun F1 H1 ρ1 d1 v s1 g1 r1 o1 => by
    obtain ⟨l, rfl, r1⟩ := r1
    obtain ⟨ρ2, g2, q⟩ := own_good g1 r1 o1.bnd
    exact q F1 H1 _ s1 g2
theorem vg_name (i : Nat) {x : Str} (hN : X.N.Nodup) (hi : X.N[i]? = some x) (hx : Loc X.env.scope x) (hf : X.fn x = true ∨ X.env.scope.names.lookup x = some .local := by first | exact .inl rfl | exact .inr rfl | assumption) : PVG X EX (.Name x pos) [i] (VP.gName i) :=
  (pg_name hN hi hx hf).le fun v σ H Q ⟨G, F, ρ, d, g0, r, o⟩ => by
    obtain ⟨ρ', g1, q⟩ := set_good g0 r o
    exact q F H _ (Same.refl _) g1 fun j hj => List.getElem?_set_ne (fun e => hj (by simp [e]))
def liftGs (L : Lc) (is : List Nat) : TGs := fun vs σ H Q => ∃ G F ρ ds, L.Good G F H σ ρ ∧ DenL L.K L.mg F vs ds ∧ Out (gAll is ds ρ) (fun _ ρ' => ∀ F' H' σ', Same F F' → L.Good G F' H' σ' ρ' → (∀ j, j ∉ is → σ'[j]? = σ[j]?) → Q σ' H') (fun _ _ => False)
def PVGs (X : Cx) (EX : XE) (ts : List Expr) (is : List Nat) : Prop := PGs X ts (liftGs (lc X EX) is)
theorem _root_.L2.PGs.le {X : Cx} {ts : List Expr} {t t' : TGs} (h : PGs X ts t) (k : ∀ v σ H Q, t' v σ H Q → t v σ H Q) : PGs X ts t' := fun pins s σ H v u Q I r q => h pins s σ H v u Q I r (k _ _ _ _ q)
theorem vgs_nil : PVGs X EX [] [] := L2.PGs.le pgs_nil fun vs σ H Q ⟨G, F, ρ, ds, g0, r, o⟩ => by
  cases r with
  | nil => exact ⟨rfl, o F H σ (Same.refl _) g0 fun _ _ => rfl⟩
  | cons h t => exact o.elim
theorem vgs_cons (i : Nat) {is : List Nat} {x : Str} {es : List Expr} (hN : X.N.Nodup) (hi : X.N[i]? = some x) (hx : Loc X.env.scope x) (h2 : PVGs X EX es is)
    (hf : X.fn x = true ∨ X.env.scope.names.lookup x = some .local := by first | exact .inl rfl | exact .inr rfl | assumption) (hs : (assignEach (.Name x pos :: es) X.env).map (·.2) = assign (.Name x pos) X.env :: (assignEach es X.env).map (·.2) := by rfl) : PVGs X EX (.Name x pos :: es) (i :: is) :=
  L2.PGs.le (pgs_cons (pg_name hN hi hx hf) h2 hs) fun vs σ H Q ⟨G, F, ρ, ds, g0, r, o⟩ => by
    cases r with
    | nil => exact o.elim
    | cons h t =>
      refine ⟨_, _, rfl, ?_⟩
      obtain ⟨ρ', g1, q⟩ := set_good g0 h o.bnd
      exact ⟨G, F, ρ', _, g1, t, Out.mono q (fun _ r z F' H' σ' s g hj => z F' H' σ' s g fun j hn => by
        rw [hj j fun m => hn (List.mem_cons_of_mem _ m), List.getElem?_set_ne (fun e => hn (by simp [e]))]) fun _ _ z => z⟩
theorem vg_tup {es : List Expr} {k : Nat} {is : List Nat} (hc : X.calm = true) (h : PVGs X EX es is)
    (hn : (assignEach es X.env).length = is.length := by rfl) (hst : (assignEach es X.env).findIdx? (·.1) = none := by rfl) : PVG X EX (.Tuple es k pos) is (VP.gTup is) :=
  (pg_tup (n := is.length) hc h hn hst).le fun v σ H Q ⟨G, F, ρ, d, g0, r, o⟩ => by
    have len : ∀ {is : List Nat} {ds : List D} {ρ : Rho} {P : Unit → Rho → Prop} {E : Xn → Rho → Prop}, Out (gAll is ds ρ) P E → (∀ x r, ¬ E x r) → ds.length = is.length := by
      intro is
      induction is with
      | nil => intro ds ρ P E o _; cases ds with
        | nil => rfl
        | cons => exact o.elim
      | cons i is ih => intro ds ρ P E o hE; cases ds with
        | nil => exact o.elim
        | cons d ds =>
          have o' := o.bnd
          unfold mSet at o'
          split at o'
          · simp [ih o' hE]
          · exact o'.elim
    cases d with
    | tup ds =>
      cases r with
      | tup h1 h2 =>
        exact ⟨_, _, rfl, SqT.same h1 g0.sub, by rw [DenL.length h2]; exact len o fun _ _ z => z, G, F, ρ, ds, g0, h2, o⟩
    | _ => exact o.elim
theorem gName_x {i : Nat} : ∀ d r x r', VP.gName i d r ≠ .exc x r' := fun d r x r' h => by
  unfold VP.gName mSet at h
  split at h <;> cases h
theorem gAll_x : ∀ {is : List Nat} {ds : List D} {r : Rho} {x : Xn} {r' : Rho}, gAll is ds r ≠ .exc x r'
  | [], [], _, _, _, h => by cases h
  | [], _ :: _, _, _, _, h => by cases h
  | _ :: _, [], _, _, _, h => by cases h
  | i :: is, d :: ds, r, x, r', h => by
    simp only [gAll, VP.bnd, mSet] at h
    split at h
    · rename_i a r2 q
      exact gAll_x h
    · rename_i x2 r2 q
      split at q <;> cases q
    · cases h
theorem gTup_x {is : List Nat} : ∀ d r x r', VP.gTup is d r ≠ .exc x r' := fun d r x r' h => by
  unfold VP.gTup at h
  cases d with
  | tup ds => exact gAll_x h
  | _ => cases h
theorem vs_for {iter : Expr} {body : List Stmt} {it : M (List D)} {gf : D → M Unit} {js : List Nat} (hp : PassesOwn (model X.prog X.w) X.A X.env X.xe) (hc : X.calm = true) (hi : PVI X EX tg iter it) (hg : PVG X EX tg js gf) (hb : PVSs X EX body f)
    (hgx : ∀ d r x r', gf d r ≠ .exc x r') (hs : ∀ x, foldedSetIterable iter X.env x = pure x := by intro _; rfl) : PVS X EX (.For tg iter body [] pos) (VP.sFor it gf f) :=
  (ps_for hp hc hi hg hb hs).le fun E σ H ⟨G, F, ρ, g0, o⟩ => at_bnd g0 o (fun x r q => q.x) fun F1 H1 ρ1 ds J s1 g1 r1 o1 => by
    refine ⟨fun i m σ H => m = ds.length - i ∧ i ≤ ds.length ∧ ∃ F' ρ', Same F1 F' ∧ (lc X EX).Good G F' H σ ρ' ∧ Out (loop gf f (ds.drop i) ρ') (PostS (lc X EX) G F E) (PostXS (lc X EX) G F), ⟨ds.length, by simp, Nat.zero_le _, F1, ρ1, Same.refl _, g1, by simpa using o1⟩, ?_⟩
    rintro i m σ2 H2 ⟨rfl, hi, F2, ρ2, s2, g2, o2⟩
    obtain ⟨t1, t2, t3⟩ := r1 σ2 i F2 H2 ρ2 s2 g2
    by_cases hlt : i < ds.length
    · refine .inr ⟨t1 hlt, fun σ' H' => ∃ F' ρ', Same F1 F' ∧ (lc X EX).Good G F' H' σ' ρ' ∧ Out (loop gf f (ds.drop (i + 1)) ρ') (PostS (lc X EX) G F E) (PostXS (lc X EX) G F), fun σ' H' q => ⟨ds.length - (i + 1), by omega, rfl, hlt, q⟩, fun x H3 y => ?_⟩
      obtain ⟨F3, s3, g3, r3⟩ := t3 x H3 y
      have e : ds.drop i = ds[i] :: ds.drop (i + 1) := List.drop_eq_getElem_cons hlt
      rw [e] at o2
      have o3 : Out (gf ds[i] ρ2) (fun _ ρ' => Out (bnd f (fun k => match k with | .nx => loop gf f (ds.drop (i + 1)) | .ct => loop gf f (ds.drop (i + 1)) | .bk => ret .nx | .rt e => ret (.rt e)) ρ') (PostS (lc X EX) G F E) (PostXS (lc X EX) G F)) (PostXS (lc X EX) G F) := Out.bnd o2
      refine ⟨G, F3, ρ2, ds[i], g3, r3 _ (by simp [hlt]), ?_⟩
      cases q : gf ds[i] ρ2 with
      | no => rw [q] at o3; exact o3.elim
      | exc x r => exact absurd q (hgx _ _ _ _)
      | ok u ρ3 =>
        rw [q] at o3
        intro F4 H4 σ4 s4 g4 _
        refine ⟨G, F4, ρ3, g4, (Out.bnd o3).mono (fun k r z => ?_) fun _ _ z => z.same ((s1.trans s2).trans (s3.trans s4))⟩
        cases k with
        | nx => exact fun F' H' σ' s g' => ⟨F', r, s2.trans (s3.trans (s4.trans s)), g', z⟩
        | ct => exact fun F' H' σ' s g' => ⟨F', r, s2.trans (s3.trans (s4.trans s)), g', z⟩
        | bk => exact fun F' H' σ' s g' => z F' H' σ' ((s1.trans s2).trans (s3.trans (s4.trans s))) g'
        | rt d => exact fun F' H' σ' v s g' => z F' H' σ' v ((s1.trans s2).trans (s3.trans (s4.trans s))) g'
    · have e : i = ds.length := by omega
      subst e
      refine .inl ⟨t2 rfl, ?_⟩
      rw [List.drop_length] at o2
      exact o2 F2 H2 σ2 (s1.trans s2) g2
end
end VS

end
section
set_option linter.all false
set_option maxRecDepth 100000
namespace VS
open PySem PySem.Spec PyProof.Rows L2 VP
section
variable (K : Frag) (mg : MG)
def ArgsR (F H : Hp) : List Bool → List V → List D → Prop
  | [], [], [] => True
  | false :: bs, v :: vs, d :: ds => Den K mg F v d ∧ ArgsR F H bs vs ds
  | true :: bs, v :: vs, d :: ds => (∃ l, v = .ref l ∧ F l = none ∧ Obj1 K mg F H l d) ∧ ArgsR F H bs vs ds
  | _, _, _ => False
def IosR (F H : Hp) : List Addr → List D → Prop
  | [], [] => True
  | l :: ls, d :: ds => (F l = none ∧ Obj1 K mg F H l d) ∧ IosR F H ls ds
  | _, _ => False
end
def ioAs : Nat → List Bool → List V → List (Nat × Addr)
  | i, true :: bs, .ref l :: vs => (i, l) :: ioAs (i + 1) bs vs
  | i, _ :: bs, _ :: vs => ioAs (i + 1) bs vs
  | _, _, _ => []
def ioAd (fl : List Bool) (vs : List V) : List Addr := (ioAs 0 fl vs).map (·.2)
structure After (K : Frag) (mg : MG) (F H F' H' : Hp) (ls : List Addr) (ios : List D) : Prop where
  sF : Same F F'
  sub : Same F' H'
  old : ∀ a o, H a = some o → a ∉ ls → H' a = some o
  new : ∀ a o, F' a = some o → F a = some o ∨ H a = none
  ios : IosR K mg F' H' ls ios
def spV (K : Frag) (mg : MG) (fl : List Bool) (f : Fn) : Sp := fun vs H Q E => vs.length = fl.length ∧ ∃ F ds, Same F H ∧ ArgsR K mg F H fl vs ds ∧ (ioAd fl vs).Nodup ∧
  match f ds with
  | .ok d ios => ∀ F' H' v, After K mg F H F' H' (ioAd fl vs) ios → Den K mg F' v d → Q v H'
  | .exc x ios => ∀ F' H' c dx, After K mg F H F' H' (ioAd fl vs) ios → XR K mg F' H' c dx x → E c dx H'
  | .no => False
section
variable {K : Frag} {mg : MG} {F H : Hp}
theorem ioAs_at : ∀ {i0 : Nat} {fl : List Bool} {vs : List V} {i : Nat} {a : Addr}, (i, a) ∈ ioAs i0 fl vs → i0 ≤ i ∧ vs[i - i0]? = some (.ref a) ∧ fl[i - i0]? = some true := by
  intro i0 fl
  induction fl generalizing i0 with
  | nil => intro vs i a h; cases vs <;> simp [ioAs] at h
  | cons b bs ih =>
    intro vs i a h
    cases vs with
    | nil => cases b <;> simp [ioAs] at h
    | cons v vs =>
      have step : (i, a) ∈ ioAs (i0 + 1) bs vs → i0 ≤ i ∧ (v :: vs)[i - i0]? = some (.ref a) ∧ (b :: bs)[i - i0]? = some true := fun h => by
        obtain ⟨h1, h2, h3⟩ := ih h
        have e : i - i0 = (i - (i0 + 1)) + 1 := by omega
        rw [e]
        exact ⟨by omega, by simpa using h2, by simpa using h3⟩
      cases b with
      | false => cases v <;> exact step (by simpa [ioAs] using h)
      | true =>
        cases v with
        | ref l =>
          rcases List.mem_cons.mp (show (i, a) ∈ (i0, l) :: ioAs (i0 + 1) bs vs from h) with e | h
          · cases e; simp
          · exact step h
        | _ => exact step (by simpa [ioAs] using h)
theorem ioAs_mem : ∀ {i0 : Nat} {fl : List Bool} {vs : List V} {k : Nat} {a : Addr}, fl[k]? = some true → vs[k]? = some (.ref a) → (i0 + k, a) ∈ ioAs i0 fl vs := by
  intro i0 fl
  induction fl generalizing i0 with
  | nil => intro vs k a h; simp at h
  | cons b bs ih =>
    intro vs k a h1 h2
    cases vs with
    | nil => simp at h2
    | cons v vs =>
      cases k with
      | zero =>
        simp at h1 h2
        subst h1 h2
        simp [ioAs]
      | succ k =>
        have q := ih (i0 := i0 + 1) (vs := vs) (k := k) (a := a) (by simpa using h1) (by simpa using h2)
        have e : i0 + (k + 1) = i0 + 1 + k := by omega
        rw [e]
        cases b with
        | false => cases v <;> simpa [ioAs] using q
        | true => cases v <;> simp [ioAs, q]
theorem ArgsR.get : ∀ {fl : List Bool} {vs : List V} {ds : List D}, ArgsR K mg F H fl vs ds → ∀ (k : Nat) (b : Bool) (v : V) (d : D), fl[k]? = some b → vs[k]? = some v → ds[k]? = some d →
    (b = false → Den K mg F v d) ∧ (b = true → ∃ l, v = .ref l ∧ F l = none ∧ Obj1 K mg F H l d) := by
  intro fl
  induction fl with
  | nil => intro vs ds h k b v d h1; simp at h1
  | cons b bs ih =>
    intro vs ds h k b' v d h1 h2 h3
    cases vs with
    | nil => simp at h2
    | cons w vs => cases ds with
      | nil => simp at h3
      | cons e ds =>
        cases k with
        | zero =>
          simp at h1 h2 h3
          subst h1 h2 h3
          cases b with
          | false => exact ⟨fun _ => h.1, fun z => (by cases z)⟩
          | true => exact ⟨fun z => (by cases z), fun _ => h.1⟩
        | succ k =>
          have h' : ArgsR K mg F H bs vs ds := by cases b <;> exact h.2
          exact ih h' k b' v d (by simpa using h1) (by simpa using h2) (by simpa using h3)
theorem ArgsR.len : ∀ {fl : List Bool} {vs : List V} {ds : List D}, ArgsR K mg F H fl vs ds → vs.length = fl.length ∧ ds.length = fl.length := by
  intro fl
  induction fl with
  | nil => intro vs ds h; cases vs <;> cases ds <;> first | exact ⟨rfl, rfl⟩ | exact (show False from h).elim
  | cons b bs ih =>
    intro vs ds h
    cases vs with
    | nil => cases b <;> cases ds <;> exact (show False from h).elim
    | cons w vs => cases ds with
      | nil => cases b <;> exact (show False from h).elim
      | cons e ds =>
        have h' : ArgsR K mg F H bs vs ds := by cases b <;> exact h.2
        obtain ⟨h1, h2⟩ := ih h'
        exact ⟨by simp [h1], by simp [h2]⟩
theorem startR_get : ∀ {n : Nat} {fl : List Bool} {ds : List D}, fl.length = ds.length → ∀ (i : Nat) (s : Sl), (startR n fl ds)[i]? = some s → (i < fl.length ∧ ∃ b d, fl[i]? = some b ∧ ds[i]? = some d ∧ s = (if b then .io d else .sh d)) ∨ (fl.length ≤ i ∧ s = .no) := by
  intro n fl
  induction fl generalizing n with
  | nil =>
    intro ds hl i s h
    cases ds with
    | nil =>
      refine .inr ⟨Nat.zero_le _, ?_⟩
      simp only [startR] at h
      rw [List.getElem?_replicate] at h
      split at h
      · exact (Option.some.inj h).symm
      · cases h
    | cons => simp at hl
  | cons b bs ih =>
    intro ds hl i s h
    cases ds with
    | nil => simp at hl
    | cons d ds =>
      simp only [startR] at h
      cases i with
      | zero =>
        simp at h
        exact .inl ⟨by simp, b, d, rfl, rfl, h.symm⟩
      | succ i =>
        rcases ih (by simpa using hl) i s (by simpa using h) with ⟨h1, b', d', h2, h3, h4⟩ | ⟨h1, h2⟩
        · exact .inl ⟨by simp; omega, b', d', by simpa using h2, by simpa using h3, h4⟩
        · exact .inr ⟨by simp; omega, h2⟩
theorem startR_len : ∀ {n : Nat} {fl : List Bool} {ds : List D}, fl.length = ds.length → fl.length ≤ n → (startR n fl ds).length = n := by
  intro n fl
  induction fl generalizing n with
  | nil => intro ds hl hn; cases ds with
    | nil => simp [startR]
    | cons => simp at hl
  | cons b bs ih =>
    intro ds hl hn
    cases ds with
    | nil => simp at hl
    | cons d ds =>
      simp only [startR, List.length_cons]
      rw [ih (by simpa using hl) (by simp at hn; omega)]
      simp at hn; omega
theorem start_get {N : List Str} {vs : List V} {i : Nat} {v : V} (h : vs[i]? = some v) : (start N vs)[i]? = some (some v) := by
  have hi : i < vs.length := (List.getElem?_eq_some_iff.mp h).1
  unfold L2.start
  rw [List.getElem?_append_left (by simpa using hi), List.getElem?_map, h]
  rfl
theorem good_start {N : List Str} {fl : List Bool} {vs : List V} {ds : List D} (hs : Same F H) (ha : ArgsR K mg F H fl vs ds) (hd : (ioAd fl vs).Nodup) (hn : fl.length ≤ N.length) :
    Good K mg ⟨H, F, ioAs 0 fl vs⟩ F H (start N vs) (startR N.length fl ds) := by
  obtain ⟨l1, l2⟩ := ha.len
  have at_ : ∀ {i : Nat} {a : Addr}, (i, a) ∈ ioAs 0 fl vs → ∃ d, F a = none ∧ Obj1 K mg F H a d := fun {i a} h => by
    obtain ⟨_, h2, h3⟩ := ioAs_at h
    rw [Nat.sub_zero] at h2 h3
    have hi : i < ds.length := by rw [l2, ← l1]; exact (List.getElem?_eq_some_iff.mp h2).1
    obtain ⟨l, e, q1, q2⟩ := (ha.get i true _ ds[i] h3 h2 (by simp [hi])).2 rfl
    cases e
    exact ⟨_, q1, q2⟩
  have own_ : ∀ {i : Nat} {s : Sl} {l : Addr}, (startR N.length fl ds)[i]? = some s → Owned s = true → (start N vs)[i]? = some (some (V.ref l)) → (i, l) ∈ ioAs 0 fl vs := fun {i s l} h o e => by
    rcases startR_get l2.symm i s h with ⟨h1, b, d, h2, h3, rfl⟩ | ⟨_, rfl⟩
    · cases b with
      | false => cases o
      | true =>
        have hv : i < vs.length := by omega
        rw [start_get (v := vs[i]) (by simp [hv])] at e
        have e' : vs[i] = V.ref l := Option.some.inj (Option.some.inj e)
        have := ioAs_mem (i0 := 0) (vs := vs) (k := i) (a := l) h2 (by rw [← e']; simp [hv])
        rwa [Nat.zero_add] at this
    · cases o
  exact {
    sF := Same.refl _
    sub := hs
    old := fun a o e _ => e
    new := fun a o e => .inl e
    len := by
      rw [startR_len l2.symm hn]
      unfold L2.start
      rw [List.length_append, List.length_map, List.length_replicate]
      omega
    slot := fun i s h => by
      rcases startR_get l2.symm i s h with ⟨h1, b, d, h2, h3, rfl⟩ | ⟨_, rfl⟩
      · have hv : i < vs.length := by omega
        have q := ha.get i b vs[i] d h2 (by simp [hv]) h3
        rw [start_get (v := vs[i]) (by simp [hv])]
        cases b with
        | false => exact ⟨_, rfl, q.1 rfl⟩
        | true =>
          obtain ⟨l, e, q1, q2⟩ := q.2 rfl
          refine ⟨l, by rw [e]; rfl, ?_, q1, q2⟩
          have := ioAs_mem (i0 := 0) (vs := vs) (k := i) (a := l) h2 (by rw [← e]; simp [hv])
          rwa [Nat.zero_add] at this
      · trivial
    apart := fun i j l s t h1 h2 o1 o2 e1 e2 => by
      have m1 := own_ h1 o1 e1
      have m2 := own_ h2 o2 e2
      obtain ⟨a, ha, ea⟩ := List.mem_iff_getElem.mp m1
      obtain ⟨b, hb, eb⟩ := List.mem_iff_getElem.mp m2
      have hab : a = b := by
        refine (List.getElem_inj hd (i := a) (j := b) (h₀ := by simpa [ioAd] using ha) (h₁ := by simpa [ioAd] using hb)).mp ?_
        simp [ioAd, ea, eb]
      subst hab
      rw [ea] at eb
      cases eb
      rfl
    ioT := fun i a h => by
      obtain ⟨d, q1, q2⟩ := at_ h
      exact ⟨q2.has, q1, q2.has⟩
    ioU := fun i a b h1 h2 => by
      obtain ⟨_, q1, _⟩ := ioAs_at h1
      obtain ⟨_, q2, _⟩ := ioAs_at h2
      rw [q1] at q2
      cases q2
      rfl }
theorem iosOf_ok {G : Fx} {F H : Hp} {σ : St} {ρ : Rho} {vs : List V} {fl : List Bool} {ios : List D} (g : Good K mg G F H σ ρ) (hG : G.io = ioAs 0 fl vs) (hv : vs.length = fl.length) (h : iosOf fl ρ = some ios)
    (hr : ∀ (k : Nat), fl[k]? = some true → ∃ a, vs[k]? = some (V.ref a)) : IosR K mg F H (ioAd fl vs) ios := by
  have gen : ∀ (fl' : List Bool) (k : Nat) (vs' : List V) (r : Rho) (ios : List D), fl' = fl.drop k → vs' = vs.drop k → r = ρ.drop k → iosOf fl' r = some ios → IosR K mg F H ((ioAs k fl' vs').map (·.2)) ios := by
    intro fl'
    induction fl' with
    | nil =>
      intro k vs' r ios h1 h2 h3 h4
      have : vs' = [] := by
        rw [h2]
        apply List.drop_eq_nil_of_le
        rw [hv]
        have := congrArg List.length h1
        simp at this
        omega
      subst this
      simp [iosOf] at h4
      subst h4
      trivial
    | cons b bs ih =>
      intro k vs' r ios h1 h2 h3 h4
      have hk : k < fl.length := by
        have := congrArg List.length h1
        simp at this
        omega
      have hb : fl[k]? = some b := by
        have := congrArg List.head? h1
        simpa using this.symm
      have hbs : bs = fl.drop (k + 1) := by
        have := congrArg List.tail h1
        simpa using this
      have hvk : k < vs.length := by omega
      have hvs : vs' = vs[k] :: vs.drop (k + 1) := by rw [h2]; exact List.drop_eq_getElem_cons hvk
      subst hvs
      cases r with
      | nil => cases b <;> simp [iosOf] at h4
      | cons s r =>
        have hrk : k < ρ.length := by
          have := congrArg List.length h3
          simp at this
          omega
        have hr1 : ρ[k]? = some s := by
          have := congrArg List.head? h3
          simpa using this.symm
        have hr2 : r = ρ.drop (k + 1) := by
          have := congrArg List.tail h3
          simpa using this
        cases b with
        | false =>
          have q := ih (k + 1) (vs.drop (k + 1)) r ios hbs rfl hr2 (by simpa [iosOf] using h4)
          cases e : vs[k] <;> simpa [ioAs, e] using q
        | true =>
          obtain ⟨a, ha⟩ := hr k hb
          have e : vs[k] = .ref a := by
            have : vs[k]? = some vs[k] := by simp [hvk]
            rw [this] at ha
            exact Option.some.inj ha
          rw [e]
          cases s with
          | io d =>
            simp only [iosOf] at h4
            cases q : iosOf bs r with
            | none => rw [q] at h4; cases h4
            | some ios' =>
              rw [q] at h4
              have h5 : d :: ios' = ios := Option.some.inj h4
              subst h5
              obtain ⟨l, z1, z2, z3, z4⟩ := g.slot k _ hr1
              have m : (k, a) ∈ G.io := by
                rw [hG]
                have := ioAs_mem (i0 := 0) (vs := vs) (k := k) (a := a) hb ha
                rwa [Nat.zero_add] at this
              have : l = a := g.ioU k l a z2 m
              subst this
              exact ⟨⟨z3, z4⟩, ih (k + 1) (vs.drop (k + 1)) r ios' hbs rfl hr2 q⟩
          | _ => simp [iosOf] at h4
  exact gen fl 0 vs ρ ios (by simp) (by simp) (by simp) h
end
section
variable {P : Program} {w : World} {K : Frag} {mg : MG} {base : Heap}
theorem start_le {N ps : List Str} {fl : List Bool} {body : M Fl} {vs : List V} {H : Hp} {Q : VK} {E : XK} (hp : N.take ps.length = ps) (hl : fl.length = ps.length) (h : spV K mg fl (defn N.length fl body) vs H Q E) :
    liftS ⟨K, mg, fun _ => E⟩ body { nx := fun _ H' => Q .non H', rt := Q } (start N vs) H := by
  obtain ⟨hv, F, ds, hs, ha, hd, h⟩ := h
  have hpn : fl.length ≤ N.length := by
    have := congrArg List.length hp
    rw [List.length_take] at this
    omega
  have g0 := good_start (N := N) hs ha hd hpn
  have hio : ∀ (k : Nat), fl[k]? = some true → ∃ a, vs[k]? = some (V.ref a) := fun k q => by
    have hk : k < fl.length := (List.getElem?_eq_some_iff.mp q).1
    obtain ⟨l1, l2⟩ := ha.len
    have hkv : k < vs.length := by omega
    have hkd : k < ds.length := by omega
    obtain ⟨l, e, _⟩ := (ha.get k true vs[k] ds[k] q (by simp [hkv]) (by simp [hkd])).2 rfl
    exact ⟨l, by rw [← e]; simp [hkv]⟩
  refine ⟨_, F, _, g0, ?_⟩
  unfold defn at h
  rw [if_pos ha.len.2] at h
  have aft : ∀ {F' H' : Hp} {σ' : St} {ρ' : Rho} {ios : List D}, Same F F' → Good K mg ⟨H, F, ioAs 0 fl vs⟩ F' H' σ' ρ' → iosOf fl ρ' = some ios → After K mg F H F' H' (ioAd fl vs) ios := fun {F' H' σ' ρ' ios} s g q =>
    ⟨s, g.sub, fun a o e n => g.old a o e fun i z => n (List.mem_map.mpr ⟨_, z, rfl⟩), g.new, iosOf_ok g rfl hv q hio⟩
  generalize body (startR N.length fl ds) = R at h
  cases R with
  | no => exact h
  | exc z ρ' =>
    cases q : iosOf fl ρ' with
    | none => simp only [q] at h
    | some ios =>
      simp only [q] at h
      exact fun F' H' σ' c dx s g r => h F' H' c dx (aft s g q) r
  | ok fl' ρ' =>
    cases fl' with
    | bk => exact h.elim
    | ct => exact h.elim
    | nx =>
      cases q : iosOf fl ρ' with
      | none => simp only [q] at h
      | some ios =>
        simp only [q] at h
        exact fun F' H' σ' s g => h F' H' .non (aft s g q) .non
    | rt d =>
      cases q : iosOf fl ρ' with
      | none => simp only [q] at h
      | some ios =>
        simp only [q] at h
        exact fun F' H' σ' v s g r => h F' H' v (aft s g q) r
theorem fn_ok {x qual : Str} {st : Stmt} {f : Addr} {fd : FuncData} {N ps : List Str} {k : Nat} {fl : List Bool} {body : M Fl} (Fu : Fun K x qual st f fd) (S : FnScope N ps (defScope st)) (hl : fl.length = ps.length)
    (hbody : ∀ (cdv : Value) (A : Around) (outer : List Env) (s : Shared) (H : Hp) (E : XK), Room k (A.deeper (envOfC qual (defScope st) s.heap.objs.size f cdv)) →
      PVSs (cxOf CX0 P w K mg base N qual (defScope st) f cdv A outer s H E).nox (fun _ => E) (defBody st) body) :
    FnOk P w K mg base CX0 (k + 1) f fd ps (spV K mg fl (defn N.length fl body)) := by
  refine Fu.ok S (fun vs H Q E h => by rw [h.1, hl]) fun cdv A outer s H vs Q E hr h => ?_
  exact ⟨_, hbody cdv A outer s H E hr, start_le S.pre hl h⟩
end
end VS

end
section
set_option linter.all false
set_option maxRecDepth 100000
namespace VS
open PySem PySem.Spec PyProof.Rows L2 VP
def retag (d : D) : Sl → Sl
  | .ow _ => .ow d
  | .io _ => .io d
  | s => s
theorem putS_get (j : Nat) (d : D) (r : Rho) (i : Nat) : (putS j d r)[i]? = if i = j then (r[i]?).map (retag d) else r[i]? := by
  unfold putS
  cases q : r[j]? with
  | none =>
    dsimp only
    split
    · rename_i e; subst e; rw [q]; rfl
    · rfl
  | some s =>
    have hj : j < r.length := (List.getElem?_eq_some_iff.mp q).1
    cases s with
    | no =>
      dsimp only
      split
      · rename_i e; subst e; rw [q]; rfl
      · rfl
    | sh e =>
      dsimp only
      split
      · rename_i e; subst e; rw [q]; rfl
      · rfl
    | ow e =>
      dsimp only
      split
      · rename_i e; subst e; rw [List.getElem?_set_self hj, q]; rfl
      · rename_i e; rw [List.getElem?_set_ne (Ne.symm e)]
    | io e =>
      dsimp only
      split
      · rename_i e; subst e; rw [List.getElem?_set_self hj, q]; rfl
      · rename_i e; rw [List.getElem?_set_ne (Ne.symm e)]
theorem putS_len (j : Nat) (d : D) (r : Rho) : (putS j d r).length = r.length := by
  unfold putS
  split <;> simp
theorem putAll_len : ∀ (js : List Nat) (ds : List D) (r : Rho), (putAll js ds r).length = r.length
  | [], _, _ => rfl
  | _ :: _, [], _ => rfl
  | j :: js, d :: ds, r => by
    show (putAll js ds (putS j d r)).length = _
    rw [putAll_len, putS_len]
theorem putAll_out : ∀ {js : List Nat} {ds : List D} {r : Rho} {i : Nat}, i ∉ js → (putAll js ds r)[i]? = r[i]?
  | [], _, _, _, _ => rfl
  | _ :: _, [], _, _, _ => rfl
  | j :: js, d :: ds, r, i, h => by
    show (putAll js ds (putS j d r))[i]? = _
    rw [putAll_out (fun z => h (List.mem_cons_of_mem _ z)), putS_get, if_neg (fun e => h (by rw [e]; exact List.mem_cons_self))]
theorem putAll_in : ∀ {js : List Nat} {ds : List D} {r : Rho} {k i : Nat} {d : D}, js.Nodup → js[k]? = some i → ds[k]? = some d → (putAll js ds r)[i]? = (r[i]?).map (retag d)
  | [], _, _, _, _, _, _, h, _ => by simp at h
  | _ :: _, [], _, _, _, _, _, _, h => by simp at h
  | j :: js, e :: ds, r, 0, i, d, nd, h1, h2 => by
    simp at h1 h2
    subst h1 h2
    show (putAll js ds (putS j e r))[j]? = _
    rw [putAll_out (List.nodup_cons.mp nd).1, putS_get, if_pos rfl]
  | j :: js, e :: ds, r, k + 1, i, d, nd, h1, h2 => by
    have h1' : js[k]? = some i := by simpa using h1
    have ne : i ≠ j := fun z => (List.nodup_cons.mp nd).1 (by rw [← z]; exact List.mem_of_getElem? h1')
    show (putAll js ds (putS j e r))[i]? = _
    rw [putAll_in (List.nodup_cons.mp nd).2 h1' (by simpa using h2), putS_get, if_neg ne]
section
variable {K : Frag} {mg : MG}
theorem IosR.get : ∀ {F H : Hp} {ls : List Addr} {ds : List D}, IosR K mg F H ls ds → ls.length = ds.length ∧ ∀ (k : Nat) (l : Addr) (d : D), ls[k]? = some l → ds[k]? = some d → F l = none ∧ Obj1 K mg F H l d
  | _, _, [], [], _ => ⟨rfl, fun k l d h => by simp at h⟩
  | _, _, [], _ :: _, h => (show False from h).elim
  | _, _, _ :: _, [], h => (show False from h).elim
  | F, H, l :: ls, d :: ds, h => by
    obtain ⟨h1, h2⟩ := IosR.get (F := F) (H := H) (ls := ls) (ds := ds) h.2
    refine ⟨by simp [h1], fun k l' d' e1 e2 => ?_⟩
    cases k with
    | zero => simp at e1 e2; subst e1 e2; exact h.1
    | succ k => exact h2 k l' d' (by simpa using e1) (by simpa using e2)
theorem Good.called {G : Fx} {F H F' H' : Hp} {σ : St} {ρ : Rho} {js : List Nat} {ls : List Addr} {ios : List D} (g : Good K mg G F H σ ρ) (hj : js.Nodup) (hl : js.length = ls.length)
    (hs : ∀ (k j : Nat) (l : Addr), js[k]? = some j → ls[k]? = some l → (∃ s, ρ[j]? = some s ∧ Owned s = true) ∧ σ[j]? = some (some (V.ref l))) (a : After K mg F H F' H' ls ios) : Good K mg G F' H' σ (putAll js ios ρ) := by
  obtain ⟨hi, ig⟩ := a.ios.get
  have inls : ∀ {l : Addr}, l ∈ ls → ∃ (k j : Nat) (s : Sl), js[k]? = some j ∧ ls[k]? = some l ∧ ρ[j]? = some s ∧ Owned s = true ∧ σ[j]? = some (some (V.ref l)) := fun {l} h => by
    obtain ⟨k, hk, e⟩ := List.mem_iff_getElem.mp h
    have e' : ls[k]? = some l := by rw [← e]; simp [hk]
    have hk' : k < js.length := by omega
    obtain ⟨⟨s, q1, q2⟩, q3⟩ := hs k js[k] l (by simp [hk']) e'
    exact ⟨k, js[k], s, by simp [hk'], e', q1, q2, q3⟩
  have nomix : ∀ a' o, F' a' = some o → F a' = some o ∨ H a' = none := a.new
  have keepF : ∀ {l : Addr}, F l = none → (∃ o, H l = some o) → F' l = none := fun {l} h ⟨o, ho⟩ => by
    cases q : F' l with
    | none => rfl
    | some u =>
      rcases a.new l u q with z | z
      · rw [h] at z; cases z
      · rw [ho] at z; cases z
  exact {
    sF := g.sF.trans a.sF
    sub := a.sub
    old := fun b o e n => by
      refine a.old b o (g.old b o e n) fun hb => ?_
      obtain ⟨k, j, s, q1, q2, q3, q4, q5⟩ := inls hb
      have t := g.slot j s q3
      cases s with
      | no => cases q4
      | sh d => cases q4
      | ow d =>
        obtain ⟨l, z1, z2, z3, z4⟩ := t
        rw [q5] at z1; cases z1
        rw [e] at z3; cases z3
      | io d =>
        obtain ⟨l, z1, z2, z3, z4⟩ := t
        rw [q5] at z1; cases z1
        exact n j z2
    new := fun b o e => by
      rcases a.new b o e with z | z
      · exact g.new b o z
      · exact .inr (g.new0 z)
    len := by rw [putAll_len]; exact g.len
    slot := fun i s h => by
      by_cases hi' : i ∈ js
      · obtain ⟨k, hk, e⟩ := List.mem_iff_getElem.mp hi'
        have e' : js[k]? = some i := by rw [← e]; simp [hk]
        have hkl : k < ls.length := by omega
        have hki : k < ios.length := by omega
        rw [putAll_in hj e' (d := ios[k]) (by simp [hki])] at h
        obtain ⟨⟨s0, q1, q2⟩, q3⟩ := hs k i ls[k] e' (by simp [hkl])
        rw [q1] at h
        have h' : retag ios[k] s0 = s := Option.some.inj h
        subst h'
        obtain ⟨y1, y2⟩ := ig k ls[k] ios[k] (by simp [hkl]) (by simp [hki])
        have t := g.slot i s0 q1
        cases s0 with
        | no => cases q2
        | sh d => cases q2
        | ow d =>
          obtain ⟨l, z1, z2, z3, z4⟩ := t
          rw [q3] at z1; cases z1
          rw [q3]
          exact ⟨ls[k], rfl, y1, z3, y2⟩
        | io d =>
          obtain ⟨l, z1, z2, z3, z4⟩ := t
          rw [q3] at z1; cases z1
          rw [q3]
          exact ⟨ls[k], rfl, z2, y1, y2⟩
      · rw [putAll_out hi'] at h
        refine (g.slot i s h).same a.sF (fun l _ _ f t => keepF f t) fun l o hv ow e => a.old l o e fun hb => ?_
        obtain ⟨k, j, s', q1, q2, q3, q4, q5⟩ := inls hb
        have : i = j := g.apart i j l s s' h q3 ow q4 (join_some hv) q5
        subst this
        exact hi' (List.mem_of_getElem? q1)
    apart := fun i j l s t h1 h2 o1 o2 e1 e2 => by
      have f : ∀ {i : Nat} {s : Sl}, (putAll js ios ρ)[i]? = some s → Owned s = true → ∃ s', ρ[i]? = some s' ∧ Owned s' = true := fun {i s} h o => by
        by_cases hi' : i ∈ js
        · obtain ⟨k, hk, e⟩ := List.mem_iff_getElem.mp hi'
          have e' : js[k]? = some i := by rw [← e]; simp [hk]
          obtain ⟨q1, _⟩ := hs k i (ls[k]'(by omega)) e' (by simp [show k < ls.length by omega])
          exact q1
        · rw [putAll_out hi'] at h; exact ⟨s, h, o⟩
      obtain ⟨s', a1, a2⟩ := f h1 o1
      obtain ⟨t', b1, b2⟩ := f h2 o2
      exact g.apart i j l s' t' a1 b1 a2 b2 e1 e2
    ioT := fun i b h => by
      obtain ⟨⟨o, q1⟩, q2, q3⟩ := g.ioT i b h
      refine ⟨?_, keepF q2 ⟨o, q1⟩, q3⟩
      by_cases hb : b ∈ ls
      · obtain ⟨k, j, s, z1, z2, _⟩ := inls hb
        have hk : k < ios.length := by
          have := (List.getElem?_eq_some_iff.mp z2).1
          omega
        exact (ig k b ios[k] z2 (by simp [hk])).2.has
      · exact ⟨o, a.old b o q1 hb⟩
    ioU := g.ioU }
end
def AvR (L : Lc) (F : Hp) (σ : St) : V → AV → Prop
  | v, .val d => Den L.K L.mg F v d
  | v, .io j => σ[j]? = some (some v)
inductive AvsR (L : Lc) (F : Hp) (σ : St) : List V → List AV → Prop where
  | nil : AvsR L F σ [] []
  | cons {v : V} {a : AV} {vs : List V} {as : List AV} (h : AvR L F σ v a) (t : AvsR L F σ vs as) : AvsR L F σ (v :: vs) (a :: as)
def RA (L : Lc) : Rl (List AV) (List V) := fun _ F _ σ _ vs as => AvsR L F σ vs as
theorem AvR.same {L : Lc} {F F' : Hp} {σ : St} {v : V} {a : AV} (e : Same F F') (h : AvR L F σ v a) : AvR L F' σ v a := by
  cases a with
  | val d => exact Den.same e h
  | io j => exact h
def PAs (X : Cx) (EX : XE) (es : List Expr) (as : List VP.Arg) : Prop := PA X es (lift (lc X EX) (RA (lc X EX)) (mArgs as))
section
variable {X : Cx} {EX : XE} {e a : Expr} {es : List Expr} {as : List VP.Arg} {fa : M D} {pos : Pos}
theorem pas_nil : PAs X EX [] [] := pa_nil.le fun σ H Q ⟨G, F, ρ, g0, o⟩ => o F H [] (Same.refl _) g0 .nil
theorem pas_val (ha : PV X EX a fa) (hr : PAs X EX es as) (hs : starEach (a :: es) X.env = (false, eval a X.env) :: starEach es X.env := by rfl) : PAs X EX (a :: es) (.val fa :: as) :=
  (pa_cons ha hr hs).le fun σ H Q ⟨G, F, ρ, g0, o⟩ => at_bnd g0 o (fun x r q => q) fun F1 H1 ρ1 d1 x s1 g1 r1 o1 =>
    at_bnd g1 o1 (fun x r q => q.same s1) fun F2 H2 ρ2 d2 y s2 g2 r2 o2 => o2 F2 H2 _ (s1.trans s2) g2 (.cons (AvR.same s2 (a := .val d1) r1) r2)
theorem pas_io (j : Nat) {x : Str} (hr : PAs X EX es as) (hN : X.N[j]? = some x := by rfl) (hv : Vis X.env.scope x := by first | exact Or.inl rfl | exact Or.inr (Or.inl rfl) | exact Or.inr (Or.inr rfl)) (hd : (x == ("__debug__" : Str)) = false := by decide)
    (hcd : (x == ("__classdict__" : Str)) = false := by decide) (hs : starEach (.Name x pos :: es) X.env = (false, eval (.Name x pos) X.env) :: starEach es X.env := by rfl) : PAs X EX (.Name x pos :: es) (.io j :: as) :=
  (pa_cons (pe_var hN hv hd hcd) hr hs).le fun σ H Q ⟨G, F, ρ, g0, o⟩ => by
    have o' : Out ((if (own ρ[j]?).isSome then bnd (mArgs as) (fun vs => ret (.io j :: vs)) ρ else .no)) (Post (lc X EX) (RA (lc X EX)) G F σ Q) (PostX (lc X EX) G F σ) := o
    cases q : ρ[j]? with
    | none => rw [q] at o'; exact o'.elim
    | some s =>
      rw [q] at o'
      have hv : ∃ v, σ[j]? = some (some v) := by
        have t := g0.slot j s q
        cases s with
        | no => exact o'.elim
        | sh d => exact o'.elim
        | ow d => obtain ⟨l, z, _⟩ := t; exact ⟨_, join_some z⟩
        | io d => obtain ⟨l, z, _⟩ := t; exact ⟨_, join_some z⟩
      obtain ⟨v, hv⟩ := hv
      have o2 : Out (bnd (mArgs as) (fun vs => ret (.io j :: vs)) ρ) (Post (lc X EX) (RA (lc X EX)) G F σ Q) (PostX (lc X EX) G F σ) := by
        cases s with
        | no => exact o'.elim
        | sh d => exact o'.elim
        | ow d => exact o'
        | io d => exact o'
      refine ⟨v, hv, at_bnd g0 o2 (fun x r q => q) fun F1 H1 ρ1 d1 x s1 g1 r1 o1 => o1 F1 H1 _ s1 g1 (.cons (show AvR (lc X EX) F1 σ v (.io j) from hv) r1)⟩
theorem avs_ok {L : Lc} {G : Fx} {F H : Hp} {σ : St} {ρ : Rho} (g : L.Good G F H σ ρ) : ∀ {vs : List V} {as : List AV} {ds : List D} {fl : List Bool}, AvsR L F σ vs as → avs as ρ = some ds → as.map (fun a => match a with | .val _ => false | .io _ => true) = fl →
    ArgsR L.K L.mg F H fl vs ds ∧ ∀ i0 : Nat, (ioSl as).length = ((ioAs i0 fl vs).map (·.2)).length ∧ ∀ (k j : Nat) (l : Addr), (ioSl as)[k]? = some j → ((ioAs i0 fl vs).map (·.2))[k]? = some l → (∃ s, ρ[j]? = some s ∧ Owned s = true) ∧ σ[j]? = some (some (V.ref l)) := by
  intro vs as
  induction as generalizing vs with
  | nil =>
    intro ds fl h1 h2 h3
    cases h1
    simp [avs] at h2
    subst h2 h3
    exact ⟨trivial, fun i0 => ⟨by simp [ioSl, ioAs], fun k j l e => by simp [ioSl] at e⟩⟩
  | cons a as ih =>
    intro ds fl h1 h2 h3
    cases h1 with
    | cons hv ht =>
      rename_i v vs
      subst h3
      cases a with
      | val d =>
        simp only [avs] at h2
        cases q : avs as ρ with
        | none => rw [q] at h2; cases h2
        | some ds' =>
          rw [q] at h2
          have h2' : d :: ds' = ds := Option.some.inj h2
          subst h2'
          obtain ⟨k1, k2⟩ := ih ht q rfl
          refine ⟨⟨hv, k1⟩, fun i0 => ?_⟩
          have e : ioAs i0 (List.map (fun a => match a with | .val _ => false | .io _ => true) (.val d :: as)) (v :: vs) = ioAs (i0 + 1) (List.map (fun a => match a with | .val _ => false | .io _ => true) as) vs := by
            cases v <;> rfl
          rw [e]
          exact k2 (i0 + 1)
      | io j =>
        simp only [avs] at h2
        cases q0 : own ρ[j]? with
        | none => rw [q0] at h2; cases h2
        | some d =>
          rw [q0] at h2
          simp only at h2
          cases q : avs as ρ with
          | none => rw [q] at h2; cases h2
          | some ds' =>
            rw [q] at h2
            have h2' : d :: ds' = ds := Option.some.inj h2
            subst h2'
            obtain ⟨k1, k2⟩ := ih ht q rfl
            have hv' : σ[j]? = some (some v) := hv
            have hl : ∃ l s, v = .ref l ∧ ρ[j]? = some s ∧ Owned s = true ∧ F l = none ∧ Obj1 L.K L.mg F H l d := by
              cases q1 : ρ[j]? with
              | none => rw [q1] at q0; cases q0
              | some s =>
                rw [q1] at q0
                have t := g.slot j s q1
                cases s with
                | no => cases q0
                | sh e => cases q0
                | ow e =>
                  have q0' : e = d := Option.some.inj q0
                  subst q0'
                  obtain ⟨l, z1, z2, z3, z4⟩ := t
                  rw [hv'] at z1
                  have z1' : v = V.ref l := Option.some.inj z1
                  exact ⟨l, _, z1', rfl, rfl, z2, z4⟩
                | io e =>
                  have q0' : e = d := Option.some.inj q0
                  subst q0'
                  obtain ⟨l, z1, z2, z3, z4⟩ := t
                  rw [hv'] at z1
                  have z1' : v = V.ref l := Option.some.inj z1
                  exact ⟨l, _, z1', rfl, rfl, z3, z4⟩
            obtain ⟨l, s, rfl, q1, q2, q3, q4⟩ := hl
            refine ⟨⟨⟨l, rfl, q3, q4⟩, k1⟩, fun i0 => ?_⟩
            obtain ⟨m1, m2⟩ := k2 (i0 + 1)
            refine ⟨by simpa [ioSl, ioAs] using m1, fun k j' l' e1 e2 => ?_⟩
            cases k with
            | zero =>
              simp [ioSl, ioAs] at e1 e2
              subst e1 e2
              exact ⟨⟨s, q1, q2⟩, hv'⟩
            | succ k => exact m2 k j' l' (by simpa [ioSl] using e1) (by simpa [ioAs] using e2)
variable {CX : CXT} {k : Nat} {fA : Addr} {fd : FuncData} {ps : List Str} {E : XK} {x : Str} {p : Pos} {fl : List Bool} {fs : Fn}
theorem ads_nodup {L : Lc} {G : Fx} {F H : Hp} {σ : St} {ρ : Rho} (g : L.Good G F H σ ρ) {js : List Nat} {ls : List Addr} (hj : js.Nodup) (hl : js.length = ls.length)
    (hs : ∀ (k j : Nat) (l : Addr), js[k]? = some j → ls[k]? = some l → (∃ s, ρ[j]? = some s ∧ Owned s = true) ∧ σ[j]? = some (some (V.ref l))) : ls.Nodup := by
  rw [List.nodup_iff_pairwise_ne, List.pairwise_iff_getElem]
  intro i j hi hj' hij e
  have hi2 : i < js.length := by omega
  have hj2 : j < js.length := by omega
  obtain ⟨⟨s, a1, a2⟩, a3⟩ := hs i js[i] ls[i] (by simp [hi2]) (by simp [hi])
  obtain ⟨⟨t, b1, b2⟩, b3⟩ := hs j js[j] ls[j] (by simp [hj2]) (by simp [hj'])
  rw [e] at a3
  have := g.apart js[i] js[j] ls[j] s t a1 b1 a2 b2 a3 b3
  have : i = j := (List.getElem_inj hj).mp this
  omega
theorem app_le {L : Lc} {G : Fx} {F H : Hp} {σ : St} {ρ : Rho} {vs : List V} {as : List AV} {Q : VK} {P : D → Rho → Prop} {Ex : Xn → Rho → Prop} (g : L.Good G F H σ ρ) (r : AvsR L F σ vs as)
    (hfl : as.map (fun a => match a with | .val _ => false | .io _ => true) = fl) (o : Out (mApp fs as ρ) P Ex) (hE : ∀ x r, Ex x r → PostX L G F σ x r)
    (hP : ∀ F' H' ρ' d v, Same F F' → L.Good G F' H' σ ρ' → Den L.K L.mg F' v d → P d ρ' → Q v H') : spV L.K L.mg fl fs vs H Q (L.EX σ) := by
  unfold mApp at o
  cases q : avs as ρ with
  | none => rw [q] at o; exact o.elim
  | some ds =>
    rw [q] at o
    dsimp only at o
    by_cases nd : (ioSl as).Nodup
    · rw [if_pos nd] at o
      obtain ⟨k1, k2⟩ := avs_ok g r q hfl
      obtain ⟨k3, k4⟩ := k2 0
      refine ⟨by rw [k1.len.1], F, ds, g.sub, k1, ads_nodup g nd k3 k4, ?_⟩
      cases q2 : fs ds with
      | no => rw [q2] at o; exact o.elim
      | ok d ios =>
        rw [q2] at o
        exact fun F' H' v a rd => hP F' H' _ d v a.sF (Good.called g nd k3 k4 a) rd o
      | exc xx ios =>
        rw [q2] at o
        exact fun F' H' c dx a rx => hE _ _ o F' H' c dx a.sF (Good.called g nd k3 k4 a) rx
    · rw [if_neg nd] at o; exact o.elim
def PassesAt (CX : CXT) (X : Cx) (EX : XE) : Prop := ∀ (pins : List (Addr × Obj)) (σ : St) (H : Hp) (s : Shared) (e : Value) (s' : Shared), Inv X pins σ H s → CX X.stack H s (EX σ) e s' → X.xe e s'
theorem run_fnv {pins : List (Addr × Obj)} {σ : St} {H : Hp} {s : Shared} {Q : VK} {us : List Value} {vs : List V} {sp : Sp} (F : FnOk X.prog X.w X.K X.mg X.base CX k fA fd ps sp) (hr : Room k X.A) (hb : Binds X.K fd ps []) (hx : PassesAt CX X EX)
    (I : Inv X pins σ H s) (r : Vals vs us) (h : sp vs H Q (EX σ)) : wpAny (model X.prog X.w) X.A (call (.ref fA) us) (EP X pins σ Q) X.xe s := by
  have hl : us.length = ps.length := by rw [← r.length]; exact F.len _ _ _ _ h
  have hb' := hb s us I.kIn (by simpa using hl)
  rw [List.append_nil] at hb'
  refine wpAny_call (codeAny_mono (F.run X.A X.stack s H ⟨us, []⟩ us vs Q (EX σ) hr I.env0 hb' r h) fun r s' hq => ?_)
  cases r with
  | error e => exact hx pins σ H s e s' I hq
  | ok fl =>
    cases fl with
    | ret u => exact I.after hq
    | next => exact False.elim hq
    | brk => exact False.elim hq
    | cont => exact False.elim hq
theorem mArgs_kinds : ∀ {as : List VP.Arg} {ρ ρ' : Rho} {vs : List AV}, mArgs as ρ = .ok vs ρ' → vs.map (fun a => match a with | .val _ => false | .io _ => true) = as.map VP.Arg.isIo
  | [], ρ, ρ', vs, h => by
    cases h; rfl
  | .val f :: as, ρ, ρ', vs, h => by
    simp only [mArgs, VP.bnd] at h
    cases q : f ρ with
    | ok d r =>
      simp only [q] at h
      cases q2 : mArgs as r with
      | ok ws r2 =>
        simp only [q2, VP.ret] at h
        cases h
        simp [VP.Arg.isIo, mArgs_kinds q2]
      | exc x r2 => simp only [q2] at h; cases h
      | no => simp only [q2] at h; cases h
    | exc x r2 => simp only [q] at h; cases h
    | no => simp only [q] at h; cases h
  | .io j :: as, ρ, ρ', vs, h => by
    simp only [mArgs, VP.bnd] at h
    split at h
    · cases q2 : mArgs as ρ with
      | ok ws r2 =>
        simp only [q2, VP.ret] at h
        cases h
        simp [VP.Arg.isIo, mArgs_kinds q2]
      | exc x r2 => simp only [q2] at h; cases h
      | no => simp only [q2] at h; cases h
    · cases h
theorem pv_call (F : FnOk X.prog X.w X.K X.mg X.base CX k fA fd ps (spV X.K X.mg fl fs)) (hr : Room k X.A) (hg : Gl X x) (hm : X.mg x = some (.ref fA)) (hk : PySem.W.keepIn X.K (.ref fA) = true) (hb : Binds X.K fd ps []) (hx : PassesAt CX X EX)
    (ha : PAs X EX (e :: es) as) (hfl : as.map VP.Arg.isIo = fl := by rfl) (hdb : (x == ("__debug__" : Str)) = false := by decide) (he : starEach (e :: es) X.env = (false, eval e X.env) :: starEach es X.env := by rfl) (hpl : (backTo pos (starEach es X.env)).any (·.1) = false := by rfl) :
    PV X EX (.Call (.Name x p) (e :: es) [] pos) (mCall fs as) := by
  intro pins s σ H Q I h
  obtain ⟨G, F0, ρ, g0, o⟩ := h
  refine wpAny_Call_Name_kw (ld_glob I hg hm ?_ hdb)
  refine PySem.W.callWith_K (h₀ := X.base) I.ok.mod.kin hk (thn (ha pos pins s σ H (fun vs H1 => spV X.K X.mg fl fs vs H1 Q (EX σ)) I ⟨G, F0, ρ, g0, ?_⟩) fun us s1 ⟨vs, H1, I1, r, q⟩ => ⟨I1.kIn, ?_⟩) he hpl
  · unfold mCall VP.bnd at o
    cases q : mArgs as ρ with
    | no => rw [q] at o; exact o.elim
    | exc xx ρ1 => rw [q] at o; exact o
    | ok av ρ1 =>
      rw [q] at o
      intro F1 H1 vs s1 g1 r1
      exact app_le (L := lc X EX) g1 r1 (by rw [mArgs_kinds q]; exact hfl) o (fun x r q => q.same s1) fun F' H' ρ' d v s' g' rd P => P F' H' v (s1.trans s') g' rd
  · exact run_fnv F hr hb hx I1 r q
theorem pass0V : PassesAt CX0 X EX := fun _ _ _ _ _ _ _ h => h.elim
end
end VS

end
section
set_option linter.all false
set_option maxRecDepth 100000
namespace VS
open PySem PySem.Spec PyProof.Rows L2 VP
theorem LIM_eq : LIM = sizeLine := sizeLine_eq.symm
section
variable {X : Cx} {EX : XE} {L : Lc}
theorem g_int0 {gv : Int → Int → V} {gd : Int → Int → D} {g : D → D → Option D} (hd : ∀ F i j, Den L.K L.mg F (gv i j) (gd i j))
    (hg : ∀ x y d, g x y = some d → ∃ i j, x = .int i ∧ y = .int j ∧ d = gd i j) : OpG L (rI0 gv) g := fun G F H σ ρ x y dx dy d Q g0 rx ry e k => by
  obtain ⟨i, j, rfl, rfl, rfl⟩ := hg dx dy d e
  cases rx; cases ry
  exact ⟨i, j, rfl, rfl, k F H _ (Same.refl _) g0 (hd F i j)⟩
theorem g_add : OpG L (rI0 fun i j => .int (i + j)) addI := g_int0 (gd := fun i j => .int (i + j)) (fun F i j => .int _) fun x y d h => by
  cases x <;> cases y <;> simp [addI] at h
  exact ⟨_, _, rfl, rfl, h.symm⟩
theorem g_sub : OpG L (rI0 fun i j => .int (i - j)) subI := g_int0 (gd := fun i j => .int (i - j)) (fun F i j => .int _) fun x y d h => by
  cases x <;> cases y <;> simp [subI] at h
  exact ⟨_, _, rfl, rfl, h.symm⟩
theorem g_mul : OpG L (rI CMul fun i j => .int (i * j)) mulI := fun G F H σ ρ x y dx dy d Q g0 rx ry e k => by
  cases dx <;> cases dy <;> try (simp only [mulI, reduceCtorEq] at e; done)
  rename_i i j
  simp only [mulI] at e
  split at e
  · rename_i hc
    cases e
    cases rx; cases ry
    exact ⟨i, j, rfl, rfl, hc, k F H _ (Same.refl _) g0 (.int _)⟩
  · cases e
theorem g_fdiv : OpG L (rI CDiv fun i j => .int (i / j)) fdivI := fun G F H σ ρ x y dx dy d Q g0 rx ry e k => by
  cases dx <;> cases dy <;> try (simp only [fdivI, reduceCtorEq] at e; done)
  rename_i i j
  simp only [fdivI] at e
  split at e
  · rename_i hc
    cases e
    cases rx; cases ry
    exact ⟨i, j, rfl, rfl, hc, k F H _ (Same.refl _) g0 (.int _)⟩
  · cases e
theorem g_mod : OpG L (rI (fun _ j => 0 < j) fun i j => .int (i % j)) modI := fun G F H σ ρ x y dx dy d Q g0 rx ry e k => by
  cases dx <;> cases dy <;> try (simp only [modI, reduceCtorEq] at e; done)
  rename_i i j
  simp only [modI] at e
  split at e
  · rename_i hc
    cases e
    cases rx; cases ry
    exact ⟨i, j, rfl, rfl, hc, k F H _ (Same.refl _) g0 (.int _)⟩
  · cases e
theorem g_lt : OpG L (rI0 fun i j => .bl (decide (i < j))) ltI := g_int0 (gd := fun i j => .bl (decide (i < j))) (fun F i j => .bl _) fun x y d h => by
  cases x <;> cases y <;> simp [ltI] at h
  exact ⟨_, _, rfl, rfl, h.symm⟩
theorem g_gt : OpG L (rI0 fun i j => .bl (decide (j < i))) gtI := g_int0 (gd := fun i j => .bl (decide (j < i))) (fun F i j => .bl _) fun x y d h => by
  cases x <;> cases y <;> simp [gtI] at h
  exact ⟨_, _, rfl, rfl, h.symm⟩
theorem isNon_den {K : Frag} {mg : MG} {F : Hp} {x : V} {dx : D} (rx : Den K mg F x dx) : isNon dx = decide (x = .non) := by
  cases rx <;> simp [isNon]
theorem g_isN : OpG L (fun x y H Q => y = .non ∧ Q (.bl (decide (x = .non))) H) isND := fun G F H σ ρ x y dx dy d Q g0 rx ry e k => by
  unfold isND at e
  split at e
  · rename_i hn
    cases e
    rw [isNon_den ry] at hn
    refine ⟨of_decide_eq_true hn, ?_⟩
    rw [← isNon_den rx]
    exact k F H _ (Same.refl _) g0 (.bl _)
  · cases e
theorem un_negG : UnG L (rU fun i => .int (-i)) negI := fun G F H σ ρ x dx d Q g0 rx e k => by
  cases dx <;> simp [negI] at e
  subst e
  rcases rx with rx | ⟨l, _, z⟩
  · cases rx
    exact ⟨_, rfl, k F H _ (Same.refl _) g0 (.int _)⟩
  · exact z.elim
def rCatA (K : Frag) : R2 := fun x y H Q => ∃ a b xs ys, x = .ref a ∧ y = .ref b ∧ SqT K H a xs ∧ SqT K H b ys ∧ xs.length + ys.length ≤ sizeLine ∧
  (ys = [] → Q (.ref a) H) ∧ (xs = [] → Q (.ref b) H) ∧ (∀ p, H p = none → Q (.ref p) (upd H p (.tup (xs ++ ys))))
theorem cat_nil {prog : Program} {w : World} {A : Around} {E : Value → Shared → Prop} {s : Shared} {t b : Addr} {ws : List Value} {Q : Value → Shared → Prop} (ht : IsTup s.heap t (#[] : Array Value)) (hb : IsTup s.heap b ws.toArray)
    (h1 : Q (.ref b) s) : wpAny (model prog w) A (binaryOp .Add (.ref t) (.ref b)) Q E s := by
  obtain ⟨⟨cls, dd, data, sl⟩, ho, hc, n, hd⟩ := id ht
  obtain ⟨⟨cls2, dd2, data2, sl2⟩, ho2, hc2, n2, hd2⟩ := id hb
  simp only at hc hd hc2 hd2
  subst hc hd hc2 hd2
  exact concat_meets ⟨_, ho, rfl⟩ ⟨_, ho2, rfl⟩ noFill_tuple_add seq_tuple_add PySem.F.slot_tuple_add PySem.F.entry_tuple_add (PySem.F.args_tuple_add_2 _ _)
      (tuple_addW0 t b #[] ws.toArray n n2 dd dd2 sl sl2 rfl) ⟨ho, ho2, h1⟩
theorem op_catA : OpR X (binaryOp .Add) (rCatA X.K) := by
  intro pins s σ H x y v u Q I rx ry h
  obtain ⟨a, b, xs, ys, rfl, rfl, ha, hb, hz, q1, q2, q3⟩ := h
  by_cases hx : xs = []
  · cases rx
    cases ry
    obtain ⟨its, r1, p1, _⟩ := I.tuple ha
    obtain ⟨its2, r2, p2, _⟩ := I.tuple hb
    have : its = [] := r1.nil_iff.mpr hx
    subst this
    exact cat_nil p1 p2 ⟨.ref b, H, I, rfl, q2 hx⟩
  · exact op_catT pins s σ H _ _ v u Q I rx ry ⟨a, b, xs, ys, rfl, rfl, ha, hb, hx, hz, q1, fun _ => q3⟩
theorem g_addT : OpG L (rCatA L.K) addT := fun G F H σ ρ x y dx dy d Q g0 rx ry e k => by
  cases dx <;> cases dy <;> try (simp only [addT, reduceCtorEq] at e; done)
  rename_i xs ys
  simp only [addT] at e
  split at e
  · rename_i hl
    cases e
    cases rx with
    | tup h1 r1 => cases ry with
      | tup h2 r2 =>
        rename_i a vs b ws
        refine ⟨a, b, vs, ws, rfl, rfl, SqT.same h1 g0.sub, SqT.same h2 g0.sub, ?_, fun z => ?_, fun z => ?_, fun p hp => ?_⟩
        · rw [r1.length, r2.length, ← LIM_eq]; exact hl
        · subst z
          cases r2
          rw [List.append_nil] at k
          exact k F H _ (Same.refl _) g0 (.tup h1 r1)
        · subst z
          cases r1
          exact k F H _ (Same.refl _) g0 (.tup h2 r2)
        · have sF := same_upd (o := .tup (vs ++ ws)) (g0.sub.free hp)
          exact k _ _ _ sF (g0.laid hp) (.tup (SqT.of upd_same) (DenL.append (DenL.same sF r1) (DenL.same sF r2)))
  · cases e
theorem DenL.atI {K : Frag} {mg : MG} {F : Hp} {vs : List V} {ds : List D} {i : Int} {d : D} (h : DenL K mg F vs ds) (e : ixD ds i = some d) : ∃ v, atI vs i = some v ∧ Den K mg F v d := by
  unfold ixD at e
  unfold L2.atI
  rw [h.length]
  show ∃ v, (ixP ds.length i).bind _ = _ ∧ _
  cases q : ixP ds.length i with
  | none => rw [q] at e; cases e
  | some j =>
    rw [q] at e
    exact h.get e
theorem g_item : OpG L (rIx L.K) itemD := fun G F H σ ρ x y dx dy d Q g0 rx ry e k => by
  cases dx <;> cases dy <;> try (simp only [itemD, reduceCtorEq] at e; done)
  · cases ry
    cases rx with
    | tup h1 r1 =>
      obtain ⟨v, e1, e2⟩ := DenL.atI r1 e
      exact .inr (.inl ⟨_, _, _, v, rfl, rfl, SqT.same h1 g0.sub, e1, k F H v (Same.refl _) g0 e2⟩)
  · cases ry
    cases rx with
    | lst h1 r1 =>
      obtain ⟨v, e1, e2⟩ := DenL.atI r1 e
      exact .inl ⟨_, _, _, v, rfl, rfl, SqL.same h1 g0.sub, e1, k F H v (Same.refl _) g0 e2⟩
variable {a b e c : Expr} {fa fb : M D} {pos : Pos}
theorem pv_ix (ha : PV X EX a fa) (hb : PV X EX b fb) (hs : PlainIx b := by intro _ _; rfl) : PV X EX (.Subscript a b pos) (m2 itemD fa fb) :=
  (pe_ix ix_seq ha hb hs).le (op_le g_item (fun _ _ _ q => q) fun _ _ _ q => q)
theorem own_slot {L : Lc} {G : Fx} {F H : Hp} {σ : St} {ρ : Rho} {j : Nat} (g : L.Good G F H σ ρ) (h : (own ρ[j]?).isSome = true) : ∃ l d, σ[j]? = some (some (V.ref l)) ∧ own ρ[j]? = some d ∧ Obj1 L.K L.mg F H l d := by
  cases q : ρ[j]? with
  | none => rw [q] at h; cases h
  | some t =>
    rw [q] at h
    have sl := g.slot j t q
    cases t with
    | no => cases h
    | sh d => cases h
    | ow d => obtain ⟨l, z1, z2, z3, z4⟩ := sl; exact ⟨l, d, join_some z1, rfl, z4⟩
    | io d => obtain ⟨l, z1, z2, z3, z4⟩ := sl; exact ⟨l, d, join_some z1, rfl, z4⟩
theorem pv_ixO (j : Nat) {x : Str} {p : Pos} (hb : PV X EX b fb) (hs : PlainIx b := by intro _ _; rfl) (hN : X.N[j]? = some x := by rfl) (hv : Vis X.env.scope x := by first | exact Or.inl rfl | exact Or.inr (Or.inl rfl) | exact Or.inr (Or.inr rfl)) (hd : (x == ("__debug__" : Str)) = false := by decide)
    (hcd : (x == ("__classdict__" : Str)) = false := by decide) : PV X EX (.Subscript (.Name x p) b pos) (mIxO j fb) := by
  refine (pe_ix ix_seq (pe_var hN hv hd hcd) hb hs).le fun σ H Q ⟨G, F, ρ, g0, o⟩ => ?_
  unfold mIxO at o
  by_cases ho : (own ρ[j]?).isSome = true
  · rw [if_pos ho] at o
    obtain ⟨l, d0, hv', _, _⟩ := own_slot g0 ho
    refine ⟨_, hv', at_bnd g0 o (fun x r q => q) fun F1 H1 ρ1 d1 y s1 g1 r1 o1 => ?_⟩
    unfold ixAt at o1
    by_cases ho1 : (own ρ1[j]?).isSome = true
    · obtain ⟨l', d, hl', hd', ob⟩ := own_slot g1 ho1
      rw [hv'] at hl'
      cases hl'
      rw [hd'] at o1
      obtain ⟨d2, e2, q2⟩ := Out.opt o1
      cases d with
      | lst ds =>
        obtain ⟨vs, h1, h2⟩ := ob
        cases d1 with
        | int i =>
          cases r1
          obtain ⟨w, e1, e3⟩ := DenL.atI h2 e2
          exact .inl ⟨_, _, _, w, rfl, rfl, SqL.of h1, e1, q2 F1 H1 w s1 g1 e3⟩
        | _ => exact absurd e2 (by simp [itemD])
      | dct ks ds => cases d1 <;> exact absurd e2 (by simp [itemD])
      | ins c ns ds => cases d1 <;> exact absurd e2 (by simp [itemD])
      | _ => exact ob.elim
    · cases q : own ρ1[j]? with
      | none => rw [q] at o1; exact o1.elim
      | some d => rw [q] at ho1; exact absurd rfl ho1
  · rw [if_neg ho] at o; exact o.elim
end
end VS

end
section
set_option linter.all false
set_option maxRecDepth 100000
namespace VS
open PySem PySem.Spec PyProof.Rows L2 VP
def clOf (cells : List (Str × Addr)) : List (Str × NameKind) → List (Str × Addr) → List (Str × Addr)
  | [], acc => acc
  | (x, k) :: r, acc => if k == .free then
      (match cells.lookup x with
      | some c => clOf cells r ((x, c) :: acc)
      | none => clOf cells r acc)
    else clOf cells r acc
theorem clOf_mem {cells : List (Str × Addr)} : ∀ {names : List (Str × NameKind)} {acc : List (Str × Addr)} {p : Str × Addr}, p ∈ clOf cells names acc → p ∈ acc ∨ cells.lookup p.1 = some p.2
  | [], _, _, h => .inl h
  | (x, k) :: r, acc, p, h => by
    unfold clOf at h
    split at h
    · cases q : cells.lookup x with
      | none => rw [q] at h; exact clOf_mem h
      | some c =>
        rw [q] at h
        rcases clOf_mem h with h | h
        · rcases List.mem_cons.mp h with h | h
          · subst h; exact .inr q
          · exact .inl h
        · exact .inr h
    · exact clOf_mem h
theorem clOf_keep {cells : List (Str × Addr)} : ∀ {names : List (Str × NameKind)} {acc : List (Str × Addr)} {p : Str × Addr}, p ∈ acc → p ∈ clOf cells names acc
  | [], _, _, h => h
  | (x, k) :: r, acc, p, h => by
    unfold clOf
    split
    · cases q : cells.lookup x with
      | none => exact clOf_keep h
      | some c => exact clOf_keep (List.mem_cons_of_mem _ h)
    · exact clOf_keep h
theorem clOf_has {cells : List (Str × Addr)} {x : Str} {c : Addr} (hc : cells.lookup x = some c) : ∀ {names : List (Str × NameKind)} {acc : List (Str × Addr)}, (x, NameKind.free) ∈ names → (x, c) ∈ clOf cells names acc
  | (y, k) :: r, acc, h => by
    unfold clOf
    rcases List.mem_cons.mp h with h | h
    · cases h
      simp only [beq_self_eq_true, if_true, hc]
      exact clOf_keep List.mem_cons_self
    · split
      · cases q : cells.lookup y with
        | none => exact clOf_has hc h
        | some c' => exact clOf_has hc h
      · exact clOf_has hc h
theorem lookup_some_of_mem {α : Type} {x : Str} {a : α} : ∀ {l : List (Str × α)}, (x, a) ∈ l → ∃ b, l.lookup x = some b
  | (y, b) :: r, h => by
    by_cases e : (x == y) = true
    · exact ⟨b, by simp [List.lookup_cons, e]⟩
    · have e' : (x == y) = false := by simpa using e
      rcases List.mem_cons.mp h with h | h
      · cases h; simp at e'
      · obtain ⟨c, hc⟩ := lookup_some_of_mem h
        exact ⟨c, by simp [List.lookup_cons, e', hc]⟩
theorem clOf_lookup {cells : List (Str × Addr)} {names : List (Str × NameKind)} {x : Str} {c : Addr} (h : (clOf cells names []).lookup x = some c) : cells.lookup x = some c := by
  rcases clOf_mem (PySem.mem_of_lookup h) with h | h
  · cases h
  · exact h
theorem clOf_some {cells : List (Str × Addr)} {names : List (Str × NameKind)} {x : Str} {c : Addr} (hc : cells.lookup x = some c) (h : (x, NameKind.free) ∈ names) : (clOf cells names []).lookup x = some c := by
  obtain ⟨b, hb⟩ := lookup_some_of_mem (clOf_has (acc := []) hc h)
  have := clOf_lookup hb
  rw [hc] at this
  cases this
  exact hb
theorem closureFor_clOf {scope : Scope} {env : Env} (h : ∀ p ∈ scope.names, p.2 = .free → ∃ c, env.cells.lookup p.1 = some c) : closureFor scope env = pure (clOf env.cells scope.names []) := by
  have gen : ∀ (names : List (Str × NameKind)) (acc : List (Str × Addr)), (∀ p ∈ names, p.2 = .free → ∃ c, env.cells.lookup p.1 = some c) →
      (forIn names acc fun (x : Str × NameKind) r => (if x.2 == .free then (do let c ← cellOf env x.1; pure (ForInStep.yield ((x.1, c) :: r))) else pure (ForInStep.yield r) : Sem _)) = pure (clOf env.cells names acc) := by
    intro names
    induction names with
    | nil => intro acc _; rfl
    | cons p r ih =>
      intro acc hp
      obtain ⟨x, k⟩ := p
      rw [List.forIn_cons]
      unfold clOf
      by_cases hk : k = .free
      · subst hk
        obtain ⟨c, hc⟩ := hp (x, .free) List.mem_cons_self rfl
        have e : cellOf env x = pure c := by unfold cellOf; rw [show env.cells.lookup x = some c from hc]
        simp only [beq_self_eq_true, if_true, e, hc]
        exact ih _ fun q hq => hp q (List.mem_cons_of_mem _ hq)
      · have hb : (k == NameKind.free) = false := by simpa using hk
        simp only [hb, Bool.false_eq_true, if_false]
        exact ih _ fun q hq => hp q (List.mem_cons_of_mem _ hq)
  have := gen scope.names [] h
  unfold closureFor
  simpa using this
theorem relabel_lookup {scope : Scope} {env : Env} {x : Str} : (relabel scope env).names.lookup x = (scope.names.lookup x).map fun k => if (k == .free && env.scope.kind == .function && env.kindOf x == some .cell) then .cell else k := by
  unfold relabel
  generalize scope.names = l
  induction l with
  | nil => rfl
  | cons p r ih =>
    obtain ⟨n, k⟩ := p
    simp only [List.map_cons]
    by_cases hx : (x == n) = true
    · have e : x = n := by simpa using hx
      subst e
      simp only [List.lookup_cons, beq_self_eq_true, Option.map_some]
      split <;> simp [List.lookup_cons]
    · have e' : (x == n) = false := by simpa using hx
      have e2 : List.lookup x ((n, k) :: r) = List.lookup x r := by simp [List.lookup_cons, e']
      rw [e2, ← ih]
      split <;> simp [List.lookup_cons, e']
def compChk (outer inner : List (Str × NameKind)) (N N' : List Str) : Bool :=
  inner.all (fun p => p.2 != .cell && (p.2 != .free || outer.lookup p.1 == some .cell || outer.lookup p.1 == some .free) && (p.2 != .local || inner.lookup p.1 == some .local)) &&
  decide (N.length ≤ N'.length) && (List.range N.length).all (fun i => match N'[i]? with
    | some x => inner.lookup x != some .local && (inner.lookup x == none || N[i]? == some x)
    | none => true) && (match N'[N'.length - 1]? with
    | some x => inner.lookup x == none
    | none => false) && decide (N.length + 1 ≤ N'.length)
def compCx (X : Cx) (scope : Scope) (C : Addr) (N' : List Str) (s : Shared) (H : Hp) (ex : List Addr) : Cx :=
  { X with env := compEnvC scope (clOf X.env.cells scope.names []) C X.env, N := N', s₀ := s, H₀ := H, outer := X.stack, ex := ex, fn := fun _ => false, pn := [], xe := fun _ _ => False }
structure CompOk (X : Cx) (scope : Scope) (N' : List Str) : Prop where
  kind : scope.kind = .function
  chk : compChk X.env.scope.names scope.names X.N N' = true
section
variable {X : Cx} {scope : Scope} {N' : List Str}
theorem CompOk.free (c : CompOk X scope N') {p : Str × NameKind} (hp : p ∈ scope.names) (hf : p.2 = .free) : X.env.kindOf p.1 = some .cell ∨ X.env.kindOf p.1 = some .free := by
  have h := c.chk
  unfold compChk at h
  simp only [Bool.and_eq_true, List.all_eq_true] at h
  have q := (h.1.1.1.1 p hp).1.2
  rw [hf] at q
  simp at q
  exact q
theorem CompOk.nocell (c : CompOk X scope N') {p : Str × NameKind} (hp : p ∈ scope.names) : p.2 ≠ .cell := by
  have h := c.chk
  unfold compChk at h
  simp only [Bool.and_eq_true, List.all_eq_true] at h
  have q := (h.1.1.1.1 p hp).1.1
  simpa using q
theorem CompOk.names (c : CompOk X scope N') {p : Str × NameKind} (hp : p ∈ scope.names) (hl : p.2 = .local) : scope.names.lookup p.1 = some .local := by
  have h := c.chk
  unfold compChk at h
  simp only [Bool.and_eq_true, List.all_eq_true] at h
  have q := (h.1.1.1.1 p hp).2
  rw [hl] at q
  simpa using q
theorem CompOk.len (c : CompOk X scope N') : X.N.length + 1 ≤ N'.length := by
  have h := c.chk
  unfold compChk at h
  simp only [Bool.and_eq_true] at h
  exact of_decide_eq_true h.2
theorem CompOk.acc (c : CompOk X scope N') {x : Str} (hx : N'[N'.length - 1]? = some x) : scope.names.lookup x = none := by
  have h := c.chk
  unfold compChk at h
  simp only [Bool.and_eq_true] at h
  have q := h.1.2
  rw [hx] at q
  simpa using q
theorem CompOk.at (c : CompOk X scope N') {i : Nat} {x : Str} (hi : i < X.N.length) (hx : N'[i]? = some x) : scope.names.lookup x ≠ some .local ∧ (scope.names.lookup x = none ∨ X.N[i]? = some x) := by
  have h := c.chk
  unfold compChk at h
  simp only [Bool.and_eq_true, List.all_eq_true] at h
  have q := h.1.1.2 i (List.mem_range.mpr hi)
  rw [hx] at q
  simp only [Bool.and_eq_true, Bool.or_eq_true] at q
  refine ⟨by simpa using q.1, ?_⟩
  rcases q.2 with z | z
  · exact .inl (by simpa using z)
  · exact .inr (by simpa using z)
theorem CompOk.clos (c : CompOk X scope N') (ok : X.Ok) : closureFor scope X.env = pure (clOf X.env.cells scope.names []) :=
  closureFor_clOf fun p hp hf => ok.has p.1 (c.free hp hf)
theorem CompOk.look (c : CompOk X scope N') (ok : X.Ok) {x : Str} (hx : scope.names.lookup x = some .free) :
    ((relabel scope X.env).names.lookup x = some .cell ∨ (relabel scope X.env).names.lookup x = some .free) ∧ (X.env.kindOf x = some .cell ∨ X.env.kindOf x = some .free) ∧ ∃ a, X.env.cells.lookup x = some a ∧ (clOf X.env.cells scope.names []).lookup x = some a := by
  have hm := PySem.mem_of_lookup hx
  have hk := c.free hm rfl
  obtain ⟨a, ha⟩ := ok.has x hk
  refine ⟨?_, hk, a, ha, clOf_some ha hm⟩
  rw [relabel_lookup, hx]
  simp only [Option.map_some]
  split
  · exact .inl rfl
  · exact .inr rfl
theorem comp_start {pins : List (Addr × Obj)} {σ : St} {H : Hp} {s : Shared} {fp : List Addr} {h₁ : Heap} {D C : Addr} {tk : Nat} (c : CompOk X scope N') (I : Inv X pins σ H s) (hf : ∀ b ∈ fp, FpOk X pins H b) (hfp : ∀ b ∈ fp, b < s.heap.objs.size)
    (hD : D = s.heap.objs.size) (hC : C = s.heap.objs.size + 1) (old : ∀ b o, s.heap.get? b = some o → h₁.get? b = some o) (hns : h₁.Ns C fun _ => none) (hl : h₁.get? D = some { cls := .type "list", data := .seq #[] 0 }) :
    Inv (compCx X scope C N' s H fp) [] (σ ++ List.replicate (N'.length - 1 - σ.length) none ++ [some (V.ref D)]) (upd H D (.lst [])) { s with heap := h₁, toks := tk } := by
  have hDn : H D = none := I.hok.fresh (by rw [hD]; exact Nat.le_refl _)
  have hCn : H C = none := I.hok.fresh (by rw [hC]; exact Nat.le_succ _)
  have hDC : C ≠ D := by rw [hC, hD]; exact Nat.ne_of_gt (Nat.lt_succ_self _)
  have hok1 : HOk X.prog X.w (upd H D (.lst [])) h₁ := I.hok.laid old (by rw [hD]; exact Nat.le_refl _) ⟨Nat.zero_le _, [], 0, .nil, hl⟩
  have cellLt : ∀ x a, X.env.cells.lookup x = some a → a < s.heap.objs.size := fun x a e => by
    obtain ⟨v, q⟩ := I.cell x a e
    exact q.lt
  have lenN : σ.length = X.N.length := I.len
  refine ⟨⟨I.ok.mod, ?_, I.ok.glob, I.ok.blt, ?_, ?_, ?_, ?_, I.ok.hd, I.ok.frames, .inl rfl, ?_, I.bs, Nat.le_trans I.ok.bsz I.sz, ?_, ?_, I.stack, I.stkFree⟩, rfl, I.bare, Un.laid old (by rw [hD]; exact Nat.le_refl _) hDn, ⟨_, hns, ?_⟩, ?_, ?_, ?_, ?_, hok1, ?_⟩
  · show (relabel scope X.env).kind = _
    exact c.kind
  · show s.heap.objs.size ≤ C
    rw [hC]; exact Nat.le_succ _
  · intro x y a h1 h2
    exact I.ok.inj x y a (clOf_lookup h1) (clOf_lookup h2)
  · intro x hx
    have hx' : (relabel scope X.env).names.lookup x = some .cell ∨ (relabel scope X.env).names.lookup x = some .free := hx
    rw [relabel_lookup] at hx'
    cases q : scope.names.lookup x with
    | none => rw [q] at hx'; rcases hx' with z | z <;> cases z
    | some k =>
      rw [q] at hx'
      have hk : k = .free := by
        have nc := c.nocell (PySem.mem_of_lookup q)
        simp only [Option.map_some] at hx'
        split at hx'
        · rename_i hh
          simp at hh
          exact hh.1.1
        · rcases hx' with z | z
          · exact absurd (Option.some.inj z) nc
          · exact Option.some.inj z
      subst hk
      obtain ⟨_, _, a, _, z⟩ := c.look I.ok q
      exact ⟨a, z⟩
  · intro x a hx _
    exact absurd (show false = true from hx) Bool.false_ne_true
  · intro b hb
    refine ⟨?_, fun x a e => ?_⟩
    · show b ≠ C
      rw [hC]; exact Nat.ne_of_lt (Nat.lt_succ_of_lt (hfp b hb))
    · exact (hf b hb).2.2.2.2.1 x a (clOf_lookup e)
  · intro b o e hb
    rcases (hf b hb).2.2.2.1 with z | z
    · exact I.ok.noex b o e z
    · exact absurd (Nat.lt_of_lt_of_le (Heap.lt_size e) (Nat.le_trans I.ok.bsz z)) (Nat.lt_irrefl _)
  · intro b hb hb2
    rcases List.mem_cons.mp (I.stkSub b hb2) with z | z
    · exact (hf b hb).2.1 z
    · exact (hf b hb).2.2.1 z
  · intro i x v h1 h2 h3
    by_cases hi : i < σ.length
    · rw [List.getElem?_append_left (by simp; omega), List.getElem?_append_left hi] at h2
      obtain ⟨n1, n2⟩ := c.at (by omega) h1
      have h3' : (relabel scope X.env).names.lookup x = some .local ∨ (relabel scope X.env).names.lookup x = some .cell ∨ (relabel scope X.env).names.lookup x = some .free := h3
      rw [relabel_lookup] at h3'
      cases q : scope.names.lookup x with
      | none => rw [q] at h3'; rcases h3' with z | z | z <;> cases z
      | some k =>
        have hk : k = .free := by
          rw [q] at h3' n1
          have nc := c.nocell (PySem.mem_of_lookup q)
          simp only [Option.map_some] at h3'
          split at h3'
          · rename_i hh
            simp at hh
            exact hh.1.1
          · rcases h3' with z | z | z
            · exact absurd z n1
            · exact absurd (Option.some.inj z) nc
            · exact Option.some.inj z
        subst hk
        have hN : X.N[i]? = some x := by
          rcases n2 with z | z
          · rw [q] at z; cases z
          · exact z
        obtain ⟨k1, k2, a, k3, k4⟩ := c.look I.ok q
        obtain ⟨m, hm, hl'⟩ := I.loc
        have vis : Vis X.env.scope x := k2.elim (fun z => .inr (.inl z)) fun z => .inr (.inr z)
        obtain ⟨u, ru, lk⟩ := hl' i x v hN h2 vis
        refine ⟨u, ru, .inr ⟨k1, a, k4, ?_⟩⟩
        rcases lk with ⟨z, _⟩ | ⟨_, a', z1, z2⟩
        · rcases k2 with k2 | k2 <;> (rw [k2] at z; cases z)
        · rw [k3] at z1; cases z1
          obtain ⟨ob, y1, y2⟩ := z2
          exact ⟨ob, old _ _ y1, y2⟩
    · by_cases hi2 : i < N'.length - 1
      · rw [List.getElem?_append_left (by simp; omega), List.getElem?_append_right (by omega), List.getElem?_replicate] at h2
        split at h2 <;> cases h2
      · have hi3 : i < N'.length := (List.getElem?_eq_some_iff.mp h1).1
        have e : i = N'.length - 1 := by omega
        rw [e] at h1
        have z := c.acc h1
        have h3' : (relabel scope X.env).names.lookup x = some .local ∨ (relabel scope X.env).names.lookup x = some .cell ∨ (relabel scope X.env).names.lookup x = some .free := h3
        rw [relabel_lookup, z] at h3'
        rcases h3' with y | y | y <;> cases y
  · intro x a e
    obtain ⟨v, ob, y1, y2⟩ := I.cell x a (clOf_lookup e)
    exact ⟨v, ob, old _ _ y1, y2⟩
  · show upd H D (.lst []) C = none
    rw [upd_ne hDC]; exact hCn
  · intro x a e
    have e' := clOf_lookup e
    have : a ≠ D := by rw [hD]; exact Nat.ne_of_lt (cellLt x a e')
    rw [upd_ne this]
    exact I.freeC x a e'
  · intro p hp
    exact absurd (show p ∈ ([] : List (Addr × Obj)) from hp) (by simp)
  · show (σ ++ _ ++ _).length = N'.length
    have := c.len
    simp
    omega
def PTs (X : Cx) (EX : XE) (ifs : List Expr) (f : M Bool) : Prop :=
  ∀ (pins : List (Addr × Obj)) (s : Shared) (σ : St) (H : Hp) (Q : Bool → Hp → Prop), Inv X pins σ H s → lift (lc X EX) RB f σ H Q →
    wpAny (model X.prog X.w) X.A (forIn ifs true fun c r => if r = true then do let ok ← isTrue c X.env (eval c X.env); pure (ForInStep.yield ok) else pure (ForInStep.yield r)) (TP X pins σ Q) X.xe s
theorem pts_nil {EX : XE} : PTs X EX [] (ret true) := fun pins s σ H Q I ⟨G, F, ρ, g, o⟩ => wpAny_tests_nil ⟨H, I, o F H true (Same.refl _) g rfl⟩
theorem pts_one {EX : XE} {c : Expr} {f : M Bool} (h : PB X EX c f) : PTs X EX [c] f := fun pins s σ H Q I q => wpAny_tests_one (h pins s σ H Q I q)
theorem Good.take {K : Frag} {mg : MG} {G : Fx} {F H : Hp} {σ : St} {ρ : Rho} (g : Good K mg G F H σ ρ) (n : Nat) : Good K mg G F H (σ.take n) (ρ.take n) where
  sF := g.sF
  sub := g.sub
  old := g.old
  new := g.new
  len := by simp [g.len]
  slot := fun i s h => by
    by_cases hi : i < n
    · rw [List.getElem?_take_of_lt hi] at h ⊢
      exact g.slot i s h
    · rw [List.getElem?_take_eq_none (by omega)] at h
      cases h
  apart := fun i j l s t h1 h2 o1 o2 e1 e2 => by
    by_cases hi : i < n
    · by_cases hj : j < n
      · rw [List.getElem?_take_of_lt hi] at h1 e1
        rw [List.getElem?_take_of_lt hj] at h2 e2
        exact g.apart i j l s t h1 h2 o1 o2 e1 e2
      · rw [List.getElem?_take_eq_none (by omega)] at h2; cases h2
    · rw [List.getElem?_take_eq_none (by omega)] at h1; cases h1
  ioT := g.ioT
  ioU := g.ioU
theorem Good.more {K : Frag} {mg : MG} {G : Fx} {F H : Hp} {σ : St} {ρ : Rho} {D : Addr} (g : Good K mg G F H σ ρ) (n : Nat) (hD : H D = none) : Good K mg G F (upd H D (.lst [])) (σ ++ List.replicate n none ++ [some (V.ref D)]) (ρ ++ List.replicate n .no ++ [.ow (.lst [])]) := by
  have g1 : Good K mg G F (upd H D (.lst [])) σ ρ := g.made hD
  have at_ : ∀ {i : Nat} {s : Sl}, (ρ ++ List.replicate n .no ++ [.ow (.lst [])])[i]? = some s → (i < ρ.length ∧ ρ[i]? = some s ∧ (σ ++ List.replicate n none ++ [some (V.ref D)])[i]? = σ[i]?) ∨ (s = .no) ∨ (i = ρ.length + n ∧ s = .ow (.lst []) ∧ (σ ++ List.replicate n none ++ [some (V.ref D)])[i]? = some (some (V.ref D))) := fun {i s} h => by
    by_cases hi : i < ρ.length
    · rw [List.getElem?_append_left (by simp; omega), List.getElem?_append_left hi] at h
      exact .inl ⟨hi, h, by rw [List.getElem?_append_left (by simp [g.len]; omega), List.getElem?_append_left (by rw [g.len]; exact hi)]⟩
    · by_cases hi2 : i < ρ.length + n
      · rw [List.getElem?_append_left (by simp; omega), List.getElem?_append_right (by omega), List.getElem?_replicate] at h
        split at h
        · exact .inr (.inl (Option.some.inj h).symm)
        · cases h
      · rw [List.getElem?_append_right (by simp; omega)] at h
        have e : i = ρ.length + n := by
          have := (List.getElem?_eq_some_iff.mp h).1
          simp at this
          omega
        subst e
        simp at h
        refine .inr (.inr ⟨rfl, h.symm, ?_⟩)
        rw [List.getElem?_append_right (by simp [g.len])]
        simp [g.len]
  have noD : ∀ {i : Nat} {s : Sl}, ρ[i]? = some s → Owned s = true → σ[i]? ≠ some (some (V.ref D)) := fun {i s} h o e => by
    obtain ⟨l, d, h1, h2, h3, h4⟩ := (g.slot i s h).own o
    rw [e] at h1
    cases h1
    obtain ⟨u, hu⟩ := h3.has
    rw [hD] at hu; cases hu
  exact {
    sF := g1.sF
    sub := g1.sub
    old := g1.old
    new := g1.new
    len := by simp [g.len]
    slot := fun i s h => by
      rcases at_ h with ⟨h1, h2, h3⟩ | rfl | ⟨h1, rfl, h3⟩
      · rw [h3]; exact g1.slot i s h2
      · trivial
      · rw [h3]
        exact ⟨D, rfl, g.sub.free hD, g.new0 hD, [], upd_same, .nil⟩
    apart := fun i j l s t h1 h2 o1 o2 e1 e2 => by
      rcases at_ h1 with ⟨a1, a2, a3⟩ | rfl | ⟨a1, rfl, a3⟩
      · rcases at_ h2 with ⟨b1, b2, b3⟩ | rfl | ⟨b1, rfl, b3⟩
        · rw [a3] at e1; rw [b3] at e2
          exact g.apart i j l s t a2 b2 o1 o2 e1 e2
        · cases o2
        · rw [a3] at e1; rw [b3] at e2
          cases e2
          exact absurd e1 (noD a2 o1)
      · cases o1
      · rcases at_ h2 with ⟨b1, b2, b3⟩ | rfl | ⟨b1, rfl, b3⟩
        · rw [a3] at e1; rw [b3] at e2
          cases e1
          exact absurd e2 (noD b2 o2)
        · cases o2
        · rw [a1, b1]
    ioT := g1.ioT
    ioU := g1.ioU }
theorem upd_good {L : Lc} {G : Fx} {F H : Hp} {σ : St} {ρ : Rho} {k : Nat} {x : D} {v : V} {P : Unit → Rho → Prop} {E : Xn → Rho → Prop} (g : L.Good G F H σ ρ) (r : Den L.K L.mg F v x) (o : Out (mUpd k (appD x) ρ) P E) :
    ∃ l vs ρ', σ[k]? = some (some (V.ref l)) ∧ H l = some (.lst vs) ∧ vs.length < sizeLine ∧ L.Good G F (upd H l (.lst (vs ++ [v]))) σ ρ' ∧ P () ρ' := by
  unfold mUpd at o
  cases q : own ρ[k]? with
  | none => rw [q] at o; exact o.elim
  | some d =>
    rw [q] at o
    dsimp only at o
    cases q2 : appD x d with
    | none => rw [q2] at o; exact o.elim
    | some d' =>
      rw [q2] at o
      have o' : P () (putS k d' ρ) := o
      cases d with
      | lst ds =>
        simp only [appD] at q2
        split at q2
        · rename_i hl
          cases q2
          cases q3 : ρ[k]? with
          | none => rw [q3] at q; cases q
          | some s =>
            rw [q3] at q
            have sl := g.slot k s q3
            have fin : ∀ l s', σ[k]? = some (some (V.ref l)) → Owned s = true → Obj1 L.K L.mg F H l (.lst ds) → ((∃ e, s = .ow e ∧ s' = .ow (.lst (ds ++ [x]))) ∨ (∃ e, s = .io e ∧ s' = .io (.lst (ds ++ [x])))) → putS k (.lst (ds ++ [x])) ρ = ρ.set k s' →
                ∃ l vs ρ', σ[k]? = some (some (V.ref l)) ∧ H l = some (.lst vs) ∧ vs.length < sizeLine ∧ L.Good G F (upd H l (.lst (vs ++ [v]))) σ ρ' ∧ P () ρ' := fun l s' z1 z2 z3 z4 z5 => by
              obtain ⟨vs, y1, y2⟩ := z3
              refine ⟨l, vs, _, z1, y1, by rw [y2.length, sizeLine_eq]; exact hl, Good.write g q3 z2 z1 z4 ⟨_, upd_same, y2.append (.cons r .nil)⟩, ?_⟩
              rw [← z5]; exact o'
            cases s with
            | no => cases q
            | sh e => cases q
            | ow e =>
              cases q
              obtain ⟨l, z1, z2, z3, z4⟩ := sl
              exact fin l _ (join_some z1) rfl z4 (.inl ⟨_, rfl, rfl⟩) (by unfold putS; rw [q3])
            | io e =>
              cases q
              obtain ⟨l, z1, z2, z3, z4⟩ := sl
              exact fin l _ (join_some z1) rfl z4 (.inr ⟨_, rfl, rfl⟩) (by unfold putS; rw [q3])
        · cases q2
      | _ => cases q2
variable {X : Cx} {EX : XE} {elt tg iter : Expr} {ifs : List Expr} {pos : Pos} {it : M (List D)} {gf : D → M Unit} {ft : M Bool} {fe : M D} {js : List Nat} {scope : Scope} {N' : List Str}
theorem comp_core (n : Nat) {use : Option (Value → Sem Unit)} {QQ : Value → Shared → Prop} {pins : List (Addr × Obj)} {s : Shared} {σ : St} {H F : Hp} {G : Fx} {ρ : Rho} {P : D → Rho → Prop} {Ex : Xn → Rho → Prop}
    (hc : X.calm = true) (c : CompOk X scope N') (hn : X.N.length + n + 1 = N'.length) (hi : PVI X EX tg iter it) (hgx : ∀ d r x r', gf d r ≠ .exc x r') (hjs : ∀ j ∈ js, X.N.length ≤ j ∧ j < X.N.length + n)
    (hg : ∀ C s H ex, PVG (compCx X scope C N' s H ex) EX tg js gf) (ht : ∀ C s H ex, PTs (compCx X scope C N' s H ex) EX ifs ft) (he : ∀ C s H ex, PV (compCx X scope C N' s H ex) EX elt fe)
    (hs : ∀ x, foldedSetIterable iter X.env x = pure x) (I : Inv X pins σ H s) (g0 : (lc X EX).Good G F H σ ρ) (o : Out (mComp n it gf ft fe ρ) P Ex) (hE : ∀ x r, Ex x r → PostX (lc X EX) G F σ x r)
    (hend : ∀ (F4 H4 : Hp) (s5 : Shared) (ρ5 : Rho) (d : D) (l C : Addr) (mm : Str → Option Value), Same F F4 → (lc X EX).Good G F4 H4 σ ρ5 → Loose X.K X.mg G F4 H4 σ ρ5 l d → P d ρ5 → Inv X pins σ H4 s5 → s5.heap.Ns C mm → FpOk X pins H4 C →
      compPost (model X.prog X.w) X.A X.xe use QQ (.ref l) C (.ok .next) s5) :
    wpAny (model X.prog X.w) X.A (comprehension (.ListComp elt [⟨tg, iter, ifs, 0⟩] scope pos) scope X.env (firstIterPos [⟨tg, iter, ifs, 0⟩] pos) (newList []) (firstAsync [⟨tg, iter, ifs, 0⟩]) (firstIter [⟨tg, iter, ifs, 0⟩] X.env) use) QQ X.xe s := by
  refine wpAny_comprehension_free (use := use) rfl hs (c.clos I.ok) c.kind (fun y hy hl => c.names hy hl) ?_
  refine thn (hi pins s σ H (fun J H1 => ∃ F1 ρ1 ds, Same F F1 ∧ (lc X EX).Good G F1 H1 σ ρ1 ∧ ItR (lc X EX) G F1 J ds ∧ Out (inner n (fun k => turns k gf ft fe ds) ρ1) P Ex) I
    (at_bnd g0 o hE fun F1 H1 ρ1 ds J s1 g1 r1 o1 => ⟨F1, ρ1, ds, s1, g1, r1, o1⟩)) fun xv s1 h1 => thn h1 fun itv s2 h2 => ?_
  obtain ⟨ita, fp, tn, J, H2, e, I2, T, st2, f2, F1, ρ1, ds, e1, g1, r1, o1⟩ := h2
  subst e
  refine wpAny_newObj_type (wpAny_newFunctionEnv (fun y hy => c.nocell hy) (by intro y hy; simp at hy) (fun h₁ hns₁ hsb₁ => ?_) c.kind)
  dsimp only at hns₁ hsb₁ ⊢
  generalize hH2 : s2.heap.push { cls := .type "list", dict := none, data := .seq ([] : List Value).toArray } = HP at hns₁ hsb₁ ⊢
  have hC : HP.objs.size = s2.heap.objs.size + 1 := by rw [← hH2, Heap.size_push]
  have hDC : s2.heap.objs.size ≠ HP.objs.size := by rw [hC]; exact Nat.ne_of_lt (Nat.lt_succ_self _)
  have old : ∀ b o, s2.heap.get? b = some o → h₁.get? b = some o := fun b o e => hsb₁.extBut b o (by have := Heap.lt_size e; rw [hC]; exact Nat.ne_of_lt (Nat.lt_succ_of_lt this)) (Heap.get?_push_of_some _ (hH2 ▸ Heap.get?_push_of_some _ e))
  have hl : h₁.get? s2.heap.objs.size = some { cls := .type "list", data := .seq #[] 0 } := hsb₁.extBut _ _ hDC (Heap.get?_push_of_some _ (hH2 ▸ Heap.get?_push_size _ rfl))
  have hfp : ∀ b ∈ fp, b < s2.heap.objs.size := fun b hb => by
    obtain ⟨ob, e, _⟩ := T.obj 0 _ st2 b hb
    exact Heap.lt_size e
  have hns : h₁.Ns HP.objs.size fun _ => none := by simpa using hns₁
  have hDn : H2 s2.heap.objs.size = none := I2.hok.fresh (Nat.le_refl _)
  have lenσ : σ.length = X.N.length := I.len
  have lenρ : ρ1.length = σ.length := g1.len.symm
  have hn' : N'.length - 1 - σ.length = n := by omega
  have I3 := comp_start (tk := s2.toks + ([] : List (Str × Value)).length) c I2 f2 hfp rfl hC old hns hl
  rw [hn'] at I3
  have g2 := Good.more g1 n hDn
  rw [show inner n (fun k => turns k gf ft fe ds) ρ1 = _ from rfl] at o1
  unfold inner at o1
  rw [lenρ] at o1
  let XX := compCx X scope HP.objs.size N' s2 H2 fp
  have loopAll : ∀ s3 : Shared, s3 = { s2 with heap := h₁, toks := s2.toks + ([] : List (Str × Value)).length } →
      codeAny (model X.prog X.w) X.A (.compLoop (.ListComp elt [⟨tg, iter, ifs, 0⟩] scope pos) 0 (.ref ita) (.ref s2.heap.objs.size) XX.env)
        (compPost (model X.prog X.w) X.A X.xe use QQ (.ref s2.heap.objs.size) HP.objs.size) s3 := by
    rintro s3 rfl
    have hEX : ∀ {α : Type} {t : Sem α} {Q' : α → Shared → Prop} {E' : Value → Shared → Prop} {s' : Shared}, wpAny (model X.prog X.w) X.A t Q' (fun _ _ => False) s' → wpAny (model X.prog X.w) X.A t Q' E' s' := fun h => wpAny_mono h (fun _ _ q => q) fun _ _ z => z.elim
    refine codeAny_loop rfl (fun m s' => ∃ i σ' H' F' ρ', m = ds.length - i ∧ i ≤ ds.length ∧ Inv XX [] σ' H' s' ∧ tn i s'.heap ∧ (∀ b ∈ fp, H' b = none) ∧ Same F1 F' ∧ Good X.K X.mg G F' H' σ' ρ' ∧ (∀ j, j < σ.length → σ'[j]? = σ[j]?) ∧ σ'[σ.length + n]? = some (some (V.ref s2.heap.objs.size)) ∧
      Out (turns (σ.length + n) gf ft fe (ds.drop i) ρ') (fun _ r => ∃ d, r[σ.length + n]? = some (.ow d) ∧ P d (r.take σ.length)) (fun _ _ => False)) (fun m s4 hI => ?_) ds.length
      ⟨0, _, _, F1, _, by simp, Nat.zero_le _, I3, T.keep _ _ _ st2 (fun b _ ob e => old b ob e), fun b hb => ?_, Same.refl _, g2, fun j hj => ?_, ?_, ?_⟩
    · show wpAny _ X.A ((compTurn (.ListComp elt [⟨tg, iter, ifs, 0⟩] scope pos) 0 (.ref ita) (.ref s2.heap.objs.size) XX.env).onRaise (fun x => do noteFrame x XX.env; theTreesLotGoes x)) _ _ s4
      refine wpAny_noted ?_
      rw [compTurn_list]
      obtain ⟨i, σ4, H4, F4, ρ4, rfl, hi4, I4, st4, fr4, e4, g4, hσ4, hD4, o4⟩ := hI
      have stat : ∀ {H' : Hp}, (∀ b ∈ fp, H' b = none) → ∀ b ∈ fp, FpOk XX [] H' b := fun {H'} hz b hb =>
        ⟨hz b hb, (I3.ok.exf b hb).1, I3.ok.exfs b hb, .inl hb, fun x a e => (I3.ok.exf b hb).2 x a e, fun p hp => absurd (show p ∈ ([] : List (Addr × Obj)) from hp) (by simp)⟩
      obtain ⟨t1, t2, t3⟩ := r1 σ4 i F4 H4 ρ4 e4 g4
      by_cases hlt : i < ds.length
      · have ed : ds.drop i = ds[i] :: ds.drop (i + 1) := List.drop_eq_getElem_cons hlt
        rw [ed] at o4
        refine wpAny_bind (wpAny_standAt (wpAny_bind (thn (T.item XX rfl rfl rfl hc i [] s4 σ4 H4 _ I4 (stat fr4) st4 (t1 hlt)) fun r s5 ⟨u, hr, h5⟩ => ?_)))
        subst hr
        refine wpAny_bind (thn h5 fun _ s6 ⟨x, H6, I6, r6, y6, st6, fr6⟩ => ?_)
        obtain ⟨F6, e6, g6, q6⟩ := t3 x H6 y6
        have I6' := I6.pinned (stat fr6) (T.obj _ _ st6)
        have again : ∀ {s7 : Shared} {σ7 : St} {H7 F7 : Hp} {ρ7 : Rho}, Inv XX ([] ++ pinsAt fp s6.heap) σ7 H7 s7 → Same F6 F7 → Good X.K X.mg G F7 H7 σ7 ρ7 → (∀ j, j ∉ js → σ7[j]? = σ4[j]?) →
            Out (turns (σ.length + n) gf ft fe (ds.drop (i + 1)) ρ7) (fun _ r => ∃ d, r[σ.length + n]? = some (.ow d) ∧ P d (r.take σ.length)) (fun _ _ => False) →
            ∃ m, m < ds.length - i ∧ ∃ i σ' H' F' ρ', m = ds.length - i ∧ i ≤ ds.length ∧ Inv XX [] σ' H' s7 ∧ tn i s7.heap ∧ (∀ b ∈ fp, H' b = none) ∧ Same F1 F' ∧ Good X.K X.mg G F' H' σ' ρ' ∧ (∀ j, j < σ.length → σ'[j]? = σ[j]?) ∧ σ'[σ.length + n]? = some (some (V.ref s2.heap.objs.size)) ∧
              Out (turns (σ.length + n) gf ft fe (ds.drop i) ρ') (fun _ r => ∃ d, r[σ.length + n]? = some (.ow d) ∧ P d (r.take σ.length)) (fun _ _ => False) := fun {s7 σ7 H7 F7 ρ7} I7 e7 g7 hj7 o7 => by
          refine ⟨ds.length - (i + 1), by omega, i + 1, σ7, H7, F7, ρ7, rfl, hlt, I7.unpinned, T.keep _ _ _ st6 fun b hb ob e => (I7.pin (b, ob) (List.mem_append_right _ (List.mem_append_right _ (mem_pinsAt hb e)))).1, fun b hb => ?_, e4.trans (e6.trans e7), g7, fun j hj => ?_, ?_, o7⟩
          · obtain ⟨ob, e, d⟩ := T.obj _ _ st6 b hb
            exact (I7.pin (b, ob) (List.mem_append_right _ (List.mem_append_right _ (mem_pinsAt hb e)))).2.1
          · rw [hj7 j fun m => by have := (hjs j m).1; omega]
            exact hσ4 j hj
          · rw [hj7 _ fun m => by have := (hjs _ m).2; omega]
            exact hD4
        refine wpAny_bind (hEX (thn (hg HP.objs.size s2 H2 fp _ s6 σ4 H6 x u (fun σ' H' => ∃ F' ρ', Same F6 F' ∧ Good X.K X.mg G F' H' σ' ρ' ∧ (∀ j, j ∉ js → σ'[j]? = σ4[j]?) ∧
          Out (bnd ft (fun b => if b then bnd fe fun x => bnd (mUpd (σ.length + n) (appD x)) fun _ => turns (σ.length + n) gf ft fe (ds.drop (i + 1)) else turns (σ.length + n) gf ft fe (ds.drop (i + 1))) ρ') (fun _ r => ∃ d, r[σ.length + n]? = some (.ow d) ∧ P d (r.take σ.length)) (fun _ _ => False)) I6' r6
          ⟨G, F6, ρ4, ds[i], g6, q6 _ (by simp [hlt]), (Out.bnd o4).mono (fun _ r z F' H' σ' s g hj => ⟨F', r, s, g, hj, z⟩) fun _ _ z => z⟩) fun _ s7 ⟨σ7, H7, I7, F7, ρ7, e7, g7, hj7, o7⟩ => ?_))
        refine wpAny_bind (hEX (thn (ht HP.objs.size s2 H2 fp _ s7 σ7 H7 (fun b H' => ∃ F' ρ', Same F7 F' ∧ Good X.K X.mg G F' H' σ7 ρ' ∧
          Out ((if b then bnd fe fun x => bnd (mUpd (σ.length + n) (appD x)) fun _ => turns (σ.length + n) gf ft fe (ds.drop (i + 1)) else turns (σ.length + n) gf ft fe (ds.drop (i + 1))) ρ') (fun _ r => ∃ d, r[σ.length + n]? = some (.ow d) ∧ P d (r.take σ.length)) (fun _ _ => False)) I7
          ⟨G, F7, ρ7, g7, (Out.bnd o7).mono (fun a r z F' H' b s g e => by cases e; exact ⟨F', r, s, g, z⟩) fun _ _ z => z.elim⟩) fun ok s8 ⟨H8, I8, F8, ρ8, e8, g8, o8⟩ => ?_))
        cases ok with
        | false => exact wpAny_pure ⟨rfl, again I8 (e7.trans e8) g8 hj7 o8⟩
        | true =>
          refine wpAny_bind (wpAny_bind (hEX (thn (he HP.objs.size s2 H2 fp _ s8 σ7 H8 (fun v H' => ∃ F' ρ' d, Same F8 F' ∧ Good X.K X.mg G F' H' σ7 ρ' ∧ Den X.K X.mg F' v d ∧
            Out (bnd (mUpd (σ.length + n) (appD d)) (fun _ => turns (σ.length + n) gf ft fe (ds.drop (i + 1))) ρ') (fun _ r => ∃ d, r[σ.length + n]? = some (.ow d) ∧ P d (r.take σ.length)) (fun _ _ => False)) I8
            ⟨G, F8, ρ8, g8, (Out.bnd o8).mono (fun a r z F' H' b s g e => ⟨F', r, a, s, g, e, z⟩) fun _ _ z => z.elim⟩) fun xv s9 ⟨y, H9, I9, r9, F9, ρ9, d9, e9, g9, dn9, o9⟩ => ?_)))
          obtain ⟨l, vs, ρ10, hσ, hHl, hlen, g10, o10⟩ := upd_good (L := lc X EX) g9 dn9 (Out.bnd o9)
          rw [hj7 _ fun m => by have := (hjs _ m).2; omega, hD4] at hσ
          cases hσ
          refine wpAny_bind (hEX (thn (mt_append (X := XX) _ s9 σ7 H9 (.ref s2.heap.objs.size) [y] (.ref s2.heap.objs.size) [xv] (fun _ H' => H' = upd H9 s2.heap.objs.size (.lst (vs ++ [y]))) I9 rfl (.cons r9 .nil) ⟨_, vs, y, rfl, rfl, hHl, hlen, rfl⟩) fun _ s10 ⟨_, H10, I10, _, e10⟩ => ?_))
          subst e10
          exact wpAny_pure (wpAny_pure ⟨rfl, again I10 ((e7.trans e8).trans e9) g10 hj7 o10⟩)
      · have e : i = ds.length := by omega
        subst e
        refine wpAny_bind (wpAny_standAt (wpAny_bind (thn (T.done XX rfl rfl rfl hc _ [] s4 σ4 H4 _ I4 (stat fr4) st4 (t2 rfl)) fun r s5 ⟨hr, I5⟩ => ?_)))
        subst hr
        refine wpAny_pure ?_
        obtain ⟨mm, hmm, _⟩ := id I5.loc
        rw [List.drop_length] at o4
        obtain ⟨d, hd, post⟩ : ∃ d, ρ4[σ.length + n]? = some (.ow d) ∧ P d (ρ4.take σ.length) := o4
        have IX : Inv X pins σ H4 s5 := I2.call' (s' := s5) I5.os I5.base I5.hok I5.bare fun b hb => ⟨(f2 b hb).2.2.2.1, (f2 b hb).2.1, (f2 b hb).2.2.2.2.1, (f2 b hb).2.2.2.2.2⟩
        have FC : FpOk X pins H4 HP.objs.size := I2.fpOk (by rw [hC]; exact Nat.le_succ _) I5.free
        have eσ : σ4.take σ.length = σ := by
          refine List.ext_getElem? fun j => ?_
          by_cases hj : j < σ.length
          · rw [List.getElem?_take_of_lt hj]; exact hσ4 j hj
          · rw [List.getElem?_take_eq_none (by omega), List.getElem?_eq_none (by omega)]
        obtain ⟨l, z1, z2, z3, z4⟩ := g4.slot _ _ hd
        rw [hD4] at z1
        cases z1
        refine hend F4 H4 s5 _ d _ _ mm (e1.trans e4) (by have := Good.take g4 σ.length; rw [eσ] at this; exact this) ⟨z2, z3, z4, fun j t hj ho hne => ?_⟩ post IX hmm FC
        have hjl : j < σ.length := by
          have := (List.getElem?_eq_some_iff.mp hj).1
          simp at this
          omega
        rw [List.getElem?_take_of_lt hjl] at hj
        have := g4.apart j (σ.length + n) s2.heap.objs.size t _ hj hd ho rfl (by rw [hσ4 j hjl]; exact hne) hD4
        omega
    · rw [upd_ne (Nat.ne_of_lt (hfp b hb))]
      exact (f2 b hb).1
    · rw [List.getElem?_append_left (by simp; omega), List.getElem?_append_left hj]
    · rw [List.getElem?_append_right (by simp)]
      simp
    · simp only [List.drop_zero]
      cases q : turns (σ.length + n) gf ft fe ds (ρ1 ++ List.replicate n .no ++ [.ow (.lst [])]) with
      | no => simp only [q] at o1; exact o1.elim
      | exc x r => simp only [q] at o1; exact o1.elim
      | ok u r =>
        simp only [q] at o1
        show ∃ d, r[σ.length + n]? = some (.ow d) ∧ _
        cases q2 : r[σ.length + n]? with
        | none => simp only [q2] at o1; exact o1.elim
        | some t =>
          simp only [q2] at o1
          cases t with
          | ow d => exact ⟨d, rfl, o1⟩
          | no => exact o1.elim
          | sh d => exact o1.elim
          | io d => exact o1.elim
  exact codeAny_compStart_list (loopAll _ rfl) (T.self _ _ _ _ _ (T.keep _ _ _ st2 fun b _ ob e => old b ob e) (loopAll _ rfl))
theorem pf_comp (n : Nat) (hc : X.calm = true) (c : CompOk X scope N') (hn : X.N.length + n + 1 = N'.length) (hi : PVI X EX tg iter it) (hgx : ∀ d r x r', gf d r ≠ .exc x r') (hjs : ∀ j ∈ js, X.N.length ≤ j ∧ j < X.N.length + n)
    (hg : ∀ C s H ex, PVG (compCx X scope C N' s H ex) EX tg js gf) (ht : ∀ C s H ex, PTs (compCx X scope C N' s H ex) EX ifs ft) (he : ∀ C s H ex, PV (compCx X scope C N' s H ex) EX elt fe)
    (hs : ∀ x, foldedSetIterable iter X.env x = pure x := by intro _; rfl) : PF X EX (.ListComp elt [⟨tg, iter, ifs, 0⟩] scope pos) (mComp n it gf ft fe) := by
  intro pins s σ H Q I h
  obtain ⟨G, F, ρ, g0, o⟩ := h
  rw [eval_ListComp]
  refine comp_core (use := none) n hc c hn hi hgx hjs hg ht he hs I g0 o (fun x r q => q) fun F4 H4 s5 ρ5 d l C mm e4 g4 lo post IX hmm FC => ?_
  refine ⟨mm, hmm, fun h' hs' => ⟨.ref l, H4, ?_, rfl, post F4 H4 _ e4 g4 ⟨l, rfl, lo⟩⟩⟩
  exact IX.turned (t' := s5.toks) (fun b ob hb e => hs'.extBut b ob hb e) FC.1 FC.2.1 FC.2.2.2.1 FC.2.2.2.2.1 FC.2.2.2.2.2
theorem comp_store (n i : Nat) {y : Str} {py spos : Pos} {f : D → M Fl} (hc : X.calm = true) (c : CompOk X scope N') (hn : X.N.length + n + 1 = N'.length) (hi : PVI X EX tg iter it) (hgx : ∀ d r x r', gf d r ≠ .exc x r') (hjs : ∀ j ∈ js, X.N.length ≤ j ∧ j < X.N.length + n)
    (hg : ∀ C s H ex, PVG (compCx X scope C N' s H ex) EX tg js gf) (ht : ∀ C s H ex, PTs (compCx X scope C N' s H ex) EX ifs ft) (he : ∀ C s H ex, PV (compCx X scope C N' s H ex) EX elt fe)
    (hN : X.N.Nodup) (hy : X.N[i]? = some y) (hx : Loc X.env.scope y) (hsw : swapsWith (.ListComp elt [⟨tg, iter, ifs, 0⟩] scope pos) (some (.Name y py)) spos.line X.env = pure true)
    (hf : ∀ {G : Fx} {F4 H4 F : Hp} {σ : St} {ρ5 : Rho} {l : Addr} {d : D} {E : Ends}, (lc X EX).Good G F4 H4 σ ρ5 → Loose X.K X.mg G F4 H4 σ ρ5 l d → Same F F4 → Out (f d ρ5) (PostS (lc X EX) G F E) (PostXS (lc X EX) G F) → E.nx (σ.set i (some (.ref l))) H4)
    (hs : ∀ x, foldedSetIterable iter X.env x = pure x) (hfn : X.fn y = true ∨ X.env.scope.names.lookup y = some .local) : PVS X EX (.Assign [.Name y py] (.ListComp elt [⟨tg, iter, ifs, 0⟩] scope pos) spos) (bnd (mComp n it gf ft fe) f) := by
  intro pins s σ H E I h
  obtain ⟨G, F, ρ, g0, o⟩ := h
  rw [exec_Assign_Name_used _ _ _ _ hsw]
  refine wpAny_bind (wpAny_standAt (wpAny_bind ?_))
  show wpAny _ X.A (do let _ ← comprehension (.ListComp elt [⟨tg, iter, ifs, 0⟩] scope pos) scope X.env _ (newList []) false (firstIter [⟨tg, iter, ifs, 0⟩] X.env) (some (assign (.Name y py) X.env))) _ _ s
  refine wpAny_bind (wpAny_mono (comp_core (use := some (assign (.Name y py) X.env)) (QQ := fun _ s' => SP X pins E .next s') n hc c hn hi hgx hjs hg ht he hs I g0 (Out.bnd o) (fun x r q => q.x) fun F4 H4 s5 ρ5 d l C mm e4 g4 lo post IX hmm FC => ?_) (fun _ s' hq => wpAny_pure (wpAny_pure hq)) fun _ _ e => e)
  show wpAny _ X.A (assign (.Name y py) X.env (.ref l)) _ _ s5
  refine wpAny_assign_Name (store_ok2 IX hN hy hx (v := .ref l) rfl (fun s6 I6 ⟨a, sb, ha⟩ => ?_) hfn)
  have hCa : C ≠ a := by
    rcases ha with rfl | ha
    · exact FC.2.1
    · exact fun z => FC.2.2.2.2.1 _ _ ha z.symm
  refine ⟨mm, hmm.sameBut sb hCa, fun h' hs' => ⟨σ.set i (some (.ref l)), H4, ?_, hf g4 lo e4 post⟩⟩
  exact I6.turned (t' := s6.toks) (fun b ob hb e => hs'.extBut b ob hb e) FC.1 FC.2.1 FC.2.2.2.1 FC.2.2.2.2.1 FC.2.2.2.2.2
theorem vs_setC (n i : Nat) {y : Str} {py spos : Pos} (hN : X.N.Nodup) (hy : X.N[i]? = some y) (hx : Loc X.env.scope y) (hc : X.calm = true) (c : CompOk X scope N') (hn : X.N.length + n + 1 = N'.length) (hi : PVI X EX tg iter it) (hgx : ∀ d r x r', gf d r ≠ .exc x r') (hjs : ∀ j ∈ js, X.N.length ≤ j ∧ j < X.N.length + n)
    (hg : ∀ C s H ex, PVG (compCx X scope C N' s H ex) EX tg js gf) (ht : ∀ C s H ex, PTs (compCx X scope C N' s H ex) EX ifs ft) (he : ∀ C s H ex, PV (compCx X scope C N' s H ex) EX elt fe)
    (hsw : swapsWith (.ListComp elt [⟨tg, iter, ifs, 0⟩] scope pos) (some (.Name y py)) spos.line X.env = pure true := by rfl) (hs : ∀ x, foldedSetIterable iter X.env x = pure x := by intro _; rfl)
    (hfn : X.fn y = true ∨ X.env.scope.names.lookup y = some .local := by first | exact .inl rfl | exact .inr rfl | assumption) : PVS X EX (.Assign [.Name y py] (.ListComp elt [⟨tg, iter, ifs, 0⟩] scope pos) spos) (sSet i (mComp n it gf ft fe)) :=
  comp_store n i (f := fun d => sDo (mSet i d)) hc c hn hi hgx hjs hg ht he hN hy hx hsw (fun {G F4 H4 F σ ρ5 l d E} g4 lo e4 o => by
    obtain ⟨F5, e5, g5, dn⟩ := lo.fast g4
    obtain ⟨ρ2, g2, q⟩ := set_good (L := lc X EX) g5 dn (Out.bnd o)
    exact q F5 H4 _ (e4.trans e5) g2) hs hfn
theorem vs_ownC (n i : Nat) {y : Str} {py spos : Pos} (hN : X.N.Nodup) (hy : X.N[i]? = some y) (hx : Loc X.env.scope y) (hc : X.calm = true) (c : CompOk X scope N') (hn : X.N.length + n + 1 = N'.length) (hi : PVI X EX tg iter it) (hgx : ∀ d r x r', gf d r ≠ .exc x r') (hjs : ∀ j ∈ js, X.N.length ≤ j ∧ j < X.N.length + n)
    (hg : ∀ C s H ex, PVG (compCx X scope C N' s H ex) EX tg js gf) (ht : ∀ C s H ex, PTs (compCx X scope C N' s H ex) EX ifs ft) (he : ∀ C s H ex, PV (compCx X scope C N' s H ex) EX elt fe)
    (hsw : swapsWith (.ListComp elt [⟨tg, iter, ifs, 0⟩] scope pos) (some (.Name y py)) spos.line X.env = pure true := by rfl) (hs : ∀ x, foldedSetIterable iter X.env x = pure x := by intro _; rfl)
    (hfn : X.fn y = true ∨ X.env.scope.names.lookup y = some .local := by first | exact .inl rfl | exact .inr rfl | assumption) : PVS X EX (.Assign [.Name y py] (.ListComp elt [⟨tg, iter, ifs, 0⟩] scope pos) spos) (sOwn i (mComp n it gf ft fe)) :=
  comp_store n i (f := fun d => sDo (mOwn i d)) hc c hn hi hgx hjs hg ht he hN hy hx hsw (fun {G F4 H4 F σ ρ5 l d E} g4 lo e4 o => by
    obtain ⟨ρ2, g2, q⟩ := own_good (L := lc X EX) g4 lo (Out.bnd o)
    exact q F4 H4 _ e4 g2) hs hfn
end
end VS

end
section
set_option linter.all false
set_option maxRecDepth 100000
namespace VS
open PySem PySem.Spec PyProof.Rows L2 VP
section
variable {X : Cx} {EX : XE} {L : Lc} {tg e a b : Expr} {fa fb fe : M D} {G : Fx} {F : Hp}
theorem itr_tup {p : Addr} {vs : List V} {ds : List D} (h : SqT L.K F p vs) (r : DenL L.K L.mg F vs ds) : ItR L G F (Itt L.K p) ds := fun σ i F' H' ρ s g => by
  have sq : SqT L.K H' p vs := SqT.same (SqT.same h s) g.sub
  have hl := r.length
  refine ⟨fun hi => ⟨vs, vs[i]'(by omega), sq, by simp [show i < vs.length by omega]⟩, fun hi => ⟨vs, sq, by omega⟩, fun x H'' ⟨e, y⟩ => ?_⟩
  subst e
  refine ⟨F', Same.refl _, g, fun d hd => ?_⟩
  obtain ⟨v, h1, h2⟩ := (r.same s).get hd
  rw [y vs sq] at h1
  cases h1
  exact h2
theorem itr_lst {p : Addr} {vs : List V} {ds : List D} (h : SqL L.K F p vs) (r : DenL L.K L.mg F vs ds) : ItR L G F (Itl L.K p) ds := fun σ i F' H' ρ s g => by
  have sq : SqL L.K H' p vs := SqL.same (SqL.same h s) g.sub
  have hl := r.length
  refine ⟨fun hi => ⟨vs, vs[i]'(by omega), sq, by simp [show i < vs.length by omega]⟩, fun hi => ⟨vs, sq, by omega⟩, fun x H'' ⟨e, y⟩ => ?_⟩
  subst e
  refine ⟨F', Same.refl _, g, fun d hd => ?_⟩
  obtain ⟨v, h1, h2⟩ := (r.same s).get hd
  rw [y vs sq] at h1
  cases h1
  exact h2
theorem itr_rng (lo : Int) (n : Nat) : ItR L G F (Itr lo n) ((List.range n).map fun (k : Nat) => .int (lo + k)) := fun σ i F' H' ρ s g => by
  refine ⟨fun hi => (by simpa using hi : i < n), fun hi => (Nat.le_of_eq (by simpa using hi.symm) : n ≤ i), fun x H'' ⟨e, y⟩ => ?_⟩
  subst e y
  refine ⟨F', Same.refl _, g, fun d hd => ?_⟩
  rw [List.getElem?_map] at hd
  cases q : (List.range n)[i]? with
  | none => rw [q] at hd; cases hd
  | some k =>
    rw [q] at hd
    have : k = i := by
      have := List.getElem?_eq_some_iff.mp q
      obtain ⟨h1, h2⟩ := this
      simp at h2
      exact h2.symm
    subst this
    cases hd
    exact .int _
def iSeq (K : Frag) (tl : TE) : TI := fun σ H R => tl σ H fun x H1 => ∃ p, x = .ref p ∧ (((∃ xs, SqL K H1 p xs) ∧ R (Itl K p) H1) ∨ ((∃ xs, SqT K H1 p xs) ∧ R (Itt K p) H1))
theorem pi_seq {l : Expr} {tl : TE} (hl : PE X l tl) : PI X tg l (iSeq X.K tl) := by
  intro pins s σ H R I h
  refine thn (hl pins s σ H _ I h) fun v s1 ⟨x, H1, I1, r1, q1⟩ => ?_
  obtain ⟨p, e, q1⟩ := q1
  subst e
  cases r1
  rcases q1 with ⟨⟨xs, hq⟩, q⟩ | ⟨⟨xs, hq⟩, q⟩
  · obtain ⟨its, rv, pl, hz⟩ := I1.list hq
    refine wpAny_pyIter_list pl.isList ?_
    refine ⟨s1.heap.objs.size, [s1.heap.objs.size], _, _, H1, rfl, I1.kept (t' := s1.toks) fun b o e => Heap.get?_push_of_some _ e, turn_list p _, ⟨_, Heap.get?_push_size _ rfl, rfl, rfl⟩, fun b hb => ?_, q⟩
    have e : b = s1.heap.objs.size := by simpa using hb
    subst e
    exact I1.fpOk (Nat.le_refl _) (I1.hok.fresh (Nat.le_refl _))
  · obtain ⟨its, rv, pl, hz⟩ := I1.tuple hq
    refine wpAny_pyIter_tuple (show s1.heap.IsTuple p its.toArray from pl) ?_
    refine ⟨s1.heap.objs.size, [s1.heap.objs.size], _, _, H1, rfl, I1.kept (t' := s1.toks) fun b o e => Heap.get?_push_of_some _ e, turn_tuple p _, ⟨_, Heap.get?_push_size _ rfl, rfl, rfl⟩, fun b hb => ?_, q⟩
    have e : b = s1.heap.objs.size := by simpa using hb
    subst e
    exact I1.fpOk (Nat.le_refl _) (I1.hok.fresh (Nat.le_refl _))
theorem vi_seq (h : PV X EX e fe) : PVI X EX tg e (mSeq fe) :=
  (pi_seq h).le fun σ H Q ⟨G, F, ρ, g0, o⟩ => at_bnd g0 o (fun x r q => q) fun F1 H1 ρ1 d1 x s1 g1 r1 o1 => by
    obtain ⟨ds, e, q⟩ := o1.opt
    cases r1 with
    | tup h1 r1 =>
      cases e
      exact ⟨_, rfl, .inr ⟨⟨_, SqT.same h1 g1.sub⟩, q F1 H1 _ s1 g1 (itr_tup h1 r1)⟩⟩
    | lst h1 r1 =>
      cases e
      exact ⟨_, rfl, .inl ⟨⟨_, SqL.same h1 g1.sub⟩, q F1 H1 _ s1 g1 (itr_lst h1 r1)⟩⟩
    | _ => cases e
theorem vi_range1 {fl : List (M D)} {p pos : Pos} (hg : Gl X "range") (hm : X.mg "range" = none) (ha : PLs X EX [a] (mL fl)) (hs : starEach [a] X.env = [(false, eval a X.env)] := by rfl) : PVI X EX tg (.Call (.Name "range" p) [a] [] pos) (mRng1 fl) :=
  (pi_range1 hg hm ha hs).le fun σ H Q ⟨G, F, ρ, g0, o⟩ => at_bnd g0 o (fun x r q => q) fun F1 H1 ρ1 d1 xs s1 g1 r1 o1 => by
    obtain ⟨ds, e, q⟩ := o1.opt
    match d1, r1, e with
    | [.int j], .cons h .nil, e =>
      cases h
      simp only [rng1] at e
      split at e
      · rename_i hb
        cases e
        refine ⟨j, rfl, hb.1, hb.2, q F1 H1 _ s1 g1 ?_⟩
        have := itr_rng (L := lc X EX) (G := G) (F := F1) 0 j.toNat
        simp only [Int.zero_add] at this
        exact this
      · cases e
end
section
variable {X : Cx} {EX : XE} {L : Lc} {e a b : Expr} {fa fb fe : M D} {pos p : Pos} {x : Str} {id T : String}
def F1G (L : Lc) (r : List V → Hp → VK → Prop) (g : D → Option D) : Prop := ∀ G F H σ ρ x dx d Q, L.Good G F H σ ρ → RR L G F H σ ρ x dx → g dx = some d → Then L G F σ ρ d Q → r [x] H Q
theorem pa_one (ha : PR X EX a fa) (hs : starEach [a] X.env = (false, eval a X.env) :: starEach [] X.env := by rfl) : PA X [a] (fun σ H Q => lift (lc X EX) (RR (lc X EX)) fa σ H fun v H' => Q [v] H') := (pa_cons ha pa_nil hs).le fun σ H Q h => h
theorem pv_call1B {r : List V → Hp → VK → Prop} {g : D → Option D} (hc : CallR X (.builtin id) r) (hg : F1G (lc X EX) r g) (hgl : Gl X x) (hm : X.mg x = none) (hv : bootBuiltins x = some (.builtin id)) (ha : PR X EX a fa) (hn : x ≠ "__name__" := by decide) (hdb : (x == ("__debug__" : Str)) = false := by decide)
    (hs : starEach [a] X.env = (false, eval a X.env) :: starEach [] X.env := by rfl) : PV X EX (.Call (.Name x p) [a] [] pos) (m1 g fa) :=
  (pe_callB hc hgl hm hv (pa_one ha hs) hn hdb hs rfl).le fun σ H Q ⟨G, F, ρ, g0, o⟩ => at_bnd g0 o (fun x r q => q) fun F1 H1 ρ1 d1 x s1 g1 r1 o1 => by
    obtain ⟨d, e, q⟩ := o1.opt
    exact hg G F1 H1 σ ρ1 x d1 d Q g1 r1 e (Post.same s1 q)
theorem pv_call1T {r : List V → Hp → VK → Prop} {g : D → Option D} (hc : CallR X (.type T) r) (hg : F1G (lc X EX) r g) (hgl : Gl X x) (hm : X.mg x = none) (hv : bootBuiltins x = some (.type T)) (ha : PR X EX a fa) (hn : x ≠ "__name__" := by decide) (hdb : (x == ("__debug__" : Str)) = false := by decide)
    (hs : starEach [a] X.env = (false, eval a X.env) :: starEach [] X.env := by rfl) : PV X EX (.Call (.Name x p) [a] [] pos) (m1 g fa) :=
  (pe_callTy hc hgl hm hv (pa_one ha hs) hn hdb hs rfl).le fun σ H Q ⟨G, F, ρ, g0, o⟩ => at_bnd g0 o (fun x r q => q) fun F1 H1 ρ1 d1 x s1 g1 r1 o1 => by
    obtain ⟨d, e, q⟩ := o1.opt
    exact hg G F1 H1 σ ρ1 x d1 d Q g1 r1 e (Post.same s1 q)
theorem pv_callT {r : List V → Hp → VK → Prop} {g : List D → Option D} {es : List Expr} {fl : List (M D)} (hc : CallR X (.type T) r) (hg : FnG (lc X EX) r g) (hgl : Gl X x) (hm : X.mg x = none) (hv : bootBuiltins x = some (.type T)) (ha : PLs X EX (e :: es) (mL fl)) (hn : x ≠ "__name__" := by decide) (hdb : (x == ("__debug__" : Str)) = false := by decide)
    (he : starEach (e :: es) X.env = (false, eval e X.env) :: starEach es X.env := by rfl) (hpl : (backTo pos (starEach es X.env)).any (·.1) = false := by rfl) : PV X EX (.Call (.Name x p) (e :: es) [] pos) (mF g fl) :=
  (pe_callTy hc hgl hm hv ha hn hdb he hpl).le fun σ H Q ⟨G, F, ρ, g0, o⟩ => at_bnd g0 o (fun x r q => q) fun F1 H1 ρ1 d1 xs s1 g1 r1 o1 => by
    obtain ⟨d, e, q⟩ := o1.opt
    exact hg G F1 H1 σ ρ1 xs d1 d Q g1 r1 e (Post.same s1 q)
theorem RR.seq {G : Fx} {F H : Hp} {σ : St} {ρ : Rho} {v : V} {d : D} {ds : List D} (h : RR L G F H σ ρ v d) (g : L.Good G F H σ ρ) (e : seqD d = some ds) :
    ∃ p vs, v = .ref p ∧ DenL L.K L.mg F vs ds ∧ ((d = .lst ds ∧ SqL L.K H p vs) ∨ (d = .tup ds ∧ SqT L.K H p vs ∧ SqT L.K F p vs)) := by
  rcases h with h | ⟨l, rfl, h⟩
  · cases h with
    | tup h1 r1 => cases e; exact ⟨_, _, rfl, r1, .inr ⟨rfl, SqT.same h1 g.sub, h1⟩⟩
    | lst h1 r1 => cases e; exact ⟨_, _, rfl, r1, .inl ⟨rfl, SqL.same h1 g.sub⟩⟩
    | _ => cases e
  · cases d with
    | lst xs => cases e; obtain ⟨vs, h1, h2⟩ := h; exact ⟨l, vs, rfl, h2, .inl ⟨rfl, SqL.of h1⟩⟩
    | dct ks xs => cases e
    | ins c ns xs => cases e
    | _ => exact h.elim
theorem g_len : F1G L (fun xs H Q => ∃ p ys, xs = [.ref p] ∧ (SqL L.K H p ys ∨ SqT L.K H p ys) ∧ Q (.int ys.length) H) lenD := fun G F H σ ρ x dx d Q g0 rx e k => by
  have hs : ∃ ds, seqD dx = some ds ∧ d = .int ds.length := by cases dx <;> cases e <;> exact ⟨_, rfl, rfl⟩
  obtain ⟨ds, h1, rfl⟩ := hs
  obtain ⟨p, vs, rfl, r, q⟩ := RR.seq rx g0 h1
  refine ⟨p, vs, rfl, q.elim (fun z => .inl z.2) (fun z => .inr z.2.1), ?_⟩
  rw [r.length]
  exact k F H _ (Same.refl _) g0 (.int _)
theorem g_tupOf : F1G L (fun xs H Q => ∃ p ys, xs = [.ref p] ∧ ((SqL L.K H p ys ∧ ∀ l, H l = none → Q (.ref l) (upd H l (.tup ys))) ∨ (SqT L.K H p ys ∧ Q (.ref p) H))) tupOf := fun G F H σ ρ x dx d Q g0 rx e k => by
  have hs : ∃ ds, seqD dx = some ds ∧ d = .tup ds := by cases dx <;> cases e <;> exact ⟨_, rfl, rfl⟩
  obtain ⟨ds, h1, rfl⟩ := hs
  obtain ⟨p, vs, rfl, r, q⟩ := RR.seq rx g0 h1
  refine ⟨p, vs, rfl, ?_⟩
  rcases q with ⟨rfl, q⟩ | ⟨rfl, q, q2⟩
  · refine .inl ⟨q, fun l hl => ?_⟩
    have sF := same_upd (o := .tup vs) (g0.sub.free hl)
    exact k _ _ _ sF (g0.laid hl) (.tup (SqT.of upd_same) (r.same sF))
  · exact .inr ⟨q, k F H _ (Same.refl _) g0 (.tup q2 r)⟩
theorem pf_list {x : Str} (hgl : Gl X x) (hm : X.mg x = none) (hv : bootBuiltins x = some (.type "list")) (ha : PR X EX a fa) (hn : x ≠ "__name__" := by decide) (hdb : (x == ("__debug__" : Str)) = false := by decide)
    (hs : starEach [a] X.env = (false, eval a X.env) :: starEach [] X.env := by rfl) : PF X EX (.Call (.Name x p) [a] [] pos) (m1 lstOf fa) :=
  (pe_callTy call_list_of hgl hm hv (pa_one ha hs) hn hdb hs rfl).le fun σ H Q ⟨G, F, ρ, g0, o⟩ => at_bnd g0 o (fun x r q => q) fun F1 H1 ρ1 d1 x s1 g1 r1 o1 => by
    obtain ⟨d, e, q⟩ := o1.opt
    have hs : ∃ ds, seqD d1 = some ds ∧ d = .lst ds := by cases d1 <;> cases e <;> exact ⟨_, rfl, rfl⟩
    obtain ⟨ds, h1, rfl⟩ := hs
    obtain ⟨p, vs, rfl, r, z⟩ := RR.seq r1 g1 h1
    refine ⟨p, vs, rfl, z.elim (fun z => .inl z.2) (fun z => .inr z.2.1), fun l hl => ?_⟩
    exact q _ _ _ s1 (g1.made hl) ⟨l, rfl, g1.loose hl ⟨vs, upd_same, r⟩⟩
theorem g_max : FnG L (fun xs H Q => ∃ i j, xs = [.int i, .int j] ∧ Q (.int (if j > i then j else i)) H) maxD := fun G F H σ ρ xs dxs d Q g0 rx e k => by
  match dxs, rx, e with
  | [.int i, .int j], .cons h1 (.cons h2 .nil), e =>
    cases h1; cases h2; cases e
    exact ⟨i, j, rfl, k F H _ (Same.refl _) g0 (.int _)⟩
theorem g_intD : FnG L (fun xs H Q => (∃ i, xs = [.int i] ∧ Q (.int i) H) ∨ ∃ k, xs = [.bl k] ∧ Q (.int (if k then 1 else 0)) H) intD := fun G F H σ ρ xs dxs d Q g0 rx e k => by
  match dxs, rx, e with
  | [.int i], .cons h1 .nil, e => cases h1; cases e; exact .inl ⟨i, rfl, k F H _ (Same.refl _) g0 (.int _)⟩
  | [.bl i], .cons h1 .nil, e => cases h1; cases e; exact .inr ⟨i, rfl, k F H _ (Same.refl _) g0 (.int _)⟩
end
mutual
def toPy : D → PyData
  | .non => .none
  | .bl b => .bool b
  | .int i => .int i
  | .str x => .str x
  | .tup xs => .tuple (toPys xs)
  | .lst xs => .list (toPys xs)
  | .dct _ _ => .none
  | .ins _ _ _ => .none
  | .exn _ _ _ => .none
def toPys : List D → List PyData
  | [] => []
  | x :: xs => toPy x :: toPys xs
end
mutual
theorem eqv_eqB : ∀ (n m : Nat) (x y : D), plain n x = true → plain m y = true → PyData.eqv (toPy x) (toPy y) = eqB x y
  | n, m, .tup xs, .tup ys, h1, h2 => by
    cases n with
    | zero => cases h1
    | succ n => cases m with
      | zero => cases h2
      | succ m => exact eqv_eqBs n m xs ys h1 h2
  | n, m, .lst xs, .lst ys, h1, h2 => by
    cases n with
    | zero => cases h1
    | succ n => cases m with
      | zero => cases h2
      | succ m => exact eqv_eqBs n m xs ys h1 h2
  | n, m, .non, y, h1, h2 => by cases y <;> first | rfl | (cases m <;> cases h2)
  | n, m, .bl _, y, h1, h2 => by cases y <;> first | rfl | (cases m <;> cases h2)
  | n, m, .int _, y, h1, h2 => by cases y <;> first | rfl | (cases m <;> cases h2)
  | n, m, .str _, y, h1, h2 => by cases y <;> first | rfl | (cases m <;> cases h2)
  | n, m, .dct _ _, y, h1, h2 => by cases n <;> cases h1
  | n, m, .ins _ _ _, y, h1, h2 => by cases n <;> cases h1
  | n, m, .exn _ _ _, y, h1, h2 => by cases n <;> cases h1
  | n, m, .tup xs, .non, h1, h2 => rfl
  | n, m, .tup xs, .bl _, h1, h2 => rfl
  | n, m, .tup xs, .int _, h1, h2 => rfl
  | n, m, .tup xs, .str _, h1, h2 => rfl
  | n, m, .tup xs, .lst _, h1, h2 => rfl
  | n, m, .tup xs, .dct _ _, h1, h2 => by cases m <;> cases h2
  | n, m, .tup xs, .ins _ _ _, h1, h2 => by cases m <;> cases h2
  | n, m, .tup xs, .exn _ _ _, h1, h2 => by cases m <;> cases h2
  | n, m, .lst xs, .non, h1, h2 => rfl
  | n, m, .lst xs, .bl _, h1, h2 => rfl
  | n, m, .lst xs, .int _, h1, h2 => rfl
  | n, m, .lst xs, .str _, h1, h2 => rfl
  | n, m, .lst xs, .tup _, h1, h2 => rfl
  | n, m, .lst xs, .dct _ _, h1, h2 => by cases m <;> cases h2
  | n, m, .lst xs, .ins _ _ _, h1, h2 => by cases m <;> cases h2
  | n, m, .lst xs, .exn _ _ _, h1, h2 => by cases m <;> cases h2
theorem eqv_eqBs : ∀ (n m : Nat) (xs ys : List D), plains n xs = true → plains m ys = true → PyData.eqvAll (toPys xs) (toPys ys) = eqBs xs ys
  | n, m, [], [], _, _ => rfl
  | n, m, [], _ :: _, _, _ => rfl
  | n, m, _ :: _, [], _, _ => rfl
  | n, m, x :: xs, y :: ys, h1, h2 => by
    simp only [plains, Bool.and_eq_true] at h1 h2
    show (PyData.eqv (toPy x) (toPy y) && PyData.eqvAll (toPys xs) (toPys ys)) = (eqB x y && eqBs xs ys)
    rw [eqv_eqB n m x y h1.1 h2.1, eqv_eqBs n m xs ys h1.2 h2.2]
end
mutual
theorem plain_lay : ∀ (n : Nat) (x : D), plain n x = true → (toPy x).canLay0 = true ∧ (toPy x).depth ≤ n
  | n, .non, _ => ⟨rfl, Nat.zero_le _⟩
  | n, .bl _, _ => ⟨rfl, Nat.zero_le _⟩
  | n, .int _, _ => ⟨rfl, Nat.zero_le _⟩
  | n, .str x, h => ⟨by cases n <;> exact h, Nat.zero_le _⟩
  | n, .tup xs, h => by
    cases n with
    | zero => cases h
    | succ n =>
      obtain ⟨h1, h2⟩ := plains_lay n xs h
      exact ⟨h1, Nat.succ_le_succ h2⟩
  | n, .lst xs, h => by
    cases n with
    | zero => cases h
    | succ n =>
      obtain ⟨h1, h2⟩ := plains_lay n xs h
      exact ⟨h1, Nat.succ_le_succ h2⟩
  | n, .dct _ _, h => by cases n <;> cases h
  | n, .ins _ _ _, h => by cases n <;> cases h
  | n, .exn _ _ _, h => by cases n <;> cases h
theorem plains_lay : ∀ (n : Nat) (xs : List D), plains n xs = true → PyData.canLayAll0 (toPys xs) = true ∧ PyData.depthAll (toPys xs) ≤ n
  | n, [], _ => ⟨rfl, Nat.zero_le _⟩
  | n, x :: xs, h => by
    simp only [plains, Bool.and_eq_true] at h
    obtain ⟨h1, h2⟩ := plain_lay n x h.1
    obtain ⟨h3, h4⟩ := plains_lay n xs h.2
    refine ⟨?_, ?_⟩
    · show ((toPy x).canLay0 && PyData.canLayAll0 (toPys xs)) = true
      rw [h1, h3]; rfl
    · show max (toPy x).depth (PyData.depthAll (toPys xs)) ≤ n
      omega
end
section
variable {X : Cx} {EX : XE} {L : Lc} {pins : List (Addr × Obj)} {σ : St} {H F : Hp} {s : Shared}
mutual
theorem Den.reads (I : Inv X pins σ H s) (sub : Same F H) : ∀ {v : V} {d : D} {n : Nat} {u : Value}, Den X.K X.mg F v d → plain n d = true → RelV v u → ∃ as, Reads s.heap u (toPy d) as
  | _, _, _, _, .non, _, r => by cases r; exact ⟨_, .none⟩
  | _, _, _, _, .bl b, _, r => by cases r; exact ⟨_, .bool b⟩
  | _, _, _, _, .int i, _, r => by obtain ⟨t, rfl⟩ := r; exact ⟨_, .int i t⟩
  | _, _, _, _, .str x, _, r => by obtain ⟨t, rfl⟩ := r; exact ⟨_, .str x t⟩
  | _, _, n, _, .tup h q, hp, r => by
    cases r
    cases n with
    | zero => cases hp
    | succ n =>
      obtain ⟨its, rv, ⟨o, ho, hc, m, hd⟩, _⟩ := I.tuple (SqT.same h sub)
      obtain ⟨as, ha⟩ := DenL.reads I sub q hp rv
      exact ⟨_, .tuple ho hc hd (by simpa using ha)⟩
  | _, _, n, _, .lst h q, hp, r => by
    cases r
    cases n with
    | zero => cases hp
    | succ n =>
      obtain ⟨its, rv, pl, _⟩ := I.list (SqL.same h sub)
      obtain ⟨o, ho, hc, m, hd⟩ := pl.isList
      obtain ⟨as, ha⟩ := DenL.reads I sub q hp rv
      exact ⟨_, .list ho hc hd (by simpa using ha)⟩
  | _, _, n, _, .dct h q, hp, r => by cases n <;> cases hp
  | _, _, n, _, .ins h hc q, hp, r => by cases n <;> cases hp
  | _, _, n, _, .exn h hc hf q, hp, r => by cases n <;> cases hp
theorem DenL.reads (I : Inv X pins σ H s) (sub : Same F H) : ∀ {vs : List V} {ds : List D} {n : Nat} {us : List Value}, DenL X.K X.mg F vs ds → plains n ds = true → Vals vs us → ∃ as, ReadsAll s.heap us (toPys ds) as
  | _, _, _, _, .nil, _, r => by cases r; exact ⟨_, .nil⟩
  | _, _, n, _, .cons h t, hp, r => by
    cases r with
    | cons r1 r2 =>
      simp only [plains, Bool.and_eq_true] at hp
      obtain ⟨as, ha⟩ := Den.reads I sub h hp.1 r1
      obtain ⟨bs, hb⟩ := DenL.reads I sub t hp.2 r2
      exact ⟨_, .cons ha hb⟩
end
def rEqD (K : Frag) (mg : MG) (neg : Bool) : R2 := fun x y H Q => ∃ F dx dy, Same F H ∧ Den K mg F x dx ∧ Den K mg F y dy ∧ plain 60 dx = true ∧ plain 60 dy = true ∧ Q (.bl (if neg then !eqB dx dy else eqB dx dy)) H
theorem shaped_of {d : D} (h : plain 60 d = true) : SeqAt.shaped (toPy d) = true := by
  obtain ⟨h1, h2⟩ := plain_lay 60 d h
  unfold SeqAt.shaped
  rw [h1, decide_eq_true (by omega)]
  rfl
theorem op_eqD (hu : X.A.units + 64 < cLine) : OpR X (compareOp .Eq) (rEqD X.K X.mg false) := by
  intro pins s σ H x y v u Q I rx ry h
  obtain ⟨F, dx, dy, sub, h1, h2, p1, p2, q⟩ := h
  obtain ⟨as, ra⟩ := Den.reads I sub h1 p1 rx
  obtain ⟨bs, rb⟩ := Den.reads I sub h2 p2 ry
  exact SeqAt.compareEq_shaped ra rb (shaped_of p1) (shaped_of p2) hu (by rw [eqv_eqB 60 60 dx dy p1 p2]; exact ⟨.bl _, H, I, rfl, q⟩)
theorem op_neD (hu : X.A.units + 64 < cLine) : OpR X (compareOp .NotEq) (rEqD X.K X.mg true) := by
  intro pins s σ H x y v u Q I rx ry h
  obtain ⟨F, dx, dy, sub, h1, h2, p1, p2, q⟩ := h
  obtain ⟨as, ra⟩ := Den.reads I sub h1 p1 rx
  obtain ⟨bs, rb⟩ := Den.reads I sub h2 p2 ry
  exact SeqAt.compareNe_shaped ra rb (shaped_of p1) (shaped_of p2) hu (by rw [eqv_eqB 60 60 dx dy p1 p2]; exact ⟨.bl _, H, I, rfl, q⟩)
theorem g_eqD : OpG L (rEqD L.K L.mg false) eqG := fun G F H σ ρ x y dx dy d Q g0 rx ry e k => by
  unfold eqG at e
  split at e
  · rename_i hp
    cases e
    rw [Bool.and_eq_true] at hp
    exact ⟨F, dx, dy, g0.sub, rx, ry, hp.1, hp.2, k F H _ (Same.refl _) g0 (.bl _)⟩
  · cases e
theorem g_neD : OpG L (rEqD L.K L.mg true) neG := fun G F H σ ρ x y dx dy d Q g0 rx ry e k => by
  unfold neG at e
  split at e
  · rename_i hp
    cases e
    rw [Bool.and_eq_true] at hp
    exact ⟨F, dx, dy, g0.sub, rx, ry, hp.1, hp.2, k F H _ (Same.refl _) g0 (.bl _)⟩
  · cases e
end
end VS

end
section
set_option linter.all false
set_option maxRecDepth 100000
namespace VS
open PySem PySem.Spec PyProof.Rows L2 VP
section
variable {prog : Program} {w : World} {A : Around} {E : Value → Shared → Prop} {s : Shared}
theorem nextOf_tuple_item {it t : Addr} {i : Nat} {items} {x : Value} {Q : Value → Shared → Prop} (hit : s.heap.IsTupleIter it t i)
    (ht : s.heap.IsTuple t items) (hx : items[i]? = some x)
    (hQ : ∀ h', h'.IsTupleIter it t (i + 1) → Heap.SameBut it s.heap h' → Q x { s with heap := h' }) :
    wpAny (model prog w) A (Builtin.SmallTypes.nextOf (.ref it)) Q E s := by
  obtain ⟨o, ho, hc, hd⟩ := id hit
  obtain ⟨ol, hol, _, nl, hdl⟩ := ht
  unfold Builtin.SmallTypes.nextOf
  refine wpAny_bind (wpAny_callSpecial?_slot (name := Str.ofString "__next__") hit.typeIs PySem.F.slot_tuple_iterator_next
    (wpAny_call_entry PySem.F.slot_tuple_iterator_next hit.typeIs PySem.F.entry_tuple_iterator_next ?_ (PySem.F.args_tuple_iterator_next_1 _)))
  show wpAny _ _ (field (.ref it) 0 >>= _) _ _ s
  refine wpAny_bind (wpAny_field ho hd (x := .ref t) rfl ?_)
  show wpAny _ _ (if (Value.ref t == Value.none) = true then _ else _) _ _ s
  rw [if_neg (show ¬ ((Value.ref t == Value.none) = true) from Bool.false_ne_true)]
  show wpAny _ _ (field (.ref it) 1 >>= _) _ _ s
  refine wpAny_bind (wpAny_field ho hd (x := .int i 0) rfl ?_)
  show wpAny _ _ (seqItems? (.ref t) >>= _) _ _ s
  refine wpAny_bind (wpAny_seqItems hol hdl ?_)
  simp only [Int.toNat_natCast, hx]
  refine wpAny_bind (wpAny_setField ho hd (by simp) (wpAny_pure ⟨x, rfl, wpAny_pure (hQ _ ?_ (Heap.SameBut.update ..))⟩))
  exact ⟨_, Heap.get?_update_self _ ho (Obj.isFreed_of_fields (Obj.data_mapFields hd _)), (Obj.cls_mapFields ..).trans hc, by
    rw [Obj.data_mapFields hd]; simp [rawInt]⟩
theorem nextOf_tuple_end {it t : Addr} {i : Nat} {items} {Q : Value → Shared → Prop} (hh : A.handled = none)
    (hit : s.heap.IsTupleIter it t i) (ht : s.heap.IsTuple t items) (hx : items[i]? = none)
    (hE : ∀ h' e, Heap.ExtBut it s.heap h' → (∃ o, h'.get? e = some o ∧ o.cls = .type "StopIteration") → E (.ref e) { s with heap := h' }) :
    wpAny (model prog w) A (Builtin.SmallTypes.nextOf (.ref it)) Q E s := by
  obtain ⟨o, ho, hc, hd⟩ := id hit
  obtain ⟨ol, hol, _, nl, hdl⟩ := ht
  unfold Builtin.SmallTypes.nextOf
  refine wpAny_bind (wpAny_callSpecial?_slot (name := Str.ofString "__next__") hit.typeIs PySem.F.slot_tuple_iterator_next
    (wpAny_call_entry PySem.F.slot_tuple_iterator_next hit.typeIs PySem.F.entry_tuple_iterator_next ?_ (PySem.F.args_tuple_iterator_next_1 _)))
  show wpAny _ _ (field (.ref it) 0 >>= _) _ _ s
  refine wpAny_bind (wpAny_field ho hd (x := .ref t) rfl ?_)
  show wpAny _ _ (if (Value.ref t == Value.none) = true then _ else _) _ _ s
  rw [if_neg (show ¬ ((Value.ref t == Value.none) = true) from Bool.false_ne_true)]
  show wpAny _ _ (field (.ref it) 1 >>= _) _ _ s
  refine wpAny_bind (wpAny_field ho hd (x := .int i 0) rfl ?_)
  show wpAny _ _ (seqItems? (.ref t) >>= _) _ _ s
  refine wpAny_bind (wpAny_seqItems hol hdl ?_)
  simp only [Int.toNat_natCast, hx]
  refine wpAny_bind (wpAny_rule (wpAny_bind (wpAny_setField ho hd (by simp) ?_)))
  show wpAny _ _ (newExc (.type "StopIteration") [] >>= _) _ _ _
  refine wpAny_bind ?_
  simp only [newExc, newTuple]
  refine wpAny_bind (wpAny_newObj_type ?_ (by size_fits))
  refine wpAny_bind (m := firstArgMember _ _) (wpAny_of_eq (a := Value.none) (by first | rfl | (simp only [firstArgMember]; rfl)) ?_)
  refine wpAny_newObj_type ?_ (by size_fits)
  simp only [raiseNew]
  refine wpAny_bind (wpAny_handled ?_)
  first | rw [show A.in1.handled = none from hh] | rw [hh]
  refine wpAny_bind (wpAny_pure (wpAny_throw ?_))
  exact hE _ _ (((Heap.SameBut.update ..).extBut.push _).push _) ⟨_, Heap.get?_push_size _ rfl, rfl⟩
end
def SeqIt (t : Bool) (it a : Addr) (i : Nat) (h : Heap) : Prop := if t then h.IsTupleIter it a i else h.IsListIter it a i
def IsSeq (t : Bool) (h : Heap) (a : Addr) (items : Array Value) : Prop := if t then h.IsTuple a items else h.IsList a items
theorem SeqIt.at {t : Bool} {it a : Addr} {i : Nat} {h h' : Heap} (x : SeqIt t it a i h) (e : ∀ o, h.get? it = some o → h'.get? it = some o) : SeqIt t it a i h' := by
  cases t
  · exact Heap.IsListIter.at (h := h) (h' := h') x e
  · exact Heap.IsTupleIter.at (h := h) (h' := h') x e
theorem SeqIt.obj {t : Bool} {it a : Addr} {i : Nat} {h : Heap} (x : SeqIt t it a i h) : ∃ o, h.get? it = some o ∧ ∀ v, o.data ≠ .cell v := by
  cases t
  · obtain ⟨o, e, c, d⟩ := (show h.IsListIter it a i from x); exact ⟨o, e, fun v z => by rw [d] at z; cases z⟩
  · obtain ⟨o, e, c, d⟩ := (show h.IsTupleIter it a i from x); exact ⟨o, e, fun v z => by rw [d] at z; cases z⟩
theorem draws_seq {prog : Program} {w : World} {A : Around} (hh : A.handled = none) (t : Bool) (it l : Addr) (hne : l ≠ it) (items : Array Value) :
    Draws prog w A it [it, l] items.size (fun i v => items[i]? = some v) (fun i h => SeqIt t it l i h ∧ IsSeq t h l items) := by
  cases t with
  | false => exact Draws.list hh it l hne items
  | true => exact {
      live := fun _ _ st => let ⟨o, ho, _⟩ := st.1; ⟨o, ho⟩
      frame := fun _ _ _ st hk => ⟨Heap.IsTupleIter.at st.1 fun o e => hk it (by simp) o e, by
        obtain ⟨o, e, r⟩ := (show Heap.IsTuple _ l items from st.2)
        exact ⟨o, hk l (by simp) o e, r⟩⟩
      item := fun i s Q E hi st hQ => by
        refine nextOf_tuple_item (show s.heap.IsTupleIter it l i from st.1) (show s.heap.IsTuple l items from st.2) (x := items[i]) (by simp [hi]) fun h' hit' hs' => ?_
        refine hQ _ h' s.toks (by simp [hi]) ⟨hit', ?_⟩ hs'
        obtain ⟨o, e, r⟩ := (show Heap.IsTuple _ l items from st.2)
        exact ⟨o, hs'.extBut l o hne e, r⟩
      done := fun s Q E st hE => nextOf_tuple_end hh (show s.heap.IsTupleIter it l _ from st.1) (show s.heap.IsTuple l items from st.2) (by simp) hE }
section
variable {prog : Program} {w : World} {A : Around} {E : Value → Shared → Prop} {s : Shared} {z TI TO i1 i2 : Addr} {fp1 fp2 : List Addr} {n1 n2 k : Nat} {P1 P2 : Nat → Value → Prop} {St1 St2 : Nat → Heap → Prop} {a b : Value}
structure ZApart (z TI TO i1 i2 : Addr) (fp1 fp2 : List Addr) : Prop where
  TIz : TI ≠ z
  TOz : TO ≠ z
  i1z : i1 ≠ z
  i2z : i2 ≠ z
  TITO : TI ≠ TO
  TIi1 : TI ≠ i1
  TIi2 : TI ≠ i2
  TOi1 : TO ≠ i1
  TOi2 : TO ≠ i2
  i12 : i1 ≠ i2
  z1 : z ∉ fp1
  z2 : z ∉ fp2
  o1 : TO ∉ fp1
  o2 : TO ∉ fp2
  x12 : i1 ∉ fp2
  x21 : i2 ∉ fp1
theorem zipD_item {Q : Value → Shared → Prop} (D1 : Draws prog w A i1 fp1 n1 P1 St1) (D2 : Draws prog w A i2 fp2 n2 P2 St2) (D : ZApart z TI TO i1 i2 fp1 fp2)
    (hz : IsZip s.heap z TI TO .none) (hTI : IsPair s.heap TI (.ref i1) (.ref i2)) (hTO : IsPair s.heap TO a b) (h1 : St1 k s.heap) (h2 : St2 k s.heap) (k1 : k < n1) (k2 : k < n2)
    (hQ : ∀ x y h' tk, P1 k x → P2 k y → IsZip h' z TI TO (rawInt s.heap.objs.size) → IsPair h' TO x y → St1 (k + 1) h' → St2 (k + 1) h' → IsPair h' s.heap.objs.size x y →
      (∀ c o, c ≠ z → c ≠ TO → c ≠ i1 → c ≠ i2 → s.heap.get? c = some o → h'.get? c = some o) → Q (.ref s.heap.objs.size) { s with heap := h', toks := tk }) :
    wpAny (model prog w) A (Builtin.«zip.__next__» ⟨[.ref z], []⟩) (fun fin s' => ∃ v, fin = .done (.ret v) ∧ Q v s') E s := by
  show wpAny _ _ (field (.ref z) 2 >>= _) _ _ _
  refine wpAny_bind (wpAny_field hz rfl (x := .bool false) rfl ?_)
  show wpAny _ _ (field (.ref z) 3 >>= _) _ _ _
  refine wpAny_bind (wpAny_field hz rfl (x := .ref TI) rfl ?_)
  refine wpAny_bind (wpAny_seqItems hTI rfl ?_)
  show wpAny _ _ (Builtin.SmallTypes.ownedTupleIsFree (.ref z) >>= _) _ _ _
  refine wpAny_bind ?_
  unfold Builtin.SmallTypes.ownedTupleIsFree
  refine wpAny_bind (wpAny_field hz rfl (x := .none) rfl (wpAny_pure ?_))
  simp only [if_true]
  refine wpAny_bind (wpAny_rule ?_)
  refine wpAny_bind (wpAny_field hz rfl (x := .ref TO) rfl ?_)
  refine wpAny_bind (wpAny_setField_rec hz (by simp) fun h₁ hz₁ hs₁ => ?_)
  replace hz₁ : IsZip h₁ z TI TO .ellipsis := hz₁
  refine wpAny_bind ?_
  simp only [List.zipIdx_cons, List.zipIdx_nil, List.forIn_cons, List.forIn_nil]
  refine wpAny_bind (wpAny_bind (wpAny_onRaise ?_))
  show wpAny _ _ (Builtin.SmallTypes.nextOf (.ref i1) >>= _) _ _ _
  refine wpAny_bind (D1.item k _ _ _ k1 (D1.frame k _ h₁ h1 fun b hb o e => hs₁.extBut b o (fun q => D.z1 (q ▸ hb)) e) fun x h₂ tk₂ px h1₂ hs₂ => wpAny_pure ?_)
  replace hs₂ : Heap.SameBut i1 h₁ h₂ := hs₂
  have hTO₂ : IsPair h₂ TO a b := hs₂.extBut _ _ D.TOi1 (hs₁.extBut _ _ D.TOz hTO)
  refine wpAny_bind (wpAny_seqItems hTO₂ rfl ?_)
  refine wpAny_bind (wpAny_updateSeq_pair hTO₂ fun h₃ hTO₃ hs₃ => ?_)
  replace hTO₃ : IsPair h₃ TO x b := hTO₃
  replace hs₃ : Heap.SameBut TO h₂ h₃ := hs₃
  refine wpAny_bind (wpAny_letGo (wpAny_pure ?_))
  refine wpAny_bind (wpAny_bind (wpAny_onRaise ?_))
  show wpAny _ _ (Builtin.SmallTypes.nextOf (.ref i2) >>= _) _ _ _
  refine wpAny_bind (D2.item k _ _ _ k2 (D2.frame k _ h₃ h2 fun b hb o e => hs₃.extBut b o (fun q => D.o2 (q ▸ hb)) (hs₂.extBut b o (fun q => D.x12 (q ▸ hb)) (hs₁.extBut b o (fun q => D.z2 (q ▸ hb)) e))) fun y h₄ tk₄ py h2₄ hs₄ => wpAny_pure ?_)
  replace hs₄ : Heap.SameBut i2 h₃ h₄ := hs₄
  have hTO₄ : IsPair h₄ TO x b := hs₄.extBut _ _ D.TOi2 hTO₃
  refine wpAny_bind (wpAny_seqItems hTO₄ rfl ?_)
  refine wpAny_bind (wpAny_updateSeq_pair hTO₄ fun h₅ hTO₅ hs₅ => ?_)
  replace hTO₅ : IsPair h₅ TO x y := hTO₅
  replace hs₅ : Heap.SameBut TO h₄ h₅ := hs₅
  refine wpAny_bind (wpAny_letGo (wpAny_pure (wpAny_pure ?_)))
  refine wpAny_bind (wpAny_seqItems hTO₅ rfl ?_)
  refine wpAny_bind (wpAny_newTuple ?_)
  have hsz : h₅.objs.size = s.heap.objs.size := by rw [hs₅.1, hs₄.1, hs₃.1, hs₂.1, hs₁.1]
  have hz₅ : IsZip h₅ z TI TO .ellipsis := hs₅.extBut _ _ D.TOz.symm (hs₄.extBut _ _ D.i2z.symm (hs₃.extBut _ _ D.TOz.symm (hs₂.extBut _ _ D.i1z.symm hz₁)))
  have hk₅ : ∀ c o, c ≠ z → c ≠ TO → c ≠ i1 → c ≠ i2 → s.heap.get? c = some o → h₅.get? c = some o := fun c o c1 c2 c3 c4 e =>
    hs₅.extBut _ _ c2 (hs₄.extBut _ _ c4 (hs₃.extBut _ _ c2 (hs₂.extBut _ _ c3 (hs₁.extBut _ _ c1 e))))
  have hzlt : z < h₅.objs.size := Heap.lt_size hz₅
  show wpAny _ _ (Builtin.SmallTypes.ownedTupleHandOut (.ref z) (.ref h₅.objs.size) >>= _) _ _ _
  refine wpAny_bind ?_
  unfold Builtin.SmallTypes.ownedTupleHandOut
  have hz₆ : IsZip (h₅.push { cls := .type "tuple", data := .seq #[x, y] }) z TI TO .ellipsis := Heap.get?_push_of_some _ hz₅
  refine wpAny_bind (wpAny_setField_rec hz₆ (by simp) fun h₇ hz₇ hs₇ => ?_)
  replace hz₇ : IsZip h₇ z TI TO (rawInt h₅.objs.size) := hz₇
  refine wpAny_setField_rec hz₇ (by simp) fun h₈ hz₈ hs₈ => ?_
  replace hz₈ : IsZip h₈ z TI TO (rawInt h₅.objs.size) := hz₈
  have up : ∀ c o, c ≠ z → h₅.get? c = some o → h₈.get? c = some o := fun c o c1 e => hs₈.extBut _ _ c1 (hs₇.extBut _ _ c1 (Heap.get?_push_of_some _ e))
  have hT₈ : IsPair h₈ h₅.objs.size x y := hs₈.extBut _ _ (Nat.ne_of_gt hzlt) (hs₇.extBut _ _ (Nat.ne_of_gt hzlt) (Heap.get?_push_size _ rfl))
  rw [hsz] at hz₈ hT₈
  refine wpAny_pure ⟨_, rfl, ?_⟩
  show Q (.ref h₅.objs.size) _
  rw [hsz]
  refine hQ x y h₈ _ px py hz₈ (up _ _ D.TOz hTO₅) (D1.frame _ h₂ h₈ h1₂ fun b hb o e => up b o (fun q => D.z1 (q ▸ hb)) (hs₅.extBut b o (fun q => D.o1 (q ▸ hb)) (hs₄.extBut b o (fun q => D.x21 (q ▸ hb)) (hs₃.extBut b o (fun q => D.o1 (q ▸ hb)) e))))
    (D2.frame _ h₄ h₈ h2₄ fun b hb o e => up b o (fun q => D.z2 (q ▸ hb)) (hs₅.extBut b o (fun q => D.o2 (q ▸ hb)) e)) hT₈ fun c o c1 c2 c3 c4 e => up c o c1 (hk₅ c o c1 c2 c3 c4 e)
theorem zipD_end {Q : Fin → Shared → Prop} {m : Nat} (hh : A.handled = none) (D1 : Draws prog w A i1 fp1 n1 P1 St1) (D2 : Draws prog w A i2 fp2 n2 P2 St2) (D : ZApart z TI TO i1 i2 fp1 fp2)
    (hz : IsZip s.heap z TI TO .none) (hTI : IsPair s.heap TI (.ref i1) (.ref i2)) (hTO : IsPair s.heap TO a b) (h1 : St1 k s.heap) (h2 : St2 k s.heap) (hend : k = n1 ∨ (k < n1 ∧ k = n2))
    (hE : ∀ h' e tk, (∀ c o, c ≠ z → c ≠ TO → c ≠ i1 → c ≠ i2 → s.heap.get? c = some o → h'.get? c = some o) → (∃ o, h'.get? e = some o ∧ o.cls = .type "StopIteration") → E (.ref e) { s with heap := h', toks := tk }) :
    wpAny (model prog w) A (Builtin.«zip.__next__» ⟨[.ref z], []⟩) Q E s := by
  show wpAny _ _ (field (.ref z) 2 >>= _) _ _ _
  refine wpAny_bind (wpAny_field hz rfl (x := .bool false) rfl ?_)
  show wpAny _ _ (field (.ref z) 3 >>= _) _ _ _
  refine wpAny_bind (wpAny_field hz rfl (x := .ref TI) rfl ?_)
  refine wpAny_bind (wpAny_seqItems hTI rfl ?_)
  show wpAny _ _ (Builtin.SmallTypes.ownedTupleIsFree (.ref z) >>= _) _ _ _
  refine wpAny_bind ?_
  unfold Builtin.SmallTypes.ownedTupleIsFree
  refine wpAny_bind (wpAny_field hz rfl (x := .none) rfl (wpAny_pure ?_))
  simp only [if_true]
  refine wpAny_bind (wpAny_rule ?_)
  refine wpAny_bind (wpAny_field hz rfl (x := .ref TO) rfl ?_)
  refine wpAny_bind (wpAny_setField_rec hz (by simp) fun h₁ hz₁ hs₁ => ?_)
  replace hz₁ : IsZip h₁ z TI TO .ellipsis := hz₁
  refine wpAny_bind ?_
  simp only [List.zipIdx_cons, List.zipIdx_nil, List.forIn_cons, List.forIn_nil]
  refine wpAny_bind (wpAny_bind (wpAny_onRaise ?_))
  show wpAny _ _ (Builtin.SmallTypes.nextOf (.ref i1) >>= _) _ _ _
  have st1 : St1 k h₁ := D1.frame k _ h₁ h1 fun b hb o e => hs₁.extBut b o (fun q => D.z1 (q ▸ hb)) e
  rcases hend with rfl | ⟨k1, rfl⟩
  · refine wpAny_bind (D1.done _ _ _ st1 fun h₂ e hs₂ he => ?_)
    obtain ⟨oe, hoe, hce⟩ := he
    have hz₂ : IsZip h₂ z TI TO .ellipsis := hs₂ _ _ D.i1z.symm hz₁
    have hez : e ≠ z := fun x => by subst x; rw [hz₂] at hoe; cases hoe; simp at hce
    refine wpAny_setField_rec hz₂ (by simp) fun h₃ _ hs₃ => hE h₃ e _ (fun c o c1 _ c3 _ x => hs₃.extBut _ _ c1 (hs₂ _ _ c3 (hs₁.extBut _ _ c1 x))) ⟨oe, hs₃.extBut _ _ hez hoe, hce⟩
  · refine wpAny_bind (D1.item k _ _ _ k1 st1 fun x h₂ tk₂ px h1₂ hs₂ => wpAny_pure ?_)
    replace hs₂ : Heap.SameBut i1 h₁ h₂ := hs₂
    have hTO₂ : IsPair h₂ TO a b := hs₂.extBut _ _ D.TOi1 (hs₁.extBut _ _ D.TOz hTO)
    refine wpAny_bind (wpAny_seqItems hTO₂ rfl ?_)
    refine wpAny_bind (wpAny_updateSeq_pair hTO₂ fun h₃ hTO₃ hs₃ => ?_)
    replace hs₃ : Heap.SameBut TO h₂ h₃ := hs₃
    refine wpAny_bind (wpAny_letGo (wpAny_pure ?_))
    refine wpAny_bind (wpAny_bind (wpAny_onRaise ?_))
    show wpAny _ _ (Builtin.SmallTypes.nextOf (.ref i2) >>= _) _ _ _
    refine wpAny_bind (D2.done _ _ _ (D2.frame k _ h₃ h2 fun b hb o e => hs₃.extBut b o (fun q => D.o2 (q ▸ hb)) (hs₂.extBut b o (fun q => D.x12 (q ▸ hb)) (hs₁.extBut b o (fun q => D.z2 (q ▸ hb)) e))) fun h₄ e hs₄ he => ?_)
    replace hs₄ : Heap.ExtBut i2 h₃ h₄ := hs₄
    obtain ⟨oe, hoe, hce⟩ := he
    have hz₄ : IsZip h₄ z TI TO .ellipsis := hs₄ _ _ D.i2z.symm (hs₃.extBut _ _ D.TOz.symm (hs₂.extBut _ _ D.i1z.symm hz₁))
    have hez : e ≠ z := fun x => by subst x; rw [hz₄] at hoe; cases hoe; simp at hce
    refine wpAny_setField_rec hz₄ (by simp) fun h₅ _ hs₅ => hE h₅ e _ (fun c o c1 c2 c3 c4 x => hs₅.extBut _ _ c1 (hs₄ _ _ c4 (hs₃.extBut _ _ c2 (hs₂.extBut _ _ c3 (hs₁.extBut _ _ c1 x))))) ⟨oe, hs₅.extBut _ _ hez hoe, hce⟩
end
abbrev itObj (t : Bool) (l : Addr) : Obj := { cls := .type (if t then "tuple_iterator" else "list_iterator"), data := .fields #[.ref l, .int 0 0] }
abbrev zH1 (h : Heap) (t1 : Bool) (l1 : Addr) : Heap := h.push (itObj t1 l1)
abbrev zH2 (h : Heap) (t1 t2 : Bool) (l1 l2 : Addr) : Heap := (zH1 h t1 l1).push (itObj t2 l2)
abbrev zH3 (h : Heap) (t1 t2 : Bool) (l1 l2 : Addr) : Heap := (zH2 h t1 t2 l1 l2).push { cls := .type "tuple", data := .seq #[.ref h.objs.size, .ref (zH1 h t1 l1).objs.size] }
abbrev zH4 (h : Heap) (t1 t2 : Bool) (l1 l2 : Addr) : Heap := (zH3 h t1 t2 l1 l2).push { cls := .type "tuple", data := .seq #[.none, .none] }
abbrev zH5 (h : Heap) (t1 t2 : Bool) (l1 l2 : Addr) : Heap := (zH4 h t1 t2 l1 l2).push { cls := .type "zip", data := .fields #[.none, .bool false, .bool false, .ref (zH2 h t1 t2 l1 l2).objs.size, .ref (zH3 h t1 t2 l1 l2).objs.size] }
theorem IsTuple.push {h : Heap} {a : Addr} {items : Array Value} (x : h.IsTuple a items) (o : Obj) : (h.push o).IsTuple a items := let ⟨ob, e, r⟩ := x; ⟨ob, Heap.get?_push_of_some _ e, r⟩
set_option maxHeartbeats 4000000 in
theorem meets_zip (t1 t2 : Bool) (l1 l2 : Addr) (xs ys : Array Value) :
    Meets (Builtin.«zip.__new__» ⟨[.type "zip", .ref l1, .ref l2], []⟩) (fun _ R s => IsSeq t1 s.heap l1 xs ∧ IsSeq t2 s.heap l2 ys ∧
      R (.ok (.ret (.ref (zH4 s.heap t1 t2 l1 l2).objs.size))) { s with heap := zH5 s.heap t1 t2 l1 l2 }) :=
  .of_wp fun prog w A R s h => by
    obtain ⟨hp, g, d, tk, os⟩ := s; obtain ⟨hl1, hl2, h⟩ := h
    have hsub := sub_zip
    cases t1 with
    | false =>
      have hL1 : Heap.IsList (Shared.heap ⟨hp, g, d, tk, os⟩) l1 xs := hl1
      cases t2 with
      | false =>
        have hL2 : Heap.IsList (Shared.heap ⟨hp.push { cls := .type "list_iterator", data := .fields #[.ref l1, .int 0 0] }, g, d, tk, os⟩) l2 ys := Heap.IsList.push hl2 _
        wp_walk using wpAny_pyIter_list hL1, wpAny_pyIter_list hL2
        exact ⟨_, rfl, h⟩
      | true =>
        have hL2 : Heap.IsTuple (Shared.heap ⟨hp.push { cls := .type "list_iterator", data := .fields #[.ref l1, .int 0 0] }, g, d, tk, os⟩) l2 ys := IsTuple.push hl2 _
        wp_walk using wpAny_pyIter_list hL1, wpAny_pyIter_tuple hL2
        exact ⟨_, rfl, h⟩
    | true =>
      have hL1 : Heap.IsTuple (Shared.heap ⟨hp, g, d, tk, os⟩) l1 xs := hl1
      cases t2 with
      | false =>
        have hL2 : Heap.IsList (Shared.heap ⟨hp.push { cls := .type "tuple_iterator", data := .fields #[.ref l1, .int 0 0] }, g, d, tk, os⟩) l2 ys := Heap.IsList.push hl2 _
        wp_walk using wpAny_pyIter_tuple hL1, wpAny_pyIter_list hL2
        exact ⟨_, rfl, h⟩
      | true =>
        have hL2 : Heap.IsTuple (Shared.heap ⟨hp.push { cls := .type "tuple_iterator", data := .fields #[.ref l1, .int 0 0] }, g, d, tk, os⟩) l2 ys := IsTuple.push hl2 _
        wp_walk using wpAny_pyIter_tuple hL1, wpAny_pyIter_tuple hL2
        exact ⟨_, rfl, h⟩
theorem seqIt_new {h : Heap} {t : Bool} {it l : Addr} (e : h.get? it = some (itObj t l)) : SeqIt t it l 0 h := by
  cases t
  · exact ⟨_, e, rfl, rfl⟩
  · exact ⟨_, e, rfl, rfl⟩
theorem call_zip {prog : Program} {w : World} {A : Around} {E : Value → Shared → Prop} {s : Shared} {t1 t2 : Bool} {l1 l2 : Addr} {xs ys : Array Value} {Q : Value → Shared → Prop} (hl1 : IsSeq t1 s.heap l1 xs) (hl2 : IsSeq t2 s.heap l2 ys)
    (h : ∀ h', IsZip h' (s.heap.objs.size + 4) (s.heap.objs.size + 2) (s.heap.objs.size + 3) .none → IsPair h' (s.heap.objs.size + 2) (.ref s.heap.objs.size) (.ref (s.heap.objs.size + 1)) →
      IsPair h' (s.heap.objs.size + 3) .none .none → SeqIt t1 s.heap.objs.size l1 0 h' → SeqIt t2 (s.heap.objs.size + 1) l2 0 h' →
      (∀ c o, s.heap.get? c = some o → h'.get? c = some o) → Q (.ref (s.heap.objs.size + 4)) { s with heap := h' }) :
    wpAny (model prog w) A (call (.type "zip") [.ref l1, .ref l2]) Q E s := by
  refine callType_new PySem.F.called_zip (by decide) (PySem.F.typeCall_zip_2 _ _) (PySem.F.newCall_zip_2 _ _) (fun obj => PySem.F.args_object_init_3 obj _ _) PySem.F.entry_zip_new
    (meets_zip t1 t2 l1 l2 xs ys) ⟨hl1, hl2, ?_⟩
  have z1 : (zH1 s.heap t1 l1).objs.size = s.heap.objs.size + 1 := Heap.size_push ..
  have z2 : (zH2 s.heap t1 t2 l1 l2).objs.size = s.heap.objs.size + 2 := by rw [Heap.size_push, z1]
  have z3 : (zH3 s.heap t1 t2 l1 l2).objs.size = s.heap.objs.size + 3 := by rw [Heap.size_push, z2]
  have z4 : (zH4 s.heap t1 t2 l1 l2).objs.size = s.heap.objs.size + 4 := by rw [Heap.size_push, z3]
  have g5 : (zH5 s.heap t1 t2 l1 l2).get? (zH4 s.heap t1 t2 l1 l2).objs.size = some _ := Heap.get?_push_size _ rfl
  have g4 : (zH5 s.heap t1 t2 l1 l2).get? (zH3 s.heap t1 t2 l1 l2).objs.size = some _ := Heap.get?_push_of_some _ (Heap.get?_push_size _ rfl)
  have g3 : (zH5 s.heap t1 t2 l1 l2).get? (zH2 s.heap t1 t2 l1 l2).objs.size = some _ := Heap.get?_push_of_some _ (Heap.get?_push_of_some _ (Heap.get?_push_size _ rfl))
  have g2 : (zH5 s.heap t1 t2 l1 l2).get? (zH1 s.heap t1 l1).objs.size = some _ := Heap.get?_push_of_some _ (Heap.get?_push_of_some _ (Heap.get?_push_of_some _ (Heap.get?_push_size _ rfl)))
  have g1 : (zH5 s.heap t1 t2 l1 l2).get? s.heap.objs.size = some _ := Heap.get?_push_of_some _ (Heap.get?_push_of_some _ (Heap.get?_push_of_some _ (Heap.get?_push_of_some _ (Heap.get?_push_size _ rfl))))
  show _ ∧ _
  rw [z2, z3, z4] at g5
  rw [z1, z2] at g3
  rw [z3] at g4
  rw [z1] at g2
  rw [z4]
  exact ⟨⟨_, g5, rfl⟩, h _ g5 g3 g4 (seqIt_new g1) (seqIt_new g2) fun c o x =>
    Heap.get?_push_of_some _ (Heap.get?_push_of_some _ (Heap.get?_push_of_some _ (Heap.get?_push_of_some _ (Heap.get?_push_of_some _ x))))⟩
def SqS (K : Frag) (H : Hp) (t : Bool) (p : Addr) (xs : List V) : Prop := if t then SqT K H p xs else SqL K H p xs
theorem Inv.seqS {X : Cx} {pins : List (Addr × Obj)} {σ : St} {H : Hp} {s : Shared} {t : Bool} {p : Addr} {xs : List V} (I : Inv X pins σ H s) (h : SqS X.K H t p xs) : ∃ its : List Value, Vals xs its ∧ IsSeq t s.heap p its.toArray := by
  cases t
  · obtain ⟨its, rv, pl, _⟩ := I.list (show SqL X.K H p xs from h); exact ⟨its, rv, pl.isList⟩
  · obtain ⟨its, rv, pl, _⟩ := I.tuple (show SqT X.K H p xs from h); exact ⟨its, rv, pl⟩
theorem Inv.seqS_inj {X : Cx} {pins : List (Addr × Obj)} {σ : St} {H : Hp} {s : Shared} {t : Bool} {p : Addr} {xs ys : List V} (I : Inv X pins σ H s) (h : SqS X.K H t p xs) (h' : SqS X.K H t p ys) : xs = ys := by
  cases t
  · exact I.list_inj h h'
  · exact I.tuple_inj h h'
def Itz (K : Frag) (t1 t2 : Bool) (p1 p2 : Addr) : It :=
  ⟨fun i H => ∃ xs ys x y, SqS K H t1 p1 xs ∧ SqS K H t2 p2 ys ∧ xs[i]? = some x ∧ ys[i]? = some y,
   fun i H v H' => ∃ q x y, H q = none ∧ v = .ref q ∧ H' = upd H q (.tup [x, y]) ∧ (∀ xs, SqS K H t1 p1 xs → xs[i]? = some x) ∧ (∀ ys, SqS K H t2 p2 ys → ys[i]? = some y),
   fun i H => ∃ xs ys, SqS K H t1 p1 xs ∧ SqS K H t2 p2 ys ∧ i ≤ xs.length ∧ i ≤ ys.length ∧ (xs.length ≤ i ∨ ys.length ≤ i)⟩
theorem Inv.pair {X : Cx} {pins : List (Addr × Obj)} {σ : St} {H : Hp} {s : Shared} {fp : List Addr} {h' : Heap} {tk : Nat} {x y : V} {u v : Value} (I : Inv X pins σ H s) (hf : ∀ b ∈ fp, FpOk X pins H b)
    (hk : ∀ c o, c ∉ fp → s.heap.get? c = some o → h'.get? c = some o) (hp : IsPair h' s.heap.objs.size u v) (rx : RelV x u) (ry : RelV y v) :
    Inv X pins σ (upd H s.heap.objs.size (.tup [x, y])) { s with heap := h', toks := tk } := by
  have hn : H s.heap.objs.size = none := I.hok.fresh (Nat.le_refl _)
  have trk : ∀ {b : Addr} {o : HO}, H b = some o → b ∉ fp := fun {b o} e hb => by rw [(hf b hb).1] at e; cases e
  refine I.call' (s' := { s with heap := h', toks := tk }) (ch := fp) rfl ⟨fun b o e n hb hx => hk b o hx e, fun b o e n hb hx => ⟨o.slots, by rw [hk b o hx e]⟩, fun b o e n hx => ?_, fun b o e hx => ⟨o, hk b o hx e⟩, fun b xs e => ?_, fun b o u e => ?_, fun b o e => ?_⟩ (fun b o e => ?_) I.bare fun b hb => ⟨(hf b hb).2.2.2.1, (hf b hb).2.1, (hf b hb).2.2.2.2.1, (hf b hb).2.2.2.2.2⟩
  · rw [upd_ne (Nat.ne_of_lt (Heap.lt_size e))]; exact n
  · rw [upd_ne (ne_of_none e hn)]; exact e
  · rw [upd_ne (ne_of_none e hn)]; exact e
  · exact ⟨#[], by rw [upd_ne (ne_of_none e hn), e]; simp⟩
  · by_cases hb : b = s.heap.objs.size
    · subst hb
      rw [upd_same] at e
      cases e
      exact ⟨by show 2 ≤ sizeLine; decide, [u, v], .cons rx (.cons ry .nil), ⟨_, hp, rfl, _, rfl⟩⟩
    · rw [upd_ne hb] at e
      refine (I.hok b o e).stay (fun c w' hc q => hk c w' ?_ q) (fun c q => by rw [upd_ne (ne_of_none q hn)]; exact q) fun c xs q => by rw [upd_ne (ne_of_none q hn)]; exact q
      rcases hc with rfl | hc
      · exact trk e
      · exact trk hc
theorem Inv.turnedL {X : Cx} {pins : List (Addr × Obj)} {σ : St} {H : Hp} {s : Shared} {fp : List Addr} {h' : Heap} {tk : Nat} (I : Inv X pins σ H s) (hf : ∀ b ∈ fp, FpOk X pins H b)
    (hk : ∀ c o, c ∉ fp → s.heap.get? c = some o → h'.get? c = some o) : Inv X pins σ H { s with heap := h', toks := tk } := by
  have trk : ∀ {b : Addr} {o : HO}, H b = some o → b ∉ fp := fun {b o} e hb => by rw [(hf b hb).1] at e; cases e
  refine I.call' (s' := { s with heap := h', toks := tk }) (ch := fp) rfl ⟨fun b o e n hb hx => hk b o hx e, fun b o e n hb hx => ⟨o.slots, by rw [hk b o hx e]⟩, fun b o e n hx => n, fun b o e hx => ⟨o, hk b o hx e⟩, fun b xs e => e, fun b o u e => e, fun b o e => ⟨#[], by rw [e]; simp⟩⟩ (fun b o e => ?_) I.bare fun b hb => ⟨(hf b hb).2.2.2.1, (hf b hb).2.1, (hf b hb).2.2.2.2.1, (hf b hb).2.2.2.2.2⟩
  refine (I.hok b o e).stay (fun c w' hc q => hk c w' ?_ q) (fun c q => q) fun c xs q => q
  rcases hc with rfl | hc
  · exact trk e
  · exact trk hc
theorem turn_zip {P : Program} {w : World} {K : Frag} {es : List Expr} {k : Nat} {tpos : Pos} (t1 t2 : Bool) {p1 p2 z TI TO i1 i2 : Addr} (D : ZApart z TI TO i1 i2 [i1, p1] [i2, p2]) (n1 : p1 ≠ i1) (n2 : p2 ≠ i2) :
    Turn P w K (.Tuple es k tpos) (Itz K t1 t2 p1 p2) [z, TI, TO, i1, i2] z (fun i h => IsZip h z TI TO .none ∧ IsPair h TI (.ref i1) (.ref i2) ∧ (∃ a b, IsPair h TO a b) ∧ SeqIt t1 i1 p1 i h ∧ SeqIt t2 i2 p2 i h) where
  mem := by simp
  obj := fun i h st b hb => by
    obtain ⟨hz, hTI, ⟨a, c, hTO⟩, h1, h2⟩ := st
    simp only [List.mem_cons, List.not_mem_nil, or_false] at hb
    rcases hb with rfl | rfl | rfl | rfl | rfl
    · exact ⟨_, hz, fun v q => by cases q⟩
    · exact ⟨_, hTI, fun v q => by cases q⟩
    · exact ⟨_, hTO, fun v q => by cases q⟩
    · exact h1.obj
    · exact h2.obj
  keep := fun i h h' st kk => by
    obtain ⟨hz, hTI, ⟨a, c, hTO⟩, h1, h2⟩ := st
    exact ⟨kk z (by simp) _ hz, kk TI (by simp) _ hTI, ⟨a, c, kk TO (by simp) _ hTO⟩, h1.at fun o e => kk i1 (by simp) o e, h2.at fun o e => kk i2 (by simp) o e⟩
  item := by
    intro X hP hw hK hc i pins s σ H E I hf st hg
    subst hP hw hK
    obtain ⟨hz, hTI, ⟨a, c, hTO⟩, h1, h2⟩ := st
    obtain ⟨xs, ys, x, y, q1, q2, e1, e2⟩ := hg
    obtain ⟨its1, rv1, s1⟩ := Inv.seqS I q1
    obtain ⟨its2, rv2, s2⟩ := Inv.seqS I q2
    obtain ⟨u, hu, ru⟩ := rv1.get e1
    obtain ⟨v, hv, rv⟩ := rv2.get e2
    have hh : X.A.handled = none := I.ok.hd hc
    have hT : s.TypeIs (.ref z) "zip" := ⟨_, hz, rfl⟩
    unfold pyNext
    have lt1 : i < its1.toArray.size := by have := (List.getElem?_eq_some_iff.mp hu).1; simpa using this
    have lt2 : i < its2.toArray.size := by have := (List.getElem?_eq_some_iff.mp hv).1; simpa using this
    refine wpAny_bind (wpAny_attempt (wpAny_callSpecial?_slot (name := Str.ofString "__next__") hT PySem.F.slot_zip_next
      (wpAny_call_entry PySem.F.slot_zip_next hT PySem.F.entry_zip_next
        (zipD_item (draws_seq (by exact hh) t1 i1 p1 n1 its1.toArray) (draws_seq (by exact hh) t2 i2 p2 n2 its2.toArray) D hz hTI hTO ⟨h1, s1⟩ ⟨h2, s2⟩ lt1 lt2 fun x' y' h' tk px py z1 o1 w1 w2 pr kp => wpAny_pure ?_) (PySem.F.args_zip_next_1 _))))
    have ex : x' = u := by have : its1.toArray[i]? = some u := by simpa using hu
                           rw [this] at px; exact (Option.some.inj px).symm
    have ey : y' = v := by have : its2.toArray[i]? = some v := by simpa using hv
                           rw [this] at py; exact (Option.some.inj py).symm
    subst ex ey
    refine ⟨_, rfl, wpAny_letOwnedTupleGo_zip z1 fun h'' z2 sb => ?_⟩
    replace sb : Heap.SameBut z h' h'' := sb
    have szlt : z ≠ s.heap.objs.size := Nat.ne_of_lt (Heap.lt_size hz)
    have kp2 : ∀ c o, c ∉ [z, TI, TO, i1, i2] → s.heap.get? c = some o → h''.get? c = some o := fun c o hc' e => by
      simp only [List.mem_cons, List.not_mem_nil, or_false, not_or] at hc'
      exact sb.extBut c o hc'.1 (kp c o hc'.1 hc'.2.2.1 hc'.2.2.2.1 hc'.2.2.2.2 e)
    have IX := Inv.pair (tk := tk) (h' := h'') (x := x) (y := y) I hf kp2 (sb.extBut _ _ (Ne.symm szlt) pr) ru rv
    refine ⟨.ref s.heap.objs.size, _, IX, rfl, ⟨_, x, y, I.hok.fresh (Nat.le_refl _), rfl, rfl, fun xs' hx' => by rw [Inv.seqS_inj I hx' q1]; exact e1, fun ys' hy' => by rw [Inv.seqS_inj I hy' q2]; exact e2⟩,
      ⟨z2, sb.extBut _ _ D.TIz (kp _ _ D.TIz D.TITO D.TIi1 D.TIi2 hTI), ⟨_, _, sb.extBut _ _ D.TOz o1⟩, w1.1.at fun o e => sb.extBut _ o D.i1z e, w2.1.at fun o e => sb.extBut _ o D.i2z e⟩, fun b hb => ?_⟩
    have hbs : b ≠ s.heap.objs.size := by
      obtain ⟨ob, e, _⟩ : ∃ o, s.heap.get? b = some o ∧ ∀ v, o.data ≠ .cell v := by
        simp only [List.mem_cons, List.not_mem_nil, or_false] at hb
        rcases hb with rfl | rfl | rfl | rfl | rfl
        · exact ⟨_, hz, fun v q => by cases q⟩
        · exact ⟨_, hTI, fun v q => by cases q⟩
        · exact ⟨_, hTO, fun v q => by cases q⟩
        · exact h1.obj
        · exact h2.obj
      exact Nat.ne_of_lt (Heap.lt_size e)
    rw [upd_ne hbs]
    exact (hf b hb).1
  done := by
    intro X hP hw hK hc i pins s σ H E I hf st hg
    subst hP hw hK
    obtain ⟨hz, hTI, ⟨a, c, hTO⟩, h1, h2⟩ := st
    obtain ⟨xs, ys, q1, q2, b1, b2, hend⟩ := hg
    obtain ⟨its1, rv1, s1⟩ := Inv.seqS I q1
    obtain ⟨its2, rv2, s2⟩ := Inv.seqS I q2
    have l1 := rv1.length
    have l2 := rv2.length
    have hh : X.A.handled = none := I.ok.hd hc
    have hT : s.TypeIs (.ref z) "zip" := ⟨_, hz, rfl⟩
    have he : i = its1.toArray.size ∨ (i < its1.toArray.size ∧ i = its2.toArray.size) := by simp; omega
    unfold pyNext
    refine wpAny_bind (wpAny_attempt (wpAny_callSpecial?_slot (name := Str.ofString "__next__") hT PySem.F.slot_zip_next
      (wpAny_call_entry PySem.F.slot_zip_next hT PySem.F.entry_zip_next
        (zipD_end (m := 0) (by exact hh) (draws_seq (by exact hh) t1 i1 p1 n1 its1.toArray) (draws_seq (by exact hh) t2 i2 p2 n2 its2.toArray) D hz hTI hTO ⟨h1, s1⟩ ⟨h2, s2⟩ he fun h' e tk hk he => ?_) (PySem.F.args_zip_next_1 _))))
    obtain ⟨o, ho, hc'⟩ := he
    refine wpAny_bind (wpAny_isInstance (T := "StopIteration") (b := true) ⟨o, ho, hc'⟩ isSubtype_stop ?_)
    refine wpAny_pure ⟨rfl, Inv.turnedL (h' := h') I hf fun c o hc'' e => ?_⟩
    simp only [List.mem_cons, List.not_mem_nil, or_false, not_or] at hc''
    exact hk c o hc''.1 hc''.2.2.1 hc''.2.2.2.1 hc''.2.2.2.2 e
  self := fun _ _ _ _ _ st h => wpAny_pyIter_zip st.1 h
end VS

end
section
set_option linter.all false
set_option maxRecDepth 100000
namespace VS
open PySem PySem.Spec PyProof.Rows L2 VP
section
variable {X : Cx} {EX : XE} {L : Lc} {e a b : Expr} {fa fb fe : M D} {pos p : Pos} {x : Str}
def iZip (K : Frag) (t : TA) : TI := fun σ H R => t σ H fun vs H1 => ∃ t1 t2 p1 p2, vs = [.ref p1, .ref p2] ∧ (∃ xs, SqS K H1 t1 p1 xs) ∧ (∃ ys, SqS K H1 t2 p2 ys) ∧ R (Itz K t1 t2 p1 p2) H1
theorem pi_zip {es : List Expr} {k : Nat} {tpos : Pos} {t : TA} (hg : Gl X "zip") (hm : X.mg "zip" = none) (ha : PA X [a, b] t) (hs : starEach [a, b] X.env = [(false, eval a X.env), (false, eval b X.env)] := by rfl) (hs2 : starEach [b] X.env = [(false, eval b X.env)] := by rfl) :
    PI X (.Tuple es k tpos) (.Call (.Name "zip" p) [a, b] [] pos) (iZip X.K t) := by
  intro pins s σ H R I h
  refine Call_ (ld_blt I hg hm boot_zip (PyProof.Rows.callWith_type1 (thn (ha pos pins s σ H _ I h) fun us s1 ⟨vs, H1, I1, r1, q1⟩ => ?_) (by rw [hs, hs2]) (by rw [hs2]; rfl)))
  obtain ⟨t1, t2, p1, p2, e, ⟨xs, h1⟩, ⟨ys, h2⟩, q⟩ := q1
  subst e
  cases r1 with
  | cons r rr =>
    cases rr with
    | cons r' rr =>
      cases rr
      cases r
      cases r'
      obtain ⟨its1, rv1, s1'⟩ := Inv.seqS I1 h1
      obtain ⟨its2, rv2, s2'⟩ := Inv.seqS I1 h2
      have lt : ∀ {t : Bool} {q : Addr} {its : Array Value}, IsSeq t s1.heap q its → q < s1.heap.objs.size := fun {t q its} z => by
        cases t
        · obtain ⟨o, e, _⟩ := (show Heap.IsList _ _ _ from z); exact Heap.lt_size e
        · obtain ⟨o, e, _⟩ := (show Heap.IsTuple _ _ _ from z); exact Heap.lt_size e
      have l1 := lt s1'
      have l2 := lt s2'
      refine call_zip s1' s2' fun h' hz hTI hTO hi1 hi2 hk => ?_
      refine wpAny_pyIter_zip hz ?_
      have IX : Inv X pins σ H1 { s1 with heap := h' } := I1.kept (t' := s1.toks) hk
      have ne : ∀ {q : Addr} (j : Nat), q < s1.heap.objs.size → q ≠ s1.heap.objs.size + j := fun {q} j hq => Nat.ne_of_lt (Nat.lt_of_lt_of_le hq (Nat.le_add_right _ _))
      have D : ZApart (s1.heap.objs.size + 4) (s1.heap.objs.size + 2) (s1.heap.objs.size + 3) s1.heap.objs.size (s1.heap.objs.size + 1) [s1.heap.objs.size, p1] [s1.heap.objs.size + 1, p2] := by
        have a1 := ne 4 l1; have a2 := ne 3 l1; have a3 := ne 1 l1
        have b1 := ne 4 l2; have b2 := ne 3 l2; have b3 := ne 0 l2
        refine ⟨by simp, by simp, by simp, by simp, by simp, by simp, by simp, by simp, by simp, by simp, ?_, ?_, ?_, ?_, ?_, ?_⟩
        · simp [Ne.symm a1]
        · simp [Ne.symm b1]
        · simp [Ne.symm a2]
        · simp [Ne.symm b2]
        · simp; exact Ne.symm b3
        · simp [Ne.symm a3]
      refine ⟨_, [s1.heap.objs.size + 4, s1.heap.objs.size + 2, s1.heap.objs.size + 3, s1.heap.objs.size, s1.heap.objs.size + 1], _, _, H1, rfl, IX, turn_zip t1 t2 D (ne 0 l1) (ne 1 l2), ⟨hz, hTI, ⟨_, _, hTO⟩, hi1, hi2⟩, fun c hc => ?_, q⟩
      have hle : s1.heap.objs.size ≤ c := by
        simp only [List.mem_cons, List.not_mem_nil, or_false] at hc
        rcases hc with rfl | rfl | rfl | rfl | rfl
        · exact Nat.le_add_right _ _
        · exact Nat.le_add_right _ _
        · exact Nat.le_add_right _ _
        · exact Nat.le_refl _
        · exact Nat.le_add_right _ _
      exact I1.fpOk hle (I1.hok.fresh hle)
theorem SqS.same {K : Frag} {F F' : Hp} {t : Bool} {q : Addr} {xs : List V} (h : SqS K F t q xs) (e : Same F F') : SqS K F' t q xs := by
  cases t
  · exact SqL.same h e
  · exact SqT.same h e
theorem Den.seq {K : Frag} {mg : MG} {F : Hp} {v : V} {d : D} {ds : List D} (h : Den K mg F v d) (e : seqD d = some ds) : ∃ t q vs, v = .ref q ∧ SqS K F t q vs ∧ DenL K mg F vs ds := by
  cases h with
  | tup h r => cases e; exact ⟨true, _, _, rfl, h, r⟩
  | lst h r => cases e; exact ⟨false, _, _, rfl, h, r⟩
  | _ => cases e
theorem itr_zip {G : Fx} {F : Hp} {t1 t2 : Bool} {p1 p2 : Addr} {vs ws : List V} {ds es : List D} (hinj : ∀ (σ : St) (F' H' : Hp) (ρ : Rho), Same F F' → L.Good G F' H' σ ρ → True) (h1 : SqS L.K F t1 p1 vs) (r1 : DenL L.K L.mg F vs ds) (h2 : SqS L.K F t2 p2 ws) (r2 : DenL L.K L.mg F ws es) :
    ItR L G F (Itz L.K t1 t2 p1 p2) (List.zipWith (fun x y => D.tup [x, y]) ds es) := fun σ i F' H' ρ s g => by
  have q1 : SqS L.K H' t1 p1 vs := (h1.same s).same g.sub
  have q2 : SqS L.K H' t2 p2 ws := (h2.same s).same g.sub
  have l1 := r1.length
  have l2 := r2.length
  refine ⟨fun hi => ?_, fun hi => ?_, fun x H'' y => ?_⟩
  · simp at hi
    exact ⟨vs, ws, vs[i]'(by omega), ws[i]'(by omega), q1, q2, by simp [show i < vs.length by omega], by simp [show i < ws.length by omega]⟩
  · simp at hi
    exact ⟨vs, ws, q1, q2, by omega, by omega, by omega⟩
  · obtain ⟨q, u, v, hq, rfl, rfl, y1, y2⟩ := y
    have sF := same_upd (o := .tup [u, v]) (g.sub.free hq)
    refine ⟨_, sF, g.laid hq, fun d hd => ?_⟩
    rw [List.getElem?_zipWith] at hd
    cases e1 : ds[i]? with
    | none => rw [e1] at hd; cases hd
    | some d1 =>
      cases e2 : es[i]? with
      | none => rw [e1, e2] at hd; cases hd
      | some d2 =>
        rw [e1, e2] at hd
        cases hd
        obtain ⟨u', a1, a2⟩ := (r1.same s).get e1
        obtain ⟨v', b1, b2⟩ := (r2.same s).get e2
        rw [y1 vs q1] at a1
        rw [y2 ws q2] at b1
        cases a1; cases b1
        exact .tup (SqT.of upd_same) (.cons (a2.same sF) (.cons (b2.same sF) .nil))
theorem vi_zip {es : List Expr} {k : Nat} {tpos : Pos} {fl : List (M D)} (hg : Gl X "zip") (hm : X.mg "zip" = none) (ha : PLs X EX [a, b] (mL fl)) (hs : starEach [a, b] X.env = [(false, eval a X.env), (false, eval b X.env)] := by rfl) (hs2 : starEach [b] X.env = [(false, eval b X.env)] := by rfl) :
    PVI X EX (.Tuple es k tpos) (.Call (.Name "zip" p) [a, b] [] pos) (mZip fl) :=
  (pi_zip hg hm ha hs hs2).le fun σ H Q ⟨G, F, ρ, g0, o⟩ => at_bnd g0 o (fun x r q => q) fun F1 H1 ρ1 d1 xs s1 g1 r1 o1 => by
    obtain ⟨ds, e, q⟩ := o1.opt
    match d1, r1, e with
    | [c, d], .cons h1 (.cons h2 .nil), e =>
      simp only [zipL] at e
      cases e1 : seqD c with
      | none => rw [e1] at e; cases e
      | some cs =>
        cases e2 : seqD d with
        | none => rw [e1, e2] at e; cases e
        | some es =>
          rw [e1, e2] at e
          cases e
          obtain ⟨t1, q1, vs, rfl, z1, y1⟩ := Den.seq h1 e1
          obtain ⟨t2, q2, ws, rfl, z2, y2⟩ := Den.seq h2 e2
          exact ⟨t1, t2, q1, q2, rfl, ⟨_, z1.same g1.sub⟩, ⟨_, z2.same g1.sub⟩, q F1 H1 _ s1 g1 (itr_zip (fun _ _ _ _ _ _ => trivial) z1 y1 z2 y2)⟩
theorem ints_of {K : Frag} {mg : MG} {F : Hp} : ∀ {vs : List V} {ds : List D} {ns : List Int}, DenL K mg F vs ds → intsD ds = some ns → vs = ns.map V.int
  | _, _, _, .nil, e => by cases e; rfl
  | _, _, _, .cons (ds := ds) h t, e => by
    cases h with
    | int i =>
      simp only [intsD] at e
      cases q : intsD ds with
      | none => rw [q] at e; cases e
      | some ns => rw [q] at e; cases e; rw [ints_of t q]; rfl
    | _ => cases e
theorem RR.seqS {G : Fx} {F H : Hp} {σ : St} {ρ : Rho} {v : V} {d : D} {ds : List D} (h : RR L G F H σ ρ v d) (g : L.Good G F H σ ρ) (e : seqD d = some ds) : ∃ t q vs, v = .ref q ∧ DenL L.K L.mg F vs ds ∧ SqS L.K H t q vs := by
  obtain ⟨q, vs, rfl, r, z⟩ := RR.seq h g e
  rcases z with ⟨_, z⟩ | ⟨_, z, _⟩
  · exact ⟨false, q, vs, rfl, r, z⟩
  · exact ⟨true, q, vs, rfl, r, z⟩
theorem kit_own (K : Frag) : ∀ k ∈ ["NoneType", "bool", "int", "str", "tuple", "list", "dict"], ∀ T ∈ ["int", "bool", "tuple", "list", "str", "dict"],
    PySem.W.kitOne K (.type k) (.type T) = some (k == T || (k == "bool" && T == "int")) := by
  intro k hk T hT
  simp only [List.mem_cons, List.not_mem_nil, or_false] at hk hT
  rcases hk with rfl | rfl | rfl | rfl | rfl | rfl | rfl <;> rcases hT with rfl | rfl | rfl | rfl | rfl | rfl <;> first | rfl | decide +kernel | (show PySem.W.kitOne K _ _ = _; kernel_rfl)
def rIsa (L : Lc) (T : String) : List V → Hp → VK → Prop := fun xs H Q => ∃ x G F σ ρ d k b, xs = [x, .ty T] ∧ L.Good G F H σ ρ ∧ RR L G F H σ ρ x d ∧ kindD d = some k ∧ PySem.W.kitOne L.K (.type k) (.type T) = some b ∧ Q (.bl b) H
theorem call_isa (T : String) : CallR X (.builtin "isinstance") (rIsa (lc X EX) T) := by
  intro pins s σ0 H xs us Q I r h
  obtain ⟨x, G, F, σ, ρ, d, k, b, rfl, g, rx, hk, hb, q⟩ := h
  obtain ⟨u, c, rfl, ru, rc⟩ := vals2 r
  obtain rfl : c = Value.type T := rc
  have fin : ∀ tk, EP X pins σ0 Q (.bool b) { s with toks := tk } := fun tk => ⟨.bl b, H, I.tok tk, rfl, q⟩
  have obj : ∀ {l : Addr} {ds : List D}, seqD d = some ds → x = .ref l → (d = .lst ds → ∃ o, s.heap.get? l = some o ∧ o.cls = .type "list") ∧ (d = .tup ds → ∃ o, s.heap.get? l = some o ∧ o.cls = .type "tuple") := fun {l ds} e ex => by
    obtain ⟨q', vs, e2, _, z⟩ := RR.seq rx g e
    rw [ex] at e2
    cases e2
    rcases z with ⟨z1, z2⟩ | ⟨z1, z2, _⟩
    · refine ⟨fun _ => ?_, fun z => (by rw [z1] at z; cases z)⟩
      obtain ⟨its, _, pl, _⟩ := I.list z2
      obtain ⟨o, ho, hc, _⟩ := pl.isList
      exact ⟨o, ho, hc⟩
    · refine ⟨fun z => (by rw [z1] at z; cases z), fun _ => ?_⟩
      obtain ⟨its, _, ⟨o, ho, hc, _⟩, _⟩ := I.tuple z2
      exact ⟨o, ho, hc⟩
  cases d with
  | non =>
    cases hk
    rcases rx with rx | ⟨_, _, z⟩
    · cases rx; cases (show u = Value.none from ru); exact PySem.W.kia_one PySem.W.kitx_none I.kIn True.intro hb (fun z => nomatch z) fin
    · exact z.elim
  | bl v =>
    cases hk
    rcases rx with rx | ⟨_, _, z⟩
    · cases rx; cases (show u = Value.bool v from ru); exact PySem.W.kia_one PySem.W.kitx_bool I.kIn True.intro hb (fun z => nomatch z) fin
    · exact z.elim
  | int v =>
    cases hk
    rcases rx with rx | ⟨_, _, z⟩
    · cases rx; obtain ⟨t, q⟩ := (show ∃ t, u = Value.int v t from ru); cases q; exact PySem.W.kia_one PySem.W.kitx_int I.kIn True.intro hb (fun z => nomatch z) fin
    · exact z.elim
  | str v =>
    cases hk
    rcases rx with rx | ⟨_, _, z⟩
    · cases rx; obtain ⟨t, q⟩ := (show ∃ t, u = Value.str v t from ru); cases q; exact PySem.W.kia_one PySem.W.kitx_str I.kIn True.intro hb (fun z => nomatch z) fin
    · exact z.elim
  | tup ds =>
    cases hk
    obtain ⟨l, vs, e2, _⟩ := RR.seq rx g rfl
    obtain ⟨o, ho, hc⟩ := (obj rfl e2).2 rfl
    subst e2
    cases (show u = Value.ref l from ru)
    exact PySem.W.kia_one PySem.W.kitx_tuple I.kIn ⟨o, ho, hc⟩ hb (fun z => nomatch z) fin
  | lst ds =>
    cases hk
    obtain ⟨l, vs, e2, _⟩ := RR.seq rx g rfl
    obtain ⟨o, ho, hc⟩ := (obj rfl e2).1 rfl
    subst e2
    cases (show u = Value.ref l from ru)
    exact PySem.W.kia_one PySem.W.kitx_list I.kIn ⟨o, ho, hc⟩ hb (fun z => nomatch z) fin
  | dct ks ds =>
    cases hk
    have hd : ∃ l kvs, x = .ref l ∧ H l = some (.dK kvs) := by
      rcases rx with rx | ⟨l, e, z⟩
      · cases rx with
        | dct h r => exact ⟨_, _, rfl, g.sub _ _ h⟩
      · obtain ⟨kvs, z1, _⟩ := z; exact ⟨l, kvs, e, z1⟩
    obtain ⟨l, kvs, rfl, hl⟩ := hd
    cases (show u = Value.ref l from ru)
    obtain ⟨_, _, vs, _, p⟩ := (show ObjOk X.prog X.w H s.heap l (.dK kvs) from I.hok l _ hl)
    obtain ⟨o, es, ep, h1, h2, _⟩ := p
    exact PySem.W.kia_one PySem.W.kitx_dict I.kIn ⟨o, h1, h2.1⟩ hb (fun z => nomatch z) fin
  | ins c ns ds => cases hk
  | exn c ns ds => cases hk
theorem pv_isa (T : String) {xT : Str} {pT : Pos} (hT : T ∈ ["int", "bool", "tuple", "list", "str", "dict"]) (hg : Gl X "isinstance") (hm : X.mg "isinstance" = none) (hgT : Gl X xT) (hmT : X.mg xT = none) (hvT : bootBuiltins xT = some (.type T)) (ha : PR X EX a fa)
    (hn : xT ≠ "__name__" := by decide) (hdT : (xT == ("__debug__" : Str)) = false := by decide)
    (hs : starEach [a, .Name xT pT] X.env = (false, eval a X.env) :: starEach [.Name xT pT] X.env := by rfl) (hs2 : starEach [.Name xT pT] X.env = (false, eval (.Name xT pT) X.env) :: starEach [] X.env := by rfl) (hpl : (backTo pos (starEach [.Name xT pT] X.env)).any (·.1) = false := by rfl) :
    PV X EX (.Call (.Name "isinstance" p) [a, .Name xT pT] [] pos) (m1 (isaD T) fa) :=
  (pe_callB (call_isa (EX := EX) T) hg hm boot_isinstance (pa_cons ha (pa_cons (pe_bltn (v := .ty T) hgT hmT hvT rfl hn hdT) pa_nil hs2) hs) (by decide) (by decide) hs hpl).le fun σ H Q ⟨G, F, ρ, g0, o⟩ => at_bnd g0 o (fun x r q => q) fun F1 H1 ρ1 d1 x s1 g1 r1 o1 => by
    obtain ⟨d, e, q⟩ := o1.opt
    unfold isaD at e
    cases ek : kindD d1 with
    | none => rw [ek] at e; cases e
    | some k =>
      rw [ek] at e
      cases e
      have hk : k ∈ ["NoneType", "bool", "int", "str", "tuple", "list", "dict"] := by cases d1 <;> cases ek <;> simp
      exact ⟨x, G, F1, σ, ρ1, d1, k, _, rfl, g1, r1, ek, kit_own _ k hk T hT, q F1 H1 _ s1 g1 (.bl _)⟩
theorem isLst_slot {G : Fx} {F H : Hp} {σ : St} {ρ : Rho} {j : Nat} (g : L.Good G F H σ ρ) (h : isLst (own ρ[j]?) = true) : ∃ l vs, σ[j]? = some (some (V.ref l)) ∧ H l = some (.lst vs) := by
  have hs : (own ρ[j]?).isSome = true := by
    cases q : own ρ[j]? with
    | none => rw [q] at h; cases h
    | some d => rfl
  obtain ⟨l, d, h1, h2, h3⟩ := own_slot g hs
  rw [h2] at h
  cases d with
  | lst ds => obtain ⟨vs, z, _⟩ := h3; exact ⟨l, vs, h1, z⟩
  | _ => cases h
theorem vs_app (i : Nat) {apos cpos : Pos} (he : PV X EX e fe) (hN : X.N[i]? = some x := by rfl) (hv : Vis X.env.scope x := by first | exact Or.inl rfl | exact Or.inr (Or.inl rfl) | exact Or.inr (Or.inr rfl)) (hd : (x == ("__debug__" : Str)) = false := by decide)
    (hcd : (x == ("__classdict__" : Str)) = false := by decide)
    (hpe : ∀ {to : TE} {t : TA}, PE X (.Name x p) to → PA X [e] t → PE X (.Call (.Attribute (.Name x p) "append" apos) [e] [] cpos) (tBM X.K "list" rAppend to t))
    (hst : starEach [e] X.env = (false, eval e X.env) :: starEach [] X.env := by rfl) : PVS X EX (.Expr (.Call (.Attribute (.Name x p) "append" apos) [e] [] cpos) pos) (sApp i fe) :=
  (ps_expr (hpe (pe_var hN hv hd hcd) (pa_cons he pa_nil hst))).le fun E σ H ⟨G, F, ρ, g0, o⟩ => by
    unfold sApp at o
    by_cases hl : isLst (own ρ[i]?) = true
    · rw [if_pos hl] at o
      obtain ⟨l, vs, z1, z2⟩ := isLst_slot (L := lc X EX) g0 hl
      refine ⟨_, z1, .inl ⟨rfl, _, SqL.of z2⟩, at_bnd g0 o (fun x r q => q.x) fun F1 H1 ρ1 d1 v s1 g1 r1 o1 => ?_⟩
      obtain ⟨l', vs', ρ', y1, y2, y3, g2, q⟩ := upd_good (L := lc X EX) g1 r1 (Out.bnd o1)
      rw [z1] at y1
      cases y1
      exact ⟨l, vs', v, rfl, rfl, y2, y3, q F1 _ σ s1 g2⟩
    · rw [if_neg hl] at o; exact o.elim
def rCatL (K : Frag) : R2 := fun x y H Q => ∃ l b xs zs, x = .ref l ∧ y = .ref b ∧ SqL K H l xs ∧ SqL K H b zs ∧ xs.length + zs.length ≤ sizeLine ∧ ∀ p, H p = none → Q (.ref p) (upd H p (.lst (xs ++ zs)))
theorem op_catL : OpR X (binaryOp .Add) (rCatL X.K) := by
  intro pins s σ H x y v u Q I rx ry h
  obtain ⟨l, b, xs, zs, rfl, rfl, hH, hB, hz, q⟩ := h
  cases rx
  cases ry
  obtain ⟨its, r, ⟨⟨c1, d1, dt1, sl1⟩, n, e, hc, hd, hdt⟩, _⟩ := I.list hH
  obtain ⟨its2, r2, ⟨⟨c2, d2, dt2, sl2⟩, n2, e2, hc2, hd2, hdt2⟩, _⟩ := I.list hB
  simp only at hc hd hdt hc2 hd2 hdt2
  subst hc hdt hc2 hdt2
  refine concat_meets ⟨_, e, rfl⟩ ⟨_, e2, rfl⟩ noFill_list_add seq_list_add PySem.F.slot_list_add PySem.F.entry_list_add (PySem.F.args_list_add_2 _ _)
    (list_addW l b its.toArray its2.toArray n n2 d1 d2 sl1 sl2 (by rw [List.size_toArray, List.size_toArray, ← r.length, ← r2.length]; exact hz)) ⟨e, e2, ?_⟩
  have ea : its.toArray ++ its2.toArray = (its ++ its2).toArray := by simp
  rw [ea]
  exact ⟨.ref _, _, I.lnew (t' := s.toks) (r.append r2) (by rw [List.length_append]; omega), rfl, q _ I.fresh⟩
theorem g_addL : OpG L (rCatL L.K) addL := fun G F H σ ρ x y dx dy d Q g0 rx ry e k => by
  cases dx <;> cases dy <;> try (simp only [addL, reduceCtorEq] at e; done)
  rename_i xs ys
  simp only [addL] at e
  split at e
  · rename_i hl
    cases e
    cases rx with
    | lst h1 r1 => cases ry with
      | lst h2 r2 =>
        refine ⟨_, _, _, _, rfl, rfl, SqL.same h1 g0.sub, SqL.same h2 g0.sub, by rw [r1.length, r2.length, ← LIM_eq]; exact hl, fun p hp => ?_⟩
        have sF : ∀ o, Same F (upd F p o) := fun o => same_upd (o := o) (g0.sub.free hp)
        exact k _ _ _ (sF _) (g0.laid hp) (.lst (SqL.of upd_same) (DenL.append (DenL.same (sF _) r1) (DenL.same (sF _) r2)))
  · cases e
theorem op_addA : OpR X (binaryOp .Add) (fun x y H Q => (rI0 fun i j => .int (i + j)) x y H Q ∨ (rCatA X.K x y H Q ∨ rCatL X.K x y H Q)) := OpR.or op_add (OpR.or op_catA op_catL)
theorem g_addA : OpG L (fun x y H Q => (rI0 fun i j => .int (i + j)) x y H Q ∨ (rCatA L.K x y H Q ∨ rCatL L.K x y H Q)) addA := fun G F H σ ρ x y dx dy d Q g0 rx ry e k => by
  cases dx <;> cases dy <;> try (simp only [addA, reduceCtorEq] at e; done)
  · exact .inl (g_add G F H σ ρ x y _ _ d Q g0 rx ry e k)
  · exact .inr (.inl (g_addT G F H σ ρ x y _ _ d Q g0 rx ry e k))
  · exact .inr (.inr (g_addL G F H σ ρ x y _ _ d Q g0 rx ry e k))
def RO : Rl (Option Int) (Option Int) := fun _ _ _ _ _ b a => b = a
def PPart (X : Cx) (EX : XE) (e : Option Expr) (f : Option (M D)) : Prop := PO X e (lift (lc X EX) RO (mPart f))
theorem PO_le {X : Cx} {e : Option Expr} {t t' : TO} (h : PO X e t) (k : ∀ σ H Q, t' σ H Q → t σ H Q) : PO X e t' := fun pins s σ H Q I q => h pins s σ H Q I (k _ _ _ q)
theorem pp_none : PPart X EX none none := PO_le po_none fun σ H Q ⟨G, F, ρ, g0, o⟩ => o F H none (Same.refl _) g0 rfl
theorem pp_some (h : PV X EX e fe) : PPart X EX (some e) (some fe) := PO_le (po_some h) fun σ H Q ⟨G, F, ρ, g0, o⟩ => at_bnd g0 o (fun x r q => q) fun F1 H1 ρ1 d1 x s1 g1 r1 o1 => by
  cases d1 with
  | int i => cases r1; exact ⟨i, rfl, o1 F1 H1 _ s1 g1 rfl⟩
  | _ => exact o1.elim
theorem sIx_eq (n d : Nat) (o : Option Int) : HT.sIx n d o = sIxP n d o := by
  cases o with
  | none => rfl
  | some v =>
    unfold HT.sIx sIxP
    first | rfl | (split <;> first | rfl | omega)
theorem cut_den {K : Frag} {mg : MG} {F : Hp} {vs : List V} {ds : List D} (h : DenL K mg F vs ds) (lo hi : Option Int) : DenL K mg F (cutV vs lo hi) (VP.cutD ds lo hi) := by
  unfold cutV VP.cutD
  rw [h.length, sIx_eq, sIx_eq]
  exact (h.drop _).take _
end
theorem hjs_of {js : List Nat} {m n : Nat} (h : js.all (fun j => decide (m ≤ j) && decide (j < m + n)) = true) : ∀ j ∈ js, m ≤ j ∧ j < m + n := fun j hj => by
  have := List.all_eq_true.mp h j hj
  rw [Bool.and_eq_true] at this
  exact ⟨of_decide_eq_true this.1, of_decide_eq_true this.2⟩
structure DefF (K : Frag) (mg : MG) (x : Str) (st : Stmt) (ps : List Str) (f : Addr) (fd : FuncData) : Prop where
  fu : Fun K x x st f fd
  bi : Binds K fd ps []
  mg : mg x = some (.ref f)
end VS

end
section
set_option linter.all false
set_option maxRecDepth 100000
namespace VS
open PySem PySem.Spec PyProof.Rows L2 VP
section
variable {X : Cx} {EX : XE} {L : Lc} {e a b c : Expr} {fa fb fc fe : M D} {pos : Pos} {x : Str}
def FlatD : D → Value → Prop
  | .non, v => v = .none
  | .bl k, v => v = .bool k
  | .int i, v => ∃ t, v = .int i t
  | .str s, v => ∃ t, v = .str s t
  | _, _ => False
theorem FlatD.den {d : D} {v : Value} (h : FlatD d v) : ∃ u : V, RelV u v ∧ ∀ (K : Frag) (mg : MG) (F : Hp), Den K mg F u d := by
  cases d with
  | non => cases h; exact ⟨.non, rfl, fun _ _ _ => .non⟩
  | bl k => cases h; exact ⟨.bl k, rfl, fun _ _ _ => .bl k⟩
  | int i => obtain ⟨t, rfl⟩ := h; exact ⟨.int i, ⟨t, rfl⟩, fun _ _ _ => .int i⟩
  | str s => obtain ⟨t, rfl⟩ := h; exact ⟨.str s, ⟨t, rfl⟩, fun _ _ _ => .str s⟩
  | _ => exact h.elim
theorem getItem_tuple_whole {prog : Program} {w : World} {A : Around} {E : Value → Shared → Prop} {s : Shared} {t sl : Addr} {items : Array Value} {vl vu : Value} {lo hi : Option Int} {Q : Value → Shared → Prop} (ht : IsTup s.heap t items) (hs : s.heap.IsSliceOf sl vl vu .none) (pl : IsPart vl lo) (pu : IsPart vu hi)
    (hw : HT.sIx items.size 0 lo = 0 ∧ HT.sIx items.size items.size hi = items.size) (h : Q (.ref t) s) : wpAny (model prog w) A (getItem (.ref t) (.ref sl)) Q E s := by
  obtain ⟨os, hos, hcs, hds⟩ := id hs
  have hTs : s.TypeIs (.ref sl) "slice" := ⟨os, hos, hcs⟩
  unfold getItem
  try with_reducible refine wpAny_holding ?_
  first | refine wpAny_bind (wpAny_pure ?_) | skip
  refine wpAny_bind (wpAny_sequenceKey ht.typeIs (by decide) ?_)
  refine wpAny_bind (wpAny_callSpecial?_slot (name := Str.ofString "__getitem__") ht.typeIs PyProof.Rows.slot_tuple_getitem
    (wpAny_call_entry PyProof.Rows.slot_tuple_getitem ht.typeIs entry_tuple_getitem ?_ (args_tuple_getitem _ _)))
  show wpAny _ _ (Builtin.Tuple.tupleItemsOf (.ref t) >>= _) _ _ s
  refine wpAny_bind (PyProof.Rows.tupleItemsOf_ ht ?_)
  refine wpAny_bind (wpAny_typeOf hTs ?_)
  rw [if_pos (by decide)]
  refine wpAny_bind (HT.sliceApplied_gen hs pl pu ?_)
  have hyes : (((HT.sIx items.size 0 lo : Nat) : Int) == 0 && (1 : Int) == 1 && (HT.sIx items.size items.size hi - HT.sIx items.size 0 lo) == items.size) = true := by
    rw [hw.1, hw.2]; simp
  show wpAny _ _ (if (((HT.sIx items.size 0 lo : Nat) : Int) == 0 && (1 : Int) == 1 && (HT.sIx items.size items.size hi - HT.sIx items.size 0 lo) == items.size) = true then _ else _) _ _ s
  rw [if_pos hyes]
  refine wpAny_bind ?_
  unfold Builtin.Tuple.tupleIsExact
  refine wpAny_bind (wpAny_typeOf ht.typeIs (wpAny_pure ?_))
  rw [if_pos (by decide)]
  refine wpAny_bind (wpAny_rule (wpAny_pure ⟨_, rfl, wpAny_pure h⟩))
def rSlA (K : Frag) : V → Option Int → Option Int → Hp → VK → Prop := fun x lo hi H Q => ∃ q xs, x = .ref q ∧ SqT K H q xs ∧
  (cutV xs lo hi = xs → Q (.ref q) H) ∧ ∀ p, H p = none → Q (.ref p) (upd H p (.tup (cutV xs lo hi)))
theorem sl_tupA : L2.SlR X (rSlA X.K) := by
  intro pins s σ H x v vl vu lo hi sl Q I rx hs pl pu h
  obtain ⟨q, xs, rfl, hx, h1, h2⟩ := h
  by_cases hw : HT.sIx xs.length 0 lo = 0 ∧ HT.sIx xs.length xs.length hi = xs.length
  · cases rx
    obtain ⟨its, r, ht, hz⟩ := I.tuple hx
    have hlen : its.toArray.size = xs.length := by rw [List.size_toArray]; exact r.length.symm
    refine ⟨"tuple", _, PyProof.Rows.slot_tuple_getitem.lookup, ht.typeIs, getItem_tuple_whole ht hs pl pu (by rw [hlen]; exact hw) ⟨.ref q, H, I, rfl, h1 ?_⟩⟩
    unfold cutV
    rw [hw.1, hw.2]
    simp
  · exact sl_tup pins s σ H _ v vl vu lo hi sl Q I rx hs pl pu ⟨q, xs, rfl, hx, hw, h2⟩
theorem slicePick_gen (items : Array Value) (lo hi : Option Int) : slicePick items lo hi none = ((items.toList.drop (HT.sIx items.size 0 lo)).take (HT.sIx items.size items.size hi - HT.sIx items.size 0 lo)).toArray := by
  have e : sliceBounds lo hi none items.size = (((HT.sIx items.size 0 lo : Nat) : Int), ((HT.sIx items.size items.size hi : Nat) : Int), 1) := by
    simp only [sliceBounds, Option.getD_none]
    simp only [show (1 : Int) > 0 by decide, if_true]
    cases lo with
    | none => cases hi with
      | none => rfl
      | some j => simp only [HT.sIx]; congr 1; congr 1; split <;> omega
    | some i => cases hi with
      | none => simp only [HT.sIx]; congr 1; split <;> omega
      | some j => simp only [HT.sIx]; congr 1; (split <;> omega); congr 1; split <;> omega
  unfold slicePick
  rw [e]
  simp only [sliceRange_one, pick_run]
def rSlL (K : Frag) : V → Option Int → Option Int → Hp → VK → Prop := fun x lo hi H Q => ∃ q xs, x = .ref q ∧ SqL K H q xs ∧ ∀ p, H p = none → Q (.ref p) (upd H p (.lst (cutV xs lo hi)))
theorem sl_lst : L2.SlR X (rSlL X.K) := by
  intro pins s σ H x v vl vu lo hi sl Q I rx hs pl pu h
  obtain ⟨q, xs, rfl, hx, h1⟩ := h
  cases rx
  obtain ⟨its, r, ht, hz⟩ := I.list hx
  have hlen : its.toArray.size = xs.length := by rw [List.size_toArray]; exact r.length.symm
  refine ⟨"list", _, slot_list_getitem.lookup, ht.isList.typeIs, wpAny_getItem_list_slice ht.isList hs pl pu .none (by decide) ?_ (by rw [hlen]; exact hz)⟩
  rw [slicePick_gen, hlen]
  exact ⟨.ref _, _, I.lnew (t' := s.toks) ((r.drop (HT.sIx xs.length 0 lo)).take (HT.sIx xs.length xs.length hi - HT.sIx xs.length 0 lo)) (Nat.le_trans (cutV_length xs lo hi) hz), rfl, h1 _ I.fresh⟩
theorem pv_sl {lo hi : Option Expr} {fl fh : Option (M D)} {p2 : Pos} (he : PV X EX e fe) (hl : PPart X EX lo fl) (hh : PPart X EX hi fh) : PV X EX (.Subscript e (.Slice lo hi none p2) pos) (mSl cutA fe fl fh) :=
  (pe_slice (sl_tupA.or sl_lst) he hl hh).le fun σ H Q ⟨G, F, ρ, g0, o⟩ => at_bnd g0 o (fun x r q => q) fun F1 H1 ρ1 d1 x s1 g1 r1 o1 =>
    at_bnd g1 o1 (fun x r q => q.same s1) fun F2 H2 ρ2 l l' s2 g2 r2 o2 => at_bnd g2 o2 (fun x r q => q.same (s1.trans s2)) fun F3 H3 ρ3 h h' s3 g3 r3 o3 => by
      cases r2
      cases r3
      obtain ⟨d, e1, q⟩ := o3.opt
      have r1' := r1.same (s2.trans s3)
      cases d1 with
      | tup ds =>
        cases e1
        cases r1' with
        | tup hq rq =>
          refine .inl ⟨_, _, rfl, SqT.same hq g3.sub, fun e2 => ?_, fun p hp => ?_⟩
          · have := cut_den rq l h
            rw [e2] at this
            exact q F3 H3 _ (s1.trans (s2.trans s3)) g3 (.tup hq this)
          · rename_i vs
            have sF := same_upd (o := .tup (cutV vs l h)) (g3.sub.free hp)
            exact q _ _ _ (s1.trans (s2.trans (s3.trans sF))) (g3.laid hp) (.tup (SqT.of upd_same) ((cut_den rq l h).same sF))
      | lst ds =>
        cases e1
        cases r1' with
        | lst hq rq =>
          refine .inr ⟨_, _, rfl, SqL.same hq g3.sub, fun p hp => ?_⟩
          rename_i vs
          have sF := same_upd (o := .lst (cutV vs l h)) (g3.sub.free hp)
          exact q _ _ _ (s1.trans (s2.trans (s3.trans sF))) (g3.laid hp) (.lst (SqL.of upd_same) ((cut_den rq l h).same sF))
      | _ => cases e1
end
end VS

end
section
set_option linter.all false
set_option maxRecDepth 100000
namespace VS
open PySem PySem.Spec PyProof.Rows L2 VP
namespace RV
theorem slot_init : Slot "reversed" "__init__" "object.__init__" :=
  .of (owner := "object") (n := "__init__") (by rw [typeLookup_type, builtinLookup_eq_fast]; kernel_rfl) (by decide +kernel) (by decide +kernel) (by decide +kernel) (by first | exact .inl (by decide +kernel) | exact .inr (by decide +kernel)) (by rw [isSubtype_type]; kernel_rfl)
theorem called : TypeCalled "reversed" "reversed.__new__" "object.__init__" :=
  ⟨by decide +kernel, PySem.F.create_reversed, ⟨_, _, PySem.F.mro_reversed⟩, PySem.F.made_reversed, PySem.F.plain_reversed_new, PySem.F.sub_reversed_self, slot_init⟩
theorem slot_next : Slot "reversed" "__next__" "reversed.__next__" :=
  .of (owner := "reversed") (n := "__next__") (by rw [typeLookup_type, builtinLookup_eq_fast]; kernel_rfl) (by decide +kernel) (by decide +kernel) (by decide +kernel) (by first | exact .inl (by decide +kernel) | exact .inr (by decide +kernel)) (by rw [isSubtype_type]; kernel_rfl)
theorem entry_next : entryFor table "reversed.__next__" = some Builtin.«reversed.__next__» := entryFor_of_tree (by kernel_rfl)
theorem owner_rev : Manifest.owners.lookup (String.ofList ['d', 'e', 's', 'r', 'e', 'v', 'e', 'r'].reverse) = some Manifest.sig_reversed := by kernel_rfl
theorem args_next (a : Value) : argsOk "reversed.__next__" ⟨[a], []⟩ := by
  unfold argsOk; rw [signature?_of (id := "reversed.__next__") (n := ['_', '_', 't', 'x', 'e', 'n', '_', '_']) (o := ['d', 'e', 's', 'r', 'e', 'v', 'e', 'r']) (by kernel_rfl) owner_rev]; kernel_rfl
theorem slot_iter : Slot "reversed" "__iter__" "reversed.__iter__" :=
  .of (owner := "reversed") (n := "__iter__") (by rw [typeLookup_type, builtinLookup_eq_fast]; kernel_rfl) (by decide +kernel) (by decide +kernel) (by decide +kernel) (by first | exact .inl (by decide +kernel) | exact .inr (by decide +kernel)) (by rw [isSubtype_type]; kernel_rfl)
theorem args_iter (a : Value) : argsOk "reversed.__iter__" ⟨[a], []⟩ := by
  unfold argsOk; rw [signature?_of (id := "reversed.__iter__") (n := ['_', '_', 'r', 'e', 't', 'i', '_', '_']) (o := ['d', 'e', 's', 'r', 'e', 'v', 'e', 'r']) (by kernel_rfl) owner_rev]; kernel_rfl
theorem entry_iter : entryFor table "reversed.__iter__" = some Builtin.«dict_keyiterator.__iter__» :=
  entryFor_alias (id' := "dict_keyiterator.__iter__") (by kernel_rfl) (by first | rfl | decide +kernel | (unfold String.splitOn; simp +decide [String.splitOnAux])) (by decide +kernel) (by kernel_rfl)
theorem no_rev_tuple : typeLookup (.type "tuple") "__reversed__" = pure none := by rw [typeLookup_type, builtinLookup_eq_fast]; kernel_rfl
theorem tuple_no_dict : isSubtype (.type "tuple") (.type "dict") = pure false := by rw [isSubtype_type]; kernel_rfl
section
variable {prog : Program} {w : World} {A : Around} {E : Value → Shared → Prop} {s : Shared}
def obj (t : Addr) (i : Int) : Obj := { cls := .type "reversed", data := .fields #[.ref t, rawInt i] }
def Is (h : Heap) (a t : Addr) (i : Int) : Prop := ∃ o, h.get? a = some o ∧ o.cls = .type "reversed" ∧ o.data = .fields #[.ref t, rawInt i]
theorem code_new {t : Addr} {items : Array Value} {Q₁ : Value → Shared → Prop} (ht : IsTup s.heap t items) (hz : items.size ≤ sizeLine)
    (h : ∀ tk, Q₁ (.ref s.heap.objs.size) { s with heap := s.heap.push (obj t ((items.size : Int) - 1)), toks := tk }) :
    codeAny (model prog w) A (.call (.builtin "reversed.__new__") ⟨[.type "reversed", .ref t], []⟩) (wants Q₁ E) s := by
  refine codeAny_of_tree ?_
  refine wpAny_bind (m := checkBuiltinCall "reversed.__new__" ⟨[.type "reversed", .ref t], []⟩) (wpAny_of_eq (PySem.F.newCall_reversed_1 _) (wpAny_pure ⟨plainId_quiet PySem.F.plain_reversed_new _, codeAny_builtin PySem.F.entry_reversed_new ?_⟩))
  rw [Around.under_plainId PySem.F.plain_reversed_new _]
  unfold Builtin.«reversed.__new__»
  refine wpAny_bind (wpAny_of_eq (newClass_reversed _) ?_)
  refine wpAny_bind (wpAny_of_eq (a := ()) (by first | rfl | kernel_rfl) ?_)
  refine wpAny_bind (wpAny_of_eq (a := ()) (by first | rfl | kernel_rfl) ?_)
  try dsimp only
  refine wpAny_bind (wpAny_specialOf ht.typeIs no_rev_tuple ?_)
  try dsimp only
  refine wpAny_bind (wpAny_bind (m := isInstance (.ref t) (.type "dict")) (wpAny_isInstance (b := false) ht.typeIs tuple_no_dict ?_))
  refine wpAny_bind (m := specialOf (.ref t) "__getitem__") (wpAny_specialOf ht.typeIs PyProof.Rows.slot_tuple_getitem.lookup ?_)
  refine wpAny_pure ?_
  refine wpAny_bind (m := call (Value.builtin "len") [Value.ref t]) (len_tuple ht (by rw [sizeLine_eq] at hz; omega) ?_)
  refine wpAny_bind (m := asInt? (.int items.size _)) (wpAny_pure ?_)
  refine wpAny_bind (m := newObj (.type "reversed") (.fields #[.ref t, rawInt ((items.size : Int) - 1)])) (wpAny_newObj_type (wpAny_pure (h _)))
theorem make {t : Addr} {items : Array Value} {Q : Value → Shared → Prop} (ht : IsTup s.heap t items) (hz : items.size ≤ sizeLine)
    (h : ∀ tk, Q (.ref s.heap.objs.size) { s with heap := s.heap.push (obj t ((items.size : Int) - 1)), toks := tk }) : wpAny (model prog w) A (call (.type "reversed") [.ref t]) Q E s := by
  refine callType_codes (Q₁ := fun o s₁ => s₁.TypeIs o "reversed" ∧ Q o s₁) called (PySem.F.typeCall_reversed_1 _) PySem.F.entry_object_init (code_new ht hz fun tk => ⟨⟨_, Heap.get?_push_size _ rfl, rfl⟩, h tk⟩) fun o s₁ h₁ => ?_
  exact ⟨h₁.1, PySem.F.args_object_init_2 o _, object_init_meets called.init.lookup called.made (by decide) prog w A.in1 _ s₁ ⟨h₁.1, rfl, h₁.2⟩⟩
theorem Is.typeIs {a t : Addr} {i : Int} (x : Is s.heap a t i) : s.TypeIs (.ref a) "reversed" := let ⟨o, ho, hc, _⟩ := x; ⟨o, ho, hc⟩
theorem Is.at {h h' : Heap} {a t : Addr} {i : Int} (x : Is h a t i) (e : ∀ o, h.get? a = some o → h'.get? a = some o) : Is h' a t i := let ⟨o, ho, r⟩ := x; ⟨o, e _ ho, r⟩
theorem next_item {it t : Addr} {i : Nat} {items : Array Value} {x : Value} {Q : Option Value → Shared → Prop} (hit : Is s.heap it t (i : Int)) (ht : IsTup s.heap t items) (hx : items[i]? = some x) (hz : items.size ≤ sizeLine)
    (hQ : ∀ h' tk, Is h' it t ((i : Int) - 1) → Heap.SameBut it s.heap h' → Q (some x) { s with heap := h', toks := tk }) : wpAny (model prog w) A (pyNext (.ref it)) Q E s := by
  obtain ⟨o, ho, hc, hd⟩ := id hit
  unfold pyNext
  refine wpAny_bind (wpAny_attempt (wpAny_callSpecial?_slot (name := Str.ofString "__next__") hit.typeIs slot_next (wpAny_call_entry slot_next hit.typeIs entry_next ?_ (args_next _))))
  unfold Builtin.«reversed.__next__»
  refine wpAny_bind (wpAny_of_eq (a := (Value.ref it, [])) rfl ?_)
  refine wpAny_bind (wpAny_field ho hd (x := .ref t) rfl ?_)
  refine wpAny_bind (wpAny_field ho hd (x := rawInt (i : Int)) rfl ?_)
  show wpAny _ _ (if (i : Int) < 0 then _ else _) _ _ s
  rw [if_neg (by omega)]
  refine wpAny_bind (m := specialOf (.ref t) "__getitem__") (wpAny_specialOf ht.typeIs PyProof.Rows.slot_tuple_getitem.lookup ?_)
  have hi : i < items.size := (Array.getElem?_eq_some_iff.mp hx).1
  have hz' : (items.size : Int) ≤ 16777216 := by rw [sizeLine_eq] at hz; omega
  refine wpAny_bind (m := mkInt (i : Int)) (wpAny_mkInt ?_)
  refine wpAny_bind (m := (getItem (Value.ref t) _).attempt) (wpAny_attempt (getItem_tuple (items := items) (j := i) ht (by omega) (by omega) ?_ hx ?_))
  · unfold seqIndex?; simp; omega
  refine wpAny_bind (m := field (Value.ref it) 1) (wpAny_field ho hd (x := rawInt (i : Int)) rfl ?_)
  refine wpAny_bind (m := setField (Value.ref it) 1 (rawInt ((i : Int) - 1))) (wpAny_setField ho hd (by simp) ?_)
  refine wpAny_pure ⟨x, rfl, wpAny_pure (hQ _ _ ?_ (Heap.SameBut.update ..))⟩
  exact ⟨_, Heap.get?_update_self _ ho (Obj.isFreed_of_fields (Obj.data_mapFields hd _)), (Obj.cls_mapFields ..).trans hc, by rw [Obj.data_mapFields hd]; simp⟩
theorem next_end {it t : Addr} {Q : Option Value → Shared → Prop} (hh : A.handled = none) (hit : Is s.heap it t (-1)) (hQ : ∀ h', Heap.ExtBut it s.heap h' → Q none { s with heap := h' }) : wpAny (model prog w) A (pyNext (.ref it)) Q E s := by
  obtain ⟨o, ho, hc, hd⟩ := id hit
  unfold pyNext
  refine wpAny_bind (wpAny_attempt (wpAny_callSpecial?_slot (name := Str.ofString "__next__") hit.typeIs slot_next (wpAny_call_entry slot_next hit.typeIs entry_next ?_ (args_next _))))
  unfold Builtin.«reversed.__next__»
  refine wpAny_bind (wpAny_of_eq (a := (Value.ref it, [])) rfl ?_)
  refine wpAny_bind (wpAny_field ho hd (x := .ref t) rfl ?_)
  refine wpAny_bind (wpAny_field ho hd (x := rawInt (-1)) rfl ?_)
  show wpAny _ _ (if (-1 : Int) < 0 then _ else _) _ _ s
  rw [if_pos (by decide)]
  refine wpAny_bind (wpAny_rule ?_)
  refine wpAny_bind (wpAny_bind (m := setField (Value.ref it) 1 (rawInt (-1))) (wpAny_setField ho hd (by simp) ?_))
  have ho1 := Heap.get?_update_self (Obj.mapFields fun vs => vs.set! 1 (rawInt (-1))) ho (Obj.isFreed_of_fields (Obj.data_mapFields hd _))
  have hd1 : (Obj.mapFields (fun vs => vs.set! 1 (rawInt (-1))) o).data = .fields #[.ref t, rawInt (-1)] := by rw [Obj.data_mapFields hd]; simp
  refine wpAny_setField ho1 hd1 (by simp) ?_
  refine wpAny_bind (m := Builtin.SmallTypes.stopIteration) ?_
  refine wpAny_bind (m := newExc (.type "StopIteration") []) ?_
  simp only [newExc, newTuple]
  refine wpAny_bind (wpAny_newObj_type ?_ (by size_fits))
  refine wpAny_bind (m := firstArgMember _ _) (wpAny_of_eq (a := Value.none) (by first | rfl | (simp only [firstArgMember]; rfl)) ?_)
  refine wpAny_newObj_type ?_ (by size_fits)
  simp only [raiseNew]
  refine wpAny_bind (wpAny_handled ?_)
  first | rw [show A.in1.handled = none from hh] | rw [hh]
  refine wpAny_bind (wpAny_pure (wpAny_throw ?_))
  refine wpAny_bind (wpAny_isInstance (T := "StopIteration") (b := true) ⟨_, Heap.get?_push_size _ rfl, rfl⟩ isSubtype_stop ?_)
  refine wpAny_pure (hQ _ fun b ob hb e => ?_)
  refine Heap.get?_push_of_some _ (Heap.get?_push_of_some _ ?_)
  exact (Heap.get?_update_other _ _ (Ne.symm hb)).trans ((Heap.get?_update_other _ _ (Ne.symm hb)).trans e)
theorem iter_self {it t : Addr} {i : Int} {Q : Value → Shared → Prop} (hit : Is s.heap it t i) (h : Q (.ref it) s) : wpAny (model prog w) A (pyIter (.ref it)) Q E s := by
  refine wpAny_pyIter_slot hit.typeIs slot_iter (wpAny_call_entry slot_iter hit.typeIs entry_iter ?_ (args_iter _))
  exact wpAny_pure ⟨_, rfl, "reversed", _, hit.typeIs, slot_next.lookup, h⟩
end
end RV
section
variable {X : Cx} {EX : XE} {L : Lc} {e a b tg : Expr} {fa fb fe : M D} {pos p : Pos} {x : Str}
end
end VS

end
section
set_option linter.all false
set_option maxRecDepth 100000
namespace VS
open PySem PySem.Spec PyProof.Rows L2 VP
namespace GA
def Two (T : String) : Prop := T = "list_reverseiterator" ∨ T = "reversed"
section
variable {prog : Program} {w : World} {A : Around} {E : Value → Shared → Prop} {s : Shared} {I : Addr} {fp wr : List Addr} {n : Nat} {P : Nat → Value → Prop} {St : Nat → Heap → Prop} {T : String}
def Hint (prog : Program) (w : World) (A : Around) (I : Addr) (St : Nat → Heap → Prop) : Prop := ∀ (s : Shared) (Q : Bool → Shared → Prop) (E : Value → Shared → Prop), St 0 s.heap → (∀ b tk, s.toks ≤ tk → Q b { s with toks := tk }) → wpAny (model prog w) A (Builtin.List.listLengthHint (.ref I)) Q E s
theorem extend {R : Result → Shared → Prop} (h2 : Two T) (W : WalksS prog w A.in1 I fp wr (fun a b => b = a) n P (fun i s => St i s.heap)) (hT : ∀ (i : Nat) (s : Shared), St i s.heap → s.TypeIs (.ref I) T) (hh : Hint prog w A.in1 I St) (S : Addr) (res : Value) (c₀ : Nat) (hst : St 0 s.heap) (hSf : S ∉ fp) (hI : I ∈ fp)
    (hS : s.heap.get? S = some { cls := .type "list", data := .seq #[] c₀ }) (hn : n ≤ sizeLine)
    (hR : ∀ s' acc' c', Moved (S :: wr) (fun a b => b = a) s s' → s'.heap.get? S = some { cls := .type "list", dict := none, data := .seq acc' c', slots := #[] } → ItemsOf P acc' n → R (.ok (.ret res)) s') :
    wpAny (model prog w) A.in1 (Builtin.List.listExtendWith (.ref S) (.ref I) res)
      (fun fin s' => match fin with | .done f => R (.ok f) s' | .again c' => c'.quiet = true ∧ codeAny (model prog w) A c' R s') (fun e s' => R (.error e) s') s := by
  have hSI : S ≠ I := fun e => hSf (e ▸ hI)
  have h1 : Builtin.List.listSameRef (.ref S) (.ref I) = false := by simp [Builtin.List.listSameRef, hSI]
  unfold Builtin.List.listExtendWith
  refine wpAny_bind (wpAny_typeOf (hT 0 _ hst) ?_)
  rw [if_neg (by rw [h1]; rcases h2 with rfl | rfl <;> decide)]
  refine wpAny_bind (W.self 0 _ _ _ hst (wpAny_bind (wpAny_holding (hh s _ _ hst fun b tk htk => ?_))))
  have st2 := W.frame 0 s s.heap tk hst htk fun b _ o e => e
  cases b with
  | false =>
    rw [if_neg (by rcases h2 with rfl | rfl <;> decide)]
    refine wpAny_pure ⟨plainId_quiet PySem.F.plain_extend_loop _, codeAny_extend_loopS W hn _ hSf _ n 0 _ _ _ rfl (Nat.zero_le _) st2 hS (ItemsOf.nil P) fun s' acc' c' hm hS' hacc => hR s' acc' c' ?_ hS' hacc⟩
    have mv : Moved (S :: wr) (fun a b => b = a) s { s with toks := tk } := ⟨fun b o hb e => e, rfl, rfl, rfl, htk⟩
    exact Moved.trans W.gtrans mv hm
  | true =>
    rw [if_pos (by rcases h2 with rfl | rfl <;> decide)]
    refine wpAny_bind (wpAny_rule (wpAny_bind (m := updateSeq S (·.push .none) >>= fun _ => updateSeq S (·.pop)) (wpAny_bind (wpAny_updateSeq hS rfl ?_))))
    have q1 := Heap.get?_update_self (Obj.mapSeq (·.push Value.none)) hS rfl
    refine wpAny_updateSeq (hz := by seq_fits) q1 rfl ?_
    have q2 := Heap.get?_update_self (Obj.mapSeq (·.pop)) q1 rfl
    have oth : ∀ b o, b ≠ S → s.heap.get? b = some o → ((s.heap.update S (Obj.mapSeq (·.push Value.none))).update S (Obj.mapSeq (·.pop))).get? b = some o :=
      fun b o hb e => (Heap.get?_update_other _ _ (Ne.symm hb)).trans ((Heap.get?_update_other _ _ (Ne.symm hb)).trans e)
    refine wpAny_pure ⟨plainId_quiet PySem.F.plain_extend_loop _, codeAny_extend_loopS W hn _ hSf _ n 0 _ _ _ rfl (Nat.zero_le _) (W.frame 0 s _ tk hst htk fun b hb o e => oth b o (fun z => hSf (z ▸ hb)) e) q2 (ItemsOf.nil P) fun s' acc' c' hm hS' hacc => hR s' acc' c' ?_ hS' hacc⟩
    have mv : Moved (S :: wr) (fun a b => b = a) s { s with heap := (s.heap.update S (Obj.mapSeq (·.push Value.none))).update S (Obj.mapSeq (·.pop)), toks := tk } := ⟨fun b o hb e => oth b o (fun z => hb (by rw [z]; exact List.mem_cons_self)) e, rfl, rfl, rfl, htk⟩
    exact Moved.trans W.gtrans mv hm
theorem gathered {Q : List Value → Shared → Prop} (h2 : Two T) (W : WalksS prog w A.in1 I fp wr (fun a b => b = a) n P (fun i s => St i s.heap)) (hT : ∀ (i : Nat) (s : Shared), St i s.heap → s.TypeIs (.ref I) T) (hh : Hint prog w A.in1 I St) (hst : St 0 s.heap) (hfp : ∀ b ∈ fp, b < s.heap.objs.size) (hI : I ∈ fp) (hn : n ≤ sizeLine)
    (hQ : ∀ s' acc, Moved wr (fun a b => b = a) s s' → ItemsOf P acc n → Q acc.toList s') : wpAny (model prog w) A (collect (.ref I)) Q E s := by
  have hSf : s.heap.objs.size ∉ fp := fun hm => Nat.lt_irrefl _ (hfp _ hm)
  refine wpAny_bind (m := runValue (.builtin "proto.collect" ⟨[.ref I], []⟩)) (wpAny_runValue (codeAny_builtin PySem.F.entry_proto_collect ?_))
  rw [Around.under_plainId PySem.F.plain_proto_collect _]
  refine wpAny_bind (m := newList []) (wpAny_newObj_type (wpAny_pure ⟨plainId_quiet PySem.F.plain_list_iadd _, codeAny_builtin PySem.F.entry_list_iadd ?_⟩))
  rw [Around.under_plainId PySem.F.plain_list_iadd _]
  have X := extend (R := fun r s' => r = .ok (.ret (.ref s.heap.objs.size)) ∧ ∃ acc c, Moved (s.heap.objs.size :: wr) (fun a b => b = a) { s with heap := s.heap.push { cls := .type "list", data := .seq ([] : List Value).toArray } } s' ∧ s'.heap.get? s.heap.objs.size = some { cls := .type "list", dict := none, data := .seq acc c, slots := #[] } ∧ ItemsOf P acc n)
    (s := { s with heap := s.heap.push { cls := .type "list", data := .seq ([] : List Value).toArray } }) h2 W hT hh s.heap.objs.size (.ref s.heap.objs.size) 0 (W.frame 0 s _ s.toks hst (Nat.le_refl _) fun b _ o e => Heap.get?_push_of_some _ e) hSf hI (Heap.get?_push_size _ rfl) hn fun s' acc c hm hS hacc => ⟨rfl, acc, c, hm, hS, hacc⟩
  have fin : ∀ s', (∃ acc c, Moved (s.heap.objs.size :: wr) (fun a b => b = a) { s with heap := s.heap.push { cls := .type "list", data := .seq ([] : List Value).toArray } } s' ∧ s'.heap.get? s.heap.objs.size = some { cls := .type "list", dict := none, data := .seq acc c, slots := #[] } ∧ ItemsOf P acc n) →
      wpAny (model prog w) A (do let o ← load s.heap.objs.size; match o.data with | .seq xs _ => pure xs.toList | _ => unsupported "internal:collect") Q E s' := fun s' ⟨acc, c, hm, hS, hacc⟩ =>
    wpAny_bind (wpAny_load hS (wpAny_pure (hQ s' acc (Moved.drop_new (o := { cls := .type "list", data := .seq ([] : List Value).toArray }) (tk := s.toks) hm (Nat.le_refl _)) hacc)))
  refine wpAny_mono X (fun f s' h => ?_) fun e s' h => absurd h.1 (by simp)
  cases f with
  | done f => obtain ⟨e, h⟩ := h; cases e; exact fin s' h
  | again c' => exact ⟨h.1, codeAny_mono h.2 fun r s'' ⟨e, h⟩ => by subst e; exact fin s'' h⟩
theorem code_tuple {Q₁ : Value → Shared → Prop} (h2 : Two T) (W : WalksS prog w A.in1.in1 I fp wr (fun a b => b = a) n P (fun i s => St i s.heap)) (hT : ∀ (i : Nat) (s : Shared), St i s.heap → s.TypeIs (.ref I) T) (hh : Hint prog w A.in1.in1 I St) (hst : St 0 s.heap) (hfp : ∀ b ∈ fp, b < s.heap.objs.size) (hI : I ∈ fp) (hn : n ≤ sizeLine)
    (h : ∀ s' acc, Moved wr (fun a b => b = a) s s' → ItemsOf P acc n → Q₁ (.ref s'.heap.objs.size) { s' with heap := s'.heap.push { cls := .type "tuple", data := .seq acc } }) :
    codeAny (model prog w) A (.call (.builtin "tuple.__new__") ⟨[.type "tuple", .ref I], []⟩) (wants Q₁ E) s := by
  refine codeAny_of_tree (wpAny_bind (m := checkBuiltinCall "tuple.__new__" ⟨[.type "tuple", .ref I], []⟩) (wpAny_of_eq (PySem.F.newCall_tuple_1 _) (wpAny_pure ⟨plainId_quiet PySem.F.plain_tuple_new _, codeAny_builtin PySem.F.entry_tuple_new ?_⟩)))
  rw [Around.under_plainId PySem.F.plain_tuple_new _]
  have k1 := sub_tuple_self
  have k2 := init_tuple_lookup
  have k3 := madeHere_tuple
  have k4 := hT 0 s hst
  rcases h2 with rfl | rfl
  · have z2 : Two "list_reverseiterator" := .inl rfl
    wp_walk using wpAny_typeOf k4, gathered z2 W hT hh hst hfp hI hn
    intro s' acc hm hacc
    refine wpAny_bind (m := Builtin.Tuple.tupleExact acc.toList.toArray) (wpAny_newObj_type (wpAny_pure ?_) (by show acc.toList.toArray.size ≤ sizeLine; simp only [Array.toArray_toList]; rw [hacc.1]; exact hn))
    rw [show acc.toList.toArray = acc by simp]
    exact h s' acc hm hacc
  · have z2 : Two "reversed" := .inr rfl
    wp_walk using wpAny_typeOf k4, gathered z2 W hT hh hst hfp hI hn
    intro s' acc hm hacc
    refine wpAny_bind (m := Builtin.Tuple.tupleExact acc.toList.toArray) (wpAny_newObj_type (wpAny_pure ?_) (by show acc.toList.toArray.size ≤ sizeLine; simp only [Array.toArray_toList]; rw [hacc.1]; exact hn))
    rw [show acc.toList.toArray = acc by simp]
    exact h s' acc hm hacc
theorem call_tuple {Q : Value → Shared → Prop} (h2 : Two T) (W : WalksS prog w A.in1.in1.in1 I fp wr (fun a b => b = a) n P (fun i s => St i s.heap)) (hT : ∀ (i : Nat) (s : Shared), St i s.heap → s.TypeIs (.ref I) T) (hh : Hint prog w A.in1.in1.in1 I St) (hst : St 0 s.heap) (hfp : ∀ b ∈ fp, b < s.heap.objs.size) (hI : I ∈ fp) (hn : n ≤ sizeLine)
    (hQ : ∀ s' acc, Moved wr (fun a b => b = a) s s' → ItemsOf P acc n → Q (.ref s'.heap.objs.size) { s' with heap := s'.heap.push { cls := .type "tuple", data := .seq acc } }) : wpAny (model prog w) A (call (.type "tuple") [.ref I]) Q E s := by
  refine callType_codes (Q₁ := fun obj s₁ => s₁.TypeIs obj "tuple" ∧ Q obj s₁) PySem.F.called_tuple (PySem.F.typeCall_tuple_1 _) PySem.F.entry_object_init
    (code_tuple h2 W hT hh hst hfp hI hn fun s' acc hm hacc => ⟨⟨_, Heap.get?_push_size _ rfl, rfl⟩, hQ s' acc hm hacc⟩) fun obj s₁ h₁ => ?_
  exact ⟨h₁.1, PySem.F.args_object_init_2 obj _, object_init_meets PySem.F.called_tuple.init.lookup PySem.F.called_tuple.made (by decide) prog w A.in1 _ s₁ ⟨h₁.1, rfl, h₁.2⟩⟩
end
theorem nolen_l : typeLookup (.type "list_reverseiterator") "__len__" = pure none := by rw [typeLookup_type, builtinLookup_eq_fast]; kernel_rfl
theorem hint_l : typeLookup (.type "list_reverseiterator") "__length_hint__" = pure (some (.builtin "list_reverseiterator.__length_hint__")) := by rw [typeLookup_type, builtinLookup_eq_fast]; kernel_rfl
theorem nolen_r : typeLookup (.type "reversed") "__len__" = pure none := by rw [typeLookup_type, builtinLookup_eq_fast]; kernel_rfl
theorem hint_r : typeLookup (.type "reversed") "__length_hint__" = pure (some (.builtin "reversed.__length_hint__")) := by rw [typeLookup_type, builtinLookup_eq_fast]; kernel_rfl
theorem slot_hint : Slot "reversed" "__length_hint__" "reversed.__length_hint__" :=
  .of (owner := "reversed") (n := "__length_hint__") hint_r (by decide +kernel) (by decide +kernel) (by decide +kernel) (by first | exact .inl (by decide +kernel) | exact .inr (by decide +kernel)) (by rw [isSubtype_type]; kernel_rfl)
theorem entry_hint : entryFor table "reversed.__length_hint__" = some Builtin.«reversed.__length_hint__» := entryFor_of_tree (by kernel_rfl)
theorem args_hint (a : Value) : argsOk "reversed.__length_hint__" ⟨[a], []⟩ := by
  unfold argsOk; rw [signature?_of (id := "reversed.__length_hint__") (n := ['_', '_', 't', 'n', 'i', 'h', '_', 'h', 't', 'g', 'n', 'e', 'l', '_', '_']) (o := ['d', 'e', 's', 'r', 'e', 'v', 'e', 'r']) (by kernel_rfl) RV.owner_rev]; kernel_rfl
section
variable {prog : Program} {w : World} {A : Around}
def StL (it q : Addr) (items : Array Value) : Nat → Heap → Prop := fun i h => i ≤ items.size ∧ h.IsRevIter it q ((items.size : Int) - 1 - (i : Int)) ∧ h.IsList q items
def StT (it q : Addr) (items : Array Value) : Nat → Heap → Prop := fun i h => i ≤ items.size ∧ RV.Is h it q ((items.size : Int) - 1 - (i : Int)) ∧ IsTup h q items
theorem hintL {it q : Addr} {items : Array Value} : Hint prog w A it (StL it q items) := fun s Q E st h => by
  have hT : s.TypeIs (.ref it) "list_reverseiterator" := st.2.1.typeIs
  unfold Builtin.List.listLengthHint
  refine wpAny_bind (wpAny_specialOf hT nolen_l ?_)
  refine wpAny_bind (m := specialOf (.ref it) "__length_hint__") (wpAny_specialOf hT hint_l ?_)
  generalize hid : ("list_reverseiterator.__length_hint__" : String) = id0
  wp_delta
  rw [show splitId id0 = some ("list_reverseiterator", "__length_hint__") from by subst hid; decide +kernel]
  subst hid
  refine wpAny_bind (wpAny_isInstance (b := true) hT (by rw [isSubtype_type]; kernel_rfl) (wpAny_pure (h _ s.toks (Nat.le_refl _))))
theorem hintT {it q : Addr} {items : Array Value} (hz : items.size ≤ sizeLine) : Hint prog w A it (StT it q items) := fun s Q E st h => by
  have hT : s.TypeIs (.ref it) "reversed" := st.2.1.typeIs
  unfold Builtin.List.listLengthHint
  refine wpAny_bind (wpAny_specialOf hT nolen_r ?_)
  refine wpAny_bind (m := specialOf (.ref it) "__length_hint__") (wpAny_specialOf hT hint_r ?_)
  generalize hid : ("reversed.__length_hint__" : String) = id0
  wp_delta
  rw [show splitId id0 = some ("reversed", "__length_hint__") from by subst hid; decide +kernel]
  subst hid
  refine wpAny_bind (wpAny_isInstance (b := true) hT (by rw [isSubtype_type]; kernel_rfl) ?_)
  obtain ⟨_, ⟨o, ho, hc, hd⟩, ht⟩ := id st
  have hz' : (items.size : Int) ≤ 16777216 := by rw [sizeLine_eq] at hz; omega
  rw [if_neg (show ¬ ((!true) = true) by decide)]
  dsimp only []
  rw [if_neg (by decide)]
  refine wpAny_bind (wpAny_rule (wpAny_bind (wpAny_of_eq (slot_hint.bind _) ?_)))
  refine wpAny_bind (m := (call (.builtin "reversed.__length_hint__") [.ref it]).attempt) (wpAny_attempt (wpAny_call_entry slot_hint hT entry_hint ?_ (args_hint _)))
  unfold Builtin.«reversed.__length_hint__»
  refine wpAny_bind (wpAny_of_eq (a := Value.ref it) (by first | rfl | kernel_rfl) ?_)
  refine wpAny_bind (wpAny_field ho hd (x := .ref q) rfl ?_)
  rw [if_neg (by intro z; cases z)]
  dsimp only []
  refine wpAny_bind (m := call (Value.builtin "len") [Value.ref q]) (len_tuple ht (by omega) ?_)
  refine wpAny_bind (m := asInt? (.int items.size _)) (wpAny_pure ?_)
  refine wpAny_bind (m := field (.ref it) 1) (wpAny_field (s := { s with toks := s.toks + 1 + 1 }) ho hd (x := rawInt ((items.size : Int) - 1 - ((0 : Nat) : Int))) rfl ?_)
  have e0 : (items.size : Int) - 1 - ((0 : Nat) : Int) + 1 = items.size := by omega
  show wpAny _ _ (if (items.size : Int) < (items.size : Int) - 1 - ((0 : Nat) : Int) + 1 then _ else retInt ((items.size : Int) - 1 - ((0 : Nat) : Int) + 1)) _ _ _
  rw [if_neg (by omega), e0]
  have f1 : Builtin.List.listFitsIndex (items.size : Int) = true := by
    unfold Builtin.List.listFitsIndex
    simp only [Bool.and_eq_true, decide_eq_true_eq]
    omega
  have f2 : Builtin.List.listTooLong ((items.size : Int).toNat) = false := by
    unfold Builtin.List.listTooLong
    rw [Int.toNat_natCast]
    simp only [decide_eq_false_iff_not, gt_iff_lt, Nat.not_lt]
    exact hz
  have f3 : ¬ (items.size : Int) < 0 := by omega
  generalize (items.size : Int) = k at f1 f2 f3 ⊢
  refine wpAny_bind (m := mkInt k) (wpAny_mkInt (wpAny_pure ⟨_, rfl, ?_⟩))
  dsimp only []
  refine wpAny_bind (wpAny_of_eq (a := some k) rfl ?_)
  dsimp only []
  rw [if_neg (by rw [f1]; decide), if_neg f3, if_neg (by rw [f2]; decide)]
  exact wpAny_pure (h _ _ (by show s.toks ≤ s.toks + 1 + 1 + 1; omega))
theorem walkT (hh : A.handled = none) (it q : Addr) (hne : q ≠ it) (items : Array Value) (hz : items.size ≤ sizeLine) : Walks prog w A it [it, q] [it] items.size (fun i v => items[items.size - 1 - i]? = some v) (StT it q items) where
  sub := fun b hb => by simp at hb; simp [hb]
  frame := fun _ _ _ x hk => ⟨x.1, x.2.1.at fun o e => hk it (by simp) o e, by
    obtain ⟨o, e, r⟩ := x.2.2
    exact ⟨o, hk q (by simp) o e, r⟩⟩
  item := fun i s Q E hi x hQ => by
    have e : (items.size : Int) - 1 - (i : Int) = ((items.size - 1 - i : Nat) : Int) := by omega
    have e2 : ((items.size - 1 - i : Nat) : Int) - 1 = (items.size : Int) - 1 - ((i + 1 : Nat) : Int) := by omega
    have hit := x.2.1
    rw [e] at hit
    have hx : items[items.size - 1 - i]? = some (items[items.size - 1 - i]'(by omega)) := Array.getElem?_eq_getElem (by omega)
    refine RV.next_item hit x.2.2 hx hz fun h' tk hit' sb => ?_
    rw [e2] at hit'
    refine hQ _ h' tk hx ⟨hi, hit', ?_⟩ fun b o hb eo => (sb.2 b fun z => hb (by simp [z])).trans eo
    obtain ⟨o, eo, r⟩ := x.2.2
    exact ⟨o, (sb.2 q hne).trans eo, r⟩
  done := fun s Q E x hQ => by
    have e : (items.size : Int) - 1 - (items.size : Int) = -1 := by omega
    have hit := x.2.1
    rw [e] at hit
    exact RV.next_end hh hit fun h' he => hQ h' s.toks fun b o hb eo => he b o (fun z => hb (by simp [z])) eo
  self := fun _ _ _ _ x hQ => RV.iter_self x.2.1 hQ
end
end GA
section
variable {X : Cx} {EX : XE} {L : Lc} {e a b tg : Expr} {fa fb fe : M D} {pos p pos' p' : Pos}
theorem items_rev {items acc : Array Value} (h : ItemsOf (fun i v => items[items.size - 1 - i]? = some v) acc items.size) : acc = items.toList.reverse.toArray := by
  obtain ⟨h1, h2⟩ := h
  apply Array.ext'
  refine List.ext_getElem? fun i => ?_
  by_cases hi : i < acc.size
  · have e := h2 i acc[i] (Array.getElem?_eq_getElem hi)
    have l : acc.toList[i]? = some acc[i] := by simp [hi]
    rw [l]
    simp only [List.toList_toArray]
    rw [List.getElem?_reverse (by simp; omega), ← e]
    simp
  · have hi2 : ¬ i < items.size := by omega
    rw [List.getElem?_eq_none (by simp; omega), List.getElem?_eq_none (by simp; omega)]
theorem moved_inv {pins : List (Addr × Obj)} {σ : St} {H : Hp} {s s' : Shared} {it : Addr} (I : Inv X pins σ H s) (hf : FpOk X pins H it) (m : Moved [it] (fun a b => b = a) s s') : Inv X pins σ H s' := by
  obtain ⟨hp, g, d, tk, os⟩ := s'
  obtain ⟨m1, m2, m3, m4, m5⟩ := m
  simp only at m1 m2 m3 m4 m5
  subst m2 m3 m4
  have hf' : ∀ b ∈ [it], FpOk X pins H b := fun b hb => by
    have e : b = it := by simpa using hb
    subst e
    exact hf
  exact Inv.turnedL (h' := hp) (tk := tk) (fp := [it]) I hf' m1
def rRevT (K : Frag) : List V → Hp → VK → Prop := fun xs H Q => ∃ t q ys, xs = [.ref q] ∧ SqS K H t q ys ∧ ∀ p, H p = none → Q (.ref p) (upd H p (.tup ys.reverse))
theorem pe_revT {t : TA} (hg : Gl X "reversed") (hm : X.mg "reversed" = none) (hgT : Gl X "tuple") (hmT : X.mg "tuple" = none) (hc : X.calm = true) (ha : PA X [a] t) (hs : starEach [a] X.env = [(false, eval a X.env)] := by rfl)
    (hs2 : starEach [.Call (.Name "reversed" p) [a] [] pos] X.env = [(false, eval (.Call (.Name "reversed" p) [a] [] pos) X.env)] := by rfl) : PE X (.Call (.Name "tuple" p') [.Call (.Name "reversed" p) [a] [] pos] [] pos') (tCB (rRevT X.K) t) := by
  intro pins s σ H Q I h
  refine wpAny_Call_Name_kw (ld_blt I hgT hmT boot_tuple (PyProof.Rows.callWith_type1 ?_ hs2 rfl))
  rw [hs2]
  refine Calls.spliced_cons (Call_ (ld_blt I hg hm boot_reversed (PyProof.Rows.callWith_type1 (thn (ha pos pins s σ H _ I h) fun us s1 ⟨vs, H1, I1, r1, q1⟩ => ?_) hs rfl)))
  obtain ⟨t, q, xs, e, sq, hR⟩ := q1
  subst e
  obtain ⟨u, rfl, ru⟩ := vals1 r1
  cases ru
  have fp : FpOk X pins H1 s1.heap.objs.size := I1.fpOk (Nat.le_refl _) (I1.hok.fresh (Nat.le_refl _))
  have fin : ∀ (o : Obj) (tk : Nat) (its : List Value) (s' : Shared) (acc : Array Value), Vals xs its → xs.length ≤ sizeLine → Moved [s1.heap.objs.size] (fun a b => b = a) { s1 with heap := s1.heap.push o, toks := tk } s' → ItemsOf (fun i v => its.toArray[its.toArray.size - 1 - i]? = some v) acc its.toArray.size →
      EP X pins σ Q (.ref s'.heap.objs.size) { s' with heap := s'.heap.push { cls := .type "tuple", data := .seq acc } } := fun o tk its s' acc rv hz m hi => by
    have I2 : Inv X pins σ H1 { s1 with heap := s1.heap.push o, toks := tk } := I1.kept (t' := tk) fun b o e => Heap.get?_push_of_some _ e
    have I3 := moved_inv I2 fp m
    rw [items_rev hi]
    refine ⟨.ref s'.heap.objs.size, _, I3.laid (t' := s'.toks) (o := .tup xs.reverse) (fun b ob q => Heap.get?_push_of_some _ q) (Nat.le_refl _) ?_, rfl, hR _ (I3.hok.fresh (Nat.le_refl _))⟩
    exact ⟨by rw [List.length_reverse]; exact hz, _, Vals.reverse rv, IsTup.new _ _⟩
  cases t with
  | false =>
    obtain ⟨its, rv, pl, hz⟩ := I1.list (show SqL X.K H1 q xs from sq)
    have hsz : its.toArray.size ≤ sizeLine := by rw [List.size_toArray, ← rv.length]; exact hz
    refine call_reversed_list pl.isList (Calls.spliced_nil ?_)
    have lt : q < s1.heap.objs.size := by obtain ⟨o, e, _⟩ := pl.isList; exact Heap.lt_size e
    have ri : Heap.IsRevIter (s1.heap.push (revObj q ((its.toArray.size : Int) - 1))) s1.heap.objs.size q ((its.toArray.size : Int) - 1 - ((0 : Nat) : Int)) := ⟨_, Heap.get?_push_size _ rfl, rfl, by simp [revObj]⟩
    have W := (Walks.listRev (prog := X.prog) (w := X.w) (A := X.A.in1.in1.in1) (I1.ok.hd hc) s1.heap.objs.size q (Nat.ne_of_lt lt) its.toArray).toS
    refine GA.call_tuple (T := "list_reverseiterator") (St := GA.StL s1.heap.objs.size q its.toArray) (s := { s1 with heap := s1.heap.push (revObj q ((its.toArray.size : Int) - 1)) }) (.inl rfl) W (fun i s st => st.2.1.typeIs) GA.hintL ⟨Nat.zero_le _, ri, ?_⟩ (fun b hb => ?_) (by simp) hsz fun s' acc m hi => fin _ s1.toks its s' acc rv hz m hi
    · exact pl.isList.at fun o e => Heap.get?_push_of_some _ e
    · simp only [List.mem_cons, List.not_mem_nil, or_false] at hb
      rcases hb with rfl | rfl
      · exact Heap.lt_size (Heap.get?_push_size _ rfl)
      · exact Nat.lt_trans lt (Heap.lt_size (Heap.get?_push_size _ rfl))
  | true =>
    obtain ⟨its, rv, tp, hz⟩ := I1.tuple (show SqT X.K H1 q xs from sq)
    have hsz : its.toArray.size ≤ sizeLine := by rw [List.size_toArray, ← rv.length]; exact hz
    refine RV.make tp hsz fun tk => Calls.spliced_nil ?_
    have lt : q < s1.heap.objs.size := by obtain ⟨o, e, _⟩ := tp; exact Heap.lt_size e
    have ri : RV.Is (s1.heap.push (RV.obj q ((its.toArray.size : Int) - 1))) s1.heap.objs.size q ((its.toArray.size : Int) - 1 - ((0 : Nat) : Int)) := ⟨_, Heap.get?_push_size _ rfl, rfl, by simp [RV.obj]⟩
    have W := (GA.walkT (prog := X.prog) (w := X.w) (A := X.A.in1.in1.in1) (I1.ok.hd hc) s1.heap.objs.size q (Nat.ne_of_lt lt) its.toArray hsz).toS
    refine GA.call_tuple (T := "reversed") (St := GA.StT s1.heap.objs.size q its.toArray) (s := { s1 with heap := s1.heap.push (RV.obj q ((its.toArray.size : Int) - 1)), toks := tk }) (.inr rfl) W (fun i s st => st.2.1.typeIs) (GA.hintT hsz) ⟨Nat.zero_le _, ri, ?_⟩ (fun b hb => ?_) (by simp) hsz fun s' acc m hi => fin _ tk its s' acc rv hz m hi
    · obtain ⟨o, e, r⟩ := tp; exact ⟨o, Heap.get?_push_of_some _ e, r⟩
    · simp only [List.mem_cons, List.not_mem_nil, or_false] at hb
      rcases hb with rfl | rfl
      · exact Heap.lt_size (Heap.get?_push_size _ rfl)
      · exact Nat.lt_trans lt (Heap.lt_size (Heap.get?_push_size _ rfl))
theorem g_revT : F1G L (rRevT L.K) revT := fun G F H σ ρ x dx d Q g0 rx e k => by
  unfold revT at e
  cases e1 : seqD dx with
  | none => rw [e1] at e; cases e
  | some ds =>
    rw [e1] at e
    cases e
    obtain ⟨t, q, vs, rfl, r, z⟩ := RR.seqS rx g0 e1
    refine ⟨t, q, vs, rfl, z, fun p hp => ?_⟩
    have sF := same_upd (o := .tup vs.reverse) (g0.sub.free hp)
    exact k _ _ _ sF (g0.laid hp) (.tup (SqT.of upd_same) ((DenL.reverse r).same sF))
theorem pv_revT (hg : Gl X "reversed") (hm : X.mg "reversed" = none) (hgT : Gl X "tuple") (hmT : X.mg "tuple" = none) (ha : PR X EX a fa) (hc : X.calm = true := by rfl) (hs : starEach [a] X.env = [(false, eval a X.env)] := by rfl)
    (hs2 : starEach [.Call (.Name "reversed" p) [a] [] pos] X.env = [(false, eval (.Call (.Name "reversed" p) [a] [] pos) X.env)] := by rfl) : PV X EX (.Call (.Name "tuple" p') [.Call (.Name "reversed" p) [a] [] pos] [] pos') (m1 revT fa) :=
  (pe_revT hg hm hgT hmT hc (pa_one ha hs) hs hs2).le fun σ H Q ⟨G, F, ρ, g0, o⟩ => at_bnd g0 o (fun x r q => q) fun F1 H1 ρ1 d1 x s1 g1 r1 o1 => by
    obtain ⟨d, e, q⟩ := o1.opt
    exact g_revT G F1 H1 σ ρ1 x d1 d Q g1 r1 e (Post.same s1 q)
end
end VS

end
section
set_option linter.all false
set_option maxRecDepth 100000
namespace VS
open PySem PySem.Spec PyProof.Rows L2 VP
namespace GA
section
variable {prog : Program} {w : World} {A : Around} {E : Value → Shared → Prop} {s : Shared} {I : Addr} {fp wr : List Addr} {n : Nat} {P : Nat → Value → Prop} {St : Nat → Heap → Prop} {T : String}
theorem fill_list {R : Result → Shared → Prop} (h2 : Two T) (W : WalksS prog w A.in1 I fp wr (fun a b => b = a) n P (fun i s => St i s.heap)) (hT : ∀ (i : Nat) (s : Shared), St i s.heap → s.TypeIs (.ref I) T) (hh : Hint prog w A.in1 I St) (S : Addr) (hst : St 0 s.heap) (hSf : S ∉ fp) (hI : I ∈ fp)
    (hS : s.heap.get? S = some { cls := .type "list", data := .seq #[] }) (hn : n ≤ sizeLine)
    (hR : ∀ s' acc c, Moved (S :: wr) (fun a b => b = a) s s' → s'.heap.get? S = some { cls := .type "list", dict := none, data := .seq acc c, slots := #[] } → ItemsOf P acc n → R (.ok (.ret .none)) s') :
    wpAny (model prog w) A.in1 (Builtin.«list.__init__» ⟨[.ref S, .ref I], []⟩)
      (fun fin s' => match fin with | .done f => R (.ok f) s' | .again c' => c'.quiet = true ∧ codeAny (model prog w) A c' R s') (fun e s' => R (.error e) s') s := by
  have q2 := Heap.get?_update_self (Obj.mapSeq (fun _ => (#[] : Array Value))) hS rfl
  have oth : ∀ b o, b ≠ S → s.heap.get? b = some o → (s.heap.update S (Obj.mapSeq (fun _ => (#[] : Array Value)))).get? b = some o := fun b o hb e => by
    rw [Heap.get?_update_other _ _ (Ne.symm hb)]; exact e
  refine wpAny_bind (m := Builtin.List.listItems (.ref S)) ?_
  unfold Builtin.List.listItems
  refine wpAny_bind (wpAny_seqItems hS rfl (wpAny_pure ?_))
  refine wpAny_bind (m := updateSeq S (fun _ => #[])) (wpAny_updateSeq hS rfl (wpAny_bind (wpAny_letGo ?_)))
  refine extend (s := { s with heap := s.heap.update S (Obj.mapSeq (fun _ => (#[] : Array Value))) }) h2 W hT hh S .none _ (W.frame 0 s _ s.toks hst (Nat.le_refl _) fun b hb o e => oth b o (fun z => hSf (z ▸ hb)) e) hSf hI q2 hn fun s' acc c hm hS' hacc => hR s' acc c ?_ hS' hacc
  have mv : Moved (S :: wr) (fun a b => b = a) s { s with heap := s.heap.update S (Obj.mapSeq (fun _ => (#[] : Array Value))) } := ⟨fun b o hb e => oth b o (fun z => hb (by rw [z]; exact List.mem_cons_self)) e, rfl, rfl, rfl, Nat.le_refl _⟩
  exact Moved.trans W.gtrans mv hm
theorem call_list {Q : Value → Shared → Prop} (h2 : Two T) (W : WalksS prog w A.in1.in1 I fp wr (fun a b => b = a) n P (fun i s => St i s.heap)) (hT : ∀ (i : Nat) (s : Shared), St i s.heap → s.TypeIs (.ref I) T) (hh : Hint prog w A.in1.in1 I St) (hst : St 0 s.heap) (hfp : ∀ b ∈ fp, b < s.heap.objs.size) (hI : I ∈ fp) (hn : n ≤ sizeLine)
    (hQ : ∀ s' acc c, Moved (s.heap.objs.size :: wr) (fun a b => b = a) { s with heap := s.heap.push { cls := .type "list", data := .seq #[] } } s' → s'.heap.get? s.heap.objs.size = some { cls := .type "list", dict := none, data := .seq acc c, slots := #[] } → ItemsOf P acc n → Q (.ref s.heap.objs.size) s') :
    wpAny (model prog w) A (call (.type "list") [.ref I]) Q E s := by
  have hSf : s.heap.objs.size ∉ fp := fun hm => Nat.lt_irrefl _ (hfp _ hm)
  have hS : (s.heap.push { cls := .type "list", data := .seq #[] }).get? s.heap.objs.size = some { cls := .type "list", data := .seq #[] } := Heap.get?_push_size _ rfl
  refine callType_codes (Q₁ := fun obj s₁ => obj = .ref s.heap.objs.size ∧ s₁ = { s with heap := s.heap.push { cls := .type "list", data := .seq #[] } }) PySem.F.called_list (PySem.F.typeCall_list_1 _) PySem.F.entry_list_init (code_list_new _ ⟨rfl, rfl⟩) fun obj s₁ z => ?_
  obtain ⟨rfl, rfl⟩ := z
  refine ⟨⟨_, hS, rfl⟩, PySem.F.args_list_init_2 _ _, ?_⟩
  exact fill_list (s := { s with heap := s.heap.push { cls := .type "list", data := .seq #[] } }) h2 W hT hh _ (W.frame 0 s _ s.toks hst (Nat.le_refl _) fun b _ o e => Heap.get?_push_of_some _ e) hSf hI hS hn fun s' acc c hm hS' hacc => ⟨rfl, hQ s' acc c hm hS' hacc⟩
end
end GA
section
variable {X : Cx} {EX : XE} {L : Lc} {a : Expr} {fa : M D} {p pos p' pos' : Pos}
def rRevL (K : Frag) : List V → Hp → VK → Prop := fun xs H Q => ∃ t q ys, xs = [.ref q] ∧ SqS K H t q ys ∧ ∀ p, H p = none → Q (.ref p) (upd H p (.lst ys.reverse))
theorem pe_revL {t : TA} (hg : Gl X "reversed") (hm : X.mg "reversed" = none) (hgT : Gl X "list") (hmT : X.mg "list" = none) (hc : X.calm = true) (ha : PA X [a] t) (hs : starEach [a] X.env = [(false, eval a X.env)] := by rfl)
    (hs2 : starEach [.Call (.Name "reversed" p) [a] [] pos] X.env = [(false, eval (.Call (.Name "reversed" p) [a] [] pos) X.env)] := by rfl) : PE X (.Call (.Name "list" p') [.Call (.Name "reversed" p) [a] [] pos] [] pos') (tCB (rRevL X.K) t) := by
  intro pins s σ H Q I h
  refine wpAny_Call_Name_kw (ld_blt I hgT hmT boot_list (PyProof.Rows.callWith_type1 ?_ hs2 rfl))
  rw [hs2]
  refine Calls.spliced_cons (Call_ (ld_blt I hg hm boot_reversed (PyProof.Rows.callWith_type1 (thn (ha pos pins s σ H _ I h) fun us s1 ⟨vs, H1, I1, r1, q1⟩ => ?_) hs rfl)))
  obtain ⟨t, q, xs, e, sq, hR⟩ := q1
  subst e
  obtain ⟨u, rfl, ru⟩ := vals1 r1
  cases ru
  have fp : FpOk X pins H1 s1.heap.objs.size := I1.fpOk (Nat.le_refl _) (I1.hok.fresh (Nat.le_refl _))
  have fin : ∀ (o : Obj) (tk : Nat) (its : List Value) (s' : Shared) (acc : Array Value) (c : Nat), Vals xs its → xs.length ≤ sizeLine →
      Moved ((s1.heap.push o).objs.size :: [s1.heap.objs.size]) (fun a b => b = a) { s1 with heap := (s1.heap.push o).push { cls := .type "list", data := .seq #[] }, toks := tk } s' → s'.heap.get? (s1.heap.push o).objs.size = some { cls := .type "list", dict := none, data := .seq acc c, slots := #[] } →
      ItemsOf (fun i v => its.toArray[its.toArray.size - 1 - i]? = some v) acc its.toArray.size → EP X pins σ Q (.ref (s1.heap.push o).objs.size) s' := fun o tk its s' acc c rv hz m hl hi => by
    obtain ⟨hp, g, d, tk', os⟩ := s'
    obtain ⟨m1, m2, m3, m4, m5⟩ := m
    simp only at m1 m2 m3 m4 m5 hl
    subst m2 m3 m4
    have hsz : (s1.heap.push o).objs.size = s1.heap.objs.size + 1 := by simp [Heap.push]
    rw [items_rev hi] at hl
    refine ⟨.ref (s1.heap.push o).objs.size, _, I1.laid (t' := tk') (o := .lst xs.reverse) (fun b ob q => ?_) (by rw [hsz]; exact Nat.le_succ _) ⟨by rw [List.length_reverse]; exact hz, _, c, Vals.reverse rv, hl⟩, rfl, hR _ (I1.hok.fresh (by rw [hsz]; exact Nat.le_succ _))⟩
    have lt := Heap.lt_size q
    have n1 : b ≠ (s1.heap.push o).objs.size := Nat.ne_of_lt (Nat.lt_of_lt_of_le lt (by rw [hsz]; exact Nat.le_succ _))
    have n2 : b ≠ s1.heap.objs.size := Nat.ne_of_lt lt
    exact m1 b ob (by simp only [List.mem_cons, List.not_mem_nil, or_false, not_or]; exact ⟨n1, n2⟩) (Heap.get?_push_of_some _ (Heap.get?_push_of_some _ q))
  cases t with
  | false =>
    obtain ⟨its, rv, pl, hz⟩ := I1.list (show SqL X.K H1 q xs from sq)
    have hsz : its.toArray.size ≤ sizeLine := by rw [List.size_toArray, ← rv.length]; exact hz
    refine call_reversed_list pl.isList (Calls.spliced_nil ?_)
    have lt : q < s1.heap.objs.size := by obtain ⟨o, e, _⟩ := pl.isList; exact Heap.lt_size e
    have ri : Heap.IsRevIter (s1.heap.push (revObj q ((its.toArray.size : Int) - 1))) s1.heap.objs.size q ((its.toArray.size : Int) - 1 - ((0 : Nat) : Int)) := ⟨_, Heap.get?_push_size _ rfl, rfl, by simp [revObj]⟩
    have W := (Walks.listRev (prog := X.prog) (w := X.w) (A := X.A.in1.in1) (I1.ok.hd hc) s1.heap.objs.size q (Nat.ne_of_lt lt) its.toArray).toS
    refine GA.call_list (T := "list_reverseiterator") (St := GA.StL s1.heap.objs.size q its.toArray) (s := { s1 with heap := s1.heap.push (revObj q ((its.toArray.size : Int) - 1)) }) (.inl rfl) W (fun i s st => st.2.1.typeIs) GA.hintL ⟨Nat.zero_le _, ri, ?_⟩ (fun b hb => ?_) (by simp) hsz fun s' acc c m hl hi => fin _ s1.toks its s' acc c rv hz m hl hi
    · exact pl.isList.at fun o e => Heap.get?_push_of_some _ e
    · simp only [List.mem_cons, List.not_mem_nil, or_false] at hb
      rcases hb with rfl | rfl
      · exact Heap.lt_size (Heap.get?_push_size _ rfl)
      · exact Nat.lt_trans lt (Heap.lt_size (Heap.get?_push_size _ rfl))
  | true =>
    obtain ⟨its, rv, tp, hz⟩ := I1.tuple (show SqT X.K H1 q xs from sq)
    have hsz : its.toArray.size ≤ sizeLine := by rw [List.size_toArray, ← rv.length]; exact hz
    refine RV.make tp hsz fun tk => Calls.spliced_nil ?_
    have lt : q < s1.heap.objs.size := by obtain ⟨o, e, _⟩ := tp; exact Heap.lt_size e
    have ri : RV.Is (s1.heap.push (RV.obj q ((its.toArray.size : Int) - 1))) s1.heap.objs.size q ((its.toArray.size : Int) - 1 - ((0 : Nat) : Int)) := ⟨_, Heap.get?_push_size _ rfl, rfl, by simp [RV.obj]⟩
    have W := (GA.walkT (prog := X.prog) (w := X.w) (A := X.A.in1.in1) (I1.ok.hd hc) s1.heap.objs.size q (Nat.ne_of_lt lt) its.toArray hsz).toS
    refine GA.call_list (T := "reversed") (St := GA.StT s1.heap.objs.size q its.toArray) (s := { s1 with heap := s1.heap.push (RV.obj q ((its.toArray.size : Int) - 1)), toks := tk }) (.inr rfl) W (fun i s st => st.2.1.typeIs) (GA.hintT hsz) ⟨Nat.zero_le _, ri, ?_⟩ (fun b hb => ?_) (by simp) hsz fun s' acc c m hl hi => fin _ tk its s' acc c rv hz m hl hi
    · obtain ⟨o, e, r⟩ := tp; exact ⟨o, Heap.get?_push_of_some _ e, r⟩
    · simp only [List.mem_cons, List.not_mem_nil, or_false] at hb
      rcases hb with rfl | rfl
      · exact Heap.lt_size (Heap.get?_push_size _ rfl)
      · exact Nat.lt_trans lt (Heap.lt_size (Heap.get?_push_size _ rfl))
theorem pf_revL (hg : Gl X "reversed") (hm : X.mg "reversed" = none) (hgT : Gl X "list") (hmT : X.mg "list" = none) (ha : PR X EX a fa) (hc : X.calm = true := by rfl) (hs : starEach [a] X.env = [(false, eval a X.env)] := by rfl)
    (hs2 : starEach [.Call (.Name "reversed" p) [a] [] pos] X.env = [(false, eval (.Call (.Name "reversed" p) [a] [] pos) X.env)] := by rfl) : PF X EX (.Call (.Name "list" p') [.Call (.Name "reversed" p) [a] [] pos] [] pos') (m1 revL fa) :=
  (pe_revL hg hm hgT hmT hc (pa_one ha hs) hs hs2).le fun σ H Q ⟨G, F, ρ, g0, o⟩ => at_bnd g0 o (fun x r q => q) fun F1 H1 ρ1 d1 x s1 g1 r1 o1 => by
    obtain ⟨d, e, q⟩ := o1.opt
    unfold revL at e
    cases e1 : seqD d1 with
    | none => rw [e1] at e; cases e
    | some ds =>
      rw [e1] at e
      cases e
      obtain ⟨t, b, vs, rfl, r, z⟩ := RR.seqS r1 g1 e1
      refine ⟨t, b, vs, rfl, z, fun p hp => ?_⟩
      have ob : Obj1 (lc X EX).K (lc X EX).mg F1 (upd H1 p (.lst vs.reverse)) p (.lst ds.reverse) := ⟨_, upd_same, DenL.reverse r⟩
      exact q F1 _ _ s1 (g1.made hp) ⟨p, rfl, g1.loose hp ob⟩
def rAll (K : Frag) (al : Bool) : List V → Hp → VK → Prop := fun xs H Q => ∃ (q : Addr) (bs : List Bool), xs = [.ref q] ∧ SqL K H q (bs.map V.bl) ∧ Q (.bl (if al then bs.all id else bs.any id)) H
theorem bools_are : ∀ {bs : List Bool} {us : List Value}, Vals (bs.map V.bl) us → us = bs.map Value.bool
  | [], _, h => by cases h; rfl
  | b :: bs, _, h => by
    cases h with
    | cons h1 h2 => rw [bools_are h2, List.map_cons]; cases (show _ = Value.bool b from h1); rfl
theorem range_all (bs : List Bool) : (List.range bs.length).all (fun i => bs.getD i false) = bs.all id ∧ (List.range bs.length).any (fun i => bs.getD i false) = bs.any id := by
  have e : (List.range bs.length).map (fun i => bs.getD i false) = bs := by
    apply List.ext_getElem
    · simp
    · intro i h1 h2; simp [h2]
  refine ⟨?_, ?_⟩
  · rw [show bs.all id = ((List.range bs.length).map fun i => bs.getD i false).all id by rw [e], List.all_map]; rfl
  · rw [show bs.any id = ((List.range bs.length).map fun i => bs.getD i false).any id by rw [e], List.any_map]; rfl
theorem call_allB (hc : X.calm = true) (al : Bool) : CallR X (.builtin (if al then "all" else "any")) (rAll X.K al) := by
  intro pins s σ H xs us Q I r h
  obtain ⟨q, bs, rfl, hq, k⟩ := h
  obtain ⟨u, rfl, ru⟩ := vals1 r
  cases ru
  obtain ⟨its, rv, pl, hz⟩ := I.list hq
  have e := bools_are rv
  subst e
  have lt : q < s.heap.objs.size := by obtain ⟨o, e, _⟩ := pl.isList; exact Heap.lt_size e
  have hh : X.A.in1.handled = none := I.ok.hd hc
  have W := Walks.list (prog := X.prog) (w := X.w) (A := X.A.in1) hh s.heap.objs.size q (Nat.ne_of_lt lt) (bs.map Value.bool).toArray
  have st : (fun i (h : Heap) => h.IsListIter s.heap.objs.size q i ∧ h.IsList q (bs.map Value.bool).toArray) 0 (s.heap.push { cls := .type "list_iterator", data := .fields #[.ref q, .int 0 0] }) :=
    ⟨⟨_, Heap.get?_push_size _ rfl, rfl, rfl⟩, pl.isList.push _⟩
  have tr : TruthOf X.prog X.w X.A.in1 (fun i v => (bs.map Value.bool).toArray[i]? = some v) (fun i => bs.getD i false) := fun i v s Q E hP hQ => by
    have hP' : bs[i]?.map Value.bool = some v := by simpa using hP
    cases e : bs[i]? with
    | none => rw [e] at hP'; cases hP'
    | some b =>
      rw [e] at hP'
      cases hP'
      have : bs.getD i false = b := by simp [e]
      dsimp only at hQ
      rw [this] at hQ
      exact wpAny_truthy_bool hQ
  have kp : ∀ (h' : Heap), (∀ b o, b ∉ [s.heap.objs.size] → (s.heap.push { cls := .type "list_iterator", data := .fields #[.ref q, .int 0 0] }).get? b = some o → h'.get? b = some o) → ∀ b o, s.heap.get? b = some o → h'.get? b = some o := fun h' hk b o e => by
    have lt := Heap.lt_size e
    have n1 : b ≠ s.heap.objs.size := Nat.ne_of_lt lt
    exact hk b o (by simp [n1]) (Heap.get?_push_of_some _ e)
  have hsz : (bs.map Value.bool).toArray.size = bs.length := by simp
  cases al with
  | true =>
    refine call_all_walk (wpAny_pyIter_list pl.isList ⟨_, _, _, _, _, _, _, rfl, W, st, tr, fun h' tk hk => ?_⟩)
    rw [hsz, (range_all bs).1]
    exact ⟨.bl _, H, I.kept (kp h' hk), rfl, k⟩
  | false =>
    refine call_any_walk (wpAny_pyIter_list pl.isList ⟨_, _, _, _, _, _, _, rfl, W, st, tr, fun h' tk hk => ?_⟩)
    rw [hsz, (range_all bs).2]
    exact ⟨.bl _, H, I.kept (kp h' hk), rfl, k⟩
theorem bls_of {K : Frag} {mg : MG} {F : Hp} : ∀ {vs : List V} {ds : List D} {bs : List Bool}, DenL K mg F vs ds → boolsD ds = some bs → vs = bs.map V.bl
  | _, _, _, .nil, e => by cases e; rfl
  | _, _, _, .cons (d := d) h t, e => by
    cases d with
    | bl b =>
      cases h
      simp only [boolsD] at e
      cases q : boolsD _ with
      | none => rw [q] at e; cases e
      | some bs =>
        rw [q] at e
        cases e
        rw [bls_of t q]; rfl
    | _ => cases e
theorem g_allB (al : Bool) : F1G L (rAll L.K al) (allD al) := fun G F H σ ρ x dx d Q g0 rx e k => by
  cases dx with
  | lst ds =>
    simp only [allD] at e
    cases e2 : boolsD ds with
    | none => rw [e2] at e; cases e
    | some bs =>
      rw [e2] at e
      cases e
      obtain ⟨q, vs, rfl, r, z⟩ := RR.seq rx g0 rfl
      rcases z with ⟨_, z⟩ | ⟨z, _⟩
      · rw [bls_of r e2] at z
        exact ⟨q, bs, rfl, z, k F H _ (Same.refl _) g0 (.bl _)⟩
      · cases z
  | _ => cases e
theorem call_anyT (hc : X.calm = true) : CallR X (.builtin "any") (rAll X.K false) := call_allB hc false
theorem boot_any : bootBuiltins "any" = some (.builtin "any") := by kernel_rfl
theorem setAt_good {L : Lc} {G : Fx} {F H : Hp} {σ : St} {ρ : Rho} {k : Nat} {kd x : D} {v : V} {P : Unit → Rho → Prop} {E : Xn → Rho → Prop} (g : L.Good G F H σ ρ) (r : Den L.K L.mg F v x) (o : Out (mUpd k (setAt kd x) ρ) P E) :
    ∃ l vs i j ρ', kd = .int i ∧ σ[k]? = some (some (V.ref l)) ∧ H l = some (.lst vs) ∧ ixN vs.length i = some j ∧ L.Good G F (upd H l (.lst (vs.set j v))) σ ρ' ∧ P () ρ' := by
  unfold mUpd at o
  cases q : own ρ[k]? with
  | none => rw [q] at o; exact o.elim
  | some d =>
    rw [q] at o
    dsimp only at o
    cases q2 : setAt kd x d with
    | none => rw [q2] at o; exact o.elim
    | some d' =>
      rw [q2] at o
      have o' : P () (putS k d' ρ) := o
      cases d with
      | lst ds =>
        cases kd with
        | int i =>
          simp only [setAt] at q2
          cases q4 : ixP ds.length i with
          | none => rw [q4] at q2; cases q2
          | some j =>
            rw [q4] at q2
            cases q2
            cases q3 : ρ[k]? with
            | none => rw [q3] at q; cases q
            | some s =>
              rw [q3] at q
              have sl := g.slot k s q3
              have fin : ∀ l s', σ[k]? = some (some (V.ref l)) → Owned s = true → Obj1 L.K L.mg F H l (.lst ds) → ((∃ e, s = .ow e ∧ s' = .ow (.lst (ds.set j x))) ∨ (∃ e, s = .io e ∧ s' = .io (.lst (ds.set j x)))) → putS k (.lst (ds.set j x)) ρ = ρ.set k s' →
                  ∃ l vs i' j ρ', D.int i = .int i' ∧ σ[k]? = some (some (V.ref l)) ∧ H l = some (.lst vs) ∧ ixN vs.length i' = some j ∧ L.Good G F (upd H l (.lst (vs.set j v))) σ ρ' ∧ P () ρ' := fun l s' z1 z2 z3 z4 z5 => by
                obtain ⟨vs, y1, y2⟩ := z3
                refine ⟨l, vs, i, j, _, rfl, z1, y1, by rw [y2.length]; exact q4, Good.write g q3 z2 z1 z4 ⟨_, upd_same, y2.set j r⟩, ?_⟩
                rw [← z5]; exact o'
              cases s with
              | no => cases q
              | sh e => cases q
              | ow e =>
                cases q
                obtain ⟨l, z1, z2, z3, z4⟩ := sl
                exact fin l _ (join_some z1) rfl z4 (.inl ⟨_, rfl, rfl⟩) (by unfold putS; rw [q3])
              | io e =>
                cases q
                obtain ⟨l, z1, z2, z3, z4⟩ := sl
                exact fin l _ (join_some z1) rfl z4 (.inr ⟨_, rfl, rfl⟩) (by unfold putS; rw [q3])
        | _ => cases q2
      | _ => cases q2
variable {b value : Expr} {fk fv : M D} {x : Str}
theorem vs_setIx (i : Nat) {p1 p2 p3 : Pos} (hk : PV X EX b fk) (hv : PV X EX value fv) (hN : X.N[i]? = some x := by rfl) (hvs : Vis X.env.scope x := by first | exact Or.inl rfl | exact Or.inr (Or.inl rfl) | exact Or.inr (Or.inr rfl)) (hd : (x == ("__debug__" : Str)) = false := by decide)
    (hcd : (x == ("__classdict__" : Str)) = false := by decide) (hs : swapsWithSole [.Subscript (.Name x p1) b p2] value p3.line X.env = pure false := by rfl) (hw : swappedStores [.Subscript (.Name x p1) b p2] value X.env = pure none := by rfl)
    (h1 : (assignEach [.Subscript (.Name x p1) b p2] X.env).map (·.2) = [assign (.Subscript (.Name x p1) b p2) X.env] := by rfl)
    (ha : ∀ v, assign (.Subscript (.Name x p1) b p2) X.env v = (do
      let ov ← holding [v] (eval (.Name x p1) X.env)
      let iv ← holding [v, ov] (eval b X.env)
      standAt p2
      holding [v, ov, iv] (setItem ov iv v)
      release [v, ov, iv] []) := by intro _; rfl) : PVS X EX (.Assign [.Subscript (.Name x p1) b p2] value p3) (sSetIx i fk fv) :=
  (ps_asg hv (pg_sub (pe_var hN hvs hd hcd) hk set_list ha) hs hw h1).le fun E σ H ⟨G, F, ρ, g0, o⟩ => at_bnd g0 o (fun x r q => q.x) fun F1 H1 ρ1 d1 v s1 g1 r1 o1 => by
    by_cases hl : isLst (own ρ1[i]?) = true
    · rw [if_pos hl] at o1
      obtain ⟨l, vs, z1, z2⟩ := isLst_slot (L := lc X EX) g1 hl
      refine ⟨_, z1, at_bnd g1 o1 (fun x r q => (q.same s1).x) fun F2 H2 ρ2 d2 y s2 g2 r2 o2 => ?_⟩
      obtain ⟨l', vs', k, j, ρ', y0, y1, y2, y3, g3, q⟩ := setAt_good (L := lc X EX) g2 (r1.same s2) (Out.bnd o2)
      rw [z1] at y1
      cases y1
      subst y0
      cases r2
      exact ⟨l, vs', k, j, rfl, rfl, y2, y3, q F2 _ σ (s1.trans s2) g3⟩
    · rw [if_neg hl] at o1; exact o1.elim
end
end VS

end
section
set_option linter.all false
set_option maxRecDepth 100000
namespace VS
open PySem PySem.Spec PyProof.Rows L2 VP
section
variable {X : Cx} {EX : XE} {L : Lc} {e a b c : Expr} {fa fb fc fe : M D} {pos : Pos} {x : Str}
theorem FlatD.dens : ∀ {ds : List D} {us : List Value}, Paired FlatD ds us → ∃ vs : List V, Vals vs us ∧ ∀ (K : Frag) (mg : MG) (F : Hp), DenL K mg F vs ds
  | _, _, .nil => ⟨[], .nil, fun _ _ _ => .nil⟩
  | _, _, .cons h t => by
    obtain ⟨v, r, d⟩ := h.den
    obtain ⟨vs, rs, es⟩ := FlatD.dens t
    exact ⟨v :: vs, .cons r rs, fun K mg F => .cons (d K mg F) (es K mg F)⟩
def ValK (K : Frag) (d : D) (v : Value) : Prop := FlatD d v ∨ ∃ (ds : List D) (q : Addr) (its : Array Value) (n : Nat), d = .tup ds ∧ v = .ref q ∧ K.lookup q = some ⟨.type "tuple", none, .seq its n, #[]⟩ ∧ its.size ≤ sizeLine ∧ Paired FlatD ds its.toList
theorem ValK.den {K : Frag} {d : D} {v : Value} (h : ValK K d v) : ∃ u : V, RelV u v ∧ ∀ (mg : MG) (F : Hp), Den K mg F u d := by
  rcases h with h | ⟨ds, q, its, n, rfl, rfl, hl, hz, hp⟩
  · obtain ⟨u, r, d⟩ := h.den
    exact ⟨u, r, fun mg F => d K mg F⟩
  · obtain ⟨vs, rs, es⟩ := FlatD.dens hp
    exact ⟨.ref q, rfl, fun mg F => .tup (.inr ⟨_, its, n, hl, rfl, rfl, hz, rs⟩) (es K mg F)⟩
theorem valT {K : Frag} {ds : List D} {q : Addr} {its : Array Value} {n : Nat} (hl : K.lookup q = some ⟨.type "tuple", none, .seq its n, #[]⟩) (hz : its.size ≤ sizeLine) (hp : Paired FlatD ds its.toList) : ValK K (.tup ds) (.ref q) := .inr ⟨ds, q, its, n, rfl, rfl, hl, hz, hp⟩
structure TabT (w : World) (K : Frag) (mg : MG) (x : Str) (t : List (Str × D)) (ab : List Str) : Prop where
  ex : ∃ (q : Addr) (es : Array DictEntry) (n : Nat), mg x = some (.ref q) ∧ (q == sysModules) = false ∧ K.lookup q = some ⟨.type "dict", none, .dict es n, #[]⟩ ∧ PySem.W.KeysLit w.params es.toList ∧ (∀ k d, t.lookup k = some d → ∃ v, PySem.W.nsIn K q k = some (some v) ∧ ValK K d v) ∧ ∀ k ∈ ab, PySem.W.nsIn K q k = some none
theorem tabT_all {K : Frag} {q : Addr} {t : List (Str × D)} (h : ∀ p ∈ t, ∃ v, PySem.W.nsIn K q p.1 = some (some v) ∧ ValK K p.2 v) : ∀ k d, t.lookup k = some d → ∃ v, PySem.W.nsIn K q k = some (some v) ∧ ValK K d v :=
  fun k d e => h (k, d) (PySem.mem_of_lookup e)
theorem pv_tabT {t : List (Str × D)} {ab : List Str} {p : Pos} (T : TabT X.w X.K X.mg x t ab) (hg : Gl X x) (hb : PV X EX b fb) (hdb : (x == ("__debug__" : Str)) = false := by decide)
    (hs : ∀ (q : Addr) (k : Str) (tk : Tok), subscripted b false (.ref q) (.str k tk) = operate [.ref q, .str k tk] (getItem (.ref q) (.str k tk)) := by intro _ _ _; with_unfolding_all rfl) :
    PV X EX (.Subscript (.Name x p) b pos) (m1 (tabD t) fb) := by
  intro pins s σ H Q I h
  obtain ⟨G, F, ρ, g0, o⟩ := h
  obtain ⟨q, es, n, hm, _, hl, hk, hv, _⟩ := T.ex
  refine Subscript_ (ld_glob I hg hm ?_ hdb)
  refine thn (hb pins s σ H _ I (at_bnd g0 o (fun x r q => q) fun F1 H1 ρ1 d1 y s1 g1 r1 o1 => (⟨F1, ρ1, d1, s1, g1, r1, o1⟩ : ∃ F1 ρ1 d1, Same F F1 ∧ (lc X EX).Good G F1 H1 σ ρ1 ∧ Den X.K X.mg F1 y d1 ∧ Out (opt (tabD t d1) ρ1) (Post (lc X EX) (RV (lc X EX)) G F σ Q) (PostX (lc X EX) G F σ)))) fun u s2 ⟨y, H2, I2, r2, F1, ρ1, d1, s1, g1, den, o1⟩ => ?_
  obtain ⟨d, e1, q1⟩ := o1.opt
  cases d1 with
  | str k =>
    cases den
    obtain ⟨tk, rfl⟩ := r2
    obtain ⟨v, hn, fl⟩ := hv k d e1
    obtain ⟨u2, ru, den2⟩ := fl.den
    have hm2 := PySem.W.mapOf_K (prog := X.prog) (w := X.w) I2.kIn hl hk
    refine PyProof.Rows.tail_any hm2.typeIs slot_dict_getitem.lookup (wpAny_getItem_of (strKind_is X.prog X.w k tk) hm2 (PySem.W.find_K hl hn) ?_) (hs q k tk)
    exact ⟨u2, H2, I2.tok _, ru, q1 F1 H2 u2 s1 g1 (den2 _ F1)⟩
  | _ => cases e1
theorem tB_of {e : Expr} {f : M D} {t : TE} {tt : TT} (hp : PT X e tt) (k : ∀ σ H Q, t σ H (fun v H1 => ∃ b, v = .bl b ∧ Q b H1) → tt σ H Q) (hl : ∀ σ H Q, lift (lc X EX) (RV (lc X EX)) f σ H Q → t σ H Q) : PB X EX e (VP.tB f) :=
  hp.le fun σ H Q ⟨G, F, ρ, g0, o⟩ => k σ H Q (hl σ H _ (at_bnd g0 o (fun x r q => q) fun F1 H1 ρ1 d1 x s1 g1 r1 o1 => by
    cases d1 with
    | bl k => cases r1; exact ⟨k, rfl, o1 F1 H1 k s1 g1 rfl⟩
    | _ => exact o1.elim))
theorem flat_den {K : Frag} {mg : MG} {F : Hp} {v : V} {d : D} (r : Den K mg F v d) (f : flatD d = true) : flatV v = true := by
  cases r <;> first | rfl | cases f
theorem eqV_den {K : Frag} {mg : MG} {F : Hp} {v w : V} {d e : D} (r : Den K mg F v d) (q : Den K mg F w e) (f : flatD d = true) (f2 : flatD e = true) : eqV v w = eqB d e := by
  cases r <;> cases q <;> first | rfl | cases f | cases f2
theorem inV_den {K : Frag} {mg : MG} {F : Hp} {v : V} {d : D} (r : Den K mg F v d) (f : flatD d = true) : ∀ {vs : List V} {ds : List D}, DenL K mg F vs ds → ds.all flatD = true → vs.all flatV = true ∧ inV v vs = ds.any fun y => eqB y d
  | _, _, .nil, _ => ⟨rfl, rfl⟩
  | _, _, .cons h t, fs => by
    rw [List.all_cons, Bool.and_eq_true] at fs
    obtain ⟨i1, i2⟩ := inV_den r f t fs.2
    refine ⟨?_, ?_⟩
    · rw [List.all_cons, flat_den h fs.1, i1]; rfl
    · unfold inV at i2 ⊢
      rw [List.any_cons, List.any_cons, i2, eqV_den h r fs.1 f]
theorem g_in (neg : Bool) : OpG L (rIn L.K neg) (inD neg) := fun G F H σ ρ x y dx dy d Q g0 rx ry e k => by
  unfold inD at e
  cases e1 : seqD dy with
  | none => rw [e1] at e; cases e
  | some ds =>
    rw [e1] at e
    dsimp only at e
    split at e
    · rename_i hf
      rw [Bool.and_eq_true] at hf
      cases e
      obtain ⟨t, q, vs, rfl, hq, r⟩ := Den.seq ry e1
      obtain ⟨i1, i2⟩ := inV_den rx hf.1 r hf.2
      refine ⟨q, vs, rfl, ?_, flat_den rx hf.1, i1, ?_⟩
      · have := SqS.same hq g0.sub
        cases t
        · exact .inl this
        · exact .inr this
      · rw [i2]; exact k F H _ (Same.refl _) g0 (.bl _)
    · cases e
end
end VS

end
section
set_option linter.all false
set_option maxRecDepth 100000
namespace VS
open PySem PySem.Spec PyProof.Rows L2 VP
section
variable {K : Frag} {mg : MG} {G : Fx} {F H : Hp} {σ : St} {ρ : Rho}
end
section
variable {X : Cx} {EX : XE} {L : Lc} {e a b o value : Expr} {es : List Expr} {fa fe fo : M D} {as : List VP.Arg} {pos p apos : Pos} {x c m : Str}
variable {CX : CXT} {k : Nat} {fA C : Addr} {fd : FuncData} {ps : List Str} {fl : List Bool} {fs : Fn} {cs : List Str} {f : Str}
end
end VS

end
section
set_option linter.all false
set_option maxRecDepth 100000
namespace VS
open PySem PySem.Spec PyProof.Rows L2 VP
def Ite (K : Frag) (p : Addr) : It :=
  ⟨fun i H => ∃ xs x, SqL K H p xs ∧ xs[i]? = some x,
   fun i H v H' => ∃ q x, H q = none ∧ v = .ref q ∧ H' = upd H q (.tup [.int i, x]) ∧ ∀ xs, SqL K H p xs → xs[i]? = some x,
   fun i H => ∃ xs, SqL K H p xs ∧ i = xs.length⟩
theorem turn_enum {P : Program} {w : World} {K : Frag} {es : List Expr} {k : Nat} {tpos : Pos} {p e it : Addr} (n1 : p ≠ it) (n2 : e ≠ it) (n3 : e ≠ p) :
    Turn P w K (.Tuple es k tpos) (Ite K p) [e, it] e (fun i h => (∃ old, IsEnum h e it i old) ∧ h.IsListIter it p i) where
  mem := by simp
  obj := fun i h st b hb => by
    obtain ⟨⟨old, he⟩, o, hi, hc, hd⟩ := st
    simp only [List.mem_cons, List.not_mem_nil, or_false] at hb
    rcases hb with rfl | rfl
    · exact ⟨_, he, fun v q => by cases q⟩
    · exact ⟨_, hi, fun v q => by rw [hd] at q; cases q⟩
  keep := fun i h h' st kk => by
    obtain ⟨⟨old, he⟩, hi⟩ := st
    exact ⟨⟨old, kk e (by simp) _ he⟩, hi.at fun o q => kk it (by simp) o q⟩
  item := by
    intro X hP hw hK hc i pins s σ H E I hf st hg
    subst hP hw hK
    obtain ⟨⟨old, he⟩, hi⟩ := st
    obtain ⟨xs, x, q1, e1⟩ := hg
    obtain ⟨its, rv, pl, _⟩ := I.list q1
    obtain ⟨u, hu, ru⟩ := rv.get e1
    have hh : X.A.handled = none := I.ok.hd hc
    have lt1 : i < its.toArray.size := by have := (List.getElem?_eq_some_iff.mp hu).1; simpa using this
    refine wpAny_pyNext_enum_itemD (Draws.list (by exact hh) it p n1 its.toArray) he ⟨hi, pl.isList⟩ lt1 n2 (by simp [n2, n3]) fun x' h' tk px ho st' pr hsz kp => ?_
    have ex : x' = u := by
      have : its.toArray[i]? = some u := by simpa using hu
      rw [this] at px; exact (Option.some.inj px).symm
    subst ex
    refine ⟨_, rfl, wpAny_letOwnedTupleGo_enum ho fun h'' z2 sb => ?_⟩
    replace sb : Heap.SameBut e h' h'' := sb
    have szlt : e ≠ s.heap.objs.size := Nat.ne_of_lt (Heap.lt_size he)
    have kp2 : ∀ c o, c ∉ [e, it] → s.heap.get? c = some o → h''.get? c = some o := fun c o hc' q => by
      simp only [List.mem_cons, List.not_mem_nil, or_false, not_or] at hc'
      exact sb.extBut c o hc'.1 (kp c o hc'.1 hc'.2 q)
    have IX := Inv.pair (tk := tk + 1) (h' := h'') (x := .int i) (y := x) I hf kp2 (sb.extBut _ _ (Ne.symm szlt) pr) ⟨_, rfl⟩ ru
    refine ⟨.ref s.heap.objs.size, _, IX, rfl, ⟨_, x, I.hok.fresh (Nat.le_refl _), rfl, rfl, fun xs' hx' => by rw [I.list_inj hx' q1]; exact e1⟩, ⟨⟨_, by simpa using z2⟩, st'.1.at fun o q => sb.extBut _ o (Ne.symm n2) q⟩, fun b hb => ?_⟩
    have hbs : b ≠ s.heap.objs.size := by
      simp only [List.mem_cons, List.not_mem_nil, or_false] at hb
      rcases hb with rfl | rfl
      · exact szlt
      · obtain ⟨o, q, _⟩ := hi; exact Nat.ne_of_lt (Heap.lt_size q)
    rw [upd_ne hbs]
    exact (hf b hb).1
  done := by
    intro X hP hw hK hc i pins s σ H E I hf st hg
    subst hP hw hK
    obtain ⟨⟨old, he⟩, hi⟩ := st
    obtain ⟨xs, q1, hend⟩ := hg
    obtain ⟨its, rv, pl, _⟩ := I.list q1
    have l1 := rv.length
    have hh : X.A.handled = none := I.ok.hd hc
    have ee : i = its.toArray.size := by simp; omega
    rw [ee] at he hi
    refine wpAny_pyNext_enum_endD (Draws.list (by exact hh) it p n1 its.toArray) he ⟨hi, pl.isList⟩ fun h' hk => ⟨rfl, Inv.turnedL (h' := h') I hf fun c o hc'' q => ?_⟩
    simp only [List.mem_cons, List.not_mem_nil, or_false, not_or] at hc''
    exact hk c o hc''.2 q
  self := fun _ _ _ _ _ st h => by
    obtain ⟨⟨old, he⟩, _⟩ := st
    exact wpAny_pyIter_enum he h
theorem meets_enum (l : Addr) (xs : Array Value) (n : Nat) (sl : Array (Option Value)) : Meets (Builtin.«enumerate.__new__» ⟨[.type "enumerate", .ref l], []⟩) (fun _ R s => s.heap.get? l = some { cls := .type "list", dict := none, data := .seq xs n, slots := sl } ∧
    R (.ok (.ret (.ref (s.heap.push { cls := .type "list_iterator", data := .fields #[.ref l, .int 0 0] }).objs.size))) { s with heap := (s.heap.push { cls := .type "list_iterator", data := .fields #[.ref l, .int 0 0] }).push { cls := .type "enumerate", data := .fields #[.none, .bool false, .ref s.heap.objs.size, rawInt 0, .none, .none] } }) :=
  .of_wp fun prog w A R s z => by
    obtain ⟨hp, g, d, tk, os⟩ := s
    obtain ⟨q1, q2⟩ := z
    have z1 := sub_enumerate
    have z2 : Heap.IsList (Shared.heap ⟨hp, g, d, tk, os⟩) l xs := ⟨_, q1, rfl, n, rfl⟩
    wp_walk using AutoSeq1.wpAny_loadPart' q1
    refine wpAny_stack_any fun st => wpAny_pure ?_
    split
    · rename_i c _ _ _ _ _
      cases (c == Value.type "enumerate") <;> (wp_walk using AutoSeq1.wpAny_loadPart' q1, wpAny_pyIter_list z2; exact ⟨_, rfl, q2⟩)
    · wp_walk using AutoSeq1.wpAny_loadPart' q1, wpAny_pyIter_list z2
      exact ⟨_, rfl, q2⟩
section
variable {X : Cx} {EX : XE} {L : Lc} {e a b : Expr} {fa fb fe : M D} {pos p : Pos} {x : Str}
theorem boot_enumerate : bootBuiltins "enumerate" = some (.type "enumerate") := by kernel_rfl
def iEnum (K : Frag) (t : TA) : TI := fun σ H R => t σ H fun vs H1 => ∃ q, vs = [.ref q] ∧ (∃ xs, SqL K H1 q xs) ∧ R (Ite K q) H1
theorem pi_enum {es : List Expr} {k : Nat} {tpos : Pos} {t : TA} (hg : Gl X "enumerate") (hm : X.mg "enumerate" = none) (ha : PA X [a] t) (hs : starEach [a] X.env = [(false, eval a X.env)] := by rfl) :
    PI X (.Tuple es k tpos) (.Call (.Name "enumerate" p) [a] [] pos) (iEnum X.K t) := by
  intro pins s σ H R I h
  refine Call_ (ld_blt I hg hm boot_enumerate (PyProof.Rows.callWith_type1 (thn (ha pos pins s σ H _ I h) fun us s1 ⟨vs, H1, I1, r1, q1⟩ => ?_) hs rfl))
  obtain ⟨q, e, ⟨xs, h1⟩, hR⟩ := q1
  subst e
  obtain ⟨u, rfl, ru⟩ := vals1 r1
  cases ru
  obtain ⟨its, rv, pl, _⟩ := I1.list h1
  obtain ⟨⟨c0, d0, dt0, sl0⟩, n, hq, hc0, hd0, hdt0⟩ := pl
  simp only at hc0 hd0 hdt0
  subst hc0 hd0 hdt0
  have lt : q < s1.heap.objs.size := Heap.lt_size hq
  refine callType_new PySem.F.called_enumerate (by decide) (PySem.F.typeCall_enumerate_1 _) (PySem.F.newCall_enumerate_1 _) (fun obj => PySem.F.args_object_init_2 obj _) PySem.F.entry_enumerate_new (meets_enum q its.toArray n sl0) ⟨hq, ⟨_, Heap.get?_push_size _ rfl, rfl⟩, ?_⟩
  have sz : (s1.heap.push { cls := .type "list_iterator", data := .fields #[.ref q, .int 0 0] }).objs.size = s1.heap.objs.size + 1 := Heap.size_push ..
  have he : IsEnum ((s1.heap.push { cls := .type "list_iterator", data := .fields #[.ref q, .int 0 0] }).push { cls := .type "enumerate", data := .fields #[.none, .bool false, .ref s1.heap.objs.size, rawInt 0, .none, .none] }) (s1.heap.objs.size + 1) s1.heap.objs.size 0 .none := by
    rw [← sz]; exact Heap.get?_push_size _ rfl
  rw [sz]
  refine wpAny_pyIter_enum he ?_
  have IX : Inv X pins σ H1 { s1 with heap := (s1.heap.push { cls := .type "list_iterator", data := .fields #[.ref q, .int 0 0] }).push { cls := .type "enumerate", data := .fields #[.none, .bool false, .ref s1.heap.objs.size, rawInt 0, .none, .none] } } :=
    I1.kept (t' := s1.toks) fun b o e => Heap.get?_push_of_some _ (Heap.get?_push_of_some _ e)
  refine ⟨_, [s1.heap.objs.size + 1, s1.heap.objs.size], _, _, H1, rfl, IX, turn_enum (Nat.ne_of_lt lt) (by simp) (Nat.ne_of_gt (Nat.lt_succ_of_lt lt)), ⟨⟨_, he⟩, ⟨_, Heap.get?_push_of_some _ (Heap.get?_push_size _ rfl), rfl, rfl⟩⟩, fun c hc => ?_, hR⟩
  have hle : s1.heap.objs.size ≤ c := by
    simp only [List.mem_cons, List.not_mem_nil, or_false] at hc
    rcases hc with rfl | rfl
    · exact Nat.le_add_right _ _
    · exact Nat.le_refl _
  exact I1.fpOk hle (I1.hok.fresh hle)
theorem itr_enum {G : Fx} {F : Hp} {q : Addr} {vs : List V} {ds : List D} (h1 : SqL L.K F q vs) (r1 : DenL L.K L.mg F vs ds) :
    ItR L G F (Ite L.K q) (enumL ds) := fun σ i F' H' ρ s g => by
  have q1 : SqL L.K H' q vs := SqL.same (SqL.same h1 s) g.sub
  have l1 := r1.length
  have le : (enumL ds).length = ds.length := by simp [enumL]
  refine ⟨fun hi => ?_, fun hi => ?_, fun x H'' y => ?_⟩
  · exact ⟨vs, vs[i]'(by omega), q1, by simp [show i < vs.length by omega]⟩
  · exact ⟨vs, q1, by omega⟩
  · obtain ⟨b, u, hq, rfl, rfl, y1⟩ := y
    have sF := same_upd (o := .tup [.int i, u]) (g.sub.free hq)
    refine ⟨_, sF, g.laid hq, fun d hd => ?_⟩
    unfold enumL at hd
    rw [List.getElem?_zipWith] at hd
    cases e1 : ds[i]? with
    | none => rw [e1] at hd; cases e2 : (List.range ds.length)[i]? <;> rw [e2] at hd <;> cases hd
    | some d1 =>
      have hi : i < ds.length := (List.getElem?_eq_some_iff.mp e1).1
      rw [e1, List.getElem?_range hi] at hd
      cases hd
      obtain ⟨u', a1, a2⟩ := (r1.same s).get e1
      rw [y1 vs q1] at a1
      cases a1
      exact .tup (SqT.of upd_same) (.cons (.int i) (.cons (a2.same sF) .nil))
theorem vi_enum {es : List Expr} {k : Nat} {tpos : Pos} {fl : List (M D)} (hg : Gl X "enumerate") (hm : X.mg "enumerate" = none) (ha : PLs X EX [a] (mL fl)) (hs : starEach [a] X.env = [(false, eval a X.env)] := by rfl) :
    PVI X EX (.Tuple es k tpos) (.Call (.Name "enumerate" p) [a] [] pos) (mEnum fl) :=
  (pi_enum hg hm ha hs).le fun σ H Q ⟨G, F, ρ, g0, o⟩ => at_bnd g0 o (fun x r q => q) fun F1 H1 ρ1 d1 xs s1 g1 r1 o1 => by
    obtain ⟨ds, e, q⟩ := o1.opt
    match d1, r1, e with
    | [.lst cs], .cons h1 .nil, e =>
      cases e
      cases h1 with
      | lst h r => exact ⟨_, rfl, ⟨_, SqL.same h g1.sub⟩, q F1 H1 _ s1 g1 (itr_enum h r)⟩
end
end VS

end
section
set_option linter.all false
set_option maxRecDepth 100000
namespace VS
open PySem PySem.Spec PyProof.Rows L2 VP
section
variable {X : Cx} {EX : XE} {L : Lc} {e a b : Expr} {fa fb fe : M D} {pos p : Pos} {x c : Str}
end
end VS

end
section
set_option linter.all false
set_option maxRecDepth 100000
namespace VS
open PySem PySem.Spec PyProof.Rows L2 VP
def Itd (lo : Int) (n : Nat) : It := ⟨fun i _ => i < n, fun i H x H' => H' = H ∧ x = .int (lo - i), fun i _ => n ≤ i⟩
theorem turn_down {P : Program} {w : World} {K : Frag} {tg : Expr} (it : Addr) (lo : Int) (n : Nat) : Turn P w K tg (Itd lo n) [it] it (fun i h => IsRangeIter h it (lo + (i : Nat) * (-1)) ((n : Int) - (i : Nat)) (-1)) where
  mem := by simp
  obj := fun i h st b hb => by
    have e : b = it := by simpa using hb
    subst e
    exact ⟨_, st, fun v z => by
      have z' : Data.fields _ = Data.cell v := z
      cases z'⟩
  keep := fun i h h' st k => k it (by simp) _ st
  item := by
    intro X hP hw hK hc i pins s σ H E I hf st hg
    subst hP hw hK
    obtain ⟨f0, f1, f2, f3, f4, f5⟩ := hf it (by simp)
    refine (Walks.range (prog := X.prog) (w := X.w) (I.ok.hd hc) it lo (-1) n).item i s _ _ hg st fun v h' tk hv st' kk => ?_
    obtain ⟨t, rfl⟩ := hv
    have I1 : Inv X pins σ H { s with heap := h', toks := tk } := I.turned (fun b o hb e => kk b o (by simpa using hb) e) f0 f1 f3 f4 f5
    refine ⟨_, rfl, go_of (s := { s with heap := h', toks := tk }) (n := "range_iterator") st' rfl rfl (by decide) ⟨.int (lo - i), H, I1, ⟨t, ?_⟩, ⟨rfl, rfl⟩, st', fun b hb => (hf b hb).1⟩⟩
    rw [show lo + (i : Int) * -1 = lo - i by omega]
  done := by
    intro X hP hw hK hc i pins s σ H E I hf st hg
    subst hP hw hK
    obtain ⟨f0, f1, f2, f3, f4, f5⟩ := hf it (by simp)
    exact wpAny_pyNext_range_end (I.ok.hd hc) st (by have : n ≤ i := hg; omega) fun h' eb => ⟨rfl, I.turned (t' := s.toks) (fun b o hb e => eb b o hb e) f0 f1 f3 f4 f5⟩
  self := fun _ _ _ _ _ st h => wpAny_pyIter_rangeiter st h
section
variable {X : Cx} {EX : XE} {L : Lc} {tg a b c : Expr} {p pos : Pos}
def iDown (ta : TA) : TI := fun σ H R => ta σ H fun vs H1 => ∃ i j : Int, vs = [.int i, .int j, .int (-1)] ∧ (-(2 ^ 62) ≤ i ∧ i < 2 ^ 62 ∧ -(2 ^ 62) ≤ j ∧ j < 2 ^ 62) ∧ R (Itd i (i - j).toNat) H1
theorem pi_down {ta : TA} (hg : Gl X "range") (hm : X.mg "range" = none) (ha : PA X [a, b, c] ta) (hs : starEach [a, b, c] X.env = [(false, eval a X.env), (false, eval b X.env), (false, eval c X.env)] := by rfl) (hs2 : starEach [b, c] X.env = [(false, eval b X.env), (false, eval c X.env)] := by rfl) :
    PI X tg (.Call (.Name "range" p) [a, b, c] [] pos) (iDown ta) := by
  intro pins s σ H R I h
  refine Call_ (ld_blt I hg hm boot_range (PyProof.Rows.callWith_type1 (thn (ha pos pins s σ H _ I h) fun us s1 ⟨vs, H1, I1, r1, q1⟩ => ?_) (by rw [hs, hs2]) (by rw [hs2]; rfl)))
  obtain ⟨i, j, e, ⟨q1, q2, q3, q4⟩, q⟩ := q1
  subst e
  cases r1 with
  | cons r rr => cases rr with
    | cons r' rr => cases rr with
      | cons r'' rr =>
        cases rr
        obtain ⟨t, rfl⟩ := r
        obtain ⟨u, rfl⟩ := r'
        obtain ⟨v, rfl⟩ := r''
        refine call_range_3 (by decide) ?_ (.inl (PyProof.noPylong_small (by decide)))
        have I2 : Inv X pins σ H1 { s1 with heap := s1.heap.push { cls := .type "range", data := .fields #[.int i t, .int j u, .int (-1) v] }, toks := s1.toks } := I1.kept fun b o e => Heap.get?_push_of_some _ e
        refine wpAny_pyIter_range (IsRange.new ..) (PySem.W.small_down q1 q2 q3 q4) ?_
        refine ⟨(s1.heap.push { cls := .type "range", data := .fields #[.int i t, .int j u, .int (-1) v] }).objs.size, [(s1.heap.push { cls := .type "range", data := .fields #[.int i t, .int j u, .int (-1) v] }).objs.size], _, _, H1, rfl,
          I2.kept (t' := s1.toks) fun b o e => Heap.get?_push_of_some _ e, turn_down _ i (i - j).toNat, ?_, fun b hb => ?_, q⟩
        · show IsRangeIter _ _ (i + ((0 : Nat) : Int) * (-1)) ((((i - j).toNat : Nat) : Int) - ((0 : Nat) : Int)) (-1)
          rw [show i + ((0 : Nat) : Int) * (-1) = i by simp, show (((i - j).toNat : Nat) : Int) - ((0 : Nat) : Int) = Builtin.Range.rangeSize i j (-1) by rw [PySem.W.rangeSize_downNat]; simp]
          exact Heap.get?_push_size _ rfl
        · have e : b = (s1.heap.push { cls := .type "range", data := .fields #[.int i t, .int j u, .int (-1) v] }).objs.size := by simpa using hb
          subst e
          exact I2.fpOk (Nat.le_refl _) (I2.hok.fresh (Nat.le_refl _))
theorem itr_down {G : Fx} {F : Hp} (lo : Int) (n : Nat) : ItR L G F (Itd lo n) ((List.range n).map fun (k : Nat) => .int (lo - k)) := fun σ i F' H' ρ s g => by
  refine ⟨fun hi => ?_, fun hi => ?_, fun x H'' y => ?_⟩
  · exact (by simpa using hi : i < n)
  · exact Nat.le_of_eq (by simpa using hi.symm : n = i)
  · obtain ⟨rfl, rfl⟩ := y
    refine ⟨F', Same.refl _, g, fun d hd => ?_⟩
    rw [List.getElem?_map] at hd
    cases e : (List.range n)[i]? with
    | none => rw [e] at hd; cases hd
    | some k =>
      rw [e] at hd
      cases hd
      have hi : i < n := by have := (List.getElem?_eq_some_iff.mp e).1; simpa using this
      rw [List.getElem?_range hi] at e
      cases e
      exact .int _
theorem vi_down {fl : List (M D)} (hg : Gl X "range") (hm : X.mg "range" = none) (ha : PLs X EX [a, b, c] (mL fl)) (hs : starEach [a, b, c] X.env = [(false, eval a X.env), (false, eval b X.env), (false, eval c X.env)] := by rfl) (hs2 : starEach [b, c] X.env = [(false, eval b X.env), (false, eval c X.env)] := by rfl) :
    PVI X EX tg (.Call (.Name "range" p) [a, b, c] [] pos) (mDown fl) :=
  (pi_down hg hm ha hs hs2).le fun σ H Q ⟨G, F, ρ, g0, o⟩ => at_bnd g0 o (fun x r q => q) fun F1 H1 ρ1 d1 xs s1 g1 r1 o1 => by
    obtain ⟨ds, e, q⟩ := o1.opt
    match d1, r1, e with
    | [.int i, .int j, .int k], .cons h (.cons h2 (.cons h3 .nil)), e =>
      cases h; cases h2; cases h3
      simp only [rngD] at e
      split at e
      · rename_i hb
        cases e
        obtain ⟨b1, b2, b3⟩ := hb
        subst b1
        exact ⟨i, j, rfl, ⟨b2.1, b2.2, b3.1, b3.2⟩, q F1 H1 _ s1 g1 (itr_down i (i - j).toNat)⟩
      · cases e
end
end VS

end
section
set_option linter.all false
set_option maxRecDepth 100000
namespace VS
open PySem PySem.Spec PyProof.Rows L2 VP
open AutoSeq1 (wpAny_loadPart')
theorem noFill_tuple_mul : fillsNumberSlot (.type "tuple") "mul" = pure false :=
  PySem.fillsNumberSlot_seq (id := "tuple.__mul__") (r := some (.builtin "tuple.__rmul__")) PySem.F.slot_tuple_mul.lookup (by decide +kernel) PySem.F.slot_tuple_rmul.lookup (by decide +kernel)
theorem repeat_tuple : seqRepeat? (.type "tuple") = pure (some (.builtin "tuple.__mul__")) := by
  unfold seqRepeat?
  rw [PySem.seqSlot_of (T := "tuple") (name := "__mul__") (id := "tuple.__mul__") PySem.F.slot_tuple_mul.lookup (by decide +kernel), PySem.seqSlot_of (T := "tuple") (name := "__rmul__") (id := "tuple.__rmul__") PySem.F.slot_tuple_rmul.lookup (by decide +kernel)]
  rfl
theorem int_rmul_tuple (a : Int) (t : Tok) (l : Addr) (items : Array Value) (n : Nat) (dd : Option Addr) (sl : Array (Option Value)) :
    Meets (Builtin.«int.__rmul__» ⟨[.int a t, .ref l], []⟩) (fun _ R s => s.heap.get? l = some { cls := .type "tuple", dict := dd, data := .seq items n, slots := sl } ∧ R (.ok (.ret Value.notImplemented)) s) :=
  .of_wp fun prog w A R s h => by obtain ⟨hp, g, d, tk, os⟩ := s; obtain ⟨hl, h⟩ := h; wp_walk; exact ⟨_, rfl, h⟩
theorem tuple_mul1 (l : Addr) (items : Array Value) (n : Nat) (dd : Option Addr) (sl : Array (Option Value)) (x : Int) (u : Tok) (h1 : ¬ (decide (x < -(2 ^ 63)) || decide (x ≥ 2 ^ 63)) = true) (h2 : (items.isEmpty || x == 1) = true) :
    Meets (Builtin.«tuple.__mul__» ⟨[.ref l, .int x u], []⟩) (fun _ R s => s.heap.get? l = some { cls := .type "tuple", dict := dd, data := .seq items n, slots := sl } ∧ R (.ok (.ret (Value.ref l))) { s with heap := s.heap, toks := s.toks }) :=
  .of_wp fun prog w A R s h => by obtain ⟨hp, g, d, tk, os⟩ := s; obtain ⟨hl, h⟩ := h; wp_walk using wpAny_loadPart' hl; refine wpAny_ite_false (decide_eq_false h1) ?_; wp_walk using wpAny_loadPart' hl; exact ⟨_, rfl, h⟩
theorem tuple_mul2 (l : Addr) (items : Array Value) (n : Nat) (dd : Option Addr) (sl : Array (Option Value)) (x : Int) (u : Tok) (h1 : ¬ (decide (x < -(2 ^ 63)) || decide (x ≥ 2 ^ 63)) = true) (h2 : ¬ (items.isEmpty || x == 1) = true) (h3 : (decide (x ≤ 0) || items.isEmpty) = true) :
    Meets (Builtin.«tuple.__mul__» ⟨[.ref l, .int x u], []⟩) (fun _ R s => s.heap.get? l = some { cls := .type "tuple", dict := dd, data := .seq items n, slots := sl } ∧ R (.ok (.ret (Value.ref s.heap.objs.size))) { s with heap := s.heap.push { cls := Value.type "tuple", data := Data.seq #[] }, toks := s.toks }) :=
  .of_wp fun prog w A R s h => by obtain ⟨hp, g, d, tk, os⟩ := s; obtain ⟨hl, h⟩ := h; wp_walk using wpAny_loadPart' hl; refine wpAny_ite_false (decide_eq_false h1) ?_; wp_walk using wpAny_loadPart' hl; exact ⟨_, rfl, h⟩
theorem tuple_mul3 (l : Addr) (items : Array Value) (n : Nat) (dd : Option Addr) (sl : Array (Option Value)) (x : Int) (u : Tok) (h1 : ¬ (decide (x < -(2 ^ 63)) || decide (x ≥ 2 ^ 63)) = true) (h2 : ¬ (items.isEmpty || x == 1) = true) (h3 : ¬ (decide (x ≤ 0) || items.isEmpty) = true)
    (h4 : ¬ ((items.size : Int) * x > (2 ^ 63 - 1) / 8)) (h5 : ¬ Builtin.Tuple.tupleTooMany ((items.size : Int) * x) = true) (hsz : (List.foldl (fun x1 x2 => x1 ++ x2) #[] (List.replicate x.toNat items)).size ≤ sizeLine) :
    Meets (Builtin.«tuple.__mul__» ⟨[.ref l, .int x u], []⟩) (fun _ R s => s.heap.get? l = some { cls := .type "tuple", dict := dd, data := .seq items n, slots := sl } ∧ R (.ok (.ret (Value.ref s.heap.objs.size))) { s with heap := s.heap.push { cls := Value.type "tuple", data := Data.seq (List.foldl (fun x1 x2 => x1 ++ x2) #[] (List.replicate x.toNat items)) }, toks := s.toks }) :=
  .of_wp fun prog w A R s h => by obtain ⟨hp, g, d, tk, os⟩ := s; obtain ⟨hl, h⟩ := h; wp_walk using wpAny_loadPart' hl; refine wpAny_ite_false (decide_eq_false h1) ?_; wp_walk using wpAny_loadPart' hl; refine wpAny_ite_false (decide_eq_false h4) ?_; wp_walk using wpAny_loadPart' hl; exact ⟨_, rfl, h⟩
section
variable {X : Cx} {EX : XE} {L : Lc} {a b : Expr} {fa fb : M D} {pos : Pos}
def rRepT (K : Frag) : R2 := fun x y H Q => ∃ l k xs, x = .ref l ∧ y = .int k ∧ SqT K H l xs ∧ -(2 ^ 63) ≤ k ∧ k < 2 ^ 63 ∧ xs.length * k.toNat ≤ sizeLine ∧
  ((List.replicate k.toNat xs).flatten = xs → Q (.ref l) H) ∧ ∀ p, H p = none → Q (.ref p) (upd H p (.tup (List.replicate k.toNat xs).flatten))
theorem op_repT : OpR X (binaryOp .Mult) (rRepT X.K) := by
  intro pins s σ H x y v u Q I rx ry h
  obtain ⟨l, k, xs, rfl, rfl, hH, h1, h2, hz, q1, q⟩ := h
  cases rx
  obtain ⟨t, rfl⟩ := ry
  obtain ⟨its, r, pt, _⟩ := I.tuple hH
  obtain ⟨⟨cls, dd, data, sl⟩, e, hc, n, hd⟩ := id pt
  simp only at hc hd
  subst hc hd
  have hl := r.length
  have hr : ¬ (decide (k < -(2 ^ 63)) || decide (k ≥ 2 ^ 63)) = true := by
    simp only [Bool.or_eq_true, decide_eq_true_eq, not_or]; omega
  have hf : ∀ m : Nat, List.foldl (fun x1 x2 => x1 ++ x2) #[] (List.replicate m its.toArray) = (List.replicate m its).flatten.toArray := fun m => by
    have := foldl_rep its m []
    rw [List.nil_append] at this
    exact this
  refine wpAny_binaryOp_repeat_ref (T := "tuple") (U := "int") (by decide) ⟨_, e, rfl⟩ (fun s' => typeIs_int s' k t) noFill_tuple_mul PySem.F.fills_int_mul PySem.F.slot_int_rmul repeat_tuple PySem.F.slot_int_index.lookup
    (call_meets PySem.F.slot_int_rmul (typeIs_int s k t) PySem.F.entry_int_rmul (PySem.F.args_int_rmul_2 _ _) (int_rmul_tuple k t l its.toArray n dd sl) ⟨e, rfl, ⟨_, e, rfl⟩, ?_⟩)
  by_cases c1 : (its.toArray.isEmpty || k == 1) = true
  · refine call_meets PySem.F.slot_tuple_mul ⟨_, e, rfl⟩ PySem.F.entry_tuple_mul (PySem.F.args_tuple_mul_2 _ _) (tuple_mul1 l its.toArray n dd sl k t hr c1) ⟨e, .ref l, H, I, rfl, q1 ?_⟩
    rw [Bool.or_eq_true] at c1
    rcases c1 with c1 | c1
    · have : its = [] := by simpa using c1
      have : xs = [] := r.nil_iff.mp this
      subst this
      exact List.eq_nil_of_length_eq_zero (by rw [len_rep]; simp)
    · have : k = 1 := by simpa using c1
      subst this
      simp
  · by_cases c2 : (decide (k ≤ 0) || its.toArray.isEmpty) = true
    · refine call_meets PySem.F.slot_tuple_mul ⟨_, e, rfl⟩ PySem.F.entry_tuple_mul (PySem.F.args_tuple_mul_2 _ _) (tuple_mul2 l its.toArray n dd sl k t hr c1 c2) ⟨e, ?_⟩
      have hk : k.toNat = 0 := by
        rw [Bool.or_eq_true] at c1 c2
        rcases c2 with c2 | c2
        · have := of_decide_eq_true c2; omega
        · exact absurd (.inl c2) c1
      rw [hk] at q hz
      exact ⟨.ref s.heap.objs.size, _, I.laid (t' := s.toks) (o := .tup []) (fun b ob q => Heap.get?_push_of_some _ q) (Nat.le_refl _) ⟨Nat.zero_le _, [], .nil, IsTup.new _ _⟩, rfl, q _ (I.hok.fresh (Nat.le_refl _))⟩
    · have hk : 0 < k := by
        rw [Bool.or_eq_true, not_or] at c2
        have := of_decide_eq_false (Bool.eq_false_iff.mpr c2.1)
        omega
      have hm : ((its.toArray.size : Nat) : Int) * k = ((xs.length * k.toNat : Nat) : Int) := by
        rw [List.size_toArray, ← hl, Int.natCast_mul, Int.toNat_of_nonneg (by omega)]
      have hb : (sizeLine : Nat) ≤ 16777216 := by decide
      refine call_meets PySem.F.slot_tuple_mul ⟨_, e, rfl⟩ PySem.F.entry_tuple_mul (PySem.F.args_tuple_mul_2 _ _) (tuple_mul3 l its.toArray n dd sl k t hr c1 c2 (by rw [hm]; omega) (by
        rw [hm]; unfold Builtin.Tuple.tupleTooMany; simp only [decide_eq_true_eq]; omega) (by rw [hf, List.size_toArray, len_rep, ← hl, Nat.mul_comm]; exact hz)) ⟨e, ?_⟩
      rw [hf]
      exact ⟨.ref s.heap.objs.size, _, I.laid (t' := s.toks) (o := .tup (List.replicate k.toNat xs).flatten) (fun b ob q => Heap.get?_push_of_some _ q) (Nat.le_refl _) ⟨by rw [len_rep, Nat.mul_comm]; exact hz, _, r.rep k.toNat, IsTup.new _ _⟩, rfl, q _ (I.hok.fresh (Nat.le_refl _))⟩
theorem DenL.rep {K : Frag} {mg : MG} {F : Hp} {vs : List V} {ds : List D} (h : DenL K mg F vs ds) : ∀ n : Nat, DenL K mg F (List.replicate n vs).flatten (List.replicate n ds).flatten
  | 0 => .nil
  | n + 1 => by rw [List.replicate_succ, List.replicate_succ, List.flatten_cons, List.flatten_cons]; exact DenL.append h (DenL.rep h n)
theorem op_mulA : OpR X (binaryOp .Mult) (fun x y H Q => (rI CMul fun i j => .int (i * j)) x y H Q ∨ (rRepT X.K x y H Q ∨ rRep x y H Q)) := OpR.or op_mul (OpR.or op_repT op_rep)
theorem g_mulA : OpG L (fun x y H Q => (rI CMul fun i j => .int (i * j)) x y H Q ∨ (rRepT L.K x y H Q ∨ rRep x y H Q)) mulA := fun G F H σ ρ x y dx dy d Q g0 rx ry e k => by
  cases dx <;> cases dy <;> try (simp only [mulA, reduceCtorEq] at e; done)
  · exact .inl (g_mul G F H σ ρ x y _ _ d Q g0 rx ry e k)
  · rename_i ds i
    simp only [mulA] at e
    split at e
    · rename_i hc
      cases e
      cases ry
      cases rx with
      | tup h1 r1 =>
        rename_i p vs
        have hz := hc.2.2
        rw [← r1.length, LIM_eq] at hz
        have hb : (LIM : Int) = 16777216 := rfl
        have h12 := hc.1
        have h22 := hc.2.1
        refine .inr (.inl ⟨p, i, vs, rfl, rfl, SqT.same h1 g0.sub, by omega, by omega, hz, fun z => ?_, fun q hq => ?_⟩)
        · have := DenL.rep r1 i.toNat
          rw [z] at this
          exact k F H _ (Same.refl _) g0 (.tup h1 this)
        · have sF := same_upd (o := .tup (List.replicate i.toNat vs).flatten) (g0.sub.free hq)
          exact k _ _ _ sF (g0.laid hq) (.tup (SqT.of upd_same) (DenL.rep (DenL.same sF r1) _))
    · cases e
theorem Obj1.now {K : Frag} {mg : MG} {F H : Hp} {l : Addr} {d : D} (sub : Same F H) (o : Obj1 K mg F H l d) : ∃ F', Same F F' ∧ Same F' H ∧ Den K mg F' (.ref l) d := by
  obtain ⟨u, hu⟩ := o.has
  have s1 : Same F (upd F l u) := fun a v e => by
    by_cases z : a = l
    · subst z; rw [upd_same, ← hu]; exact sub _ _ e
    · rw [upd_ne z]; exact e
  refine ⟨upd F l u, s1, fun a v e => ?_, o.den hu s1 upd_same⟩
  by_cases z : a = l
  · subst z; rw [upd_same] at e; rw [hu]; exact e
  · rw [upd_ne z] at e; exact sub _ _ e
theorem eqd_of {neg : Bool} {d1 d2 d : D} (e : (if neg then neG d1 d2 else eqG d1 d2) = some d) : VP.plain 60 d1 = true ∧ VP.plain 60 d2 = true ∧ d = .bl (if neg then !eqB d1 d2 else eqB d1 d2) := by
  cases neg with
  | true =>
    simp only [if_true] at e ⊢
    unfold neG at e
    split at e
    · rename_i hp
      rw [Bool.and_eq_true] at hp
      cases e
      exact ⟨hp.1, hp.2, rfl⟩
    · cases e
  | false =>
    simp only [Bool.false_eq_true, if_false] at e ⊢
    unfold eqG at e
    split at e
    · rename_i hp
      rw [Bool.and_eq_true] at hp
      cases e
      exact ⟨hp.1, hp.2, rfl⟩
    · cases e
def cmE (neg : Bool) : CmpOp := if neg then .NotEq else .Eq
theorem op_eqN (neg : Bool) (hu : X.A.units + 64 < cLine) : OpR X (compareOp (cmE neg)) (rEqD X.K X.mg neg) := by
  cases neg with
  | true => exact op_neD hu
  | false => exact op_eqD hu
end
end VS

end
section
set_option linter.all false
set_option maxRecDepth 100000
namespace VS
open PySem PySem.Spec PyProof.Rows L2 VP
structure DM (K : Frag) (x qn : Str) (st : Stmt) (f : Addr) : Prop where
  l : ∃ (oc : Value) (od : Option Addr) (kV doc pm : Value) (an : Option Addr) (cd ct : Value) (sl : Array (Option Value)), K.lookup f = some ⟨oc, od, .func (PySem.W.fnOf x qn (defArgs st) (defBody st) (defScope st) .none kV doc pm an cd ct), sl⟩ ∧ PySem.W.codeIn K cd qn = true
  k : PySem.W.keepIn K (.ref f) = true
structure DH (K : Frag) (x : Str) (st : Stmt) (f : Addr) : Prop where
  a : PySem.W.nsIn K mainGlobals x = some (some (.ref f))
  m : DM K x x st f
abbrev BiH (x qn : Str) (st : Stmt) (ps : List Str) : Prop := ∀ (kV doc pm : Value) (an : Option Addr) (cd ct : Value) (us : List Value), us.length = ps.length → bindArgs (PySem.W.fnOf x qn (defArgs st) (defBody st) (defScope st) .none kV doc pm an cd ct) ⟨us, []⟩ = pure (ps.zip us)
section
variable {K : Frag} {mg : MG} {h : Heap} {x qn : Str} {st : Stmt} {f : Addr} {ps : List Str}
theorem DM.is (d : DM K x qn st f) (b : BiH x qn st ps) : ∃ fd, Fun K x qn st f fd ∧ Binds K fd ps [] := by
  obtain ⟨⟨oc, od, kV, doc, pm, an, cd, ct, sl, l, c⟩, k⟩ := d
  exact ⟨_, fun_mk l c k, (fun_mk l c k).binds b⟩
theorem DH.is (d : DH K x st f) (X : K.In h) (G : h.Ns mainGlobals mg) (b : BiH x x st ps) : ∃ fd, DefF K mg x st ps f fd := by
  obtain ⟨fd, F, B⟩ := d.m.is b
  exact ⟨fd, F, B, PySem.W.mg_of X G d.a⟩
theorem DH.law {p : Str} (d : DH K x st f) (X : K.In h) (G : h.Ns mainGlobals mg) (b : BiH x x st [p])
    (c : ∀ (kV doc pm : Value) (an : Option Addr) (cd ct : Value) (s : Shared) (v : Value), BindsTo s (PySem.W.fnOf x x (defArgs st) (defBody st) (defScope st) .none kV doc pm an cd ct) ⟨[v], []⟩ [(p, v)]) :
    ∃ fd, DefF K mg x st [p] f fd ∧ ∀ (s : Shared) (v : Value), BindsTo s fd ⟨[v], []⟩ [(p, v)] := by
  obtain ⟨a, ⟨oc, od, kV, doc, pm, an, cd, ct, sl, l, e⟩, k⟩ := d
  exact ⟨_, ⟨fun_mk l e k, (fun_mk l e k).binds b, PySem.W.mg_of X G a⟩, fun s v => c _ _ _ _ _ _ s v⟩
end
section
variable {X : Cx} {EX : XE} {fA : Addr} {fd : FuncData} {x : Str} {st : Stmt} {ps : List Str} {fl : List Bool} {fs : Fn} {k n : Nat} {e : Expr} {es : List Expr} {as : List VP.Arg} {p pos : Pos}
theorem pc (D : DefF X.K X.mg x st ps fA fd) (F : FnOk X.prog X.w X.K X.mg X.base CX0 k fA fd ps (spV X.K X.mg fl fs)) (hr : Room n X.A) (hg : Gl X x) (ha : PAs X EX (e :: es) as) (hk : k ≤ n := by decide) (hfl : as.map VP.Arg.isIo = fl := by rfl) (hdb : (x == ("__debug__" : Str)) = false := by decide)
    (he : starEach (e :: es) X.env = (false, eval e X.env) :: starEach es X.env := by rfl) (hpl : (backTo pos (starEach es X.env)).any (·.1) = false := by rfl) : PV X EX (.Call (.Name x p) (e :: es) [] pos) (mCall fs as) :=
  pv_call F (hr.mono hk) hg D.mg D.fu.kp D.bi pass0V ha hfl hdb he hpl
end
theorem bi1 {x qn : Str} {st : Stmt} {p0 : Str} (h : ∀ (kV doc pm : Value) (an : Option Addr) (cd ct : Value) (a0 : Value), bindArgs (PySem.W.fnOf x qn (defArgs st) (defBody st) (defScope st) .none kV doc pm an cd ct) ⟨[a0], []⟩ = pure ([p0].zip [a0]) := by intros; rfl) : BiH x qn st [p0] :=
  fun _ _ _ _ _ _ us hl => match us, hl with | [_], _ => h _ _ _ _ _ _ _
theorem bi2 {x qn : Str} {st : Stmt} {p0 p1 : Str} (h : ∀ (kV doc pm : Value) (an : Option Addr) (cd ct : Value) (a0 a1 : Value), bindArgs (PySem.W.fnOf x qn (defArgs st) (defBody st) (defScope st) .none kV doc pm an cd ct) ⟨[a0, a1], []⟩ = pure ([p0, p1].zip [a0, a1]) := by intros; rfl) : BiH x qn st [p0, p1] :=
  fun _ _ _ _ _ _ us hl => match us, hl with | [_, _], _ => h _ _ _ _ _ _ _ _
theorem bi3 {x qn : Str} {st : Stmt} {p0 p1 p2 : Str} (h : ∀ (kV doc pm : Value) (an : Option Addr) (cd ct : Value) (a0 a1 a2 : Value), bindArgs (PySem.W.fnOf x qn (defArgs st) (defBody st) (defScope st) .none kV doc pm an cd ct) ⟨[a0, a1, a2], []⟩ = pure ([p0, p1, p2].zip [a0, a1, a2]) := by intros; rfl) : BiH x qn st [p0, p1, p2] :=
  fun _ _ _ _ _ _ us hl => match us, hl with | [_, _, _], _ => h _ _ _ _ _ _ _ _ _
theorem bi4 {x qn : Str} {st : Stmt} {p0 p1 p2 p3 : Str} (h : ∀ (kV doc pm : Value) (an : Option Addr) (cd ct : Value) (a0 a1 a2 a3 : Value), bindArgs (PySem.W.fnOf x qn (defArgs st) (defBody st) (defScope st) .none kV doc pm an cd ct) ⟨[a0, a1, a2, a3], []⟩ = pure ([p0, p1, p2, p3].zip [a0, a1, a2, a3]) := by intros; rfl) : BiH x qn st [p0, p1, p2, p3] :=
  fun _ _ _ _ _ _ us hl => match us, hl with | [_, _, _, _], _ => h _ _ _ _ _ _ _ _ _ _
theorem bi5 {x qn : Str} {st : Stmt} {p0 p1 p2 p3 p4 : Str} (h : ∀ (kV doc pm : Value) (an : Option Addr) (cd ct : Value) (a0 a1 a2 a3 a4 : Value), bindArgs (PySem.W.fnOf x qn (defArgs st) (defBody st) (defScope st) .none kV doc pm an cd ct) ⟨[a0, a1, a2, a3, a4], []⟩ = pure ([p0, p1, p2, p3, p4].zip [a0, a1, a2, a3, a4]) := by intros; rfl) : BiH x qn st [p0, p1, p2, p3, p4] :=
  fun _ _ _ _ _ _ us hl => match us, hl with | [_, _, _, _, _], _ => h _ _ _ _ _ _ _ _ _ _ _
theorem scs {N P : List Str} {sc : Scope} (h1 : sc.kind = .function := by rfl) (h2 : sc.isCoroutine = false := by rfl) (h3 : sc.isGenerator = false := by rfl) (h4 : N.Nodup := by decide +kernel) (h5 : N.take P.length = P := by rfl)
    (h6 : ∀ x ∈ P, sc.names.lookup x = some .local ∨ sc.names.lookup x = some .cell := by decide +kernel) (h7 : ∀ y ∈ sc.names, y.2 ≠ .free := by decide +kernel) : FnScope N P sc := ⟨h1, h2, h3, h4, h5, h6, h7⟩
theorem ndk (l : List Str) (h : l.Nodup := by decide +kernel) : List.Nodup l := h
end VS

end
section
set_option linter.all false
set_option maxRecDepth 100000
namespace VS
open PySem PySem.Spec PyProof.Rows L2 VP
theorem int_rmul_list (a : Int) (t : Tok) (l : Addr) (items : Array Value) (n : Nat) (sl : Array (Option Value)) :
    Meets (Builtin.«int.__rmul__» ⟨[.int a t, .ref l], []⟩) (fun _ R s => s.heap.get? l = some { cls := .type "list", dict := none, data := .seq items n, slots := sl } ∧ R (.ok (.ret Value.notImplemented)) s) :=
  .of_wp fun prog w A R s h => by obtain ⟨hp, g, d, tk, os⟩ := s; obtain ⟨hl, h⟩ := h; wp_walk; exact ⟨_, rfl, h⟩
theorem list_mulS (l : Addr) (items : Array Value) (n : Nat) (sl : Array (Option Value)) (x : Int) (u : Tok) (hc0 : ¬(!Builtin.List.listFitsIndex x) = true) (hc1 : ¬items.size * x.toNat > (2 ^ 63 - 1) / 8) (hc2 : ¬Builtin.List.listTooLong (items.size * x.toNat) = true) :
    Meets (Builtin.«list.__mul__» ⟨[.ref l, .int x u], []⟩) (fun _ R s => s.heap.get? l = some { cls := .type "list", dict := none, data := .seq items n, slots := sl } ∧ R (.ok (.ret (Value.ref s.heap.objs.size))) { s with heap := s.heap.push { cls := Value.type "list", data := Data.seq (List.foldl (fun x1 x2 => x1 ++ x2) #[] (List.replicate (if items.isEmpty = true then 0 else x.toNat) items)) }, toks := s.toks }) :=
  .of_wp fun prog w A R s h => by
    obtain ⟨hp, g, d, tk, os⟩ := s; obtain ⟨hl, h⟩ := h
    have hsz := AutoListH.joined_fits hc2
    wp_walk; refine wpAny_ite_false (decide_eq_false (Nat.not_lt.mpr hsz)) ?_; wp_walk; exact ⟨_, rfl, h⟩
section
variable {X : Cx} {EX : XE} {L : Lc} {a b : Expr} {fa fb : M D} {pos : Pos}
def rRepL (K : Frag) : R2 := fun x y H Q => ∃ l k xs, x = .ref l ∧ y = .int k ∧ SqL K H l xs ∧ -(2 ^ 63) ≤ k ∧ k < 2 ^ 63 ∧ xs.length * k.toNat ≤ sizeLine ∧
  ∀ p, H p = none → Q (.ref p) (upd H p (.lst (List.replicate k.toNat xs).flatten))
theorem op_repL : OpR X (binaryOp .Mult) (rRepL X.K) := by
  intro pins s σ H x y v u Q I rx ry h
  obtain ⟨l, k, xs, rfl, rfl, hH, h1, h2, hz, q⟩ := h
  cases rx
  obtain ⟨t, rfl⟩ := ry
  obtain ⟨its, r, ⟨⟨cls, dd, data, sl⟩, n, e, hc, hdd, hd⟩, _⟩ := I.list hH
  simp only at hc hdd hd
  subst hc hdd hd
  have hl := r.length
  have hlen : its.toArray.size * k.toNat ≤ sizeLine := by rw [List.size_toArray, ← hl]; exact hz
  have hcap : ¬ its.toArray.size * k.toNat > (2 ^ 63 - 1) / 8 := by
    have : (sizeLine : Nat) ≤ (2 ^ 63 - 1) / 8 := by decide
    omega
  have hfit : ¬ (!Builtin.List.listFitsIndex k) = true := by
    rw [fitsIndex_both h1 h2]
    exact Bool.false_ne_true
  have hlong : ¬ Builtin.List.listTooLong (its.toArray.size * k.toNat) = true := by
    rw [notLongL hlen]
    exact Bool.false_ne_true
  have hnew : List.foldl (fun x1 x2 => x1 ++ x2) #[] (List.replicate (if its.toArray.isEmpty = true then 0 else k.toNat) its.toArray) = (List.replicate k.toNat its).flatten.toArray := by
    have f0 : ∀ m : Nat, List.foldl (fun x1 x2 => x1 ++ x2) #[] (List.replicate m its.toArray) = (List.replicate m its).flatten.toArray := fun m => by
      have := foldl_rep its m []
      rw [List.nil_append] at this
      exact this
    rw [f0]
    cases its with
    | nil => simp
    | cons a r' => rw [if_neg (by simp)]
  refine wpAny_binaryOp_repeat_ref (T := "list") (U := "int") (by decide) ⟨_, e, rfl⟩ (fun s' => typeIs_int s' k t) noFill_list_mul PySem.F.fills_int_mul PySem.F.slot_int_rmul repeat_list PySem.F.slot_int_index.lookup
    (call_meets PySem.F.slot_int_rmul (typeIs_int s k t) PySem.F.entry_int_rmul (PySem.F.args_int_rmul_2 _ _) (int_rmul_list k t l its.toArray n sl)
      ⟨e, rfl, ⟨_, e, rfl⟩, call_meets PySem.F.slot_list_mul ⟨_, e, rfl⟩ PySem.F.entry_list_mul (PySem.F.args_list_mul_2 _ _) (list_mulS l its.toArray n sl k t hfit hcap hlong) ⟨e, ?_⟩⟩)
  rw [hnew]
  exact ⟨.ref _, _, I.lnew (t' := s.toks) (r.rep k.toNat) (by rw [len_rep, Nat.mul_comm]; exact hz), rfl, q _ I.fresh⟩
theorem eqO_le {neg : Bool} {j : Nat} {σ : St} {H : Hp} {Q : VK} (h : lift (lc X EX) (RV (lc X EX)) (mCmpO (eqN neg) j fb) σ H Q) : tOp (rEqD X.K X.mg neg) (tVar j) (lift (lc X EX) (RV (lc X EX)) fb) σ H Q := by
  obtain ⟨G, F, ρ, g0, o⟩ := h
  unfold mCmpO at o
  by_cases ho : (own ρ[j]?).isSome = true
  · rw [if_pos ho] at o
    obtain ⟨l, d0, hv', _, _⟩ := own_slot g0 ho
    refine ⟨_, hv', at_bnd g0 o (fun x r q => q) fun F1 H1 ρ1 d1 y s1 g1 r1 o1 => ?_⟩
    unfold cmpAt at o1
    cases q : own ρ1[j]? with
    | none => rw [q] at o1; exact o1.elim
    | some d2 =>
      rw [q] at o1
      obtain ⟨l', d', h1, h2, h3⟩ := own_slot g1 (by rw [q]; rfl)
      rw [hv'] at h1
      cases h1
      rw [q] at h2
      cases h2
      obtain ⟨d, e, k⟩ := o1.opt
      obtain ⟨p1, p2, rfl⟩ := eqd_of e
      obtain ⟨F', f1, f2, den⟩ := Obj1.now g1.sub h3
      exact ⟨F', d2, d1, f2, den, r1.same f1, p1, p2, k F1 H1 _ s1 g1 (.bl _)⟩
  · rw [if_neg ho] at o; exact o.elim
theorem pb_eqO (neg : Bool) (hu : X.A.units + 64 < cLine) (j : Nat) {x : Str} {p : Pos} (hb : PV X EX b fb) (hm : behindInMarks (cmE neg) b = false) (hN : X.N[j]? = some x := by rfl) (hv : Vis X.env.scope x := by first | exact Or.inl rfl | exact Or.inr (Or.inl rfl) | exact Or.inr (Or.inr rfl)) (hd : (x == ("__debug__" : Str)) = false := by decide)
    (hcd : (x == ("__classdict__" : Str)) = false := by decide) : PB X EX (.Compare (.Name x p) [cmE neg] [b] pos) (VP.tB (mCmpO (eqN neg) j fb)) :=
  (pt_cmpR (op_eqN neg hu) (pe_var hN hv hd hcd) hb hm).le fun σ H Q ⟨G, F, ρ, g0, o⟩ => eqO_le (at_bnd g0 o (fun x r q => q) fun F1 H1 ρ1 d1 x s1 g1 r1 o1 => by
    cases d1 with
    | bl k => cases r1; exact ⟨k, rfl, o1 F1 H1 k s1 g1 rfl⟩
    | _ => exact o1.elim)
end
end VS
namespace VS
open PySem PySem.Spec PyProof.Rows L2 VP
end VS

end
section
set_option linter.all false
set_option maxRecDepth 100000
namespace VS
open PySem PySem.Spec PyProof.Rows L2 VP
section
variable {prog : Program} {w : World} {A : Around} {E : Value → Shared → Prop} {s : Shared}
end
section
variable {X : Cx} {EX : XE} {L : Lc} {a : Expr} {fa : M D} {p pos p' pos' : Pos}
theorem vals_ints : ∀ {us : List Value} {ns : List Int}, IntsAre us ns → Vals (ns.map V.int) us
  | _, _, .nil => .nil
  | _, _, .cons n t h => .cons ⟨t, rfl⟩ (vals_ints h)
end
end VS

end
section
set_option linter.all false
set_option maxRecDepth 100000
namespace VS
open PySem PySem.Spec PyProof.Rows L2 VP
section
variable {X : Cx} {EX : XE} {L : Lc} {e a b c : Expr} {fe fa fb : M D} {f : M Fl} {pos : Pos} {x : Str} {p : Pos}
theorem lst_good {G : Fx} {F H : Hp} {σ : St} {ρ : Rho} {k : Nat} {ds : List D} (g : L.Good G F H σ ρ) (h : own ρ[k]? = some (.lst ds)) :
    ∃ l vs, σ[k]? = some (some (V.ref l)) ∧ H l = some (.lst vs) ∧ DenL L.K L.mg F vs ds ∧ ∀ vs' ds', DenL L.K L.mg F vs' ds' → L.Good G F (upd H l (.lst vs')) σ (putS k (.lst ds') ρ) := by
  cases q3 : ρ[k]? with
  | none => rw [q3] at h; cases h
  | some s =>
    rw [q3] at h
    have sl := g.slot k s q3
    cases s with
    | no => cases h
    | sh e => cases h
    | ow e =>
      cases h
      obtain ⟨l, z1, z2, z3, vs, z4, z5⟩ := sl
      refine ⟨l, vs, join_some z1, z4, z5, fun vs' ds' r => ?_⟩
      rw [show putS k (.lst ds') ρ = ρ.set k (.ow (.lst ds')) by unfold putS; rw [q3]]
      exact Good.write g q3 rfl (join_some z1) (.inl ⟨_, rfl, rfl⟩) ⟨_, upd_same, r⟩
    | io e =>
      cases h
      obtain ⟨l, z1, z2, z3, vs, z4, z5⟩ := sl
      refine ⟨l, vs, join_some z1, z4, z5, fun vs' ds' r => ?_⟩
      rw [show putS k (.lst ds') ρ = ρ.set k (.io (.lst ds')) by unfold putS; rw [q3]]
      exact Good.write g q3 rfl (join_some z1) (.inr ⟨_, rfl, rfl⟩) ⟨_, upd_same, r⟩
theorem vs_while {body : List Stmt} {ft : M Bool} (hp : PassesOwn (model X.prog X.w) X.A X.env X.xe) (hc : PB X EX c ft) (hb : PVSs X EX body f) : PVS X EX (.While c body [] pos) (sWhile ft f) :=
  (ps_while hp hc hb).le fun E σ H ⟨G, F, ρ, g0, o⟩ => by
    refine ⟨fun m σ H => ∃ F' ρ', Same F F' ∧ (lc X EX).Good G F' H σ ρ' ∧ Out (whileN ft f m ρ') (PostS (lc X EX) G F E) (PostXS (lc X EX) G F), ⟨10000, F, ρ, Same.refl _, g0, o⟩, ?_⟩
    rintro m σ1 H1 ⟨F1, ρ1, s1, g1, o1⟩
    cases m with
    | zero => exact o1.elim
    | succ m =>
      refine at_bnd g1 o1 (fun x r q => (q.same s1).x) fun F2 H2 ρ2 d b s2 g2 r2 o2 => ?_
      cases r2
      cases d with
      | false =>
        rw [if_neg (by decide)] at o2 ⊢
        exact o2 F2 H2 σ1 (s1.trans s2) g2
      | true =>
        rw [if_pos rfl] at o2 ⊢
        refine ⟨fun σ' H' => ∃ F' ρ', Same F F' ∧ (lc X EX).Good G F' H' σ' ρ' ∧ Out (whileN ft f m ρ') (PostS (lc X EX) G F E) (PostXS (lc X EX) G F), fun σ' H' q => ⟨m, Nat.lt_succ_self m, q⟩, ?_⟩
        refine ⟨G, F2, ρ2, g2, (Out.bnd o2).mono (fun k r z => ?_) fun _ _ z => z.same (s1.trans s2)⟩
        cases k with
        | nx => exact fun F' H' σ' s g' => ⟨F', r, (s1.trans s2).trans s, g', z⟩
        | ct => exact fun F' H' σ' s g' => ⟨F', r, (s1.trans s2).trans s, g', z⟩
        | bk => exact fun F' H' σ' s g' => z F' H' σ' ((s1.trans s2).trans s) g'
        | rt d => exact fun F' H' σ' v s g' => z F' H' σ' v ((s1.trans s2).trans s) g'
theorem DenL.dropLast {K : Frag} {mg : MG} {F : Hp} {vs : List V} {ds : List D} (h : DenL K mg F vs ds) : DenL K mg F vs.dropLast ds.dropLast := by
  rw [List.dropLast_eq_take, List.dropLast_eq_take, h.length]; exact h.take _
theorem pv_pop (i : Nat) {apos cpos : Pos} (hN : X.N[i]? = some x := by rfl) (hv : Vis X.env.scope x := by first | exact Or.inl rfl | exact Or.inr (Or.inl rfl) | exact Or.inr (Or.inr rfl)) (hd : (x == ("__debug__" : Str)) = false := by decide)
    (hcd : (x == ("__classdict__" : Str)) = false := by decide)
    (hpe : ∀ {to : TE}, PE X (.Name x p) to → PE X (.Call (.Attribute (.Name x p) "pop" apos) [] [] cpos) (tBM0 X.K "list" rPop to)) : PV X EX (.Call (.Attribute (.Name x p) "pop" apos) [] [] cpos) (mPop i) :=
  (hpe (pe_var hN hv hd hcd)).le fun σ H Q ⟨G, F, ρ, g0, o⟩ => by
    unfold mPop at o
    cases q : own ρ[i]? with
    | none => rw [q] at o; exact o.elim
    | some d0 =>
      rw [q] at o
      cases d0 with
      | lst ds =>
        dsimp only at o
        cases q2 : ds.getLast? with
        | none => rw [q2] at o; exact o.elim
        | some d =>
          rw [q2] at o
          obtain ⟨l, vs, h1, h2, h3, h4⟩ := lst_good (L := lc X EX) g0 q
          have hl : ds[ds.length - 1]? = some d := by rw [← List.getLast?_eq_getElem?]; exact q2
          obtain ⟨v, hv1, hv2⟩ := h3.get hl
          rw [← h3.length] at hv1
          exact ⟨_, h1, .inl ⟨rfl, _, SqL.of h2⟩, l, vs, v, rfl, rfl, h2, hv1, o F _ v (Same.refl _) (h4 _ _ (DenL.dropLast h3)) hv2⟩
      | _ => exact o.elim
theorem vs_ext (i : Nat) {apos cpos : Pos} (he : PF X EX e fe) (hN : X.N[i]? = some x := by rfl) (hv : Vis X.env.scope x := by first | exact Or.inl rfl | exact Or.inr (Or.inl rfl) | exact Or.inr (Or.inr rfl)) (hd : (x == ("__debug__" : Str)) = false := by decide)
    (hcd : (x == ("__classdict__" : Str)) = false := by decide)
    (hpe : ∀ {to : TE} {t : TA}, PE X (.Name x p) to → PA X [e] t → PE X (.Call (.Attribute (.Name x p) "extend" apos) [e] [] cpos) (tBM X.K "list" rExtend to t))
    (hst : starEach [e] X.env = (false, eval e X.env) :: starEach [] X.env := by rfl) : PVS X EX (.Expr (.Call (.Attribute (.Name x p) "extend" apos) [e] [] cpos) pos) (sExt i fe) :=
  (ps_expr (hpe (pe_var hN hv hd hcd) (pa_cons he pa_nil hst))).le fun E σ H ⟨G, F, ρ, g0, o⟩ => by
    unfold sExt at o
    by_cases hl : isLst (own ρ[i]?) = true
    · rw [if_pos hl] at o
      obtain ⟨l, vs, z1, z2⟩ := isLst_slot (L := lc X EX) g0 hl
      refine ⟨_, z1, .inl ⟨rfl, _, SqL.of z2⟩, at_bnd g0 o (fun x r q => q.x) fun F1 H1 ρ1 d1 v s1 g1 r1 o1 => ?_⟩
      have o2 := Out.bnd o1
      unfold mUpd at o2
      cases q : own ρ1[i]? with
      | none => rw [q] at o2; exact o2.elim
      | some d0 =>
        rw [q] at o2
        cases d0 with
        | lst ds =>
          cases d1 with
          | lst es =>
            simp only [extD] at o2
            split at o2
            · rename_i d' q2
              split at q2
              · rename_i hz
                cases q2
                obtain ⟨l', vs', h1, h2, h3, h4⟩ := lst_good (L := lc X EX) g1 q
                rw [z1] at h1
                cases h1
                obtain ⟨bb, rfl, lo⟩ := r1
                obtain ⟨ws, hb, rb⟩ := lo.ob
                refine ⟨l, bb, vs', ws, rfl, rfl, h2, hb, ?_, o2 F1 _ σ s1 (h4 _ _ (h3.append rb))⟩
                rw [h3.length, rb.length, sizeLine_eq]; exact hz
              · cases q2
            · exact o2.elim
          | _ => simp only [extD] at o2; exact o2.elim
        | _ => simp only [extD] at o2; exact o2.elim
    · rw [if_neg hl] at o; exact o.elim
end
end VS

end
section
set_option linter.all false
set_option maxRecDepth 100000
namespace VS
open PySem PySem.Spec PyProof.Rows L2 VP
section
variable {X : Cx} {EX : XE} {L : Lc} {e a b c : Expr} {fe fa fb : M D} {f : M Fl} {pos : Pos} {x : Str} {p : Pos}
theorem inO_le {neg : Bool} {j : Nat} {σ : St} {H : Hp} {Q : VK} (h : lift (lc X EX) (RV (lc X EX)) (mInO neg fa j) σ H Q) : tOp (rIn X.K neg) (lift (lc X EX) (RV (lc X EX)) fa) (tVar j) σ H Q := by
  obtain ⟨G, F, ρ, g0, o⟩ := h
  refine at_bnd g0 o (fun x r q => q) fun F1 H1 ρ1 d1 y s1 g1 r1 o1 => ?_
  unfold inAt at o1
  cases q : own ρ1[j]? with
  | none => rw [q] at o1; exact o1.elim
  | some d2 =>
    rw [q] at o1
    obtain ⟨d, e, k⟩ := Out.opt o1
    unfold inD at e
    cases d2 with
    | lst ds =>
      simp only [seqD] at e
      split at e
      · rename_i hf
        rw [Bool.and_eq_true] at hf
        cases e
        obtain ⟨l, vs, h1, h2, h3, _⟩ := lst_good (L := lc X EX) g1 q
        obtain ⟨i1, i2⟩ := inV_den r1 hf.1 h3 hf.2
        exact ⟨_, h1, l, vs, rfl, .inl (SqL.of h2), flat_den r1 hf.1, i1, by rw [i2]; exact k F1 H1 _ s1 g1 (.bl _)⟩
      · cases e
    | tup ds =>
      obtain ⟨l', d', z1, z2, z3⟩ := own_slot g1 (j := j) (by rw [q]; rfl)
      rw [q] at z2
      cases z2
      exact z3.elim
    | _ => simp only [seqD, reduceCtorEq] at e
theorem pb_notInO (j : Nat) (ha : PV X EX a fa) (hm : behindInMarks .NotIn (.Name x p) = false) (hN : X.N[j]? = some x := by rfl) (hv : Vis X.env.scope x := by first | exact Or.inl rfl | exact Or.inr (Or.inl rfl) | exact Or.inr (Or.inr rfl)) (hd : (x == ("__debug__" : Str)) = false := by decide)
    (hcd : (x == ("__classdict__" : Str)) = false := by decide) : PB X EX (.Compare a [.NotIn] [.Name x p] pos) (VP.tB (mInO true fa j)) :=
  tB_of (pt_cmpR op_notIn_seq ha (pe_var hN hv hd hcd) hm) (fun _ _ _ h => h) fun _ _ _ h => inO_le h
theorem pf_mulL (ha : PV X EX a fa) (hb : PV X EX b fb) : PF X EX (.BinOp a .Mult b pos) (m2 mulL fa fb) :=
  (pe_op op_repL ha hb).le fun σ H Q ⟨G, F, ρ, g0, o⟩ => at_bnd g0 o (fun x r q => q) fun F1 H1 ρ1 d1 x s1 g1 r1 o1 => at_bnd g1 o1 (fun x r q => q.same s1) fun F2 H2 ρ2 d2 y s2 g2 r2 o2 => by
    obtain ⟨d, e, q⟩ := o2.opt
    cases d1 <;> cases d2 <;> try (simp only [mulL, reduceCtorEq] at e; done)
    rename_i ds i
    simp only [mulL] at e
    split at e
    · rename_i hc
      cases e
      cases r2
      have r1' := r1.same s2
      cases r1' with
      | lst h1 z1 =>
        rename_i pp vs
        have hz := hc.2.2
        rw [← z1.length, LIM_eq] at hz
        have hb : (LIM : Int) = 16777216 := rfl
        have h12 := hc.1
        have h22 := hc.2.1
        refine ⟨pp, i, vs, rfl, rfl, SqL.same h1 g2.sub, by omega, by omega, hz, fun w hw => ?_⟩
        exact q _ _ _ (s1.trans s2) (g2.made hw) ⟨w, rfl, g2.loose hw ⟨_, upd_same, DenL.rep z1 _⟩⟩
    · cases e
theorem Good.gone {K : Frag} {mg : MG} {G : Fx} {F H F' H' : Hp} {σ : St} {ρ : Rho} {l : Addr} {d : D} {ios : List D} (g : Good K mg G F H σ ρ) (lo : Loose K mg G F H σ ρ l d) (a : After K mg F H F' H' [l] ios) : Good K mg G F' H' σ ρ := by
  have keepF : ∀ {m : Addr}, F m = none → (∃ o, H m = some o) → F' m = none := fun {m} h ⟨o, ho⟩ => by
    cases q : F' m with
    | none => rfl
    | some u =>
      rcases a.new m u q with z | z
      · rw [h] at z; cases z
      · rw [ho] at z; cases z
  have nl : ∀ {b : Addr} {o : HO}, G.H₀ b = some o → b ∉ [l] := fun {b o} e hb => by
    have : b = l := by simpa using hb
    subst this
    rw [lo.n0] at e; cases e
  exact {
    sF := g.sF.trans a.sF
    sub := a.sub
    old := fun b o e n => a.old b o (g.old b o e n) (nl e)
    new := fun b o e => by
      rcases a.new b o e with z | z
      · exact g.new b o z
      · exact .inr (g.new0 z)
    len := g.len
    slot := fun i s h => (g.slot i s h).same a.sF (fun m _ _ f t => keepF f t) fun m o hv ow e => a.old m o e fun hb => by
      have : m = l := by simpa using hb
      subst this
      exact lo.ns i s h ow (join_some hv)
    apart := g.apart
    ioT := fun i b h => by
      obtain ⟨⟨o, q1⟩, q2, u, q3⟩ := g.ioT i b h
      exact ⟨⟨o, a.old b o q1 (nl q3)⟩, keepF q2 ⟨o, q1⟩, u, q3⟩
    ioU := g.ioU }
variable {CX : CXT} {k : Nat} {fA : Addr} {fd : FuncData} {ps : List Str} {fs : Fn}
theorem pv_callL (F : FnOk X.prog X.w X.K X.mg X.base CX k fA fd ps (spV X.K X.mg [true] fs)) (hr : Room k X.A) (hg : Gl X x) (hm : X.mg x = some (.ref fA)) (hk : PySem.W.keepIn X.K (.ref fA) = true) (hb : Binds X.K fd ps []) (hx : PassesAt CX X EX)
    (ha : PF X EX a fa) (hdb : (x == ("__debug__" : Str)) = false := by decide) (he : starEach [a] X.env = (false, eval a X.env) :: starEach [] X.env := by rfl) (hpl : (backTo pos (starEach [] X.env)).any (·.1) = false := by rfl) :
    PV X EX (.Call (.Name x p) [a] [] pos) (mCallL fs fa) := by
  intro pins s σ H Q I h
  obtain ⟨G, F0, ρ, g0, o⟩ := h
  refine wpAny_Call_Name_kw (ld_glob I hg hm ?_ hdb)
  refine PySem.W.callWith_K (h₀ := X.base) I.ok.mod.kin hk (thn (pa_cons ha pa_nil he pos pins s σ H (fun vs H1 => spV X.K X.mg [true] fs vs H1 Q (EX σ)) I ?_) fun us s1 ⟨vs, H1, I1, r, q⟩ => ⟨I1.kIn, ?_⟩) he hpl
  · refine at_bnd g0 o (fun x r q => q) fun F1 H1 ρ1 d1 v s1 g1 r1 o1 => ?_
    obtain ⟨l, rfl, lo⟩ := r1
    refine ⟨rfl, F1, [d1], g1.sub, ⟨⟨l, rfl, lo.nF, lo.ob⟩, trivial⟩, by simp [ioAd, ioAs], ?_⟩
    unfold appL at o1
    cases q2 : fs [d1] with
    | no => rw [q2] at o1; exact o1.elim
    | ok d ios =>
      rw [q2] at o1
      match ios, o1 with
      | [io], o1 => exact fun F' H' v a rd => o1 F' H' v (s1.trans a.sF) (Good.gone g1 lo a) rd
      | [], o1 => exact o1.elim
      | _ :: _ :: _, o1 => exact o1.elim
    | exc xx ios =>
      rw [q2] at o1
      match ios, o1 with
      | [io], o1 => exact fun F' H' c dx a rx => o1 F' H' c dx (s1.trans a.sF) (Good.gone g1 lo a) rx
      | [], o1 => exact o1.elim
      | _ :: _ :: _, o1 => exact o1.elim
  · exact run_fnv F hr hb hx I1 r q
end
end VS

end
section
set_option linter.all false
set_option maxRecDepth 100000
namespace VS
open PySem PySem.Spec PyProof.Rows L2 VP
def spVF (K : Frag) (mg : MG) (fl : List Bool) (f : Fn) : Sp := fun vs H Q E => vs.length = fl.length ∧ ∃ F ds, Same F H ∧ ArgsR K mg F H fl vs ds ∧ (ioAd fl vs).Nodup ∧
  match f ds with
  | .ok d ios => ∀ F' H' l, After K mg F H F' H' (ioAd fl vs) ios → F' l = none → H l = none → Obj1 K mg F' H' l d → Q (.ref l) H'
  | .exc x ios => ∀ F' H' c dx, After K mg F H F' H' (ioAd fl vs) ios → XR K mg F' H' c dx x → E c dx H'
  | .no => False
def PostE (L : Lc) (G : Fx) (F : Hp) (E : Ends) : Fl → Rho → Prop := fun k ρ' => match k with
  | .rt d => ∀ F' H' σ' l, Same F F' → L.Good G F' H' σ' ρ' → F' l = none → G.H₀ l = none → Obj1 L.K L.mg F' H' l d → E.rt (.ref l) H'
  | _ => False
def liftE (L : Lc) (f : M Fl) : TS := fun E σ H => ∃ G F ρ, L.Good G F H σ ρ ∧ Out (f ρ) (PostE L G F E) (PostXS L G F)
def PVSE (X : Cx) (EX : XE) (st : List Stmt) (f : M Fl) : Prop := PSs X st (liftE (lc X EX) f)
theorem PostE.same {L : Lc} {G : Fx} {F F1 : Hp} {E : Ends} (e : Same F F1) {k : Fl} {r : Rho} (h : PostE L G F E k r) : PostE L G F1 E k r := by
  cases k with
  | rt d => exact fun F' H' σ' l s g => h F' H' σ' l (e.trans s) g
  | _ => exact h
section
variable {X : Cx} {EX : XE} {st : Stmt} {rest : List Stmt} {f g : M Fl} {pos p : Pos} {x : Str}
theorem vse_last (i : Nat) (hN : X.N[i]? = some x := by rfl) (hv : Vis X.env.scope x := by first | exact Or.inl rfl | exact Or.inr (Or.inl rfl) | exact Or.inr (Or.inr rfl)) (hd : (x == ("__debug__" : Str)) = false := by decide)
    (hcd : (x == ("__classdict__" : Str)) = false := by decide) : PVSE X EX [.Return (some (.Name x p)) pos] (sRetO i) :=
  L2.PSs.le (pss_one (ps_ret (pe_var hN hv hd hcd))) fun E σ H ⟨G, F, ρ, g0, o⟩ => by
    unfold sRetO at o
    cases q : ρ[i]? with
    | none => rw [q] at o; exact o.elim
    | some s =>
      rw [q] at o
      cases s with
      | ow d =>
        obtain ⟨l, z1, z2, z3, z4⟩ := g0.slot i _ q
        exact ⟨_, join_some z1, o F H σ l (Same.refl _) g0 z2 z3 z4⟩
      | _ => exact o.elim
theorem vse_cons (h1 : PVS X EX st f) (h2 : PVSE X EX rest g) : PVSE X EX (st :: rest) (sSeqE f g) :=
  L2.PSs.le (pss_cons h1 h2) fun E σ H ⟨G, F, ρ, g0, o⟩ => ⟨G, F, ρ, g0, o.bnd.mono (fun k r q => by
    cases k with
    | nx => exact fun F' H' σ' s g' => ⟨G, F', r, g', Out.mono q (fun _ _ => PostE.same s) fun _ _ => PostXS.same s⟩
    | bk => exact q.elim
    | ct => exact q.elim
    | rt d => exact q.elim) fun _ _ q => q⟩
end
section
variable {P : Program} {w : World} {K : Frag} {mg : MG} {base : Heap}
theorem start_leF {N ps : List Str} {fl : List Bool} {body : M Fl} {vs : List V} {H : Hp} {Q : VK} {E : XK} (hp : N.take ps.length = ps) (hl : fl.length = ps.length) (h : spVF K mg fl (defn N.length fl body) vs H Q E) (hnx : ∀ r ρ', body r ≠ .ok .nx ρ') :
    liftE ⟨K, mg, fun _ => E⟩ body { nx := fun _ H' => Q .non H', rt := Q } (start N vs) H := by
  obtain ⟨hv, F, ds, hs, ha, hd, h⟩ := h
  have hpn : fl.length ≤ N.length := by
    have := congrArg List.length hp
    rw [List.length_take] at this
    omega
  have g0 := good_start (N := N) hs ha hd hpn
  have hio : ∀ (k : Nat), fl[k]? = some true → ∃ a, vs[k]? = some (V.ref a) := fun k q => by
    have hk : k < fl.length := (List.getElem?_eq_some_iff.mp q).1
    obtain ⟨l1, l2⟩ := ha.len
    have hkv : k < vs.length := by omega
    have hkd : k < ds.length := by omega
    obtain ⟨l, e, _⟩ := (ha.get k true vs[k] ds[k] q (by simp [hkv]) (by simp [hkd])).2 rfl
    exact ⟨l, by rw [← e]; simp [hkv]⟩
  refine ⟨_, F, _, g0, ?_⟩
  unfold defn at h
  rw [if_pos ha.len.2] at h
  have aft : ∀ {F' H' : Hp} {σ' : St} {ρ' : Rho} {ios : List D}, Same F F' → Good K mg ⟨H, F, ioAs 0 fl vs⟩ F' H' σ' ρ' → iosOf fl ρ' = some ios → After K mg F H F' H' (ioAd fl vs) ios := fun {F' H' σ' ρ' ios} s g q =>
    ⟨s, g.sub, fun a o e n => g.old a o e fun i z => n (List.mem_map.mpr ⟨_, z, rfl⟩), g.new, iosOf_ok g rfl hv q hio⟩
  cases qR : body (startR N.length fl ds) with
  | no => rw [qR] at h; exact h
  | exc z ρ' =>
    rw [qR] at h
    cases q : iosOf fl ρ' with
    | none => simp only [q] at h
    | some ios =>
      simp only [q] at h
      exact fun F' H' σ' c dx s g r => h F' H' c dx (aft s g q) r
  | ok fl' ρ' =>
    rw [qR] at h
    cases fl' with
    | bk => exact h.elim
    | ct => exact h.elim
    | nx => exact absurd qR (hnx _ _)
    | rt d =>
      cases q : iosOf fl ρ' with
      | none => simp only [q] at h
      | some ios =>
        simp only [q] at h
        exact fun F' H' σ' l s g n1 n2 r => h F' H' l (aft s g q) n1 n2 r
theorem seqE_nx {f g : M Fl} (h : ∀ r ρ', g r ≠ .ok .nx ρ') : ∀ r ρ', sSeqE f g r ≠ .ok .nx ρ' := fun r ρ' e => by
  unfold sSeqE VP.bnd at e
  cases q : f r with
  | no => rw [q] at e; cases e
  | exc x r' => rw [q] at e; cases e
  | ok k r' =>
    rw [q] at e
    cases k with
    | nx => exact h _ _ e
    | bk => cases e
    | ct => cases e
    | rt d => cases e
theorem retO_nx {i : Nat} : ∀ r ρ', sRetO i r ≠ .ok .nx ρ' := fun r ρ' e => by
  unfold sRetO at e
  split at e <;> cases e
theorem fn_okF {x qual : Str} {st : Stmt} {f : Addr} {fd : FuncData} {N ps : List Str} {k : Nat} {fl : List Bool} {body : M Fl} (Fu : Fun K x qual st f fd) (S : FnScope N ps (defScope st)) (hl : fl.length = ps.length) (hnx : ∀ r ρ', body r ≠ .ok .nx ρ')
    (hbody : ∀ (cdv : Value) (A : Around) (outer : List Env) (s : Shared) (H : Hp) (E : XK), Room k (A.deeper (envOfC qual (defScope st) s.heap.objs.size f cdv)) →
      PVSE (cxOf CX0 P w K mg base N qual (defScope st) f cdv A outer s H E).nox (fun _ => E) (defBody st) body) :
    FnOk P w K mg base CX0 (k + 1) f fd ps (spVF K mg fl (defn N.length fl body)) := by
  refine Fu.ok S (fun vs H Q E h => by rw [h.1, hl]) fun cdv A outer s H vs Q E hr h => ?_
  exact ⟨_, hbody cdv A outer s H E hr, start_leF S.pre hl h hnx⟩
end
section
variable {X : Cx} {EX : XE} {e a : Expr} {es : List Expr} {as : List VP.Arg} {fa : M D} {pos : Pos} {CX : CXT} {k : Nat} {fA : Addr} {fd : FuncData} {ps : List Str} {E : XK} {x : Str} {p : Pos} {fl : List Bool} {fs : Fn}
theorem app_leF {L : Lc} {G : Fx} {F H : Hp} {σ : St} {ρ : Rho} {vs : List V} {as : List AV} {Q : VK} {P : D → Rho → Prop} {Ex : Xn → Rho → Prop} (g : L.Good G F H σ ρ) (r : AvsR L F σ vs as)
    (hfl : as.map (fun a => match a with | .val _ => false | .io _ => true) = fl) (o : Out (mApp fs as ρ) P Ex) (hE : ∀ x r, Ex x r → PostX L G F σ x r)
    (hP : ∀ F' H' ρ' d l, Same F F' → L.Good G F' H' σ ρ' → Loose L.K L.mg G F' H' σ ρ' l d → P d ρ' → Q (.ref l) H') : spVF L.K L.mg fl fs vs H Q (L.EX σ) := by
  unfold mApp at o
  cases q : avs as ρ with
  | none => rw [q] at o; exact o.elim
  | some ds =>
    rw [q] at o
    dsimp only at o
    by_cases nd : (ioSl as).Nodup
    · rw [if_pos nd] at o
      obtain ⟨k1, k2⟩ := avs_ok g r q hfl
      obtain ⟨k3, k4⟩ := k2 0
      refine ⟨by rw [k1.len.1], F, ds, g.sub, k1, ads_nodup g nd k3 k4, ?_⟩
      cases q2 : fs ds with
      | no => rw [q2] at o; exact o.elim
      | ok d ios =>
        rw [q2] at o
        refine fun F' H' l a n1 n2 rd => hP F' H' _ d l a.sF (Good.called g nd k3 k4 a) ⟨n1, g.new0 n2, rd, fun i s h ow e => ?_⟩ o
        have back : ∃ s', ρ[i]? = some s' ∧ Owned s' = true := by
          by_cases hi' : i ∈ ioSl as
          · obtain ⟨m, hm, em⟩ := List.mem_iff_getElem.mp hi'
            have e' : (ioSl as)[m]? = some i := by rw [← em]; simp [hm]
            obtain ⟨q1, _⟩ := k4 m i (((ioAs 0 fl vs).map (·.2))[m]'(by omega)) e' (List.getElem?_eq_getElem _)
            exact q1
          · rw [putAll_out hi'] at h; exact ⟨s, h, ow⟩
        obtain ⟨s', b1, b2⟩ := back
        obtain ⟨m, dd, c1, c2, c3, c4⟩ := (g.slot i s' b1).own b2
        rw [e] at c1
        cases c1
        obtain ⟨u, hu⟩ := c3.has
        rw [n2] at hu; cases hu
      | exc xx ios =>
        rw [q2] at o
        exact fun F' H' c dx a rx => hE _ _ o F' H' c dx a.sF (Good.called g nd k3 k4 a) rx
    · rw [if_neg nd] at o; exact o.elim
theorem pf_call (F : FnOk X.prog X.w X.K X.mg X.base CX k fA fd ps (spVF X.K X.mg fl fs)) (hr : Room k X.A) (hg : Gl X x) (hm : X.mg x = some (.ref fA)) (hk : PySem.W.keepIn X.K (.ref fA) = true) (hb : Binds X.K fd ps []) (hx : PassesAt CX X EX)
    (ha : PAs X EX (e :: es) as) (hfl : as.map VP.Arg.isIo = fl := by rfl) (hdb : (x == ("__debug__" : Str)) = false := by decide) (he : starEach (e :: es) X.env = (false, eval e X.env) :: starEach es X.env := by rfl) (hpl : (backTo pos (starEach es X.env)).any (·.1) = false := by rfl) :
    PF X EX (.Call (.Name x p) (e :: es) [] pos) (mCall fs as) := by
  intro pins s σ H Q I h
  obtain ⟨G, F0, ρ, g0, o⟩ := h
  refine wpAny_Call_Name_kw (ld_glob I hg hm ?_ hdb)
  refine PySem.W.callWith_K (h₀ := X.base) I.ok.mod.kin hk (thn (ha pos pins s σ H (fun vs H1 => spVF X.K X.mg fl fs vs H1 Q (EX σ)) I ⟨G, F0, ρ, g0, ?_⟩) fun us s1 ⟨vs, H1, I1, r, q⟩ => ⟨I1.kIn, ?_⟩) he hpl
  · unfold mCall VP.bnd at o
    cases q : mArgs as ρ with
    | no => rw [q] at o; exact o.elim
    | exc xx ρ1 => rw [q] at o; exact o
    | ok av ρ1 =>
      rw [q] at o
      intro F1 H1 vs s1 g1 r1
      exact app_leF (L := lc X EX) g1 r1 ((mArgs_kinds q).trans hfl) o (fun x r q => q.same s1) fun F' H' ρ' d l s' g' rd P => P F' H' _ (s1.trans s') g' ⟨l, rfl, rd⟩
  · exact run_fnv F hr hb hx I1 r q
end
end VS

end
section
set_option linter.all false
set_option maxRecDepth 100000
namespace VS
open PySem PySem.Spec PyProof.Rows L2 VP
section
variable {pg : Program} {wd : World} {A : Around} {R : Result → Shared → Prop} {It : Addr} {fp wr : List Addr} {n : Nat} {P : Nat → Value → Prop} {Z : Nat → Heap → Prop} {dv : Value}
theorem args_maxd (a d : Value) : argsOk "max" ⟨[a], [("default", d)]⟩ := by unfold argsOk; kernel_rfl
theorem loop_name : (toString "max" ++ toString ".loop" : String) = "max.loop" := by decide
theorem maxd_loop (W : Walks pg wd A.in1 It fp wr n P Z) (bt : Nat → Nat → Bool) (cm : CmpOf pg wd A.in1 .Gt P bt) (S : Addr) (nS : S ∉ fp) :
    ∀ (m i : Nat) (t : Shared) (best : Value) (cap : Nat), n - (i + 1) = m → i + 1 ≤ n → Z (i + 1) t.heap → P (argBest bt i) best →
    t.heap.get? S = some { cls := .type "list", dict := none, data := .seq #[best, best] cap, slots := #[] } →
    (∀ v g tk, P (argBest bt (n - 1)) v → (∀ b o, b ∉ wr → b ≠ S → t.heap.get? b = some o → g.get? b = some o) → R (.ok (.ret v)) { t with heap := g, toks := tk }) →
    codeAny (model pg wd) A (.builtin "max.loop" ⟨[.ref It, .none, .ref S], [("default", dv)]⟩) R t := by
  have nw : S ∉ wr := fun q => nS (W.sub _ q)
  intro m
  induction m with
  | zero =>
    intro i t best cap e1 e2 hz hb hS fin
    have en : i + 1 = n := by omega
    refine codeAny_builtin PySem.F.entry_max_loop ?_; rw [Around.under_plainId PySem.F.plain_max_loop _]
    refine wpAny_bind (m := seqItems? (.ref S)) (wpAny_seqItems hS rfl ?_)
    refine wpAny_bind (m := tryCatch (pyNext (.ref It)) _) (wpAny_tryCatch (W.done t _ _ (en ▸ hz) fun g tk kp => ?_))
    have hS2 := kp S _ nw hS
    refine wpAny_bind (m := updateSeq S (fun _ => #[])) (wpAny_updateSeq hS2 rfl (wpAny_bind (wpAny_letGo (wpAny_pure ?_))))
    exact fin best _ tk (by rw [← en]; exact hb) fun b o q1 q2 z => (Heap.get?_update_other _ _ (Ne.symm q2)).trans (kp b o q1 z)
  | succ m ih =>
    intro i t best cap e1 e2 hz hb hS fin
    have lt : i + 1 < n := by omega
    refine codeAny_builtin PySem.F.entry_max_loop ?_; rw [Around.under_plainId PySem.F.plain_max_loop _]
    refine wpAny_bind (m := seqItems? (.ref S)) (wpAny_seqItems hS rfl ?_)
    refine wpAny_bind (m := tryCatch (pyNext (.ref It)) _) (wpAny_tryCatch (W.item (i + 1) t _ _ lt hz fun v g tk hv hz2 kp => ?_))
    have hS2 := kp S _ nw hS
    refine wpAny_bind (m := tryCatch (holding [v, v] (richCompare .Gt v best >>= _)) _) (wpAny_tryCatch (wpAny_holding (wpAny_bind (cm (i + 1) (argBest bt i) v best _ _ _ hv hb ?_))))
    refine wpAny_bind (wpAny_holding (wpAny_truthy_bool (wpAny_bind (wpAny_letGo (wpAny_pure ?_)))))
    cases q : bt (i + 1) (argBest bt i) with
    | true =>
      simp only [if_true]
      refine wpAny_bind (wpAny_updateSeq hS2 rfl (wpAny_bind (wpAny_letGo ?_)))
      rw [loop_name]
      refine wpAny_pure ⟨plainId_quiet PySem.F.plain_max_loop _, ih (i + 1) _ v _ (by omega) lt (W.frame _ _ _ hz2 fun b mb o z => (Heap.get?_update_other _ _ (fun w : S = b => nS (by rw [w]; exact mb))).trans z) (by simp only [argBest, q, if_true]; exact hv) (Heap.get?_update_self _ hS2 rfl) fun v2 g2 tk2 y1 y2 => ?_⟩
      exact fin v2 g2 tk2 y1 fun b o q1 q2 z => y2 b o q1 q2 ((Heap.get?_update_other _ _ (Ne.symm q2)).trans (kp b o q1 z))
    | false =>
      simp only [Bool.false_eq_true, if_false]
      refine wpAny_bind (wpAny_letGo ?_)
      rw [loop_name]
      exact wpAny_pure ⟨plainId_quiet PySem.F.plain_max_loop _, ih (i + 1) _ best cap (by omega) lt hz2 (by simp only [argBest, q, Bool.false_eq_true, if_false]; exact hb) hS2 fun v2 g2 tk2 y1 y2 => fin v2 g2 tk2 y1 fun b o q1 q2 z => y2 b o q1 q2 (kp b o q1 z)⟩
theorem maxd_first (W : Walks pg wd A.in1 It fp wr n P Z) (bt : Nat → Nat → Bool) (cm : CmpOf pg wd A.in1 .Gt P bt) (S : Addr) (nS : S ∉ fp) {t : Shared} {cap : Nat} (hz : Z 0 t.heap)
    (hS : t.heap.get? S = some { cls := .type "list", dict := none, data := .seq #[] cap, slots := #[] })
    (fin : ∀ v g tk, (n = 0 ∧ v = dv ∨ 0 < n ∧ P (argBest bt (n - 1)) v) → (∀ b o, b ∉ wr → b ≠ S → t.heap.get? b = some o → g.get? b = some o) → R (.ok (.ret v)) { t with heap := g, toks := tk }) :
    codeAny (model pg wd) A (.builtin "max.loop" ⟨[.ref It, .none, .ref S], [("default", dv)]⟩) R t := by
  have nw : S ∉ wr := fun q => nS (W.sub _ q)
  refine codeAny_builtin PySem.F.entry_max_loop ?_; rw [Around.under_plainId PySem.F.plain_max_loop _]
  refine wpAny_bind (m := seqItems? (.ref S)) (wpAny_seqItems hS rfl ?_)
  by_cases hn : 0 < n
  · refine wpAny_bind (m := tryCatch (pyNext (.ref It)) _) (wpAny_tryCatch (W.item 0 t _ _ hn hz fun v g tk hv hz2 kp => ?_))
    have hS2 := kp S _ nw hS
    refine wpAny_bind (m := updateSeq S (fun _ => #[v, v])) (wpAny_updateSeq hS2 rfl ?_)
    rw [loop_name]
    refine wpAny_pure ⟨plainId_quiet PySem.F.plain_max_loop _, maxd_loop W bt cm S nS _ 0 _ v _ rfl hn (W.frame _ _ _ hz2 fun b mb o z => (Heap.get?_update_other _ _ (fun w : S = b => nS (by rw [w]; exact mb))).trans z) hv (Heap.get?_update_self _ hS2 rfl) fun v2 g2 tk2 y1 y2 => ?_⟩
    exact fin v2 g2 tk2 (.inr ⟨hn, y1⟩) fun b o q1 q2 z => y2 b o q1 q2 ((Heap.get?_update_other _ _ (Ne.symm q2)).trans (kp b o q1 z))
  · have n0 : n = 0 := by omega
    refine wpAny_bind (m := tryCatch (pyNext (.ref It)) _) (wpAny_tryCatch (W.done t _ _ (n0 ▸ hz) fun g tk kp => ?_))
    exact wpAny_bind (wpAny_rule (wpAny_pure (fin dv g tk (.inl ⟨n0, rfl⟩) fun b o q1 _ z => kp b o q1 z)))
end
end VS

end
section
set_option linter.all false
set_option maxRecDepth 100000
namespace VS
open PySem PySem.Spec PyProof.Rows L2 VP
def mx (a b : Int) : Int := if a < b then b else a
theorem best_at (ns : List Int) : ∀ k, k < ns.length → argBest (fun i j => decide (ns.getD i 0 > ns.getD j 0)) k ≤ k ∧ ns.getD (argBest (fun i j => decide (ns.getD i 0 > ns.getD j 0)) k) 0 = ((ns.drop 1).take k).foldl mx (ns.getD 0 0)
  | 0, _ => ⟨Nat.le_refl _, by simp [argBest]⟩
  | k + 1, h => by
    obtain ⟨i1, i2⟩ := best_at ns k (by omega)
    have e : ((ns.drop 1).take (k + 1)).foldl mx (ns.getD 0 0) = mx (((ns.drop 1).take k).foldl mx (ns.getD 0 0)) (ns.getD (k + 1) 0) := by
      rw [List.take_succ, List.foldl_append]
      have : (ns.drop 1)[k]? = some (ns.getD (k + 1) 0) := by
        rw [List.getElem?_drop, show 1 + k = k + 1 by omega]
        simp [h]
      rw [this]; rfl
    rw [e, ← i2]
    have st : argBest (fun i j => decide (ns.getD i 0 > ns.getD j 0)) (k + 1) = if decide (ns.getD (k + 1) 0 > ns.getD (argBest (fun i j => decide (ns.getD i 0 > ns.getD j 0)) k) 0) = true then k + 1 else argBest (fun i j => decide (ns.getD i 0 > ns.getD j 0)) k := rfl
    rw [st]
    generalize argBest (fun i j => decide (ns.getD i 0 > ns.getD j 0)) k = m at *
    by_cases q : ns.getD (k + 1) 0 > ns.getD m 0
    · rw [decide_eq_true q, if_pos rfl]
      exact ⟨Nat.le_refl _, by unfold mx; rw [if_pos q]⟩
    · rw [decide_eq_false q, if_neg (by decide)]
      exact ⟨by omega, by unfold mx; rw [if_neg q]⟩
theorem best_max (i : Int) (is : List Int) : (i :: is).getD (argBest (fun a b => decide ((i :: is).getD a 0 > (i :: is).getD b 0)) ((i :: is).length - 1)) 0 = is.foldl mx i := by
  rw [(best_at (i :: is) ((i :: is).length - 1) (by simp)).2]
  simp
section
variable {pg : Program} {wd : World} {A : Around} {E : Value → Shared → Prop} {s : Shared}
theorem tree_kw {id : String} {b : Builtin} {args : List Value} {kw : List (Str × Value)} {Q : Value → Shared → Prop} (k0 : builtinKind id = none) (p0 : plainId id = true) (e0 : entryFor table id = some b) (a0 : argsOk id ⟨args, kw⟩)
    (go : wpAny (model pg wd) A.in1 (b ⟨args, kw⟩) (fun fin s' => match fin with
      | .done f => (match (Except.ok f : Result) with | .ok (.ret v) => Q v s' | .ok _ => False | .error e => E e s')
      | .again c' => c'.quiet = true ∧ codeAny (model pg wd) A c' (fun r s' => match r with | .ok (.ret v) => Q v s' | .ok _ => False | .error e => E e s') s') E s) :
    wpAny (model pg wd) A (call (.builtin id) args kw) Q E s := by
  refine wpAny_call (codeAny_call_builtin p0 e0 ?_)
  simp only [checkBuiltinCall, k0]
  cases q : Manifest.signature? id with
  | none => exact wpAny_pure go
  | some sig =>
    have h2 : Bind.checkArgs id sig ⟨args, kw⟩ = pure () := by simpa only [argsOk, q] using a0
    simp only [h2]
    exact wpAny_pure go
theorem call_maxd {q : Addr} {its : List Value} {ns : List Int} {dv : Value} {Q : Value → Shared → Prop} (hh : A.handled = none) (hl : s.heap.IsTuple q its.toArray) (hi : IntsAre its ns)
    (h : ∀ v h' tk, (ns = [] ∧ v = dv ∨ ∃ i is t, ns = i :: is ∧ v = .int (is.foldl mx i) t) → (∀ b o, s.heap.get? b = some o → h'.get? b = some o) → Q v { s with heap := h', toks := tk }) :
    wpAny (model pg wd) A (call (.builtin "max") [.ref q] [("default", dv)]) Q E s := by
  refine tree_kw PySem.F.kind_max PySem.F.plain_max PySem.F.entry_max (args_maxd _ _) ?_
  refine wpAny_bind (m := Builtin.Builtins.bindParams "max" ["key", "default"] 0 ⟨[], [("default", dv)]⟩) (wpAny_of_eq (show _ = pure [none, some dv] from rfl) ?_)
  refine wpAny_bind (wpAny_pure (wpAny_bind (wpAny_pyIter_tuple hl ?_)))
  have lt : q < s.heap.objs.size := by obtain ⟨o, e, _⟩ := hl; exact Heap.lt_size e
  have vals : ∀ i v, its.toArray[i]? = some v → ∃ t, v = Value.int (ns.getD i 0) t := fun i v e => by
    have e' : its[i]? = some v := by simpa using e
    clear e h hl
    induction hi generalizing i with
    | nil => simp at e'
    | cons n t hr ih =>
      cases i with
      | zero => simp at e'; exact ⟨t, by simp [← e']⟩
      | succ i => exact ih i (by simpa using e')
  have W := Walks.tuple (prog := pg) (w := wd) (A := A.in1) hh s.heap.objs.size q (Nat.ne_of_lt lt) its.toArray
  refine wpAny_bind (wpAny_newObj_type ?_)
  have hsz : (s.heap.push { cls := .type "tuple_iterator", data := .fields #[.ref q, .int 0 0] }).objs.size = s.heap.objs.size + 1 := Heap.size_push ..
  rw [loop_name]
  refine wpAny_pure ⟨plainId_quiet PySem.F.plain_max_loop _, maxd_first W _ (CmpOf.ints_gt (fun i => ns.getD i 0) vals) _ ?_ (cap := 0) ?_ ?_ fun v g tk hv kp => ?_⟩
  · intro hm
    rw [hsz] at hm
    simp at hm
    rw [← hm] at lt
    exact Nat.lt_irrefl _ (Nat.lt_of_succ_lt lt)
  · exact ⟨⟨_, Heap.get?_push_of_some _ (Heap.get?_push_size _ rfl), rfl, rfl⟩, (hl.push _).push _⟩
  · exact Heap.get?_push_size _ rfl
  · have lenE : its.length = ns.length := by
      clear h hl vals W hv kp
      induction hi with
      | nil => rfl
      | cons n t hr ih => simp [ih]
    refine h v g tk ?_ fun b o e => kp b o ?_ ?_ (Heap.get?_push_of_some _ (Heap.get?_push_of_some _ e))
    · rcases hv with ⟨h0, rfl⟩ | ⟨h0, hv⟩
      · refine .inl ⟨?_, rfl⟩
        have : its.length = 0 := by simpa using h0
        exact List.length_eq_zero_iff.mp (by omega)
      · obtain ⟨t, e⟩ := vals _ _ hv
        cases ns with
        | nil => simp at h0; rw [lenE] at h0; simp at h0
        | cons i is =>
          refine .inr ⟨i, is, t, rfl, ?_⟩
          rw [e, ← best_max i is]
          have : its.toArray.size - 1 = (i :: is).length - 1 := by rw [← lenE]; simp
          rw [this]
    · have := Heap.lt_size e
      intro hm
      have z : b = s.heap.objs.size := by simpa using hm
      rw [z] at this
      exact Nat.lt_irrefl _ this
    · have := Heap.lt_size e
      intro z
      rw [z, hsz] at this
      exact Nat.lt_irrefl _ (Nat.lt_of_succ_lt this)
end
section
variable {X : Cx} {EX : XE} {L : Lc} {a b : Expr} {fa fb : M D} {p pos kp : Pos}
theorem pv_maxd (hc : X.calm = true) (hgl : Gl X "max") (hm : X.mg "max" = none) (hv : bootBuiltins "max" = some (.builtin "max")) (ha : PV X EX a fa) (hb : PV X EX b fb)
    (hs : starEach [a] X.env = (false, eval a X.env) :: starEach [] X.env := by rfl)
    (he : backTo pos (starEach [a] X.env) = (false, eval a X.env) :: backTo pos (starEach [] X.env) := by rfl) (hp : (backTo pos (starEach [a] X.env)).any (·.1) = false := by rfl)
    (hk1 : (backToKw pos (keywordEach [⟨some "default", b, kp⟩] X.env)).all (·.1.isSome) = true := by rfl) (hk2 : (backToKw pos (keywordEach [⟨some "default", b, kp⟩] X.env)).any (·.1.isNone) = false := by rfl)
    (hk3 : (backToKw pos (keywordEach [⟨some "default", b, kp⟩] X.env)).filterMap (·.1) = [("default" : Str)] := by rfl) :
    PV X EX (.Call (.Name "max" p) [a] [⟨some "default", b, kp⟩] pos) (m2 maxDef fa fb) := by
  intro pins s σ H Q I ⟨G, F, ρ, g0, o⟩
  refine wpAny_Call_Name_kw (ld_blt I hgl hm hv ?_ (by decide) (by decide))
  refine callWith_kw (thn (pa_cons ha pa_nil hs pos pins s σ H (fun xs H1 => ∃ x, xs = [x] ∧ lift (lc X EX) (RV (lc X EX)) fb σ H1 fun y H2 => (∃ q ns, x = .ref q ∧ SqT X.K H2 q (ns.map V.int) ∧ Q (match ns with | [] => y | i :: is => .int (is.foldl mx i)) H2)) I ?_) fun us s1 ⟨vs, H1, I1, r1, q1⟩ => ?_) he hp hk1 hk2
  · refine at_bnd g0 o (fun x r q => q) fun F1 H1 ρ1 d1 x s1 g1 r1 o1 => ⟨x, rfl, at_bnd g1 o1 (fun x r q => q.same s1) fun F2 H2 ρ2 d2 y s2 g2 r2 o2 => ?_⟩
    obtain ⟨d, e, q⟩ := o2.opt
    cases d1 with
    | tup ds =>
      simp only [maxDef] at e
      cases e2 : intsD ds with
      | none => rw [e2] at e; cases e
      | some ns =>
        rw [e2] at e
        have r1' := r1.same s2
        cases r1' with
        | tup h1 z1 =>
          have ev := ints_of z1 e2
          subst ev
          refine ⟨_, ns, rfl, SqT.same h1 g2.sub, ?_⟩
          cases ns with
          | nil => cases e; exact q F2 H2 y (s1.trans s2) g2 r2
          | cons i is => cases e; exact q F2 H2 _ (s1.trans s2) g2 (.int _)
    | _ => simp only [maxDef, reduceCtorEq] at e
  · obtain ⟨x, rfl, lf⟩ := q1
    obtain ⟨u, rfl, ru⟩ := vals1 r1
    refine kws_cons (thn (hb pins s1 σ H1 _ I1 lf) fun dv s2 ⟨y, H2, I2, ry, q, ns, hx, hq, k⟩ => kws_nil ?_)
    subst hx
    cases ru
    rw [hk3]
    obtain ⟨its, rv, pl, _⟩ := I2.tuple hq
    refine call_maxd (I2.ok.hd hc) pl (L2.intsAre_of rv) fun v h' tk hv' kp' => ?_
    rcases hv' with ⟨rfl, rfl⟩ | ⟨i, is, t, rfl, rfl⟩
    · exact ⟨y, H2, I2.kept kp', ry, k⟩
    · exact ⟨.int (is.foldl mx i), H2, I2.kept kp', ⟨t, rfl⟩, k⟩
end
end VS

end
section
set_option linter.all false
set_option maxRecDepth 100000
namespace VS
open PySem PySem.Spec PyProof.Rows L2 VP
open Classical in
noncomputable def viewF (F H : Hp) (σ : St) (ρ : Rho) : Hp := fun a => if ∃ (i : Nat) (s : Sl), ρ[i]? = some s ∧ Owned s = true ∧ σ[i]? = some (some (V.ref a)) then H a else F a
section
variable {K : Frag} {mg : MG} {G : Fx} {F F4 H H4 : Hp} {σ : St} {ρ ρ5 : Rho}
theorem viewF_own {i : Nat} {s : Sl} {a : Addr} (h : ρ[i]? = some s) (o : Owned s = true) (e : σ[i]? = some (some (V.ref a))) : viewF F H σ ρ a = H a := if_pos ⟨i, s, h, o, e⟩
theorem viewF_cases (g : Good K mg G F H σ ρ) (a : Addr) : (∃ l d, a = l ∧ Obj1 K mg F H l d ∧ F l = none ∧ viewF F H σ ρ a = H a) ∨ viewF F H σ ρ a = F a := by
  by_cases z : ∃ (i : Nat) (s : Sl), ρ[i]? = some s ∧ Owned s = true ∧ σ[i]? = some (some (V.ref a))
  · refine .inl ?_
    obtain ⟨i, s, h1, h2, h3⟩ := id z
    obtain ⟨l, d, e, n, ob, _⟩ := (g.slot i s h1).own h2
    rw [h3] at e
    cases e
    exact ⟨a, d, rfl, ob, n, if_pos z⟩
  · exact .inr (if_neg z)
theorem viewF_same (g : Good K mg G F H σ ρ) : Same F (viewF F H σ ρ) := fun a o e => by
  rcases viewF_cases g a with ⟨l, d, rfl, ob, n, q⟩ | q
  · rw [n] at e; cases e
  · rw [q]; exact e
theorem Good.view (g : Good K mg G F H σ ρ) : Good K mg ⟨H, viewF F H σ ρ, []⟩ (viewF F H σ ρ) H σ (ρ.map viewS) where
  sF := Same.refl _
  sub := fun a o e => by
    rcases viewF_cases g a with ⟨l, d, rfl, ob, n, q⟩ | q
    · rw [q] at e; exact e
    · rw [q] at e; exact g.sub _ _ e
  old := fun a o e _ => e
  new := fun a o e => .inl e
  len := by rw [List.length_map]; exact g.len
  slot := fun i s h => by
    rw [List.getElem?_map] at h
    cases q : ρ[i]? with
    | none => rw [q] at h; cases h
    | some t =>
      rw [q] at h
      have e : viewS t = s := Option.some.inj h
      subst e
      have sl := g.slot i t q
      cases t with
      | no => trivial
      | sh d => obtain ⟨u, h1, h2⟩ := sl; exact ⟨u, h1, h2.same (viewF_same g)⟩
      | ow d =>
        obtain ⟨l, h1, h2, h3, h4⟩ := sl
        obtain ⟨o, ho⟩ := h4.has
        exact ⟨_, h1, h4.den ho (viewF_same g) (by rw [viewF_own q rfl (join_some h1)]; exact ho)⟩
      | io d =>
        obtain ⟨l, h1, h2, h3, h4⟩ := sl
        obtain ⟨o, ho⟩ := h4.has
        exact ⟨_, h1, h4.den ho (viewF_same g) (by rw [viewF_own q rfl (join_some h1)]; exact ho)⟩
  apart := fun i j l s t h1 h2 o1 => by
    rw [List.getElem?_map] at h1
    cases q : ρ[i]? with
    | none => rw [q] at h1; cases h1
    | some t =>
      rw [q] at h1
      have e : viewS t = s := Option.some.inj h1
      subst e
      cases t <;> cases o1
  ioT := fun i a h => by cases h
  ioU := fun i a b h => by cases h
open Classical in
noncomputable def backF (F F4 H : Hp) : Hp := fun a => if (H a).isSome then F a else F4 a
theorem backF_old {a : Addr} {o : HO} (h : H a = some o) : backF F F4 H a = F a := if_pos (by rw [h]; rfl)
theorem backF_new {a : Addr} (h : H a = none) : backF F F4 H a = F4 a := if_neg (by rw [h]; simp)
theorem backF_keep (g : Good K mg G F H σ ρ) (gv : Good K mg ⟨H, viewF F H σ ρ, []⟩ F4 H4 σ ρ5) {a : Addr} {o : HO} (h : F4 a = some o) (n1 : ∀ xs, o ≠ .lst xs) (n2 : ∀ xs, o ≠ .dK xs) (n3 : ∀ C d fs, o ≠ .ins C d fs) : backF F F4 H a = some o := by
  cases q : H a with
  | none => rw [backF_new q]; exact h
  | some u =>
    rw [backF_old q]
    rcases gv.new a o h with z | z
    · have z' : viewF F H σ ρ a = some o := z
      rcases viewF_cases g a with ⟨l, d, rfl, ob, n, e⟩ | e
      · rw [e] at z'
        cases d with
        | lst ds => obtain ⟨vs, h1, _⟩ := ob; rw [h1] at z'; cases z'; exact absurd rfl (n1 _)
        | dct ks ds => obtain ⟨vs, h1, _⟩ := ob; rw [h1] at z'; cases z'; exact absurd rfl (n2 _)
        | ins c ns ds => obtain ⟨C, dx, fs, h1, _⟩ := ob; rw [h1] at z'; cases z'; exact absurd rfl (n3 _ _ _)
        | _ => exact ob.elim
      · rw [← e]; exact z'
    · have z' : H a = none := z
      rw [q] at z'; cases z'
theorem SqT.back (g : Good K mg G F H σ ρ) (gv : Good K mg ⟨H, viewF F H σ ρ, []⟩ F4 H4 σ ρ5) {a : Addr} {xs : List V} (h : SqT K F4 a xs) : SqT K (backF F F4 H) a xs := by
  rcases h with (h | ⟨o, h⟩) | h
  · exact .inl (.inl (backF_keep g gv h (fun _ z => nomatch z) (fun _ z => nomatch z) fun _ _ _ z => nomatch z))
  · exact .inl (.inr ⟨o, backF_keep g gv h (fun _ z => nomatch z) (fun _ z => nomatch z) fun _ _ _ z => nomatch z⟩)
  · exact .inr h
mutual
theorem Den.back (g : Good K mg G F H σ ρ) (gv : Good K mg ⟨H, viewF F H σ ρ, []⟩ F4 H4 σ ρ5) : ∀ {v : V} {d : D}, Den K mg F4 v d → noL d = true → Den K mg (backF F F4 H) v d
  | _, _, .non, _ => .non
  | _, _, .bl b, _ => .bl b
  | _, _, .int i, _ => .int i
  | _, _, .str x, _ => .str x
  | _, _, .tup h r, n => .tup (SqT.back g gv h) (DenL.back g gv r (by simpa only [noL] using n))
  | _, _, .lst h r, n => by simp [noL] at n
  | _, _, .dct h r, n => by simp [noL] at n
  | _, _, .ins h hc r, n => by simp [noL] at n
  | _, _, .exn h hc hf r, n => by simp [noL] at n
theorem DenL.back (g : Good K mg G F H σ ρ) (gv : Good K mg ⟨H, viewF F H σ ρ, []⟩ F4 H4 σ ρ5) : ∀ {vs : List V} {ds : List D}, DenL K mg F4 vs ds → noLs ds = true → DenL K mg (backF F F4 H) vs ds
  | _, _, .nil, _ => .nil
  | _, _, .cons h t, n => by
    simp only [noLs, Bool.and_eq_true] at n
    exact .cons (Den.back g gv h n.1) (DenL.back g gv t n.2)
end
theorem Good.unview (g : Good K mg G F H σ ρ) (gv : Good K mg ⟨H, viewF F H σ ρ, []⟩ F4 H4 σ ρ5) : Same F (backF F F4 H) ∧ Good K mg G (backF F F4 H) H4 σ ρ := by
  have kept : ∀ a o, H a = some o → H4 a = some o := fun a o e => gv.old a o e fun i z => by cases z
  have sF : Same F (backF F F4 H) := fun a o e => by rw [backF_old (g.sub _ _ e)]; exact e
  have nF : ∀ {l : Addr}, F l = none → (∃ o, H l = some o) → backF F F4 H l = none := fun {l} h ⟨o, ho⟩ => by rw [backF_old ho]; exact h
  refine ⟨sF, ?_⟩
  exact {
    sF := g.sF.trans sF
    sub := fun a o e => by
      cases q : H a with
      | none => rw [backF_new q] at e; exact gv.sub _ _ e
      | some u => rw [backF_old q] at e; exact kept _ _ (g.sub _ _ e)
    old := fun a o e n => kept _ _ (g.old a o e n)
    new := fun a o e => by
      cases q : H a with
      | none => exact .inr (g.new0 q)
      | some u => rw [backF_old q] at e; exact g.new a o e
    len := g.len
    slot := fun i s h => (g.slot i s h).same sF (fun l _ _ f t => nF f t) fun l o _ _ e => kept _ _ e
    apart := g.apart
    ioT := fun i a h => by
      obtain ⟨⟨o, h1⟩, h2, h3⟩ := g.ioT i a h
      exact ⟨⟨o, kept _ _ h1⟩, nF h2 ⟨o, h1⟩, h3⟩
    ioU := g.ioU }
theorem Loose.unview {l : Addr} {ds : List D} (g : Good K mg G F H σ ρ) (gv : Good K mg ⟨H, viewF F H σ ρ, []⟩ F4 H4 σ ρ5) (lo : Loose K mg ⟨H, viewF F H σ ρ, []⟩ F4 H4 σ ρ5 l (.lst ds)) (n : noLs ds = true) : Loose K mg G (backF F F4 H) H4 σ ρ l (.lst ds) := by
  have h0 : H l = none := lo.n0
  obtain ⟨vs, h1, h2⟩ := lo.ob
  refine ⟨by rw [backF_new h0]; exact lo.nF, g.new0 h0, ⟨vs, h1, DenL.back g gv h2 n⟩, fun i s h ow e => ?_⟩
  obtain ⟨m, d, e1, e2, e3, _⟩ := (g.slot i s h).own ow
  rw [e] at e1
  cases e1
  obtain ⟨u, hu⟩ := e3.has
  rw [h0] at hu; cases hu
end
section
variable {X : Cx} {EX : XE} {e elt tg iter : Expr} {ifs : List Expr} {pos : Pos} {it : M (List D)} {gf : D → M Unit} {ft : M Bool} {fe f : M D} {js : List Nat} {scope : Scope} {N' : List Str}
theorem view_out {f : M D} {ρ : Rho} {P : D → Rho → Prop} {E : Xn → Rho → Prop} (o : Out (mView f ρ) P E) : Out (f (ρ.map viewS)) (fun d _ => ∃ ds, d = .lst ds ∧ noLs ds = true ∧ P d ρ) (fun _ _ => False) := by
  unfold mView at o
  cases q : f (ρ.map viewS) with
  | no => rw [q] at o; exact o.elim
  | exc x r => rw [q] at o; exact o.elim
  | ok d r =>
    rw [q] at o
    cases d with
    | lst ds =>
      dsimp only at o
      split at o
      · rename_i hn; exact ⟨ds, rfl, hn, o⟩
      · exact o.elim
    | _ => exact o.elim
theorem pv_viewV (h : PV X EX e f) : PV X EX e (mViewV f) := L2.PE.le h fun σ H Q ⟨G, F, ρ, g0, o⟩ =>
  ⟨_, _, _, Good.view g0, (show Out (f (ρ.map viewS)) (fun d _ => noL d = true ∧ Post (lc X EX) (RV (lc X EX)) G F σ Q d ρ) (fun _ _ => False) by
    unfold mViewV at o
    cases q : f (ρ.map viewS) with
    | no => rw [q] at o; exact o.elim
    | exc x r => rw [q] at o; exact o.elim
    | ok d r =>
      rw [q] at o
      dsimp only at o
      split at o
      · rename_i hn; exact ⟨hn, o⟩
      · exact o.elim).mono (fun d r ⟨hn, q⟩ F4 H4 b s4 g4 den => by
    obtain ⟨u1, u2⟩ := Good.unview g0 g4
    exact q _ _ _ u1 u2 (Den.back g0 g4 den hn)) fun _ _ z => z.elim⟩
theorem vs_ownV (n i : Nat) {y : Str} {py spos : Pos} (hN : X.N.Nodup) (hy : X.N[i]? = some y) (hx : Loc X.env.scope y) (hc : X.calm = true) (c : CompOk X scope N') (hn : X.N.length + n + 1 = N'.length) (hi : PVI X EX tg iter it) (hgx : ∀ d r x r', gf d r ≠ .exc x r') (hjs : ∀ j ∈ js, X.N.length ≤ j ∧ j < X.N.length + n)
    (hg : ∀ C s H ex, PVG (compCx X scope C N' s H ex) EX tg js gf) (ht : ∀ C s H ex, PTs (compCx X scope C N' s H ex) EX ifs ft) (he : ∀ C s H ex, PV (compCx X scope C N' s H ex) EX elt fe)
    (hsw : swapsWith (.ListComp elt [⟨tg, iter, ifs, 0⟩] scope pos) (some (.Name y py)) spos.line X.env = pure true := by rfl) (hs : ∀ x, foldedSetIterable iter X.env x = pure x := by intro _; rfl)
    (hfn : X.fn y = true ∨ X.env.scope.names.lookup y = some .local := by first | exact .inl rfl | exact .inr rfl | assumption) : PVS X EX (.Assign [.Name y py] (.ListComp elt [⟨tg, iter, ifs, 0⟩] scope pos) spos) (sOwn i (mView (mComp n it gf ft fe))) := by
  intro pins s σ H E I h
  obtain ⟨G, F, ρ, g0, o⟩ := h
  rw [exec_Assign_Name_used _ _ _ _ hsw]
  refine wpAny_bind (wpAny_standAt (wpAny_bind ?_))
  show wpAny _ X.A (do let _ ← comprehension (.ListComp elt [⟨tg, iter, ifs, 0⟩] scope pos) scope X.env _ (newList []) false (firstIter [⟨tg, iter, ifs, 0⟩] X.env) (some (assign (.Name y py) X.env))) _ _ s
  refine wpAny_bind (wpAny_mono (comp_core (use := some (assign (.Name y py) X.env)) (QQ := fun _ s' => SP X pins E .next s') n hc c hn hi hgx hjs hg ht he hs I (Good.view g0) (view_out (Out.bnd o)) (fun x r q => q.elim) fun F4 H4 s5 ρ5 d l C mm e4 g4 lo post IX hmm FC => ?_) (fun _ s' hq => wpAny_pure (wpAny_pure hq)) fun _ _ e => e)
  show wpAny _ X.A (assign (.Name y py) X.env (.ref l)) _ _ s5
  refine wpAny_assign_Name (store_ok2 IX hN hy hx (v := .ref l) rfl (fun s6 I6 ⟨a, sb, ha⟩ => ?_) hfn)
  have hCa : C ≠ a := by
    rcases ha with rfl | ha
    · exact FC.2.1
    · exact fun z => FC.2.2.2.2.1 _ _ ha z.symm
  obtain ⟨ds, rfl, hno, post⟩ := post
  obtain ⟨u1, u2⟩ := Good.unview g0 g4
  have lo2 := Loose.unview g0 g4 lo hno
  obtain ⟨ρ2, g2, q⟩ := own_good (L := lc X EX) u2 lo2 (Out.bnd post)
  refine ⟨mm, hmm.sameBut sb hCa, fun h' hs' => ⟨σ.set i (some (.ref l)), H4, ?_, q _ _ _ u1 g2⟩⟩
  exact I6.turned (t' := s6.toks) (fun b ob hb e => hs'.extBut b ob hb e) FC.1 FC.2.1 FC.2.2.2.1 FC.2.2.2.2.1 FC.2.2.2.2.2
end
end VS

end
section
namespace VP
open PySem
section
variable {α β : Type}
def Res.then {α β : Type} : Res α → (α → M β) → Res β
  | .ok a r, g => g a r
  | .exc x r, _ => .exc x r
  | .no, _ => .no
def Res.seq : Res Fl → M Fl → Res Fl
  | .ok .nx r, g => g r
  | .ok k r, _ => .ok k r
  | .exc x r, _ => .exc x r
  | .no, _ => .no
def Res.turn : Res Fl → M Fl → Res Fl
  | .ok .nx r, g => g r
  | .ok .ct r, g => g r
  | .ok .bk r, _ => .ok .nx r
  | .ok (.rt d) r, _ => .ok (.rt d) r
  | .exc x r, _ => .exc x r
  | .no, _ => .no
@[simp] theorem then_ok (a : α) (r : Rho) (g : α → M β) : (Res.ok a r).then g = g a r := Eq.trans rfl rfl
@[simp] theorem then_exc (x : Xn) (r : Rho) (g : α → M β) : (Res.exc x r : Res α).then g = .exc x r := Eq.trans rfl rfl
@[simp] theorem then_ite (c : Prop) [Decidable c] (a b : Res α) (g : α → M β) : (if c then a else b).then g = if c then a.then g else b.then g := by split <;> rfl
@[simp] theorem seq_nx (r : Rho) (g : M Fl) : (Res.ok .nx r).seq g = g r := Eq.trans rfl rfl
@[simp] theorem seq_bk (r : Rho) (g : M Fl) : (Res.ok .bk r).seq g = .ok .bk r := Eq.trans rfl rfl
@[simp] theorem seq_ct (r : Rho) (g : M Fl) : (Res.ok .ct r).seq g = .ok .ct r := Eq.trans rfl rfl
@[simp] theorem seq_rt (d : D) (r : Rho) (g : M Fl) : (Res.ok (.rt d) r).seq g = .ok (.rt d) r := Eq.trans rfl rfl
@[simp] theorem seq_exc (x : Xn) (r : Rho) (g : M Fl) : (Res.exc x r).seq g = .exc x r := Eq.trans rfl rfl
@[simp] theorem seq_ite (c : Prop) [Decidable c] (a b : Res Fl) (g : M Fl) : (if c then a else b).seq g = if c then a.seq g else b.seq g := by split <;> rfl
@[simp] theorem turn_nx (r : Rho) (g : M Fl) : (Res.ok .nx r).turn g = g r := Eq.trans rfl rfl
@[simp] theorem turn_bk (r : Rho) (g : M Fl) : (Res.ok .bk r).turn g = .ok .nx r := Eq.trans rfl rfl
@[simp] theorem turn_ct (r : Rho) (g : M Fl) : (Res.ok .ct r).turn g = g r := Eq.trans rfl rfl
@[simp] theorem turn_rt (d : D) (r : Rho) (g : M Fl) : (Res.ok (.rt d) r).turn g = .ok (.rt d) r := Eq.trans rfl rfl
@[simp] theorem turn_exc (x : Xn) (r : Rho) (g : M Fl) : (Res.exc x r).turn g = .exc x r := Eq.trans rfl rfl
@[simp] theorem turn_ite (c : Prop) [Decidable c] (a b : Res Fl) (g : M Fl) : (if c then a else b).turn g = if c then a.turn g else b.turn g := by split <;> rfl
@[simp] theorem ret_at (a : α) (r : Rho) : ret a r = .ok a r := Eq.trans rfl rfl
@[simp] theorem stuck_at (r : Rho) : (stuck : M α) r = .no := Eq.trans rfl rfl
@[simp] theorem opt_some (a : α) : opt (some a) = ret a := Eq.trans rfl rfl
@[simp] theorem opt_none : (opt none : M α) = stuck := Eq.trans rfl rfl
theorem bnd_at (f : M α) (g : α → M β) (r : Rho) : bnd f g r = (f r).then g := by unfold bnd; cases f r <;> rfl
@[simp] theorem mC_at (d : D) (r : Rho) : mC d r = .ok d r := Eq.trans rfl rfl
@[simp] theorem m1_at (g : D → Option D) (a : M D) (r : Rho) : m1 g a r = (a r).then fun x => opt (g x) := bnd_at _ _ _
@[simp] theorem m2_at (g : D → D → Option D) (a b : M D) (r : Rho) : m2 g a b r = (a r).then fun x r => (b r).then fun y => opt (g x y) := by
  unfold m2; rw [bnd_at]; congr; funext x r; exact bnd_at _ _ _
@[simp] theorem mL_nil (r : Rho) : mL [] r = .ok [] r := Eq.trans rfl rfl
@[simp] theorem mL_cons (f : M D) (fs : List (M D)) (r : Rho) : mL (f :: fs) r = (f r).then fun x r => (mL fs r).then fun xs => ret (x :: xs) := by
  conv => lhs; unfold mL
  rw [bnd_at]; congr; funext x r; exact bnd_at _ _ _
@[simp] theorem mF_at (g : List D → Option D) (as : List (M D)) (r : Rho) : mF g as r = (mL as r).then fun xs => opt (g xs) := bnd_at _ _ _
@[simp] theorem mTup_at (as : List (M D)) (r : Rho) : mTup as r = (mL as r).then fun xs => opt (tupD xs) := bnd_at _ _ _
@[simp] theorem mLst_at (as : List (M D)) (r : Rho) : mLst as r = (mL as r).then fun xs => opt (lstD xs) := bnd_at _ _ _
def boolOf : D → M Bool
  | .bl b => ret b
  | _ => stuck
@[simp] theorem boolOf_bl (b : Bool) : boolOf (.bl b) = ret b := Eq.trans rfl rfl
@[simp] theorem tB_at (a : M D) (r : Rho) : tB a r = (a r).then boolOf := by
  unfold tB; rw [bnd_at]; cases a r with
  | ok d r' => cases d <;> rfl
  | _ => rfl
@[simp] theorem tNot_at (a : M Bool) (r : Rho) : tNot a r = (a r).then fun b => ret (!b) := bnd_at _ _ _
@[simp] theorem tAnd_at (a b : M Bool) (r : Rho) : tAnd a b r = (a r).then fun x r => if x = true then b r else .ok false r := by
  unfold tAnd; rw [bnd_at]; congr; funext x r; cases x <;> rfl
@[simp] theorem tOr_at (a b : M Bool) (r : Rho) : tOr a b r = (a r).then fun x r => if x = true then .ok true r else b r := by
  unfold tOr; rw [bnd_at]; congr; funext x r; cases x <;> rfl
@[simp] theorem mOfT_at (a : M Bool) (r : Rho) : mOfT a r = (a r).then fun b => ret (.bl b) := bnd_at _ _ _
@[simp] theorem mIf_at (c : M Bool) (a b : M D) (r : Rho) : mIf c a b r = (c r).then fun x r => if x = true then a r else b r := by
  unfold mIf; rw [bnd_at]; congr; funext x r; cases x <;> rfl
@[simp] theorem mAndV_at (a b : M D) (r : Rho) : mAndV a b r = ((a r).then boolOf).then fun x r => if x = true then b r else .ok (.bl false) r := by
  unfold mAndV; rw [bnd_at]; cases a r with
  | ok d r' => cases d <;> try rfl
               rename_i b; cases b <;> rfl
  | _ => rfl
@[simp] theorem mOrV_at (a b : M D) (r : Rho) : mOrV a b r = ((a r).then boolOf).then fun x r => if x = true then .ok (.bl true) r else b r := by
  unfold mOrV; rw [bnd_at]; cases a r with
  | ok d r' => cases d <;> try rfl
               rename_i b; cases b <;> rfl
  | _ => rfl
@[simp] theorem sNx_at (r : Rho) : sNx r = .ok .nx r := Eq.trans rfl rfl
@[simp] theorem sBk_at (r : Rho) : sBk r = .ok .bk r := Eq.trans rfl rfl
@[simp] theorem sCt_at (r : Rho) : sCt r = .ok .ct r := Eq.trans rfl rfl
@[simp] theorem sSeq_at (f g : M Fl) (r : Rho) : sSeq f g r = (f r).seq g := by
  unfold sSeq bnd; cases f r with
  | ok k r' => cases k <;> rfl
  | _ => rfl
@[simp] theorem sDo_at (f : M Unit) (r : Rho) : sDo f r = (f r).then fun _ => ret .nx := bnd_at _ _ _
@[simp] theorem sDrop_at (f : M D) (r : Rho) : sDrop f r = (f r).then fun _ => ret .nx := bnd_at _ _ _
@[simp] theorem sRet_at (f : M D) (r : Rho) : sRet f r = (f r).then fun d => ret (.rt d) := bnd_at _ _ _
@[simp] theorem sIf_at (c : M Bool) (a b : M Fl) (r : Rho) : sIf c a b r = (c r).then fun x r => if x = true then a r else b r := by
  unfold sIf; rw [bnd_at]; congr; funext x r; cases x <;> rfl
@[simp] theorem sSet_at (i : Nat) (f : M D) (r : Rho) : sSet i f r = (f r).then fun d r => if free r[i]? = true then .ok .nx (r.set i (.sh d)) else .no := by
  unfold sSet; rw [bnd_at]; congr; funext d r; rw [sDo_at]; unfold mSet; split <;> rfl
@[simp] theorem sOwn_at (i : Nat) (f : M D) (r : Rho) : sOwn i f r = (f r).then fun d r => if free r[i]? = true then .ok .nx (r.set i (.ow d)) else .no := by
  unfold sOwn; rw [bnd_at]; congr; funext d r; rw [sDo_at]; unfold mOwn; split <;> rfl
@[simp] theorem sFz_at (i : Nat) (f : M Fl) (r : Rho) : sFz i f r = (mFz i r).then fun _ => f := bnd_at _ _ _
def shOf : Option Sl → Option D
  | some (.sh d) => some d
  | _ => none
def anyOf : Option Sl → Option D
  | some (.sh d) => some d
  | some (.ow d) => some d
  | some (.io d) => some d
  | _ => none
@[simp] theorem shOf_sh (d : D) : shOf (some (.sh d)) = some d := Eq.trans rfl rfl
@[simp] theorem anyOf_sh (d : D) : anyOf (some (.sh d)) = some d := Eq.trans rfl rfl
@[simp] theorem anyOf_ow (d : D) : anyOf (some (.ow d)) = some d := Eq.trans rfl rfl
@[simp] theorem anyOf_io (d : D) : anyOf (some (.io d)) = some d := Eq.trans rfl rfl
@[simp] theorem free_no : free (some .no) = true := Eq.trans rfl rfl
@[simp] theorem free_sh (d : D) : free (some (.sh d)) = true := Eq.trans rfl rfl
@[simp] theorem free_ow (d : D) : free (some (.ow d)) = true := Eq.trans rfl rfl
@[simp] theorem own_ow (d : D) : own (some (.ow d)) = some d := Eq.trans rfl rfl
@[simp] theorem own_io (d : D) : own (some (.io d)) = some d := Eq.trans rfl rfl
@[simp] theorem mVar_at (i : Nat) (r : Rho) : mVar i r = opt (shOf r[i]?) r := by
  unfold mVar; cases h : r[i]? with
  | none => rfl
  | some s => cases s <;> rfl
@[simp] theorem mRd_at (i : Nat) (r : Rho) : mRd i r = opt (anyOf r[i]?) r := by
  unfold mRd; cases h : r[i]? with
  | none => rfl
  | some s => cases s <;> rfl
def fzS (i : Nat) (r : Rho) : Option Sl → Res Unit
  | some (.ow d) => .ok () (r.set i (.sh d))
  | some (.sh _) => .ok () r
  | _ => .no
@[simp] theorem mFz_at (i : Nat) (r : Rho) : mFz i r = fzS i r r[i]? := by
  unfold mFz; cases h : r[i]? with
  | none => rfl
  | some s => cases s <;> rfl
@[simp] theorem fzS_ow (i : Nat) (r : Rho) (d : D) : fzS i r (some (.ow d)) = .ok () (r.set i (.sh d)) := Eq.trans rfl rfl
@[simp] theorem fzS_sh (i : Nat) (r : Rho) (d : D) : fzS i r (some (.sh d)) = .ok () r := Eq.trans rfl rfl
def putR (i : Nat) (r : Rho) : Option Sl → D → Rho
  | some (.ow _), d => r.set i (.ow d)
  | some (.io _), d => r.set i (.io d)
  | _, _ => r
@[simp] theorem putS_at (i : Nat) (d : D) (r : Rho) : putS i d r = putR i r r[i]? d := by
  unfold putS; cases h : r[i]? with
  | none => rfl
  | some s => cases s <;> rfl
@[simp] theorem putR_ow (i : Nat) (r : Rho) (e d : D) : putR i r (some (.ow e)) d = r.set i (.ow d) := Eq.trans rfl rfl
@[simp] theorem putR_io (i : Nat) (r : Rho) (e d : D) : putR i r (some (.io e)) d = r.set i (.io d) := Eq.trans rfl rfl
@[simp] theorem mUpd_at (i : Nat) (g : D → Option D) (r : Rho) : mUpd i g r = (opt (own r[i]?) r).then fun d r => (opt (g d) r).then fun d' r => .ok () (putS i d' r) := by
  unfold mUpd; cases own r[i]? with
  | none => rfl
  | some d => simp only [opt_some, ret_at, then_ok]; cases g d <;> rfl
@[simp] theorem sApp_at (i : Nat) (fe : M D) (r : Rho) : sApp i fe r = if isLst (own r[i]?) = true then (fe r).then fun x r => (mUpd i (appD x) r).then fun _ => ret .nx else .no := by
  unfold sApp; split
  · rw [bnd_at]; congr; funext x r; exact sDo_at _ _
  · rfl
@[simp] theorem isLst_lst (ds : List D) : isLst (some (.lst ds)) = true := Eq.trans rfl rfl
@[simp] theorem sSetIx_at (i : Nat) (fk fv : M D) (r : Rho) : sSetIx i fk fv r = (fv r).then fun v r => if isLst (own r[i]?) = true then (fk r).then fun k r => (mUpd i (setAt k v) r).then fun _ => ret .nx else .no := by
  unfold sSetIx; rw [bnd_at]; congr; funext v r; split
  · rw [bnd_at]; congr; funext k r; exact sDo_at _ _
  · rfl
@[simp] theorem gName_at (i : Nat) (d : D) (r : Rho) : gName i d r = if free r[i]? = true then .ok () (r.set i (.sh d)) else .no := Eq.trans rfl rfl
@[simp] theorem mSet_at (i : Nat) (d : D) (r : Rho) : mSet i d r = if free r[i]? = true then .ok () (r.set i (.sh d)) else .no := Eq.trans rfl rfl
@[simp] theorem gAll_nil (r : Rho) : gAll [] [] r = .ok () r := Eq.trans rfl rfl
@[simp] theorem gAll_cons (i : Nat) (is : List Nat) (d : D) (ds : List D) (r : Rho) : gAll (i :: is) (d :: ds) r = (mSet i d r).then fun _ => gAll is ds := bnd_at _ _ _
@[simp] theorem gTup_at (is : List Nat) (ds : List D) : gTup is (.tup ds) = gAll is ds := Eq.trans rfl rfl
@[simp] theorem sFor_at (it : M (List D)) (g : D → M Unit) (body : M Fl) (r : Rho) : sFor it g body r = (it r).then fun ds => loop g body ds := bnd_at _ _ _
@[simp] theorem loop_nil (g : D → M Unit) (body : M Fl) (r : Rho) : loop g body [] r = .ok .nx r := Eq.trans rfl rfl
@[simp] theorem loop_cons (g : D → M Unit) (body : M Fl) (d : D) (ds : List D) (r : Rho) : loop g body (d :: ds) r = (g d r).then fun _ r => (body r).turn (loop g body ds) := by
  conv => lhs; unfold loop
  rw [bnd_at]; congr; funext u r; rw [bnd_at]; cases body r with
  | ok k r' => cases k <;> rfl
  | _ => rfl
@[simp] theorem turns_nil (k : Nat) (g : D → M Unit) (test : M Bool) (elt : M D) (r : Rho) : turns k g test elt [] r = .ok () r := Eq.trans rfl rfl
@[simp] theorem turns_cons (k : Nat) (g : D → M Unit) (test : M Bool) (elt : M D) (d : D) (ds : List D) (r : Rho) : turns k g test elt (d :: ds) r =
    (g d r).then fun _ r => (test r).then fun b r => if b = true then (elt r).then fun x r => (mUpd k (appD x) r).then fun _ => turns k g test elt ds else turns k g test elt ds r := by
  conv => lhs; unfold turns
  rw [bnd_at]; congr; funext u r; rw [bnd_at]; congr; funext b r; cases b with
  | true => simp only [if_true]; rw [bnd_at]; congr; funext x r; exact bnd_at _ _ _
  | false => rfl
theorem mComp_at (n : Nat) (it : M (List D)) (g : D → M Unit) (test : M Bool) (elt : M D) (r : Rho) : mComp n it g test elt r = (it r).then fun ds => inner n fun k => turns k g test elt ds := bnd_at _ _ _
def fin (fl : List Bool) : Res Fl → FR
  | .ok (.rt d) r => match iosOf fl r with
    | some ios => .ok d ios
    | none => .no
  | .ok .nx r => match iosOf fl r with
    | some ios => .ok .non ios
    | none => .no
  | .exc x r => match iosOf fl r with
    | some ios => .exc x ios
    | none => .no
  | _ => .no
theorem defn_at (n : Nat) (fl : List Bool) (body : M Fl) (ds : List D) (h : ds.length = fl.length) : defn n fl body ds = fin fl (body (startR n fl ds)) := by
  unfold defn; rw [if_pos h]; cases body (startR n fl ds) with
  | ok k r => cases k <;> rfl
  | _ => rfl
def backR (js : List Nat) (r : Rho) : FR → Res D
  | .ok d ios => .ok d (putAll js ios r)
  | .exc x ios => .exc x (putAll js ios r)
  | .no => .no
@[simp] theorem backR_ok (js : List Nat) (r : Rho) (d : D) (ios : List D) : backR js r (.ok d ios) = .ok d (putAll js ios r) := Eq.trans rfl rfl
@[simp] theorem backR_exc (js : List Nat) (r : Rho) (x : Xn) (ios : List D) : backR js r (.exc x ios) = .exc x (putAll js ios r) := Eq.trans rfl rfl
@[simp] theorem putAll_nil (ds : List D) (r : Rho) : putAll [] ds r = r := Eq.trans rfl rfl
@[simp] theorem putAll_cons (j : Nat) (js : List Nat) (d : D) (ds : List D) (r : Rho) : putAll (j :: js) (d :: ds) r = putAll js ds (putS j d r) := Eq.trans rfl rfl
@[simp] theorem mArgs_nil (r : Rho) : mArgs [] r = .ok [] r := Eq.trans rfl rfl
@[simp] theorem mArgs_val (f : M D) (as : List Arg) (r : Rho) : mArgs (.val f :: as) r = (f r).then fun d r => (mArgs as r).then fun vs => ret (.val d :: vs) := by
  conv => lhs; unfold mArgs
  rw [bnd_at]; congr; funext x r; exact bnd_at _ _ _
@[simp] theorem mArgs_io (j : Nat) (as : List Arg) (r : Rho) : mArgs (.io j :: as) r = if (own r[j]?).isSome = true then (mArgs as r).then fun vs => ret (.io j :: vs) else .no := by
  conv => lhs; unfold mArgs
  split
  · exact bnd_at _ _ _
  · rfl
@[simp] theorem avs_nil (r : Rho) : avs [] r = some [] := Eq.trans rfl rfl
@[simp] theorem avs_val (d : D) (as : List AV) (r : Rho) : avs (.val d :: as) r = (avs as r).map (d :: ·) := Eq.trans rfl rfl
@[simp] theorem avs_io (j : Nat) (as : List AV) (r : Rho) : avs (.io j :: as) r = (own r[j]?).bind fun d => (avs as r).map (d :: ·) := by
  conv => lhs; unfold avs
  cases own r[j]? <;> rfl
@[simp] theorem ioSl_nil : ioSl [] = [] := Eq.trans rfl rfl
@[simp] theorem ioSl_val (d : D) (as : List AV) : ioSl (.val d :: as) = ioSl as := Eq.trans rfl rfl
@[simp] theorem ioSl_io (j : Nat) (as : List AV) : ioSl (.io j :: as) = j :: ioSl as := Eq.trans rfl rfl
@[simp] theorem mCall_at (f : Fn) (as : List Arg) (r : Rho) : mCall f as r = (mArgs as r).then fun vs => mApp f vs := bnd_at _ _ _
@[simp] theorem mApp_at (f : Fn) (vs : List AV) (r : Rho) : mApp f vs r = (opt (avs vs r) r).then fun ds r => if (ioSl vs).Nodup then backR (ioSl vs) r (f ds) else .no := by
  unfold mApp; cases avs vs r with
  | none => rfl
  | some ds =>
    simp only [opt_some, ret_at, then_ok]; split
    · cases f ds <;> rfl
    · rfl
@[simp] theorem startR_cons (n : Nat) (b : Bool) (bs : List Bool) (d : D) (ds : List D) : startR (n + 1) (b :: bs) (d :: ds) = (if b = true then .io d else .sh d) :: startR n bs ds := by
  cases b <;> rfl
@[simp] theorem startR_nil (n : Nat) : startR n [] [] = List.replicate n .no := Eq.trans rfl rfl
@[simp] theorem fin_rt0 (d : D) (r : Rho) : fin [] (.ok (.rt d) r) = .ok d [] := Eq.trans rfl rfl
@[simp] theorem addI_at (i j : Int) : addI (.int i) (.int j) = some (.int (i + j)) := Eq.trans rfl rfl
@[simp] theorem addA_int (i j : Int) : addA (.int i) (.int j) = some (.int (i + j)) := Eq.trans rfl rfl
@[simp] theorem subI_at (i j : Int) : subI (.int i) (.int j) = some (.int (i - j)) := Eq.trans rfl rfl
@[simp] theorem negI_at (i : Int) : negI (.int i) = some (.int (-i)) := Eq.trans rfl rfl
@[simp] theorem ltI_at (i j : Int) : ltI (.int i) (.int j) = some (.bl (decide (i < j))) := Eq.trans rfl rfl
@[simp] theorem leI_at (i j : Int) : leI (.int i) (.int j) = some (.bl (decide (i ≤ j))) := Eq.trans rfl rfl
@[simp] theorem gtI_at (i j : Int) : gtI (.int i) (.int j) = some (.bl (decide (j < i))) := Eq.trans rfl rfl
@[simp] theorem geI_at (i j : Int) : geI (.int i) (.int j) = some (.bl (decide (j ≤ i))) := Eq.trans rfl rfl
theorem modI_pos (i j : Int) (h : 0 < j) : modI (.int i) (.int j) = some (.int (i % j)) := if_pos h
theorem fdivI_pos (i j : Int) (h : 0 < j) (h2 : j < 1073741824) : fdivI (.int i) (.int j) = some (.int (i / j)) := if_pos ⟨h, h2⟩
theorem mulI_right (i j : Int) (h : -(2 ^ 64) < j) (h2 : j < 2 ^ 64) : mulI (.int i) (.int j) = some (.int (i * j)) := if_pos (.inr ⟨h, h2⟩)
@[simp] theorem eqG_int (i j : Int) : eqG (.int i) (.int j) = some (.bl (decide (i = j))) := by
  simp [eqG, plain, eqB]; rfl
@[simp] theorem neG_int (i j : Int) : neG (.int i) (.int j) = some (.bl (!decide (i = j))) := by
  simp [neG, plain, eqB]; rfl
@[simp] theorem isND_non (x : D) : isND x .non = some (.bl (isNon x)) := Eq.trans rfl rfl
@[simp] theorem notND_non (x : D) : notND x .non = some (.bl (!isNon x)) := Eq.trans rfl rfl
@[simp] theorem isNon_non : isNon .non = true := Eq.trans rfl rfl
@[simp] theorem isNon_tup (ds : List D) : isNon (.tup ds) = false := Eq.trans rfl rfl
@[simp] theorem isNon_int (i : Int) : isNon (.int i) = false := Eq.trans rfl rfl
@[simp] theorem lenD_tup (ds : List D) : lenD (.tup ds) = some (.int ds.length) := Eq.trans rfl rfl
@[simp] theorem lenD_lst (ds : List D) : lenD (.lst ds) = some (.int ds.length) := Eq.trans rfl rfl
@[simp] theorem tupOf_tup (ds : List D) : tupOf (.tup ds) = some (.tup ds) := Eq.trans rfl rfl
@[simp] theorem tupOf_lst (ds : List D) : tupOf (.lst ds) = some (.tup ds) := Eq.trans rfl rfl
@[simp] theorem lstOf_tup (ds : List D) : lstOf (.tup ds) = some (.lst ds) := Eq.trans rfl rfl
@[simp] theorem lstOf_lst (ds : List D) : lstOf (.lst ds) = some (.lst ds) := Eq.trans rfl rfl
@[simp] theorem maxD_at (i j : Int) : maxD [.int i, .int j] = some (.int (max i j)) := by
  simp only [maxD, Option.some.injEq, D.int.injEq]; split <;> omega
@[simp] theorem minD_at (i j : Int) : minD [.int i, .int j] = some (.int (min i j)) := by
  simp only [minD, Option.some.injEq, D.int.injEq]; split <;> omega
@[simp] theorem seqD_tup (ds : List D) : seqD (.tup ds) = some ds := Eq.trans rfl rfl
@[simp] theorem seqD_lst (ds : List D) : seqD (.lst ds) = some ds := Eq.trans rfl rfl
@[simp] theorem mSeq_at (f : M D) (r : Rho) : mSeq f r = (f r).then fun d => opt (seqD d) := bnd_at _ _ _
@[simp] theorem mRng1_at (fl : List (M D)) (r : Rho) : mRng1 fl r = (mL fl r).then fun xs => opt (rng1 xs) := bnd_at _ _ _
@[simp] theorem mRng2_at (fl : List (M D)) (r : Rho) : mRng2 fl r = (mL fl r).then fun xs => opt (rng2 xs) := bnd_at _ _ _
@[simp] theorem mZip_at (fl : List (M D)) (r : Rho) : mZip fl r = (mL fl r).then fun xs => opt (zipL xs) := bnd_at _ _ _
def intsL (n : Nat) : List D := (List.range n).map fun (i : Nat) => D.int i
theorem rng1_at (j : Int) (h : -(2 ^ 62) ≤ j) (h2 : j < 2 ^ 62) : rng1 [.int j] = some (intsL j.toNat) := if_pos ⟨h, h2⟩
@[simp] theorem tupD_nil : tupD [] = some (.tup []) := Eq.trans rfl rfl
@[simp] theorem lstD_nil : lstD [] = some (.lst []) := Eq.trans rfl rfl
@[simp] theorem tupD_1 (a : D) : tupD [a] = some (.tup [a]) := Eq.trans rfl rfl
@[simp] theorem lstD_1 (a : D) : lstD [a] = some (.lst [a]) := Eq.trans rfl rfl
@[simp] theorem tupD_2 (a b : D) : tupD [a, b] = some (.tup [a, b]) := Eq.trans rfl rfl
theorem appD_at (x : D) (xs : List D) (h : xs.length < 16777216) : appD x (.lst xs) = some (.lst (xs ++ [x])) := by show (if _ then _ else _) = _; rw [if_pos h]
theorem addA_tup (xs ys : List D) (h : xs.length + ys.length ≤ LIM) : addA (.tup xs) (.tup ys) = some (.tup (xs ++ ys)) := if_pos h
theorem ixD_at (xs : List D) (i : Int) (d : D) (h0 : 0 ≤ i) (h : xs[i.toNat]? = some d) : ixD xs i = some d := by
  have hl := (List.getElem?_eq_some_iff.mp h).1
  unfold ixD ixP; rw [if_pos h0, if_pos (by omega)]; exact h
@[simp] theorem itemD_tup (xs : List D) (i : Int) : itemD (.tup xs) (.int i) = ixD xs i := Eq.trans rfl rfl
@[simp] theorem itemD_lst (xs : List D) (i : Int) : itemD (.lst xs) (.int i) = ixD xs i := Eq.trans rfl rfl
@[simp] theorem mPart_none (r : Rho) : mPart none r = .ok none r := Eq.trans rfl rfl
def intOf : D → M (Option Int)
  | .int i => ret (some i)
  | _ => stuck
@[simp] theorem intOf_int (i : Int) : intOf (.int i) = ret (some i) := Eq.trans rfl rfl
@[simp] theorem mPart_some (f : M D) (r : Rho) : mPart (some f) r = (f r).then intOf := by
  show bnd f _ r = _
  rw [bnd_at]; cases f r with
  | ok d r' => cases d <;> rfl
  | _ => rfl
@[simp] theorem mSl_at (g : D → Option Int → Option Int → Option D) (f : M D) (lo hi : Option (M D)) (r : Rho) : mSl g f lo hi r = (f r).then fun d r => (mPart lo r).then fun l r => (mPart hi r).then fun h => opt (g d l h) := by
  unfold mSl; rw [bnd_at]; congr; funext d r; rw [bnd_at]; congr; funext l r; exact bnd_at _ _ _
@[simp] theorem m3c_at (g g2 : D → D → Option D) (a b c : M D) (r : Rho) : m3c g g2 a b c r = (a r).then fun x r => (b r).then fun y r => ((opt (g x y) r).then boolOf).then fun k r => if k = true then (c r).then fun z => opt (g2 y z) else .ok (.bl false) r := by
  unfold m3c; rw [bnd_at]; congr; funext x r; rw [bnd_at]; congr; funext y r; rw [bnd_at]
  cases g x y with
  | none => rfl
  | some d =>
    cases d <;> try rfl
    rename_i k
    cases k
    · rfl
    · exact bnd_at _ _ _
@[simp] theorem mRev_at (f : M D) (r : Rho) : mRev f r = (f r).then fun d => opt ((seqD d).map List.reverse) := bnd_at _ _ _
@[simp] theorem cutA_tup (xs : List D) (lo hi : Option Int) : cutA (.tup xs) lo hi = some (.tup (cutD xs lo hi)) := Eq.trans rfl rfl
@[simp] theorem cutA_lst (xs : List D) (lo hi : Option Int) : cutA (.lst xs) lo hi = some (.lst (cutD xs lo hi)) := Eq.trans rfl rfl
@[simp] theorem tabD_str (t : List (Str × D)) (k : Str) : tabD t (.str k) = t.lookup k := Eq.trans rfl rfl
theorem set_at_len {r : Rho} {xs : Rho} {s s' : Sl} : (r ++ s :: xs).set r.length s' = r ++ s' :: xs := by
  rw [List.set_append_right _ _ (Nat.le_refl _)]; simp
theorem get_at_len {r : Rho} {xs : Rho} {s : Sl} : (r ++ s :: xs)[r.length]? = some s := by
  rw [List.getElem?_append_right (Nat.le_refl _)]; simp
theorem upd_last {r : Rho} {s : Sl} {acc : List D} {x : D} (h : acc.length < 16777216) : mUpd (r.length + 1) (appD x) (r ++ [s, .ow (.lst acc)]) = .ok () (r ++ [s, .ow (.lst (acc ++ [x]))]) := by
  have e : r ++ [s, Sl.ow (.lst acc)] = (r ++ [s]) ++ Sl.ow (.lst acc) :: [] := by simp
  have e2 : r.length + 1 = (r ++ [s]).length := by simp
  rw [e, e2, mUpd_at, get_at_len]
  simp only [own_ow, opt_some, ret_at, then_ok, appD_at x acc h, putS_at, get_at_len, putR_ow, set_at_len]
  simp
end
end VP

end
section
namespace VP
open PySem
@[simp] theorem iosOf_nil (r : Rho) : iosOf [] r = some [] := by cases r <;> rfl
@[simp] theorem iosOf_f (bs : List Bool) (s : Sl) (r : Rho) : iosOf (false :: bs) (s :: r) = iosOf bs r := Eq.trans rfl rfl
@[simp] theorem iosOf_t (bs : List Bool) (d : D) (r : Rho) : iosOf (true :: bs) (.io d :: r) = (iosOf bs r).map (d :: ·) := Eq.trans rfl rfl
def finI (d : D) : Option (List D) → FR
  | some ios => .ok d ios
  | none => .no
def finX (x : Xn) : Option (List D) → FR
  | some ios => .exc x ios
  | none => .no
@[simp] theorem finI_some (d : D) (l : List D) : finI d (some l) = .ok d l := Eq.trans rfl rfl
@[simp] theorem finX_some (d : Xn) (l : List D) : finX d (some l) = .exc d l := Eq.trans rfl rfl
@[simp] theorem fin_rt (fl : List Bool) (d : D) (r : Rho) : fin fl (.ok (.rt d) r) = finI d (iosOf fl r) := by unfold fin finI; first | (dsimp only; done) | (dsimp only; cases iosOf fl r <;> rfl)
@[simp] theorem fin_nx (fl : List Bool) (r : Rho) : fin fl (.ok .nx r) = finI .non (iosOf fl r) := by unfold fin finI; first | (dsimp only; done) | (dsimp only; cases iosOf fl r <;> rfl)
@[simp] theorem fin_exc (fl : List Bool) (x : Xn) (r : Rho) : fin fl (.exc x r) = finX x (iosOf fl r) := by unfold fin finX; first | (dsimp only; done) | (dsimp only; cases iosOf fl r <;> rfl)
@[simp] theorem fin_ite (fl : List Bool) (c : Prop) [Decidable c] (a b : Res Fl) : fin fl (if c then a else b) = if c then fin fl a else fin fl b := by split <;> rfl
@[simp] theorem rep_succ (n : Nat) : List.replicate (n + 1) Sl.no = .no :: List.replicate n .no := Eq.trans rfl rfl
@[simp] theorem rep_0 : List.replicate 0 Sl.no = [] := Eq.trans rfl rfl
def T (xs : List Int) : D := .tup (xs.map .int)
def Z (xs : List Int) : D := .lst (xs.map .int)
@[simp] theorem lenD_T (xs : List Int) : lenD (T xs) = some (.int xs.length) := by simp [T]
@[simp] theorem lenD_Z (xs : List Int) : lenD (Z xs) = some (.int xs.length) := by simp [Z]
@[simp] theorem seqD_T (xs : List Int) : seqD (T xs) = some (xs.map .int) := Eq.trans rfl rfl
@[simp] theorem seqD_Z (xs : List Int) : seqD (Z xs) = some (xs.map .int) := Eq.trans rfl rfl
@[simp] theorem lstOf_T (xs : List Int) : lstOf (T xs) = some (Z xs) := Eq.trans rfl rfl
@[simp] theorem lstOf_Z (xs : List Int) : lstOf (Z xs) = some (Z xs) := Eq.trans rfl rfl
@[simp] theorem tupOf_T (xs : List Int) : tupOf (T xs) = some (T xs) := Eq.trans rfl rfl
@[simp] theorem tupOf_Z (xs : List Int) : tupOf (Z xs) = some (T xs) := Eq.trans rfl rfl
@[simp] theorem isNon_T (xs : List Int) : isNon (T xs) = false := Eq.trans rfl rfl
@[simp] theorem isaD_T (k : String) (xs : List Int) : isaD k (T xs) = some (.bl ("tuple" == k)) := by
  simp only [isaD, T, kindD, Option.map_some]
  simp
@[simp] theorem isaD_int_int (i : Int) : isaD "int" (.int i) = some (.bl true) := Eq.trans rfl rfl
@[simp] theorem isaD_int_bool (i : Int) : isaD "bool" (.int i) = some (.bl false) := by simp [isaD, kindD]
@[simp] theorem itemD_T (xs : List Int) (i : Int) : itemD (T xs) (.int i) = ixD (xs.map .int) i := Eq.trans rfl rfl
@[simp] theorem itemD_Z (xs : List Int) (i : Int) : itemD (Z xs) (.int i) = ixD (xs.map .int) i := Eq.trans rfl rfl
theorem ix_ints (xs : List Int) (i : Int) (h0 : 0 ≤ i) (h : i < xs.length) : ixD (xs.map D.int) i = some (.int (xs.getD i.toNat 0)) := by
  refine ixD_at _ _ _ h0 ?_
  have h2 : i.toNat < xs.length := by omega
  simp [h2]
theorem addA_T (xs ys : List Int) (h : xs.length + ys.length ≤ LIM) : addA (T xs) (T ys) = some (T (xs ++ ys)) := by
  unfold T; rw [addA_tup] <;> simp [h]
theorem tup1 (x : Int) : D.tup [.int x] = T [x] := Eq.trans rfl rfl
theorem tup0 : D.tup [] = T [] := Eq.trans rfl rfl
@[simp] theorem isLst_Z (xs : List Int) : isLst (some (Z xs)) = true := Eq.trans rfl rfl
theorem plains_ints (n : Nat) (xs : List Int) : plains n (xs.map .int) = true := by
  induction xs with
  | nil => cases n <;> rfl
  | cons x xs ih => simp [plains, ih]; cases n <;> simp [plain]
theorem eqBs_ints (xs ys : List Int) : eqBs (xs.map .int) (ys.map .int) = decide (xs = ys) := by
  induction xs generalizing ys with
  | nil => cases ys <;> simp [eqBs]
  | cons x xs ih => cases ys with
    | nil => simp [eqBs]
    | cons y ys => simp [eqBs, ih, eqB]; rfl
@[simp] theorem eqG_T (xs ys : List Int) : eqG (T xs) (T ys) = some (.bl (decide (xs = ys))) := by
  unfold eqG T
  simp [plain, plains_ints, eqB, eqBs_ints]
@[simp] theorem neG_T (xs ys : List Int) : neG (T xs) (T ys) = some (.bl (!decide (xs = ys))) := by
  unfold neG T
  simp [plain, plains_ints, eqB, eqBs_ints]
@[simp] theorem eqG_Z (xs ys : List Int) : eqG (Z xs) (Z ys) = some (.bl (decide (xs = ys))) := by
  unfold eqG Z
  simp [plain, plains_ints, eqB, eqBs_ints]
theorem intsD_ints (xs : List Int) : intsD (xs.map .int) = some xs := by
  induction xs with
  | nil => rfl
  | cons x xs ih => simp [intsD, ih]
@[simp] theorem sumD_Z (xs : List Int) : sumD (Z xs) = some (.int xs.sum) := by simp [sumD, intsD_ints]
@[simp] theorem sumD_T (xs : List Int) : sumD (T xs) = some (.int xs.sum) := by simp [sumD, intsD_ints]
@[simp] theorem revT_T (xs : List Int) : revT (T xs) = some (T xs.reverse) := by simp [revT, T]
@[simp] theorem revT_Z (xs : List Int) : revT (Z xs) = some (T xs.reverse) := by simp [revT, T]
@[simp] theorem revL_T (xs : List Int) : revL (T xs) = some (Z xs.reverse) := by simp [revL, Z]
@[simp] theorem revL_Z (xs : List Int) : revL (Z xs) = some (Z xs.reverse) := by simp [revL, Z]
theorem cutD_map (f : Int → D) (xs : List Int) (lo hi : Option Int) : cutD (xs.map f) lo hi = ((xs.drop (sIxP xs.length 0 lo)).take (sIxP xs.length xs.length hi - sIxP xs.length 0 lo)).map f := by
  simp [cutD, List.map_take, List.map_drop]
@[simp] theorem cutA_T (xs : List Int) (lo hi : Option Int) : cutA (T xs) lo hi = some (T ((xs.drop (sIxP xs.length 0 lo)).take (sIxP xs.length xs.length hi - sIxP xs.length 0 lo))) := by
  simp only [T, cutA_tup, cutD_map]
@[simp] theorem cutA_Z (xs : List Int) (lo hi : Option Int) : cutA (Z xs) lo hi = some (Z ((xs.drop (sIxP xs.length 0 lo)).take (sIxP xs.length xs.length hi - sIxP xs.length 0 lo))) := by
  simp only [Z, cutA_lst, cutD_map]
theorem rng1_nat (j : Int) (n : Nat) (h : j.toNat = n) (h2 : -(2 ^ 62) ≤ j) (h3 : j < 2 ^ 62) : rng1 [.int j] = some ((List.range n).map fun (k : Nat) => .int k) := by
  subst h; exact rng1_at j h2 h3
def turn1 (g : D → M Unit) (body : M Fl) (d : D) (r : Rho) : Res Fl := (g d r).then fun _ => body
def cont : Res Fl → Option Rho
  | .ok .nx r => some r
  | .ok .ct r => some r
  | _ => none
@[simp] theorem cont_nx (r : Rho) : cont (.ok .nx r) = some r := Eq.trans rfl rfl
@[simp] theorem cont_ct (r : Rho) : cont (.ok .ct r) = some r := Eq.trans rfl rfl
@[simp] theorem cont_ite (c : Prop) [Decidable c] (a b : Res Fl) : cont (if c then a else b) = if c then cont a else cont b := by split <;> rfl
theorem loop_cont {g : D → M Unit} {body : M Fl} {d : D} {ds : List D} {r r' : Rho} (h : cont (turn1 g body d r) = some r') : loop g body (d :: ds) r = loop g body ds r' := by
  rw [loop_cons]
  unfold turn1 at h
  cases q : g d r with
  | no => rw [q] at h; cases h
  | exc x r => rw [q] at h; cases h
  | ok u r1 =>
    rw [q, then_ok] at h
    rw [then_ok]
    cases q2 : body r1 with
    | no => rw [q2] at h; cases h
    | exc x r => rw [q2] at h; cases h
    | ok k r2 =>
      rw [q2] at h
      cases k with
      | nx => cases h; rfl
      | ct => cases h; rfl
      | bk => cases h
      | rt v => cases h
theorem loop_ret {g : D → M Unit} {body : M Fl} {d v : D} {ds : List D} {r r' : Rho} (h : turn1 g body d r = .ok (.rt v) r') : loop g body (d :: ds) r = .ok (.rt v) r' := by
  rw [loop_cons]
  unfold turn1 at h
  cases q : g d r with
  | no => rw [q] at h; cases h
  | exc x r => rw [q] at h; cases h
  | ok u r1 =>
    rw [q, then_ok] at h
    rw [then_ok, h]; rfl
def foldE {S E A : Type} (step : S → A → E ⊕ S) : List A → S → E ⊕ S
  | [], s => .inr s
  | a :: as, s => match step s a with
    | .inl e => .inl e
    | .inr s' => foldE step as s'
theorem loop_foldE {S Tm A : Type} {g : D → M Unit} {body : M Fl} (mk : A → D) (R : S → Tm → Rho) (ok : Tm → Prop) (step : S → A → D ⊕ S) : ∀ (as : List A) (P : Nat → S → Prop) (s : S) (t : Tm), ok t → P 0 s →
    (∀ (i : Nat) (a : A), as[i]? = some a → ∀ s t, ok t → P i s → match step s a with
      | .inr s' => P (i + 1) s' ∧ ∃ t', ok t' ∧ cont (turn1 g body (mk a) (R s t)) = some (R s' t')
      | .inl v => ∃ s' t', turn1 g body (mk a) (R s t) = .ok (.rt v) (R s' t')) →
    match foldE step as s with
    | .inr s' => P as.length s' ∧ ∃ t', ok t' ∧ loop g body (as.map mk) (R s t) = .ok .nx (R s' t')
    | .inl v => ∃ s' t', loop g body (as.map mk) (R s t) = .ok (.rt v) (R s' t') := by
  intro as
  induction as with
  | nil => intro P s t ht hs _; exact ⟨hs, t, ht, rfl⟩
  | cons a as ih =>
    intro P s t ht hs h
    have h1 := h 0 a rfl s t ht hs
    simp only [foldE, List.map_cons]
    cases q : step s a with
    | inl v =>
      rw [q] at h1
      obtain ⟨s', t', e⟩ := h1
      exact ⟨s', t', loop_ret e⟩
    | inr s1 =>
      rw [q] at h1
      obtain ⟨p1, t1, o1, e1⟩ := h1
      have h2 := ih (fun k => P (k + 1)) s1 t1 o1 p1 fun i a' ha => h (i + 1) a' (by simpa using ha)
      have e : (a :: as).length = as.length + 1 := by simp
      dsimp only
      rw [e]
      cases q2 : foldE step as s1 with
      | inl v => rw [q2] at h2; obtain ⟨s', t', z⟩ := h2; exact ⟨s', t', by rw [loop_cont e1]; exact z⟩
      | inr s2 => rw [q2] at h2; obtain ⟨p2, t2, o2, z⟩ := h2; exact ⟨p2, t2, o2, by rw [loop_cont e1]; exact z⟩
theorem loop_foldM {S Tm A : Type} {g : D → M Unit} {body : M Fl} (mk : A → D) (R : S → Tm → Rho) (ok : Tm → Prop) (P : Nat → S → Prop) (step : S → A → S) (as : List A) (s : S) (t : Tm) (ht : ok t) (hs : P 0 s)
    (h : ∀ (i : Nat) (a : A), as[i]? = some a → ∀ s t, ok t → P i s → P (i + 1) (step s a) ∧ ∃ t', ok t' ∧ cont (turn1 g body (mk a) (R s t)) = some (R (step s a) t')) :
    P as.length (as.foldl step s) ∧ ∃ t', ok t' ∧ loop g body (as.map mk) (R s t) = .ok .nx (R (as.foldl step s) t') := by
  have := loop_foldE (g := g) (body := body) mk R ok (fun s a => .inr (step s a)) as P s t ht hs h
  have e : ∀ (as : List A) (s : S), foldE (E := D) (fun s a => .inr (step s a)) as s = .inr (as.foldl step s) := by
    intro as
    induction as with
    | nil => intro s; rfl
    | cons a as ih => intro s; exact ih _
  rw [e] at this
  exact this
theorem range_at {n i k : Nat} (h : (List.range n)[i]? = some k) : k = i ∧ i < n := by
  have h1 := (List.getElem?_eq_some_iff.mp h).1
  simp at h1
  rw [List.getElem?_range h1] at h
  exact ⟨(Option.some.inj h).symm, h1⟩
def free1 (s : Sl) : Prop := free (some s) = true
def free2 (s : Sl × Sl) : Prop := free (some s.1) = true ∧ free (some s.2) = true
end VP

end
section
namespace VP
open PySem
@[simp] theorem ixAt_at (j : Nat) (i : D) (r : Rho) : ixAt j i r = (opt (own r[j]?) r).then fun d => opt (itemD d i) := by
  unfold ixAt; cases own r[j]? <;> rfl
@[simp] theorem mIxO_at (j : Nat) (fb : M D) (r : Rho) : mIxO j fb r = if (own r[j]?).isSome = true then (fb r).then (ixAt j) else .no := by
  unfold mIxO; split
  · exact bnd_at _ _ _
  · rfl
theorem ixP_nat (n : Nat) (i : Int) (h0 : 0 ≤ i) (h : i < n) : ixP n i = some i.toNat := by
  unfold ixP; rw [if_pos h0, if_pos h]
theorem setAt_lst (xs : List D) (i : Int) (v : D) (h0 : 0 ≤ i) (h : i < xs.length) : setAt (.int i) v (.lst xs) = some (.lst (xs.set i.toNat v)) := by
  show (ixP xs.length i).map _ = _
  rw [ixP_nat _ _ h0 h]; rfl
@[simp] theorem gTup_T (is : List Nat) (xs : List Int) : gTup is (T xs) = gAll is (xs.map .int) := Eq.trans rfl rfl
@[simp] theorem isaD_lst (k : String) (xs : List D) : isaD k (.lst xs) = some (.bl ("list" == k)) := by
  simp only [isaD, kindD, Option.map_some]; simp
@[simp] theorem isaD_tup (k : String) (xs : List D) : isaD k (.tup xs) = some (.bl ("tuple" == k)) := by
  simp only [isaD, kindD, Option.map_some]; simp
def outs {S A B : Type} (step : S → A → S) (f : S → A → B) : S → List A → List B
  | _, [] => []
  | s, a :: as => f s a :: outs step f (step s a) as
theorem compS {S A : Type} {it : M (List D)} {elt : M D} {k : Nat} (mk : A → D) (R : S → Rho) (P : Nat → S → Prop) (step : S → A → S) (f : S → A → D) (as : List A) (s : S)
    (hlen : ∀ s, (R s).length = k) {r0 : Rho} (hds : it r0 = .ok (as.map mk) (R s)) (hL : as.length ≤ 16777216) (hP : P 0 s)
    (he : ∀ (i : Nat) (a : A), as[i]? = some a → ∀ s acc, P i s → P (i + 1) (step s a) ∧ elt (R s ++ [.sh (mk a), .ow acc]) = .ok (f s a) (R (step s a) ++ [.sh (mk a), .ow acc])) :
    mComp 1 it (gName k) (ret true) elt r0 = .ok (.lst (outs step f s as)) (R (as.foldl step s)) ∧ P as.length (as.foldl step s) := by
  have key : ∀ (es : List A) (n : Nat) (acc : List D) (x : Sl) (s : S), free (some x) = true → (∀ (i : Nat) (a : A), es[i]? = some a → as[n + i]? = some a) → acc.length + es.length ≤ 16777216 → P n s →
      (∃ x', turns (k + 1) (gName k) (ret true) elt (es.map mk) (R s ++ [x, .ow (.lst acc)]) = .ok () (R (es.foldl step s) ++ [x', .ow (.lst (acc ++ outs step f s es))])) ∧ P (n + es.length) (es.foldl step s) := by
    intro es
    induction es with
    | nil => intro n acc x s _ _ _ hp; exact ⟨⟨x, by simp [outs]⟩, hp⟩
    | cons a es ih =>
      intro n acc x s hx hm hl hp
      obtain ⟨p1, e1⟩ := he n a (hm 0 a rfl) s (.lst acc) hp
      obtain ⟨⟨x', e2⟩, p2⟩ := ih (n + 1) (acc ++ [f s a]) (.sh (mk a)) (step s a) rfl (fun i b hb => by rw [Nat.add_assoc, Nat.add_comm 1 i]; exact hm (i + 1) b hb) (by simp at hl ⊢; omega) p1
      refine ⟨⟨x', ?_⟩, ?_⟩
      · have g1 : gName k (mk a) (R s ++ [x, .ow (.lst acc)]) = .ok () (R s ++ [.sh (mk a), .ow (.lst acc)]) := by
          have := get_at_len (r := R s) (xs := [.ow (.lst acc)]) (s := x)
          have := set_at_len (r := R s) (xs := [.ow (.lst acc)]) (s := x) (s' := .sh (mk a))
          rw [hlen s] at *
          rw [gName_at]
          simp_all
        have u1 : mUpd (k + 1) (appD (f s a)) (R (step s a) ++ [.sh (mk a), .ow (.lst acc)]) = .ok () (R (step s a) ++ [.sh (mk a), .ow (.lst (acc ++ [f s a]))]) := by
          have := upd_last (r := R (step s a)) (s := .sh (mk a)) (acc := acc) (x := f s a) (by simp at hl; omega)
          rw [hlen] at this
          exact this
        rw [List.map_cons, turns_cons, g1, then_ok, ret_at, then_ok, if_pos rfl, e1, then_ok, u1, then_ok, e2]
        simp [outs]
      · have e : n + (a :: es).length = n + 1 + es.length := by simp; omega
        rw [e]; exact p2
  obtain ⟨⟨x', z⟩, p⟩ := key as 0 [] .no s rfl (fun i a h => by rw [Nat.zero_add]; exact h) (by simpa using hL) hP
  refine ⟨?_, by rw [Nat.zero_add] at p; exact p⟩
  rw [mComp_at, hds, then_ok]
  unfold inner
  have e : R s ++ List.replicate 1 Sl.no ++ [Sl.ow (.lst [])] = R s ++ [.no, .ow (.lst [])] := by simp
  dsimp only
  rw [e, hlen, z]
  have e2 : (R (as.foldl step s) ++ [x', Sl.ow (.lst ([] ++ outs step f s as))])[k + 1]? = some (.ow (.lst ([] ++ outs step f s as))) := by
    rw [List.getElem?_append_right (by rw [hlen]; omega), hlen]; simp
  simp only [e2]
  have e3 : List.take k (R (as.foldl step s) ++ [x', Sl.ow (.lst ([] ++ outs step f s as))]) = R (as.foldl step s) := by
    rw [← hlen (as.foldl step s)]; simp
  rw [e3]; simp
theorem outs_map {S A B : Type} (f : A → B) (s : S) : ∀ as : List A, outs (fun (s : S) (_ : A) => s) (fun _ a => f a) s as = as.map f
  | [] => rfl
  | a :: as => by simp [outs, outs_map f s as]
theorem compM {A : Type} {it : M (List D)} {elt : M D} {k : Nat} {r : Rho} {out : D} (mk : A → D) (f : A → D) (as : List A) (hds : it r = .ok (as.map mk) r) (hL : as.length ≤ 16777216) (hout : D.lst (as.map f) = out)
    (he : ∀ a ∈ as, ∀ acc, elt (r ++ [.sh (mk a), .ow acc]) = .ok (f a) (r ++ [.sh (mk a), .ow acc])) (hk : r.length = k := by rfl) : mComp 1 it (gName k) (ret true) elt r = .ok out r := by
  have := (compS (elt := elt) mk (fun (_ : Unit) => r) (fun _ _ => True) (fun s _ => s) (fun _ a => f a) as () (fun _ => hk) hds hL trivial fun i a ha s acc _ => ⟨trivial, he a (List.mem_of_getElem? ha) acc⟩).1
  rw [outs_map, hout] at this
  exact this
@[simp] theorem neG_Z (xs ys : List Int) : neG (Z xs) (Z ys) = some (.bl (!decide (xs = ys))) := by
  unfold neG Z
  simp [plain, plains_ints, eqB, eqBs_ints]
@[simp] theorem ixD_0 (a : D) (xs : List D) : ixD (a :: xs) 0 = some a := ixD_at _ _ _ (by omega) rfl
@[simp] theorem ixD_1 (a b : D) (xs : List D) : ixD (a :: b :: xs) 1 = some b := ixD_at _ _ _ (by omega) rfl
@[simp] theorem ixD_2 (a b c : D) (xs : List D) : ixD (a :: b :: c :: xs) 2 = some c := ixD_at _ _ _ (by omega) rfl
@[simp] theorem ixD_3 (a b c d : D) (xs : List D) : ixD (a :: b :: c :: d :: xs) 3 = some d := ixD_at _ _ _ (by omega) rfl
@[simp] theorem ixD_4 (a b c d e : D) (xs : List D) : ixD (a :: b :: c :: d :: e :: xs) 4 = some e := ixD_at _ _ _ (by omega) rfl
@[simp] theorem ixD_5 (a b c d e f : D) (xs : List D) : ixD (a :: b :: c :: d :: e :: f :: xs) 5 = some f := ixD_at _ _ _ (by omega) rfl
@[simp] theorem tupD_3 (a b c : D) : tupD [a, b, c] = some (.tup [a, b, c]) := Eq.trans rfl rfl
@[simp] theorem tupD_4 (a b c d : D) : tupD [a, b, c, d] = some (.tup [a, b, c, d]) := Eq.trans rfl rfl
@[simp] theorem tupD_5 (a b c d e : D) : tupD [a, b, c, d, e] = some (.tup [a, b, c, d, e]) := Eq.trans rfl rfl
@[simp] theorem tupD_6 (a b c d e f : D) : tupD [a, b, c, d, e, f] = some (.tup [a, b, c, d, e, f]) := Eq.trans rfl rfl
@[simp] theorem lstD_2 (a b : D) : lstD [a, b] = some (.lst [a, b]) := Eq.trans rfl rfl
@[simp] theorem lstD_3 (a b c : D) : lstD [a, b, c] = some (.lst [a, b, c]) := Eq.trans rfl rfl
@[simp] theorem lstD_4 (a b c d : D) : lstD [a, b, c, d] = some (.lst [a, b, c, d]) := Eq.trans rfl rfl
@[simp] theorem lstD_5 (a b c d e : D) : lstD [a, b, c, d, e] = some (.lst [a, b, c, d, e]) := Eq.trans rfl rfl
@[simp] theorem lstD_6 (a b c d e f : D) : lstD [a, b, c, d, e, f] = some (.lst [a, b, c, d, e, f]) := Eq.trans rfl rfl
@[simp] theorem lstD_7 (a b c d e f g : D) : lstD [a, b, c, d, e, f, g] = some (.lst [a, b, c, d, e, f, g]) := Eq.trans rfl rfl
end VP

end
section
namespace VP
open PySem
@[simp] theorem sNever_at (r : Rho) : sNever r = .no := Eq.trans rfl rfl
@[simp] theorem sSetF_at (i : Nat) (cs : List Str) (f : Str) (fv : M D) (r : Rho) : sSetF i cs f fv r = (fv r).then fun v r => (mUpd i (setFD cs f v) r).then fun _ => ret .nx := by
  unfold sSetF; rw [bnd_at]; congr; funext v r; exact sDo_at _ _
@[simp] theorem mMake_at (c : Str) (f : Fn) (as : List Arg) (r : Rho) : mMake c f as r = (mArgs as r).then fun vs => mNew c f vs := bnd_at _ _ _
@[simp] theorem mMeth_at (c m : Str) (f : Fn) (fo : M D) (as : List Arg) (r : Rho) : mMeth c m f fo as r = (fo r).then fun o r => if insOf c m o = true then (mArgs as r).then fun vs => mApp f (.val o :: vs) else .no := by
  unfold mMeth; rw [bnd_at]; congr; funext o r; split
  · exact bnd_at _ _ _
  · rfl
@[simp] theorem mEnum_at (fl : List (M D)) (r : Rho) : mEnum fl r = (mL fl r).then fun xs => opt (enumD xs) := bnd_at _ _ _
@[simp] theorem mDown_at (fl : List (M D)) (r : Rho) : mDown fl r = (mL fl r).then fun xs => opt (rngD xs) := bnd_at _ _ _
@[simp] theorem enumD_lst (ds : List D) : enumD [.lst ds] = some (enumL ds) := Eq.trans rfl rfl
theorem enumL_map {A : Type} (mk : A → D) (as : List A) : enumL (as.map mk) = (List.range as.length).zipWith (fun i a => D.tup [.int (i : Nat), mk a]) as := by
  unfold enumL
  rw [List.length_map, List.zipWith_map_right]
@[simp] theorem allD_lst (al : Bool) (ds : List D) : allD al (.lst ds) = (boolsD ds).map fun bs => .bl (if al then bs.all id else bs.any id) := Eq.trans rfl rfl
theorem boolsD_map {A : Type} (f : A → Bool) : ∀ as : List A, boolsD (as.map fun a => D.bl (f a)) = some (as.map f)
  | [] => rfl
  | a :: as => by simp [boolsD, boolsD_map f as]
theorem any_at {A : Type} (f : A → Bool) (as : List A) : allD false (.lst (as.map fun a => D.bl (f a))) = some (.bl (as.any f)) := by
  rw [allD_lst, boolsD_map]; simp [Function.comp_def]
def outR (r : Rho) : Option Sl → Res D
  | some (.ow d) => .ok d r
  | _ => .no
def innerR (l n : Nat) : Res Unit → Res D
  | .ok _ r' => outR (r'.take l) r'[l + n]?
  | _ => .no
theorem inner_at (n : Nat) (f : Nat → M Unit) (r : Rho) : inner n f r = innerR r.length n (f (r.length + n) (r ++ List.replicate n .no ++ [.ow (.lst [])])) := by
  unfold inner innerR
  cases f (r.length + n) (r ++ List.replicate n .no ++ [.ow (.lst [])]) with
  | ok u r' => dsimp only; unfold outR; cases r'[r.length + n]? with
    | none => rfl
    | some s => cases s <;> rfl
  | _ => rfl
theorem innerR_ok (l n : Nat) (u : Unit) (r' : Rho) : innerR l n (.ok u r') = outR (r'.take l) r'[l + n]? := Eq.trans rfl rfl
theorem outR_ow (r : Rho) (d : D) : outR r (some (.ow d)) = .ok d r := Eq.trans rfl rfl
theorem appD_short (x : D) (xs : List D) (h : xs.length < 1000) : appD x (.lst xs) = some (.lst (xs ++ [x])) := appD_at x xs (by omega)
@[simp] theorem sRaise_at (c : Str) (fs : List (M D)) (r : Rho) : sRaise c fs r = (mL fs r).then fun ds r => if ds.length ≤ 1000 then .exc ⟨c, [], []⟩ r else .no := bnd_at _ _ _
def tryR (subs : List (Str × Bool)) (j : Nat) (h : M Fl) : Res Fl → Res Fl
  | .ok k r => .ok k r
  | .exc x r => sCatch subs j h x r
  | .no => .no
@[simp] theorem sTry_at (f : M Fl) (subs : List (Str × Bool)) (j : Nat) (h : M Fl) (r : Rho) : sTry f subs j h r = tryR subs j h (f r) := by
  unfold sTry tryR; cases f r <;> rfl
@[simp] theorem tryR_ok (subs : List (Str × Bool)) (j : Nat) (h : M Fl) (k : Fl) (r : Rho) : tryR subs j h (.ok k r) = .ok k r := Eq.trans rfl rfl
@[simp] theorem tryR_exc (subs : List (Str × Bool)) (j : Nat) (h : M Fl) (x : Xn) (r : Rho) : tryR subs j h (.exc x r) = sCatch subs j h x r := Eq.trans rfl rfl
def outC (j : Nat) : Res Fl → Res Fl
  | .ok f r => .ok f (r.set j .no)
  | _ => .no
@[simp] theorem outC_ok (j : Nat) (f : Fl) (r : Rho) : outC j (.ok f r) = .ok f (r.set j .no) := Eq.trans rfl rfl
@[simp] theorem outC_ite (j : Nat) (c : Prop) [Decidable c] (a b : Res Fl) : outC j (if c then a else b) = if c then outC j a else outC j b := by split <;> rfl
@[simp] theorem isaX_exn (subs : List (Str × Bool)) (c : Str) (ns : List Str) (vs : List D) : isaX subs (.exn c ns vs) = (subs.lookup c).map .bl := Eq.trans rfl rfl
@[simp] theorem cmpAt_at (g : D → D → Option D) (j : Nat) (d : D) (r : Rho) : cmpAt g j d r = (opt (own r[j]?) r).then fun x => opt (g x d) := by
  unfold cmpAt; cases own r[j]? <;> rfl
@[simp] theorem mCmpO_at (g : D → D → Option D) (j : Nat) (fb : M D) (r : Rho) : mCmpO g j fb r = if (own r[j]?).isSome = true then (fb r).then (cmpAt g j) else .no := by
  unfold mCmpO; split
  · exact bnd_at _ _ _
  · rfl
@[simp] theorem mCmpOO_at (g : D → D → Option D) (i j : Nat) (r : Rho) : mCmpOO g i j r = (opt (own r[i]?) r).then fun x r => (opt (own r[j]?) r).then fun y => opt (g x y) := by
  unfold mCmpOO; cases own r[i]? with
  | none => rfl
  | some x => simp only [opt_some, ret_at, then_ok]; cases own r[j]? <;> rfl
@[simp] theorem eqN_true (x y : D) : eqN true x y = neG x y := Eq.trans rfl rfl
@[simp] theorem eqN_false (x y : D) : eqN false x y = eqG x y := Eq.trans rfl rfl
@[simp] theorem sRaiseI_at (c : Str) (ns : List Str) (fs : List (M D)) (r : Rho) : sRaiseI c ns fs r = (mL fs r).then fun ds r => if ds.length = ns.length then .exc ⟨c, ns, ds⟩ r else .no := bnd_at _ _ _
@[simp] theorem fldX_exn (cs : List Str) (f c : Str) (ns : List Str) (vs : List D) : fldX cs f (.exn c ns vs) = if cs.contains c = true then (ns.zip vs).lookup f else none := Eq.trans rfl rfl
@[simp] theorem mSeqL_at (f : M D) (r : Rho) : mSeqL f r = (f r).then fun d => opt (lstL d) := bnd_at _ _ _
@[simp] theorem lstL_lst (ds : List D) : lstL (.lst ds) = some ds := Eq.trans rfl rfl
@[simp] theorem sForH_at (j : Nat) (it : M (List D)) (g : D → M Unit) (body : M Fl) (r : Rho) : sForH j it g body r = exnR r[j]? (sFor it g body r) := Eq.trans rfl rfl
@[simp] theorem exnR_exn (c : Str) (ns : List Str) (vs : List D) (x : Res Fl) : exnR (some (.sh (.exn c ns vs))) x = x := Eq.trans rfl rfl
end VP

end
section
namespace VP
open PySem
end VP

end
section
namespace VP
open PySem
def popR (i : Nat) (r : Rho) : D → Res D
  | .lst xs => match xs.getLast? with
    | some d => .ok d (putS i (.lst xs.dropLast) r)
    | none => .no
  | _ => .no
@[simp] theorem mPop_at (i : Nat) (r : Rho) : mPop i r = (opt (own r[i]?) r).then fun d r => popR i r d := by
  unfold mPop
  cases own r[i]? with
  | none => rfl
  | some d => cases d <;> rfl
@[simp] theorem popR_lst (i : Nat) (r : Rho) (xs : List D) (d : D) : popR i r (.lst (xs ++ [d])) = .ok d (putS i (.lst xs) r) := by
  unfold popR; simp
@[simp] theorem sExt_at (i : Nat) (fe : M D) (r : Rho) : sExt i fe r = if isLst (own r[i]?) = true then (fe r).then fun x r => (mUpd i (extD x) r).then fun _ => ret .nx else .no := by
  unfold sExt; split
  · rw [bnd_at]; congr; funext k r; exact sDo_at _ _
  · rfl
theorem extD_at (xs ys : List D) (h : xs.length + ys.length ≤ LIM) : extD (.lst ys) (.lst xs) = some (.lst (xs ++ ys)) := if_pos h
@[simp] theorem inAt_at (neg : Bool) (j : Nat) (x : D) (r : Rho) : inAt neg j x r = (opt (own r[j]?) r).then fun y => opt (inD neg x y) := by
  unfold inAt; cases own r[j]? <;> rfl
@[simp] theorem mInO_at (neg : Bool) (fa : M D) (j : Nat) (r : Rho) : mInO neg fa j r = (fa r).then (inAt neg j) := bnd_at _ _ _
@[simp] theorem mCallL_at (f : Fn) (a : M D) (r : Rho) : mCallL f a r = (a r).then (appL f) := bnd_at _ _ _
theorem appL_at (f : Fn) (d v : D) (w : D) (r : Rho) (h : f [d] = .ok v [w]) : appL f d r = .ok v r := by unfold appL; rw [h]
def seqE (x : Res Fl) (g : M Fl) : Res Fl := match x with
  | .ok .nx r => g r
  | .exc e r => .exc e r
  | _ => .no
@[simp] theorem sSeqE_at (f g : M Fl) (r : Rho) : sSeqE f g r = seqE (f r) g := by
  unfold sSeqE bnd seqE
  cases f r with
  | no => rfl
  | exc e r => rfl
  | ok k r => cases k <;> rfl
@[simp] theorem seqE_nx (r : Rho) (g : M Fl) : seqE (.ok .nx r) g = g r := Eq.trans rfl rfl
@[simp] theorem sRetO_at (i : Nat) (r : Rho) (d : D) (h : r[i]? = some (.ow d)) : sRetO i r = .ok (.rt d) r := by unfold sRetO; rw [h]
def viewR (r : Rho) : Res D → Res D
  | .ok (.lst ds) _ => if noLs ds then .ok (.lst ds) r else .no
  | _ => .no
@[simp] theorem mView_at (f : M D) (r : Rho) : mView f r = viewR r (f (r.map viewS)) := by
  unfold mView
  cases f (r.map viewS) with
  | ok d r => cases d <;> rfl
  | exc e r => rfl
  | no => rfl
theorem viewR_ok (r r' : Rho) (ds : List D) (h : noLs ds = true) : viewR r (.ok (.lst ds) r') = .ok (.lst ds) r := if_pos h
def viewRV (r : Rho) : Res D → Res D
  | .ok d _ => if noL d then .ok d r else .no
  | _ => .no
@[simp] theorem mViewV_at (f : M D) (r : Rho) : mViewV f r = viewRV r (f (r.map viewS)) := by
  unfold mViewV
  cases f (r.map viewS) with
  | ok d r => rfl
  | exc e r => rfl
  | no => rfl
@[simp] theorem viewRV_bl (r r' : Rho) (b : Bool) : viewRV r (.ok (.bl b) r') = .ok (.bl b) r := Eq.trans rfl rfl
@[simp] theorem viewS_ow (d : D) : viewS (.ow d) = .sh d := rfl
@[simp] theorem viewS_io (d : D) : viewS (.io d) = .sh d := rfl
@[simp] theorem viewS_sh (d : D) : viewS (.sh d) = .sh d := rfl
@[simp] theorem viewS_no : viewS .no = .no := rfl
theorem whileN_stop {c : M Bool} {b : M Fl} {n : Nat} {r r' : Rho} (h : c r = .ok false r') : whileN c b (n + 1) r = .ok .nx r' := by
  unfold whileN; rw [bnd_at, h]; rfl
theorem whileN_go {c : M Bool} {b : M Fl} {n : Nat} {r r1 r2 : Rho} (h : c r = .ok true r1) (h2 : b r1 = .ok .nx r2) : whileN c b (n + 1) r = whileN c b n r2 := by
  rw [whileN, bnd_at, h]; show (bnd b _) r1 = _; rw [bnd_at, h2]; rfl
theorem maxDef_T (xs : List Int) (d : D) : maxDef (T xs) d = match xs with | [] => some d | i :: is => some (.int (is.foldl (fun a b => if a < b then b else a) i)) := by
  have e : intsD (xs.map .int) = some xs := by
    induction xs with
    | nil => rfl
    | cons x xs ih => simp [intsD, ih]
  show (match intsD (xs.map .int) with | some [] => some d | some (i :: is) => some (.int (is.foldl (fun a b => if a < b then b else a) i)) | none => none) = _
  rw [e]
  cases xs <;> rfl
end VP

end
section
set_option maxRecDepth 100000
set_option linter.all false
namespace LW
open PySem VP
def names : List Str := (["given", "even", "turn", "cut", "drop", "wide", "spread", "shape", "shift", "one", "both", "where", "fold", "run", "pick", "join", "minus", "half", "none", "add", "less", "times", "least", "most", "below", "alike", "line", "number", "numbers", "place", "sides", "many"] : List Str)
def nm (i : Nat) : Str := names.getD i ""
def abs_FORMS : List Str := []
def tab_FORMS : List (Str × D) := [((nm 0), .tup [.str (nm 27)]), ((nm 1), .tup [.str (nm 28), .str (nm 27)]), ((nm 2), .tup [.str (nm 26), .str (nm 28)]), ((nm 3), .tup [.str (nm 26), .str (nm 27), .str (nm 27), .str (nm 27), .str (nm 27)]), ((nm 4), .tup [.str (nm 26), .str (nm 27), .str (nm 27)]), ((nm 5), .tup [.str (nm 26), .str (nm 27)]), ((nm 6), .tup [.str (nm 26), .str (nm 28)]), ((nm 7), .tup [.str (nm 26), .str (nm 28)]), ((nm 8), .tup [.str (nm 26), .str (nm 27), .str (nm 27), .str (nm 27)]), ((nm 9), .tup [.str (nm 9), .str (nm 26)]), ((nm 10), .tup [.str (nm 10), .str (nm 26), .str (nm 26)]), ((nm 11), .tup [.str (nm 26), .str (nm 26), .str (nm 26)]), ((nm 12), .tup [.str (nm 12), .str (nm 26), .str (nm 27)]), ((nm 13), .tup [.str (nm 12), .str (nm 26), .str (nm 27)]), ((nm 14), .tup [.str (nm 26), .str (nm 27), .str (nm 26)]), ((nm 15), .tup [.str (nm 26), .str (nm 26), .str (nm 27)])]
def b_z8 : M Fl :=
  (sSeq (VP.sIf (VP.tOr (VP.tB (m2 eqG (m2 itemD (mVar 0) (mC (.int 0))) (mC (.str (nm 0))))) (VP.tB (m2 eqG (m2 itemD (mVar 0) (mC (.int 0))) (mC (.str (nm 1)))))) (sSeq (sRet (mLst []))
    sNx) sNx)
    (sSeq (VP.sIf (VP.tB (m2 eqG (m2 itemD (mVar 0) (mC (.int 0))) (mC (.str (nm 11))))) (sSeq (sRet (mLst [(m2 itemD (mVar 0) (mC (.int 1))), (m2 itemD (mVar 0) (mC (.int 2))), (m2 itemD (mVar 0) (mC (.int 3)))]))
    sNx) sNx)
    (sSeq (VP.sIf (VP.tB (m2 eqG (m2 itemD (mVar 0) (mC (.int 0))) (mC (.str (nm 10))))) (sSeq (sRet (mLst [(m2 itemD (mVar 0) (mC (.int 2))), (m2 itemD (mVar 0) (mC (.int 3)))]))
    sNx) sNx)
    (sSeq (VP.sIf (VP.tOr (VP.tB (m2 eqG (m2 itemD (mVar 0) (mC (.int 0))) (mC (.str (nm 9))))) (VP.tOr (VP.tB (m2 eqG (m2 itemD (mVar 0) (mC (.int 0))) (mC (.str (nm 12))))) (VP.tB (m2 eqG (m2 itemD (mVar 0) (mC (.int 0))) (mC (.str (nm 13))))))) (sSeq (sRet (mLst [(m2 itemD (mVar 0) (mC (.int 2)))]))
    sNx) sNx)
    (sSeq (VP.sIf (VP.tB (m2 eqG (m2 itemD (mVar 0) (mC (.int 0))) (mC (.str (nm 14))))) (sSeq (sRet (mLst [(m2 itemD (mVar 0) (mC (.int 1))), (m2 itemD (mVar 0) (mC (.int 3)))]))
    sNx) sNx)
    (sSeq (VP.sIf (VP.tB (m2 eqG (m2 itemD (mVar 0) (mC (.int 0))) (mC (.str (nm 15))))) (sSeq (sRet (mLst [(m2 itemD (mVar 0) (mC (.int 1))), (m2 itemD (mVar 0) (mC (.int 2)))]))
    sNx) sNx)
    (sSeq (sRet (mLst [(m2 itemD (mVar 0) (mC (.int 1)))]))
    sNx)))))))
def f_z8 : Fn := defn 1 [false] b_z8
def lp_l_wanted_1 : M Fl :=
  (sSeq (VP.sIf (VP.tB (mInO true (mVar 3) 1)) (sSeq (sApp 1 (mVar 3))
    (sSeq (sApp 2 (mVar 3))
    sNx)) sNx)
    sNx)
def wc_l_wanted_2 : M Bool :=
  (VP.tB (mCmpO (eqN true) 2 (mLst [])))
def wb_l_wanted_3 : M Fl :=
  (sSeq (VP.sFor (mSeq (mCall f_z8 [.val (m2 itemD (mVar 0) (mPop 2))])) (VP.gName 3) lp_l_wanted_1)
    sNx)
def b_z13 : M Fl :=
  (sSeq (sOwn 1 (mLst [(m2 subI (m1 lenD (mVar 0)) (mC (.int 1)))]))
    (sSeq (sOwn 2 (mLst [(m2 subI (m1 lenD (mVar 0)) (mC (.int 1)))]))
    (sSeq (sWhile wc_l_wanted_2 wb_l_wanted_3)
    (sSeq (sFz 1 (sRet (mVar 1)))
    sNx))))
def f_z13 : Fn := defn 4 [false] b_z13
def lp_l_kept_1 : M Fl :=
  (sSeq (sSetIx 4 (mVar 7) (m2 addA (mIxO 4 (mVar 7)) (mC (.int 1))))
    (sSeq (VP.sIf (VP.tOr (VP.tB (m2 eqG (m2 itemD (mVar 6) (mC (.int 0))) (mC (.str (nm 7))))) (VP.tB (m2 eqG (m2 itemD (mVar 6) (mC (.int 0))) (mC (.str (nm 14)))))) (sSeq (sSetIx 3 (mVar 7) (mC (.bl true)))
    sNx) sNx)
    (sSeq (VP.sIf (VP.tAnd (VP.tB (m2 neG (m2 itemD (m2 itemD (mVar 0) (mVar 7)) (mC (.int 0))) (mC (.str (nm 1))))) (VP.tB (m2 gtI (mIxO 4 (mVar 7)) (mC (.int 1))))) (sSeq (sSetIx 3 (mVar 7) (mC (.bl true)))
    sNx) sNx)
    (sSeq (VP.sIf (VP.tAnd (VP.tB (m2 neG (m2 itemD (m2 itemD (mVar 0) (mVar 7)) (mC (.int 0))) (mC (.str (nm 1))))) (VP.tAnd (VP.tB (m2 (inD false) (m2 itemD (mVar 6) (mC (.int 0))) (mLst [(mC (.str (nm 6))), (mC (.str (nm 10))), (mC (.str (nm 11)))]))) (VP.tB (m2 neG (m2 itemD (mVar 1) (mVar 7)) (m2 itemD (mVar 1) (mVar 5)))))) (sSeq (sSetIx 3 (mVar 7) (mC (.bl true)))
    sNx) sNx)
    sNx))))
def lp_l_kept_2 : M Fl :=
  (sSeq (sSet 6 (m2 itemD (mVar 0) (mVar 5)))
    (sSeq (sSetIx 3 (mVar 5) (mOrV (mIxO 3 (mVar 5)) (m2 (inD false) (m2 itemD (mVar 6) (mC (.int 0))) (mLst [(mC (.str (nm 0))), (mC (.str (nm 12))), (mC (.str (nm 13))), (mC (.str (nm 14)))]))))
    (sSeq (VP.sFor (mSeq (mCall f_z8 [.val (mVar 6)])) (VP.gName 7) lp_l_kept_1)
    sNx)))
def b_z4 : M Fl :=
  (sSeq (sSet 2 (mCall f_z13 [.val (mVar 0)]))
    (sSeq (sOwn 3 (m2 mulL (mLst [(mC (.bl false))]) (m1 lenD (mVar 0))))
    (sSeq (sOwn 4 (m2 mulL (mLst [(mC (.int 0))]) (m1 lenD (mVar 0))))
    (sSeq (VP.sFor (mSeq (mVar 2)) (VP.gName 5) lp_l_kept_2)
    (sSeq (sSetIx 3 (m1 negI (mC (.int 1))) (mC (.bl true)))
    (sSeq (sFz 3 (sRet (mVar 3)))
    sNx))))))
def f_z4 : Fn := defn 8 [false, false] b_z4
def lp_l_cells_1 : M Fl :=
  (sSeq (sSet 1 (m2 mulI (mVar 1) (mVar 2)))
    sNx)
def b_z2 : M Fl :=
  (sSeq (sSet 1 (mC (.int 1)))
    (sSeq (VP.sFor (mSeq (mVar 0)) (VP.gName 2) lp_l_cells_1)
    (sSeq (sRet (mVar 1))
    sNx)))
def f_z2 : Fn := defn 3 [false] b_z2
def b_z3 : M Fl :=
  (sSeq (sRet (m2 addA (m2 addA (mSl cutA (mVar 0) none (some (mVar 1))) (mTup [(mVar 2)])) (mSl cutA (mVar 0) (some (m2 addA (mVar 1) (mC (.int 1)))) none)))
    sNx)
def f_z3 : Fn := defn 3 [false, false, false] b_z3
def lp_l_met_1 : M Fl :=
  (sSeq (VP.sIf (VP.tAnd (VP.tB (m2 neG (m2 itemD (mVar 3) (mVar 6)) (m2 itemD (mVar 4) (mVar 6)))) (VP.tAnd (VP.tB (m2 neG (m2 itemD (mVar 3) (mVar 6)) (mC (.int 1)))) (VP.tB (m2 neG (m2 itemD (mVar 4) (mVar 6)) (mC (.int 1)))))) (sSeq (sRet (mC .non))
    sNx) sNx)
    (sSeq (sSet 5 (m2 addA (mVar 5) (mTup [(m2 itemD (mLst [(m2 itemD (mVar 3) (mVar 6)), (m2 itemD (mVar 4) (mVar 6))]) (mF intD [(m2 eqG (m2 itemD (mVar 3) (mVar 6)) (mC (.int 1)))]))])))
    sNx))
def b_z5 : M Fl :=
  (sSeq (sSet 2 (mF maxD [(m1 lenD (mVar 0)), (m1 lenD (mVar 1))]))
    (sSeq (sSet 3 (m2 addA (m2 mulA (mTup [(mC (.int 1))]) (m2 subI (mVar 2) (m1 lenD (mVar 0)))) (mVar 0)))
    (sSeq (sSet 4 (m2 addA (m2 mulA (mTup [(mC (.int 1))]) (m2 subI (mVar 2) (m1 lenD (mVar 1)))) (mVar 1)))
    (sSeq (sSet 5 (mTup []))
    (sSeq (VP.sFor (mRng1 [(mVar 2)]) (VP.gName 6) lp_l_met_1)
    (sSeq (sRet (mVar 5))
    sNx))))))
def f_z5 : Fn := defn 7 [false, false] b_z5
def b_z10 : M Fl :=
  (sSeq (sSet 2 (mIxO 0 (mC (.int 1))))
    (sSeq (sSetIx 0 (mC (.int 1)) (m2 addA (mVar 2) (mC (.int 1))))
    (sSeq (VP.sIf (VP.tB (m2 ltI (mVar 2) (m1 lenD (mIxO 0 (mC (.int 0)))))) (sSeq (sRet (m2 modI (m2 itemD (mIxO 0 (mC (.int 0))) (mVar 2)) (mVar 1)))
    sNx) sNx)
    (sSeq (sRet (mC (.int 0)))
    sNx))))
def f_z10 : Fn := defn 3 [true, false] b_z10
def ce_l_more_1 : M D :=
  (m2 addA (mC (.int 1)) (mCall f_z10 [.io 0, .val (mC (.int 3))]))
def b_z6 : M Fl :=
  (sSeq (sSet 5 (mIxO 2 (mVar 1)))
    (sSeq (sSet 6 (mCall f_z10 [.io 0, .val (m1 lenD (mRd 2))]))
    (sSeq (VP.sIf (VP.tB (m2 eqG (mVar 3) (mC (.int 9)))) (sSeq (sRet (mTup [(mTup [(mC (.str (nm 9))), (m2 itemD (mLst [(mC (.str (nm 16))), (mC (.str (nm 17))), (mC (.str (nm 18)))]) (mCall f_z10 [.io 0, .val (mC (.int 3))])), (mVar 1)]), (mVar 5)]))
    sNx) sNx)
    (sSeq (VP.sIf (VP.tB (m2 eqG (mVar 3) (mC (.int 10)))) (sSeq (sSet 7 (m2 itemD (mLst [(mC (.str (nm 19))), (mC (.str (nm 20))), (mC (.str (nm 21))), (mC (.str (nm 22))), (mC (.str (nm 23))), (mC (.str (nm 24))), (mC (.str (nm 25)))]) (mCall f_z10 [.io 0, .val (mC (.int 7))])))
    (sSeq (VP.sIf (VP.tB (m2 isND (mCall f_z5 [.val (mVar 5), .val (mIxO 2 (mVar 6))]) (mC .non))) (sSeq (sSet 6 (mVar 1))
    sNx) sNx)
    (sSeq (sRet (mTup [(mTup [(mC (.str (nm 10))), (mVar 7), (mVar 1), (mVar 6)]), (mCall f_z5 [.val (mVar 5), .val (mIxO 2 (mVar 6))])]))
    sNx))) sNx)
    (sSeq (VP.sIf (VP.tB (m2 eqG (mVar 3) (mC (.int 11)))) (sSeq (sSet 8 (mCall f_z10 [.io 0, .val (m1 lenD (mRd 2))]))
    (sSeq (sSet 9 (mCall f_z5 [.val (mVar 5), .val (mIxO 2 (mVar 6))]))
    (sSeq (VP.sIf (VP.tOr (VP.tB (m2 isND (mVar 9) (mC .non))) (VP.tB (m2 isND (mCall f_z5 [.val (mVar 9), .val (mIxO 2 (mVar 8))]) (mC .non)))) (sSeq (sRet (mTup [(mTup [(mC (.str (nm 11))), (mVar 1), (mVar 1), (mVar 1)]), (mVar 5)]))
    sNx) sNx)
    (sSeq (sRet (mTup [(mTup [(mC (.str (nm 11))), (mVar 6), (mVar 1), (mVar 8)]), (mCall f_z5 [.val (mVar 9), .val (mIxO 2 (mVar 8))])]))
    sNx)))) sNx)
    (sSeq (VP.sIf (VP.tB (m2 eqG (mVar 3) (mC (.int 12)))) (sSeq (sSet 9 (m1 tupOf (mComp 1 (mRng1 [(mCall f_z10 [.io 0, .val (mC (.int 3))])]) (VP.gName 11) (VP.ret true) ce_l_more_1)))
    (sSeq (sRet (mTup [(mTup [(mC (.str (nm 1))), (mVar 9), (mCall f_z10 [.io 0, .val (mC (.int 1000003))])]), (mVar 9)]))
    sNx)) sNx)
    (sSeq (VP.sIf (VP.tB (m2 eqG (mVar 5) (mTup []))) (sSeq (sRet (mTup [(mTup [(mC (.str (nm 9))), (mC (.str (nm 16))), (mVar 1)]), (mVar 5)]))
    sNx) sNx)
    (sSeq (sSet 10 (mCall f_z10 [.io 0, .val (m1 lenD (mVar 5))]))
    (sSeq (VP.sIf (VP.tB (m2 eqG (mVar 3) (mC (.int 13)))) (sSeq (VP.sIf (VP.tOr (VP.tB (m2 ltI (mCall f_z10 [.io 0, .val (mC (.int 5))]) (mC (.int 4)))) (VP.tB (m2 neG (m1 lenD (mIxO 2 (mVar 6))) (mC (.int 1))))) (sSeq (sSet 6 (mVar 4))
    sNx) sNx)
    (sSeq (sRet (mTup [(mTup [(mC (.str (nm 14))), (mVar 1), (mVar 10), (mVar 6)]), (mCall f_z3 [.val (mVar 5), .val (mVar 10), .val (m2 itemD (mIxO 2 (mVar 6)) (mC (.int 0)))])]))
    sNx)) sNx)
    (sSeq (VP.sIf (VP.tOr (VP.tB (m2 neG (m1 lenD (mIxO 2 (mVar 6))) (m1 lenD (mVar 5)))) (VP.tB (m2 neG (mCall f_z3 [.val (mVar 5), .val (mVar 10), .val (mC (.int 0))]) (mCall f_z3 [.val (mIxO 2 (mVar 6)), .val (mVar 10), .val (mC (.int 0))])))) (sSeq (sSet 6 (mVar 1))
    sNx) sNx)
    (sSeq (sRet (mTup [(mTup [(mC (.str (nm 15))), (mVar 1), (mVar 6), (mVar 10)]), (mCall f_z3 [.val (mVar 5), .val (mVar 10), .val (m2 addA (m2 itemD (mVar 5) (mVar 10)) (m2 itemD (mIxO 2 (mVar 6)) (mVar 10)))])]))
    sNx)))))))))))
def f_z6 : Fn := defn 11 [true, false, true, false, false] b_z6
def b_z9 : M Fl :=
  (sSeq (sSet 4 (mCall f_z10 [.io 0, .val (m1 lenD (mVar 2))]))
    (sSeq (sSet 5 (m2 itemD (mVar 2) (mVar 4)))
    (sSeq (sSet 6 (mLst [(mC (.str (nm 19))), (mC (.str (nm 21))), (mC (.str (nm 22))), (mC (.str (nm 23)))]))
    (sSeq (VP.sIf (VP.tB (m2 eqG (mVar 3) (mC (.int 4)))) (sSeq (sSet 7 (m2 subI (mCall f_z10 [.io 0, .val (mC (.int 9))]) (mC (.int 4))))
    (sSeq (sRet (mTup [(mTup [(mC (.str (nm 8))), (mVar 1), (mVar 4), (mVar 7), (mCall f_z10 [.io 0, .val (mC (.int 1000003))])]), (mVar 2)]))
    sNx)) sNx)
    (sSeq (VP.sIf (VP.tB (m2 eqG (mVar 3) (mC (.int 5)))) (sSeq (sSet 8 (m2 itemD (mVar 6) (m2 modI (mCall f_z10 [.io 0, .val (mC (.int 4))]) (m2 itemD (mLst [(mC (.int 2)), (mC (.int 4))]) (mF intD [(m2 gtI (mVar 5) (mC (.int 0)))])))))
    (sSeq (sRet (mTup [(mTup [(mC (.str (nm 12))), (mVar 8), (mVar 1), (mVar 4)]), (m2 addA (mSl cutA (mVar 2) none (some (mVar 4))) (mSl cutA (mVar 2) (some (m2 addA (mVar 4) (mC (.int 1)))) none))]))
    sNx)) sNx)
    (sSeq (VP.sIf (VP.tB (m2 eqG (mVar 3) (mC (.int 6)))) (sSeq (sRet (mTup [(mTup [(mC (.str (nm 13))), (m2 itemD (mVar 6) (mCall f_z10 [.io 0, .val (mC (.int 4))])), (mVar 1), (mVar 4)]), (mVar 2)]))
    sNx) sNx)
    (sSeq (VP.sIf (VP.tB (m2 eqG (mVar 5) (mC (.int 0)))) (sSeq (sRet (mTup [(mTup [(mC (.str (nm 9))), (mC (.str (nm 18))), (mVar 1)]), (mVar 2)]))
    sNx) sNx)
    (sSeq (sSet 9 (mCall f_z10 [.io 0, .val (mVar 5)]))
    (sSeq (VP.sIf (VP.tB (m2 eqG (mVar 3) (mC (.int 7)))) (sSeq (sRet (mTup [(mTup [(mC (.str (nm 4))), (mVar 1), (mVar 4), (mVar 9)]), (m2 addA (mSl cutA (mVar 2) none (some (mVar 4))) (mSl cutA (mVar 2) (some (m2 addA (mVar 4) (mC (.int 1)))) none))]))
    sNx) sNx)
    (sSeq (sSet 10 (m2 addA (mC (.int 1)) (mCall f_z10 [.io 0, .val (mC (.int 3))])))
    (sSeq (sSet 11 (m2 fdivI (m2 subI (m2 subI (mVar 5) (mC (.int 1))) (mVar 9)) (mVar 10)))
    (sSeq (VP.sIf (VP.tB (m2 eqG (mCall f_z10 [.io 0, .val (mC (.int 2))]) (mC (.int 1)))) (sSeq (sSet 11 (m2 fdivI (mVar 9) (mVar 10)))
    (sSeq (sSet 10 (m2 subI (mC (.int 0)) (mVar 10)))
    sNx)) sNx)
    (sSeq (sSet 12 (m2 subI (m2 addA (mVar 11) (mC (.int 1))) (mCall f_z10 [.io 0, .val (m2 addA (mVar 11) (mC (.int 2)))])))
    (sSeq (sRet (mTup [(mTup [(mC (.str (nm 3))), (mVar 1), (mVar 4), (mVar 9), (mVar 10), (mVar 12)]), (mCall f_z3 [.val (mVar 2), .val (mVar 4), .val (mVar 12)])]))
    sNx))))))))))))))
def f_z9 : Fn := defn 13 [true, false, false, false] b_z9
def ce_l_view_1 : M D :=
  (m2 modI (m2 addA (mVar 10) (mVar 5)) (mVar 4))
def ce_l_view_2 : M D :=
  (m2 itemD (mVar 2) (mVar 10))
def ce_l_view_3 : M D :=
  (m2 itemD (mLst [(mVar 10), (mCall f_z10 [.io 0, .val (mC (.int 4))])]) (mF intD [(m2 eqG (mVar 10) (mC (.int 1)))]))
def b_z12 : M Fl :=
  (sSeq (sSet 4 (m1 lenD (mVar 2)))
    (sSeq (VP.sIf (VP.tB (m2 eqG (mVar 3) (mC (.int 0)))) (sSeq (sSet 5 (mCall f_z10 [.io 0, .val (mF maxD [(mC (.int 1)), (mVar 4)])]))
    (sSeq (sSet 6 (mComp 1 (mRng1 [(mVar 4)]) (VP.gName 10) (VP.ret true) ce_l_view_1))
    (sSeq (VP.sIf (VP.tB (m2 eqG (mCall f_z10 [.io 0, .val (mC (.int 2))]) (mC (.int 1)))) (sSeq (sSet 6 (m1 revL (mVar 6)))
    sNx) sNx)
    (sSeq (sRet (mTup [(mTup [(mC (.str (nm 2))), (mVar 1), (m1 tupOf (mVar 6))]), (m1 tupOf (mComp 1 (mSeq (mVar 6)) (VP.gName 10) (VP.ret true) ce_l_view_2))]))
    sNx)))) sNx)
    (sSeq (VP.sIf (VP.tB (m2 eqG (mVar 3) (mC (.int 1)))) (sSeq (sSet 7 (mCall f_z10 [.io 0, .val (m2 addA (mVar 4) (mC (.int 1)))]))
    (sSeq (sRet (mTup [(mTup [(mC (.str (nm 5))), (mVar 1), (mVar 7)]), (m2 addA (m2 addA (mSl cutA (mVar 2) none (some (mVar 7))) (mTup [(mC (.int 1))])) (mSl cutA (mVar 2) (some (mVar 7)) none))]))
    sNx)) sNx)
    (sSeq (VP.sIf (VP.tB (m2 eqG (mVar 3) (mC (.int 2)))) (sSeq (sSet 8 (m1 tupOf (mComp 1 (mSeq (mVar 2)) (VP.gName 10) (VP.ret true) ce_l_view_3)))
    (sSeq (VP.sIf (VP.tB (m2 eqG (mCall f_z10 [.io 0, .val (mC (.int 2))]) (mC (.int 1)))) (sSeq (sSet 8 (m2 addA (mTup [(mCall f_z10 [.io 0, .val (mC (.int 4))])]) (mVar 8)))
    sNx) sNx)
    (sSeq (sRet (mTup [(mTup [(mC (.str (nm 6))), (mVar 1), (mVar 8)]), (mVar 8)]))
    sNx))) sNx)
    (sSeq (sSet 9 (mCall f_z2 [.val (mVar 2)]))
    (sSeq (sSet 8 (m2 itemD (mLst [(m1 revT (mVar 2)), (mTup [(mVar 9)]), (mTup [(mC (.int 1)), (mVar 9)]), (mTup [(mVar 9), (mC (.int 1))])]) (mCall f_z10 [.io 0, .val (mC (.int 4))])))
    (sSeq (sRet (mTup [(mTup [(mC (.str (nm 7))), (mVar 1), (mVar 8)]), (mVar 8)]))
    sNx)))))))
def f_z12 : Fn := defn 10 [true, false, false, false] b_z12
def ce_l_program_1 : M D :=
  (m2 itemD (mLst [(mC (.int 2)), (mC (.int 3)), (mC (.int 1)), (mC (.int 2)), (mC (.int 3)), (mC (.int 1)), (mC (.int 2)), (mC (.int 0))]) (mCall f_z10 [.io 0, .val (mC (.int 8))]))
def lp_l_program_2 : M Fl :=
  (sSeq (sSet 3 (mCall f_z10 [.io 0, .val (mC (.int 4))]))
    (sSeq (sApp 1 (m1 tupOf (mComp 1 (mRng1 [(mVar 3)]) (VP.gName 12) (VP.ret true) ce_l_program_1)))
    sNx))
def ce_l_program_3 : M D :=
  (mTup [(mC (.str (nm 0))), (m2 modI (m2 addA (mVar 12) (mVar 5)) (mVar 4))])
def ce_l_program_4 : M D :=
  (m2 itemD (mVar 1) (m2 itemD (mVar 12) (mC (.int 1))))
def lp_l_program_5 : M Fl :=
  (sSeq (sSet 9 (m2 subI (m2 subI (m1 lenD (mRd 6)) (mC (.int 1))) (mCall f_z10 [.io 0, .val (m1 lenD (mRd 6))])))
    (sSeq (sSet 10 (mCall f_z10 [.io 0, .val (mC (.int 16))]))
    (sSeq (VP.sIf (VP.tB (m2 ltI (mVar 10) (mC (.int 4)))) (sSeq (sSet 11 (mCall f_z12 [.io 0, .val (mVar 9), .val (mIxO 7 (mVar 9)), .val (mVar 10)]))
    sNx) (sSeq (VP.sIf (VP.tAnd (VP.tB (m2 ltI (mVar 10) (mC (.int 9)))) (VP.tB (m2 neG (mIxO 7 (mVar 9)) (mTup [])))) (sSeq (sSet 11 (mCall f_z9 [.io 0, .val (mVar 9), .val (mIxO 7 (mVar 9)), .val (mVar 10)]))
    sNx) (sSeq (VP.sIf (VP.tB (m2 eqG (mVar 10) (mC (.int 15)))) (sSeq (sSet 11 (mTup [(mTup [(mC (.str (nm 0))), (m2 modI (mVar 9) (mVar 4))]), (mIxO 1 (m2 modI (mVar 9) (mVar 4)))]))
    sNx) (sSeq (sSet 11 (mCall f_z6 [.io 0, .val (mVar 9), .io 7, .val (mVar 10), .val (mVar 8)]))
    sNx))
    sNx))
    sNx))
    (sSeq (VP.sIf (VP.tOr (VP.tB (m2 gtI (mCall f_z2 [.val (m2 itemD (mVar 11) (mC (.int 1)))]) (mC (.int 27)))) (VP.tOr (VP.tB (m2 gtI (m1 lenD (m2 itemD (mVar 11) (mC (.int 1)))) (mC (.int 4)))) (VP.tB (m2 gtI (m2 maxDef (m2 itemD (mVar 11) (mC (.int 1))) (mC (.int 0))) (mC (.int 24)))))) (sSeq (sSet 11 (mTup [(mTup [(mC (.str (nm 9))), (mC (.str (nm 16))), (mVar 9)]), (mIxO 7 (mVar 9))]))
    sNx) sNx)
    (sSeq (sApp 6 (m2 itemD (mVar 11) (mC (.int 0))))
    (sSeq (sApp 7 (m2 itemD (mVar 11) (mC (.int 1))))
    sNx))))))
def b_z7 : M Fl :=
  (sSeq (sOwn 1 (mLst []))
    (sSeq (VP.sFor (mRng1 [(m2 addA (mC (.int 1)) (mCall f_z10 [.io 0, .val (mC (.int 2))]))]) (VP.gName 2) lp_l_program_2)
    (sSeq (sApp 1 (mTup [(m2 itemD (mLst [(mC (.int 2)), (mC (.int 3)), (mC (.int 1)), (mC (.int 4))]) (mCall f_z10 [.io 0, .val (mC (.int 4))]))]))
    (sSeq (sSet 4 (m1 lenD (mRd 1)))
    (sSeq (sSet 5 (mCall f_z10 [.io 0, .val (mVar 4)]))
    (sSeq (sOwn 6 (mComp 1 (mRng1 [(mVar 4)]) (VP.gName 12) (VP.ret true) ce_l_program_3))
    (sSeq (sOwn 7 (mView (mComp 1 (mSeq (mVar 6)) (VP.gName 12) (VP.ret true) ce_l_program_4)))
    (sSeq (sSet 8 (m2 modI (m2 subI (m2 subI (mVar 4) (mC (.int 1))) (mVar 5)) (mVar 4)))
    (sSeq (VP.sFor (mRng1 [(m2 addA (mC (.int 1)) (mCall f_z10 [.io 0, .val (mC (.int 10))]))]) (VP.gName 2) lp_l_program_5)
    (sSeq (sFz 1 (sFz 7 (sFz 6 (sRet (mTup [(mVar 6), (mVar 7), (mVar 4), (mVar 1)])))))
    sNx))))))))))
def f_z7 : Fn := defn 12 [true] b_z7
def lp_l_truths_1 : M Fl :=
  (sSeq (VP.sIf (VP.tNot (VP.tB (m1 (isaD "bool") (mVar 2)))) (sSeq (sRet (mC (.bl false)))
    sNx) sNx)
    sNx)
def b_z11 : M Fl :=
  (sSeq (VP.sIf (VP.tOr (VP.tNot (VP.tB (m1 (isaD "list") (mVar 0)))) (VP.tB (m2 neG (m1 lenD (mVar 0)) (m1 lenD (mVar 1))))) (sSeq (sRet (mC (.bl false)))
    sNx) sNx)
    (sSeq (VP.sFor (mSeq (mVar 0)) (VP.gName 2) lp_l_truths_1)
    (sSeq (sRet (m2 eqG (mVar 0) (mVar 1)))
    sNx)))
def f_z11 : Fn := defn 3 [false, false] b_z11
def b_z17 : M Fl :=
  (sSeq (sRet (mAndV (m2 (inD false) (m2 itemD (m2 itemD (mVar 0) (mVar 2)) (mC (.int 0))) (mTup [(mC (.str (nm 6))), (mC (.str (nm 10))), (mC (.str (nm 11)))])) (m2 neG (m2 itemD (mVar 1) (mVar 2)) (m2 itemD (mVar 1) (mVar 3)))))
    sNx)
def f_z17 : Fn := defn 4 [false, false, false, false] b_z17
def ce_is_kept_1 : M D :=
  (m2 (inD false) (m2 itemD (m2 itemD (mVar 0) (mVar 5)) (mC (.int 0))) (mTup [(mC (.str (nm 7))), (mC (.str (nm 14)))]))
def ce_is_kept_2 : M D :=
  (mCall f_z17 [.val (mVar 0), .val (mVar 1), .val (mVar 5), .val (mVar 2)])
def b_z0 : M Fl :=
  (sSeq (sSet 4 (m2 itemD (m2 itemD (mVar 0) (mVar 2)) (mC (.int 0))))
    (sSeq (VP.sIf (VP.tOr (VP.tB (m2 eqG (mVar 2) (m2 subI (m1 lenD (mVar 0)) (mC (.int 1))))) (VP.tB (m2 (inD false) (mVar 4) (mTup [(mC (.str (nm 0))), (mC (.str (nm 12))), (mC (.str (nm 13))), (mC (.str (nm 14)))])))) (sSeq (sRet (mC (.bl true)))
    sNx) sNx)
    (sSeq (VP.sIf (VP.tB (m1 (allD false) (mComp 1 (mSeq (mVar 3)) (VP.gName 5) (VP.ret true) ce_is_kept_1))) (sSeq (sRet (mC (.bl true)))
    sNx) sNx)
    (sSeq (VP.sIf (VP.tB (m2 eqG (mVar 4) (mC (.str (nm 1))))) (sSeq (sRet (mC (.bl false)))
    sNx) sNx)
    (sSeq (sRet (mOrV (m2 gtI (m1 lenD (mVar 3)) (mC (.int 1))) (m1 (allD false) (mComp 1 (mSeq (mVar 3)) (VP.gName 5) (VP.ret true) ce_is_kept_2))))
    sNx)))))
def f_z0 : Fn := defn 5 [false, false, false, false] b_z0
def ce_named_by_1 : M D :=
  (mVar 2)
def ct_named_by_2 : M Bool :=
  (VP.tB (m2 eqG (mVar 1) (mC (.str (nm 26)))))
def b_z15 : M Fl :=
  (sSeq (sRet (mComp 2 (mZip [(m1 (tabD tab_FORMS) (m2 itemD (mVar 0) (mC (.int 0)))), (mSl cutA (mVar 0) (some (mC (.int 1))) none)]) (VP.gTup [1, 2]) ct_named_by_2 ce_named_by_1))
    sNx)
def f_z15 : Fn := defn 1 [false] b_z15
def ce_naming_lines_1 : M D :=
  (mVar 4)
def ct_naming_lines_2 : M Bool :=
  (VP.tB (m2 eqG (mVar 6) (mVar 2)))
def lp_naming_lines_3 : M Fl :=
  (sSeq (VP.sIf (VP.tB (m2 itemD (mVar 1) (mVar 4))) (sSeq (sExt 3 (mComp 1 (mSeq (mCall f_z15 [.val (mVar 5)])) (VP.gName 6) ct_naming_lines_2 ce_naming_lines_1))
    sNx) sNx)
    sNx)
def b_z16 : M Fl :=
  (sSeq (sOwn 3 (mLst []))
    (sSeq (VP.sFor (mEnum [(mVar 0)]) (VP.gTup [4, 5]) lp_naming_lines_3)
    (sSeq (sFz 3 (sRet (mVar 3)))
    sNx)))
def f_z16 : Fn := defn 6 [false, false, false] b_z16
def ce_wanted_lines_1 : M D :=
  (mC (.bl false))
def lp_wanted_lines_2 : M Fl :=
  (sSeq (sSetIx 1 (mVar 3) (mC (.bl true)))
    sNx)
def lp_wanted_lines_3 : M Fl :=
  (sSeq (VP.sIf (VP.tB (mIxO 1 (mVar 2))) (sSeq (VP.sFor (mSeq (mCall f_z15 [.val (m2 itemD (mVar 0) (mVar 2))])) (VP.gName 3) lp_wanted_lines_2)
    sNx) sNx)
    sNx)
def b_z18 : M Fl :=
  (sSeq (sOwn 1 (mComp 1 (mSeq (mVar 0)) (VP.gName 4) (VP.ret true) ce_wanted_lines_1))
    (sSeq (sSetIx 1 (m2 subI (m1 lenD (mVar 0)) (mC (.int 1))) (mC (.bl true)))
    (sSeq (VP.sFor (mDown [(m2 subI (m1 lenD (mVar 0)) (mC (.int 1))), (m1 negI (mC (.int 1))), (m1 negI (mC (.int 1)))]) (VP.gName 2) lp_wanted_lines_3)
    (sSeq (sFz 1 (sRet (mVar 1)))
    sNx))))
def f_z18 : Fn := defn 4 [false] b_z18
def lp_kept_lines_1 : M Fl :=
  (sSeq (sApp 3 (mAndV (m2 itemD (mVar 2) (mVar 4)) (mCall f_z0 [.val (mVar 0), .val (mVar 1), .val (mVar 4), .val (mCall f_z16 [.val (mVar 0), .val (mVar 2), .val (mVar 4)])])))
    sNx)
def b_z1 : M Fl :=
  (sSeqE (sSet 2 (mCall f_z18 [.val (mVar 0)]))
    (sSeqE (sOwn 3 (mLst []))
    (sSeqE (VP.sFor (mEnum [(mVar 0)]) (VP.gTup [4, 5]) lp_kept_lines_1)
    (sRetO 3))))
def f_z1 : Fn := defn 6 [false, false] b_z1
def ce_law_1 : M D :=
  (m2 (inD false) (mVar 8) (mVar 4))
def b_law : M Fl :=
  (sSeq (sSet 1 (mCallL f_z7 (mLst [(mVar 0), (mC (.int 0))])))
    (sSeq (sSet 2 (m1 lstOf (m2 itemD (mVar 1) (mC (.int 0)))))
    (sSeq (sSet 3 (m1 lstOf (m2 itemD (mVar 1) (mC (.int 1)))))
    (sSeq (sSet 4 (mCall f_z13 [.val (mVar 2)]))
    (sSeq (sSet 5 (mComp 1 (mRng1 [(m1 lenD (mVar 2))]) (VP.gName 8) (VP.ret true) ce_law_1))
    (sSeq (VP.sIf (VP.tNot (VP.tB (mCall f_z11 [.val (mCall f_z18 [.val (mVar 2)]), .val (mVar 5)]))) (sSeq (sRet (mC (.bl false)))
    sNx) sNx)
    (sSeq (sOwn 6 (mCall f_z1 [.val (mVar 2), .val (mVar 3)]))
    (sSeq (sSet 7 (mCall f_z4 [.val (mVar 2), .val (mVar 3)]))
    (sSeq (VP.sIf (VP.tOr (VP.tNot (VP.tB (mViewV (mCall f_z11 [.val (mVar 6), .val (mVar 7)])))) (VP.tOr (VP.tB (m2 neG (mVar 2) (m2 itemD (mVar 1) (mC (.int 0))))) (VP.tB (m2 neG (mVar 3) (m2 itemD (mVar 1) (mC (.int 1))))))) (sSeq (sRet (mC (.bl false)))
    sNx) sNx)
    (sSeq (sSetIx 6 (mC (.int 0)) (mOfT (VP.tNot (VP.tB (mIxO 6 (mC (.int 0)))))))
    (sSeq (sRet (mAndV (mCall f_z11 [.val (mCall f_z1 [.val (mVar 2), .val (mVar 3)]), .val (mVar 7)]) (mCall f_z11 [.val (mCall f_z18 [.val (mVar 2)]), .val (mVar 5)])))
    sNx)))))))))))
def f_law : Fn := defn 8 [false] b_law
def cell (ns : List Int) (k : Nat) : Int := ns.getD k 0
def Row (ns : List Int) (p : Nat) : D := .lst [Z ns, .int p]
theorem taken_at (ns : List Int) (p : Nat) (m : Int) (h : 0 < m) : f_z10 [Row ns p, .int m] = .ok (.int (cell ns p % m)) [Row ns (p + 1)] := by
  rw [f_z10, defn_at _ _ _ _ rfl]
  unfold b_z10 cell Row
  have i0 : ∀ (j : Int), ixD [Z ns, .int j] 0 = some (Z ns) := fun _ => rfl
  have i1 : ∀ (j : Int), ixD [Z ns, .int j] 1 = some (.int j) := fun _ => rfl
  have st : ∀ (i j : Int), setAt (.int 1) (.int j) (.lst [Z ns, .int i]) = some (.lst [Z ns, .int j]) := fun _ _ => rfl
  by_cases hp : p < ns.length
  · have e := ix_ints ns p (by omega) (by omega)
    simp [i0, i1, st, hp, e, modI_pos _ _ h]
  · have hp' : ¬ (p : Int) < ns.length := by omega
    have g : ns[p]? = none := List.getElem?_eq_none (by omega)
    simp [i0, i1, st, hp, g]
theorem names_ok : names.all strFine = true ∧ names.Nodup := ⟨by decide +kernel, by decide +kernel⟩
theorem nm_get {i : Nat} (h : i < names.length) : nm i = names[i] := by simp [nm, h]
theorem eqG_nm (i j : Nat) (hi : i < names.length) (hj : j < names.length) : eqG (.str (nm i)) (.str (nm j)) = some (.bl (decide (i = j))) := by
  have f : ∀ k, k < names.length → strFine (nm k) = true := fun k h => by
    rw [nm_get h]; exact List.all_eq_true.mp names_ok.1 _ (List.getElem_mem h)
  have e : (nm i == nm j) = decide (i = j) := by
    rw [nm_get hi, nm_get hj]
    by_cases h : i = j
    · subst h; simp
    · have : names[i] ≠ names[j] := fun z => h ((List.getElem_inj names_ok.2).mp z)
      simp [h, this]
  simp [eqG, VP.plain, f i hi, f j hj, eqB, e]
theorem n32 : 32 ≤ names.length := by decide
theorem eqS (i j : Nat) (hi : i < 32) (hj : j < 32) : eqG (.str (nm i)) (.str (nm j)) = some (.bl (decide (i = j))) := eqG_nm i j (Nat.lt_of_lt_of_le hi n32) (Nat.lt_of_lt_of_le hj n32)
theorem beq_nm (i j : Nat) (hi : i < 32) (hj : j < 32) : (nm i == nm j) = decide (i = j) := by
  have h1 := Nat.lt_of_lt_of_le hi n32
  have h2 := Nat.lt_of_lt_of_le hj n32
  rw [nm_get h1, nm_get h2]
  by_cases h : i = j
  · subst h; simp
  · have : names[i] ≠ names[j] := fun z => h ((List.getElem_inj names_ok.2).mp z)
    simp [h, this]
theorem neS (i j : Nat) (hi : i < 32) (hj : j < 32) : neG (.str (nm i)) (.str (nm j)) = some (.bl (!decide (i = j))) := by
  have e := eqS i j hi hj
  unfold eqG at e
  unfold neG
  split at e
  · rename_i hp
    rw [if_pos hp]
    have e' : eqB (D.str (nm i)) (.str (nm j)) = decide (i = j) := by simpa using e
    rw [e']
  · cases e
theorem intD_bl (k : Bool) : intD [.bl k] = some (.int (if k = true then 1 else 0)) := rfl
def prodR : List Int → Int
  | [] => 1
  | x :: r => x * prodR r
structure Sd (xs : List Int) : Prop where
  len : xs.length ≤ 4
  bd : ∀ x ∈ xs, 0 ≤ x ∧ x ≤ 64
theorem prod_le : ∀ (xs : List Int), (∀ x ∈ xs, 0 ≤ x ∧ x ≤ 64) → 0 ≤ prodR xs ∧ prodR xs ≤ 64 ^ xs.length
  | [], _ => by simp [prodR]
  | x :: r, h => by
    have hx := h x List.mem_cons_self
    have hr := prod_le r fun y hy => h y (List.mem_cons_of_mem _ hy)
    simp only [prodR, List.length_cons]
    refine ⟨Int.mul_nonneg hx.1 hr.1, ?_⟩
    have : x * prodR r ≤ 64 * 64 ^ r.length := Int.mul_le_mul hx.2 hr.2 hr.1 (by omega)
    rw [Int.pow_succ]; omega
theorem Sd.drop {xs : List Int} (h : Sd xs) (k : Nat) : Sd (xs.drop k) := ⟨by have := h.len; simp; omega, fun y hy => h.bd y (List.mem_of_mem_drop hy)⟩
theorem prod_foldl : ∀ (xs : List Int) (a : Int), xs.foldl (fun p x => p * x) a = a * prodR xs
  | [], a => by simp [prodR]
  | x :: r, a => by simp only [List.foldl_cons, prodR]; rw [prod_foldl r]; rw [Int.mul_assoc]
def back (xs : List Int) (k : Nat) : Int := if k < xs.length then xs.getD (xs.length - 1 - k) 1 else 1
def okk (x y : Int) : Bool := decide (x = 1 ∨ y = 1 ∨ x = y)
def pk (x y : Int) : Int := if x = 1 then y else x
def stp (acc : List Int) (p : Int × Int) : D ⊕ List Int := if okk p.1 p.2 then .inr (acc ++ [pk p.1 p.2]) else .inl .non
theorem foldE_stp (ps : List (Int × Int)) : ∀ acc, foldE stp ps acc = if ps.all (fun p => okk p.1 p.2) then .inr (acc ++ ps.map fun p => pk p.1 p.2) else .inl .non := by
  induction ps with
  | nil => intro acc; simp [foldE]
  | cons p ps ih =>
    intro acc
    simp only [foldE, stp, List.all_cons]
    by_cases q : okk p.1 p.2 = true
    · simp only [q, if_true, ih, Bool.true_and]; simp
    · simp [q]
def optT : Option (List Int) → D
  | some xs => T xs
  | none => .non
def pairs (one other : List Int) : List (Int × Int) := (List.range (max one.length other.length)).map fun k => (back one k, back other k)
def meet (one other : List Int) : Option (List Int) := if (pairs one other).all (fun p => okk p.1 p.2) then some ((pairs one other).map fun p => pk p.1 p.2).reverse else none
def ahead (xs : List Int) (n : Nat) : List Int := List.replicate (n - xs.length) 1 ++ xs
theorem zip_ahead (one other : List Int) : (ahead one (max one.length other.length)).zip (ahead other (max one.length other.length)) = (pairs one other).reverse := by
  have len : ∀ (xs : List Int) (n : Nat), xs.length ≤ n → (ahead xs n).length = n := fun xs n h => by simp [ahead]; omega
  have get : ∀ (xs : List Int) (n i : Nat), xs.length ≤ n → i < n → (ahead xs n)[i]? = some (back xs (n - 1 - i)) := fun xs n i h hi => by
    unfold ahead back
    by_cases c : i < n - xs.length
    · rw [List.getElem?_append_left (by simpa using c), if_neg (by omega)]
      simp [c]
    · rw [List.getElem?_append_right (by simp; omega), if_pos (by omega)]
      have e : xs.length - 1 - (n - 1 - i) = i - (n - xs.length) := by omega
      have hl : i - (n - xs.length) < xs.length := by omega
      simp [e, hl]
  refine List.ext_getElem? fun i => ?_
  by_cases hi : i < max one.length other.length
  · rw [show (List.zip (ahead one (max one.length other.length)) (ahead other (max one.length other.length)))[i]? = some (back one (max one.length other.length - 1 - i), back other (max one.length other.length - 1 - i)) from
      List.getElem?_zip_eq_some.mpr ⟨get one _ _ (by omega) hi, get other _ _ (by omega) hi⟩]
    rw [List.getElem?_reverse (by simp [pairs]; omega)]
    simp only [pairs, List.length_map, List.length_range, List.getElem?_map]
    rw [List.getElem?_range (by omega)]
    rfl
  · rw [List.getElem?_eq_none (by rw [List.length_zip, len _ _ (by omega), len _ _ (by omega)]; omega), List.getElem?_eq_none (by simp [pairs]; omega)]
theorem ahead_len (xs : List Int) (n : Nat) (h : xs.length ≤ n) : (ahead xs n).length = n := by simp [ahead]; omega
theorem l_met_at (one other : List Int) (h1 : one.length ≤ 4) (h2 : other.length ≤ 4) : f_z5 [T one, T other] = .ok (optT (meet one other)) [] := by
  rw [f_z5, defn_at _ _ _ _ rfl]
  have n4 : max one.length other.length ≤ 4 := by omega
  obtain ⟨n, hn⟩ : ∃ n, max one.length other.length = n := ⟨_, rfl⟩
  have er : rng1 [.int (max (one.length : Int) other.length)] = some ((List.range n).map fun (k : Nat) => .int k) := rng1_nat _ _ (by omega) (by omega) (by omega)
  have mu : ∀ (xs : List Int), xs.length ≤ n → mulA (.tup [.int 1]) (.int (max (one.length : Int) other.length - xs.length)) = some (T (List.replicate (n - xs.length) 1)) := fun xs hx => by
    have e : (max (one.length : Int) other.length - xs.length).toNat = n - xs.length := by omega
    have d : mulA (.tup [.int 1]) (.int (max (one.length : Int) other.length - xs.length)) = if -(LIM : Int) ≤ max (one.length : Int) other.length - xs.length ∧ max (one.length : Int) other.length - xs.length ≤ LIM ∧ [D.int 1].length * (max (one.length : Int) other.length - xs.length).toNat ≤ LIM then some (.tup (List.replicate (max (one.length : Int) other.length - xs.length).toNat [D.int 1]).flatten) else none := rfl
    rw [d, if_pos (by simp [LIM]; omega), e]
    simp [T, List.map_replicate]
  have ad : ∀ (xs : List Int), xs.length ≤ n → addA (T (List.replicate (n - xs.length) 1)) (T xs) = some (T (ahead xs n)) := fun xs hx => by
    rw [addA_T _ _ (by simp [LIM]; omega)]; rfl
  have l1 := ahead_len one n (by omega)
  have l2 := ahead_len other n (by omega)
  have zp := zip_ahead one other
  rw [hn] at zp
  have L := loop_foldE (g := gName 6) (body := lp_l_met_1) (fun (k : Nat) => D.int k) (fun (s : List Int) (t : Sl) => [.sh (T one), .sh (T other), .sh (.int (max (one.length : Int) other.length)), .sh (T (ahead one n)), .sh (T (ahead other n)), .sh (T s), t]) free1
    (fun acc k => stp acc ((ahead one n).getD k 0, (ahead other n).getD k 0)) (List.range n) (fun k s => s.length = k) [] .no rfl rfl ?_
  · have e : foldE (fun acc k => stp acc ((ahead one n).getD k 0, (ahead other n).getD k 0)) (List.range n) [] = foldE stp (pairs one other).reverse [] := by
      have em : (pairs one other).reverse = (List.range n).map fun k => ((ahead one n).getD k 0, (ahead other n).getD k 0) := by
        rw [← zp]
        refine List.ext_getElem (by simp [l1, l2]) fun k a b => ?_
        have hk : k < n := by simpa using b
        simp [l1, l2, hk]
      rw [em]
      generalize (List.range n) = ks
      generalize ([] : List Int) = acc
      induction ks generalizing acc with
      | nil => rfl
      | cons k ks ih => simp only [foldE, List.map_cons]; split <;> simp_all
    rw [e, foldE_stp, List.all_reverse] at L
    unfold b_z5 meet
    by_cases q : (pairs one other).all (fun p => okk p.1 p.2) = true
    · rw [if_pos q] at L
      obtain ⟨_, t, _, L⟩ := L
      simp only [List.nil_append] at L
      rw [if_pos q]
      simp [mu, ad, (show one.length ≤ n by omega), (show other.length ≤ n by omega), er, tup0, L, optT, -List.map_reverse, -List.map_map]
      rw [List.map_reverse]
    · rw [if_neg q] at L
      obtain ⟨s', t, L⟩ := L
      rw [if_neg q]
      simp [mu, ad, (show one.length ≤ n by omega), (show other.length ≤ n by omega), er, tup0, L, optT]
  · intro i k hk acc t ht hP
    obtain ⟨rfl, hk⟩ := range_at hk
    have hf : free (some t) = true := ht
    have e1 : ∀ x : Int, addA (T acc) (T [x]) = some (T (acc ++ [x])) := fun x => addA_T _ _ (by simp [LIM]; omega)
    have i1 := ix_ints (ahead one n) k (by omega) (by omega)
    have i2 := ix_ints (ahead other n) k (by omega) (by omega)
    simp only [Int.toNat_natCast] at i1 i2
    generalize (ahead one n).getD k 0 = x at *
    generalize (ahead other n).getD k 0 = y at *
    have x1 : turn1 (gName 6) lp_l_met_1 (.int k) [.sh (T one), .sh (T other), .sh (.int (max (one.length : Int) other.length)), .sh (T (ahead one n)), .sh (T (ahead other n)), .sh (T acc), t] = if okk x y then .ok .nx [.sh (T one), .sh (T other), .sh (.int (max (one.length : Int) other.length)), .sh (T (ahead one n)), .sh (T (ahead other n)), .sh (T (acc ++ [pk x y])), .sh (.int k)]
        else .ok (.rt .non) [.sh (T one), .sh (T other), .sh (.int (max (one.length : Int) other.length)), .sh (T (ahead one n)), .sh (T (ahead other n)), .sh (T acc), .sh (.int k)] := by
      by_cases c1 : x = 1 <;> by_cases c2 : y = 1 <;> by_cases c3 : x = y <;> simp [turn1, lp_l_met_1, tup1, hf, i1, i2, e1, okk, pk, intD_bl, c1, c2, c3]
    unfold stp
    dsimp only
    rw [x1]
    by_cases q : okk x y = true
    · rw [if_pos q, if_pos q]
      exact ⟨by simp [hP], .sh (.int k), rfl, rfl⟩
    · rw [if_neg q, if_neg q]
      exact ⟨acc, .sh (.int k), rfl⟩
theorem eqB_nm (i j : Nat) (hi : i < 32) (hj : j < 32) : eqB (.str (nm i)) (.str (nm j)) = decide (i = j) := by
  rw [eqB]; exact beq_nm i j hi hj
theorem sIx_nat (n k : Nat) (d : Nat) (h : k ≤ n) : sIxP n d (some (k : Int)) = k := by
  unfold sIxP; dsimp only; rw [if_neg (by omega)]; omega
@[simp] theorem sIx_none (n d : Nat) : sIxP n d none = d := Eq.trans rfl rfl
def wo (s : List Int) (k : Nat) : List Int := s.take k ++ s.drop (k + 1)
def pin (s : List Int) (k : Nat) (x : Int) : List Int := s.take k ++ x :: s.drop k
def rep (s : List Int) (k : Nat) (x : Int) : List Int := s.take k ++ x :: s.drop (k + 1)
def Sl_ (ss : List (List Int)) : D := .lst (ss.map T)
theorem ix_Sl (ss : List (List Int)) (i : Nat) (s : List Int) (h : ss[i]? = some s) : ixD (ss.map T) (i : Int) = some (T s) := by
  refine ixD_at _ _ _ (by omega) ?_
  simp [h]
theorem lenD_Sl (ss : List (List Int)) : lenD (Sl_ ss) = some (.int ss.length) := by simp [Sl_]
theorem item_Sl (ss : List (List Int)) (i : Nat) (s : List Int) (h : ss[i]? = some s) : itemD (Sl_ ss) (.int i) = some (T s) := ix_Sl ss i s h
theorem meet_len {s t m : List Int} (h : meet s t = some m) : m.length = max s.length t.length := by
  unfold meet at h
  split at h
  · cases h; simp [pairs]
  · cases h
theorem plain_T (n : Nat) (s : List Int) : VP.plain (n + 1) (T s) = true := by unfold T; rw [VP.plain]; exact plains_ints n s
theorem eqB_T (s : List Int) : eqB (T s) (T s) = true := by unfold T; rw [eqB, eqBs_ints]; simp
theorem plains_T (n : Nat) : ∀ ss : List (List Int), VP.plains (n + 1) (ss.map T) = true
  | [] => rfl
  | s :: ss => by rw [List.map_cons, VP.plains, plain_T, plains_T n ss]; rfl
theorem eqBs_T : ∀ ss : List (List Int), eqBs (ss.map T) (ss.map T) = true
  | [] => rfl
  | s :: ss => by rw [List.map_cons, eqBs, eqB_T, eqBs_T ss]; rfl
theorem neG_Sl (ss : List (List Int)) : neG (Sl_ ss) (Sl_ ss) = some (.bl false) := by
  unfold neG Sl_
  rw [VP.plain, plains_T, eqB, eqBs_T]; rfl
theorem fine_nm (k : Nat) (h : k < 32) : strFine (nm k) = true := by
  have h' := Nat.lt_of_lt_of_le h n32
  rw [nm_get h']; exact List.all_eq_true.mp names_ok.1 _ (List.getElem_mem h')
inductive PL where
  | given (j : Int)
  | even (s : List Int) (x : Int)
  | turn (a : Nat) (o : List Int)
  | cut (a : Nat) (k b st m : Int)
  | drop (a : Nat) (k p : Int)
  | wide (a : Nat) (k : Int)
  | spread (a : Nat) (t : List Int)
  | shape (a : Nat) (t : List Int)
  | shift (a : Nat) (k n x : Int)
  | one (d a : Nat)
  | both (d a b : Nat)
  | wher (a b c : Nat)
  | fold (d a : Nat) (k : Int)
  | run (d a : Nat) (k : Int)
  | pick (a : Nat) (k : Int) (b : Nat)
  | join (a b : Nat) (k : Int)
instance : Inhabited PL := ⟨.given 0⟩
def PL.k : PL → Nat
  | .given _ => 0 | .even _ _ => 1 | .turn _ _ => 2 | .cut _ _ _ _ _ => 3 | .drop _ _ _ => 4 | .wide _ _ => 5 | .spread _ _ => 6 | .shape _ _ => 7
  | .shift _ _ _ _ => 8 | .one _ _ => 9 | .both _ _ _ => 10 | .wher _ _ _ => 11 | .fold _ _ _ => 12 | .run _ _ _ => 13 | .pick _ _ _ => 14 | .join _ _ _ => 15
def PL.ps : PL → List D
  | .given j => [.int j]
  | .even s x => [T s, .int x]
  | .turn a o => [.int a, T o]
  | .cut a k b st m => [.int a, .int k, .int b, .int st, .int m]
  | .drop a k p => [.int a, .int k, .int p]
  | .wide a k => [.int a, .int k]
  | .spread a t => [.int a, T t]
  | .shape a t => [.int a, T t]
  | .shift a k n x => [.int a, .int k, .int n, .int x]
  | .one d a => [.str (nm d), .int a]
  | .both d a b => [.str (nm d), .int a, .int b]
  | .wher a b c => [.int a, .int b, .int c]
  | .fold d a k => [.str (nm d), .int a, .int k]
  | .run d a k => [.str (nm d), .int a, .int k]
  | .pick a k b => [.int a, .int k, .int b]
  | .join a b k => [.int a, .int b, .int k]
def PL.d (l : PL) : D := .tup (.str (nm l.k) :: l.ps)
def PL.ns : PL → List Nat
  | .given _ => [] | .even _ _ => []
  | .turn a _ => [a] | .cut a _ _ _ _ => [a] | .drop a _ _ => [a] | .wide a _ => [a] | .spread a _ => [a] | .shape a _ => [a] | .shift a _ _ _ => [a]
  | .one _ a => [a] | .both _ a b => [a, b] | .wher a b c => [a, b, c] | .fold _ a _ => [a] | .run _ a _ => [a] | .pick a _ b => [a, b] | .join a b _ => [a, b]
def PL.fine : PL → Prop
  | .one d _ => d < 32 | .both d _ _ => d < 32 | .fold d _ _ => d < 32 | .run d _ _ => d < 32
  | _ => True
theorem PL.k16 (l : PL) : l.k < 16 := by cases l <;> simp [PL.k]
theorem PL.few (l : PL) : l.ns.length ≤ 3 := by cases l <;> simp [PL.ns]
theorem PL.kind (l : PL) : itemD l.d (.int 0) = some (.str (nm l.k)) := by unfold PL.d; simp
theorem PL.named (l : PL) : f_z15 [l.d] = .ok (.lst (l.ns.map fun a => D.int (a : Nat))) [] := by
  rw [f_z15, defn_at _ _ _ _ rfl]
  cases l <;> simp [PL.d, PL.k, PL.ps, PL.ns, b_z15, tab_FORMS, List.lookup, beq_nm, mComp_at, inner_at, innerR_ok, outR_ow, zipL, cutD, sIxP, ct_named_by_2, ce_named_by_1, eqS, appD_short]
def PL.ok (l : PL) : Prop := l.fine
theorem PL.plain (l : PL) (h : l.fine) (n : Nat) : VP.plain (n + 2) l.d = true := by
  have f : ∀ k, k < 32 → strFine (nm k) = true := fine_nm
  have p : ∀ s : List Int, VP.plain (n + 1) (T s) = true := plain_T n
  cases l <;> simp [PL.d, PL.k, PL.ps, PL.fine, VP.plain, VP.plains, p, f] at h ⊢ <;> exact f _ h
theorem PL.refl (l : PL) : eqB l.d l.d = true := by
  cases l <;> simp [PL.d, PL.k, PL.ps, eqB, eqBs, eqB_T]
def Pg (ls : List PL) : D := .lst (ls.map PL.d)
theorem Pg_plain (ls : List PL) (h : ∀ l ∈ ls, l.fine) : VP.plain 60 (Pg ls) = true := by
  unfold Pg; rw [VP.plain]
  induction ls with
  | nil => rfl
  | cons l ls ih => rw [List.map_cons, VP.plains, PL.plain l (h l List.mem_cons_self), ih fun x hx => h x (List.mem_cons_of_mem _ hx)]; rfl
theorem Pg_refl (ls : List PL) : eqB (Pg ls) (Pg ls) = true := by
  unfold Pg; rw [eqB]
  induction ls with
  | nil => rfl
  | cons l ls ih => rw [List.map_cons, eqBs, PL.refl, ih]; rfl
theorem neG_Pg (ls : List PL) (h : ∀ l ∈ ls, l.fine) : neG (Pg ls) (Pg ls) = some (.bl false) := by
  unfold neG; rw [Pg_plain ls h, Pg_refl]; rfl
theorem ix_Pg (ls : List PL) (i : Nat) (l : PL) (h : ls[i]? = some l) : itemD (Pg ls) (.int (i : Int)) = some l.d := by
  unfold Pg; rw [itemD_lst]; exact ixD_at _ _ _ (by omega) (by simp [h])
theorem lenD_Pg (ls : List PL) : lenD (Pg ls) = some (.int ls.length) := by simp [Pg]
theorem seq_Pg (ls : List PL) : seqD (Pg ls) = some (ls.map PL.d) := rfl
theorem PL.reads (l : PL) : f_z8 [l.d] = .ok (.lst (l.ns.map fun a => D.int (a : Nat))) [] := by
  rw [f_z8, defn_at _ _ _ _ rfl]
  have i1 : ∀ (a b : D) (r : List D), ixD (a :: b :: r) 1 = some b := fun _ _ _ => ixD_at _ _ _ (by omega) rfl
  have i2 : ∀ (a b c : D) (r : List D), ixD (a :: b :: c :: r) 2 = some c := fun _ _ _ _ => ixD_at _ _ _ (by omega) rfl
  have i3 : ∀ (a b c e : D) (r : List D), ixD (a :: b :: c :: e :: r) 3 = some e := fun _ _ _ _ _ => ixD_at _ _ _ (by omega) rfl
  cases l <;> simp [PL.d, PL.k, PL.ps, PL.ns, b_z8, eqS, i1, i2, i3]
theorem loop_inv {S Tm A : Type} {g : D → M Unit} {body : M Fl} (mk : A → D) (R : S → Tm → Rho) (ok : Tm → Prop) : ∀ (as : List A) (P : Nat → S → Prop) (s : S) (t : Tm), ok t → P 0 s →
    (∀ (i : Nat) (a : A), as[i]? = some a → ∀ s t, ok t → P i s → ∃ s' t', P (i + 1) s' ∧ ok t' ∧ cont (turn1 g body (mk a) (R s t)) = some (R s' t')) →
    ∃ s' t', P as.length s' ∧ ok t' ∧ loop g body (as.map mk) (R s t) = .ok .nx (R s' t') := by
  intro as
  induction as with
  | nil => intro P s t ht hs _; exact ⟨s, t, hs, ht, rfl⟩
  | cons a as ih =>
    intro P s t ht hs h
    obtain ⟨s1, t1, p1, o1, e1⟩ := h 0 a rfl s t ht hs
    obtain ⟨s2, t2, p2, o2, e2⟩ := ih (fun k => P (k + 1)) s1 t1 o1 p1 fun i a' ha => h (i + 1) a' (by simpa using ha)
    exact ⟨s2, t2, by simpa using p2, o2, by rw [List.map_cons, loop_cont e1]; exact e2⟩
def Wf (ls : List PL) : Prop := ∀ (i : Nat) (l : PL), ls[i]? = some l → ∀ r ∈ l.ns, r < i
inductive Rch (ls : List PL) : Nat → Prop where
  | last : Rch ls (ls.length - 1)
  | step {i r : Nat} {l : PL} : Rch ls i → ls[i]? = some l → r ∈ l.ns → Rch ls r
theorem Rch.lt {ls : List PL} (wf : Wf ls) (h0 : ls ≠ []) {i : Nat} (h : Rch ls i) : i < ls.length := by
  induction h with
  | last => have := List.length_pos_iff.mpr h0; omega
  | step h e hr ih => have := wf _ _ e _ hr; omega
def BlD (w : List Bool) : D := .lst (w.map .bl)
def NsD (ks : List Nat) : D := .lst (ks.map fun k => .int (k : Nat))
theorem mark_get : ∀ (ns : List Nat) (w : List Bool) (i : Nat), (ns.foldl (fun w r => w.set r true) w).length = w.length ∧ ((ns.foldl (fun w r => w.set r true) w)[i]? = some true ↔ i < w.length ∧ (w[i]? = some true ∨ i ∈ ns))
  | [], w, i => by
    refine ⟨rfl, ⟨fun h => ⟨(List.getElem?_eq_some_iff.mp h).1, .inl h⟩, fun ⟨h1, h⟩ => ?_⟩⟩
    rcases h with h | h
    · exact h
    · simp at h
  | r :: ns, w, i => by
    obtain ⟨h1, h2⟩ := mark_get ns (w.set r true) i
    simp only [List.foldl_cons]
    refine ⟨by rw [h1]; simp, ?_⟩
    rw [h2]
    simp only [List.length_set, List.mem_cons]
    constructor
    · rintro ⟨a, b⟩
      refine ⟨a, ?_⟩
      rcases b with b | b
      · by_cases e : r = i
        · exact .inr (.inl e.symm)
        · rw [List.getElem?_set_ne e] at b; exact .inl b
      · exact .inr (.inr b)
    · rintro ⟨a, b⟩
      refine ⟨a, ?_⟩
      by_cases e : r = i
      · subst e; exact .inl (by rw [List.getElem?_set_self a])
      · rw [List.getElem?_set_ne e]
        rcases b with b | b | b
        · exact .inl b
        · exact absurd b.symm e
        · exact .inr b
theorem bl_set (w : List Bool) (r : Nat) (b : Bool) (h : r < w.length) : setAt (.int (r : Int)) (.bl b) (BlD w) = some (BlD (w.set r b)) := by
  unfold BlD; rw [setAt_lst _ _ _ (by omega) (by simp; omega), Int.toNat_natCast, List.map_set]
theorem bl_item (w : List Bool) (i : Nat) (b : Bool) (h : w[i]? = some b) : itemD (BlD w) (.int (i : Int)) = some (.bl b) := by
  unfold BlD; rw [itemD_lst]; exact ixD_at _ _ _ (by omega) (by simp [h])
theorem mark_loop (P : D) (s : Sl) : ∀ (ns : List Nat) (w : List Bool), (∀ r ∈ ns, r < w.length) → ∀ t, free (some t) = true → ∃ t', free (some t') = true ∧ loop (gName 3) lp_wanted_lines_2 (ns.map fun k => D.int (k : Nat)) [.sh P, .ow (BlD w), s, t] = .ok .nx [.sh P, .ow (BlD (ns.foldl (fun w r => w.set r true) w)), s, t']
  | [], w, _, t, ht => ⟨t, ht, rfl⟩
  | r :: ns, w, h, t, ht => by
    have hr := h r List.mem_cons_self
    obtain ⟨t', h1, h2⟩ := mark_loop P s ns (w.set r true) (fun x hx => by simpa using h x (List.mem_cons_of_mem _ hx)) (.sh (.int r)) rfl
    refine ⟨t', h1, ?_⟩
    have il : isLst (some (BlD w)) = true := rfl
    rw [List.map_cons, loop_cont (r' := [.sh P, .ow (BlD (w.set r true)), s, .sh (.int r)]) (by simp [turn1, lp_wanted_lines_2, ht, il, bl_set w r true hr]), h2]
    rfl
theorem wanted_at (ls : List PL) (wf : Wf ls) (h0 : ls ≠ []) (hl : ls.length ≤ 100) : ∃ w, f_z18 [Pg ls] = .ok (BlD w) [] ∧ w.length = ls.length ∧ ∀ i, w[i]? = some true ↔ Rch ls i := by
  rw [f_z18, defn_at _ _ _ _ rfl]
  have hn := List.length_pos_iff.mpr h0
  have c : mComp 1 (mSeq (mVar 0)) (VP.gName 4) (VP.ret true) ce_wanted_lines_1 [.sh (Pg ls), .no, .no, .no] = .ok (BlD (List.replicate ls.length false)) [.sh (Pg ls), .no, .no, .no] := by
    refine compM PL.d (fun _ => D.bl false) ls (by simp [seq_Pg]) (by omega) (by simp [BlD, List.map_const']) fun l hl acc => ?_
    simp [ce_wanted_lines_1]
  have ln := lenD_Pg ls
  have st := bl_set (List.replicate ls.length false) (ls.length - 1) true (by simp; omega)
  rw [show (((ls.length - 1 : Nat)) : Int) = (ls.length : Int) - 1 by omega] at st
  have il : ∀ w, isLst (some (BlD w)) = true := fun _ => rfl
  have dn : rngD [.int ((ls.length : Int) - 1), .int (-1), .int (-1)] = some ((List.range ls.length).map fun (k : Nat) => .int ((ls.length : Int) - 1 - k)) := by
    have d : rngD [.int ((ls.length : Int) - 1), .int (-1), .int (-1)] = if (-1 : Int) = -1 ∧ (-(2 ^ 62) ≤ (ls.length : Int) - 1 ∧ (ls.length : Int) - 1 < 2 ^ 62) ∧ -(2 ^ 62) ≤ (-1 : Int) ∧ (-1 : Int) < 2 ^ 62 then some ((List.range ((ls.length : Int) - 1 - -1).toNat).map fun (k : Nat) => .int ((ls.length : Int) - 1 - k)) else none := rfl
    rw [d, if_pos ⟨rfl, ⟨by omega, by omega⟩, by decide, by decide⟩]
    rw [show ((ls.length : Int) - 1 - -1).toNat = ls.length by omega]
  obtain ⟨w, t, ⟨hw, h1, h2, h3⟩, ht, L⟩ := loop_inv (g := gName 2) (body := lp_wanted_lines_3) (fun (k : Nat) => D.int ((ls.length : Int) - 1 - k)) (fun (w : List Bool) (t : Sl × Sl) => [.sh (Pg ls), .ow (BlD w), t.1, t.2]) free2 (List.range ls.length)
    (fun j w => w.length = ls.length ∧ (∀ i, w[i]? = some true → Rch ls i) ∧ w[ls.length - 1]? = some true ∧ ∀ i, ls.length - j ≤ i → w[i]? = some true → ∀ l, ls[i]? = some l → ∀ r ∈ l.ns, w[r]? = some true)
    ((List.replicate ls.length false).set (ls.length - 1) true) (.no, .no) ⟨rfl, rfl⟩ ⟨by simp, fun i h => by
      by_cases e : ls.length - 1 = i
      · subst e; exact .last
      · rw [List.getElem?_set_ne e, List.getElem?_replicate] at h; split at h <;> simp at h, by rw [List.getElem?_set_self (by simp; omega)], fun i hi h l hl => by
      have := (List.getElem?_eq_some_iff.mp hl).1; omega⟩ (by
    intro j k hk w t ht hP
    obtain ⟨rfl, hj⟩ := range_at hk
    obtain ⟨t2, t3⟩ := t
    obtain ⟨f2, f3⟩ := ht
    obtain ⟨hw, p1, p2, p3⟩ := hP
    dsimp only at f2 f3
    have hat : ls.length - 1 - k < ls.length := by omega
    have ei : ((ls.length : Int) - 1 - k) = ((ls.length - 1 - k : Nat) : Int) := by omega
    rw [ei]
    obtain ⟨l, hl⟩ : ∃ l, ls[ls.length - 1 - k]? = some l := ⟨_, List.getElem?_eq_getElem hat⟩
    have ix := ix_Pg ls _ l hl
    generalize hi : ls.length - 1 - k = i at *
    obtain ⟨b, hb⟩ : ∃ b, w[i]? = some b := ⟨_, List.getElem?_eq_getElem (by omega)⟩
    have bi := bl_item w i b hb
    cases b with
    | false =>
      refine ⟨w, (.sh (.int i), t3), ⟨hw, p1, p2, fun m hm h x hx => ?_⟩, ⟨rfl, f3⟩, ?_⟩
      · by_cases e : m = i
        · subst e; rw [hb] at h; cases h
        · exact p3 m (by omega) h x hx
      · simp [turn1, lp_wanted_lines_3, f2, bi]
    | true =>
      have nb := fun r hr => wf i l hl r hr
      obtain ⟨t', ht', L⟩ := mark_loop (Pg ls) (.sh (.int i)) l.ns w (fun r hr => by have := nb r hr; omega) t3 f3
      have mg := mark_get l.ns w
      refine ⟨l.ns.foldl (fun w r => w.set r true) w, (.sh (.int i), t'), ⟨by rw [(mg 0).1]; exact hw, fun m h => ?_, ?_, fun m hm h x hx r hr => ?_⟩, ⟨rfl, ht'⟩, ?_⟩
      · rcases ((mg m).2.mp h).2 with q | q
        · exact p1 m q
        · exact .step (p1 i hb) hl q
      · exact (mg _).2.mpr ⟨by omega, .inl p2⟩
      · rcases ((mg m).2.mp h).2 with q | q
        · by_cases e : m = i
          · subst e
            rw [hl] at hx
            cases hx
            exact (mg r).2.mpr ⟨by have := nb r hr; omega, .inr hr⟩
          · have := p3 m (by omega) q x hx r hr
            exact (mg r).2.mpr ⟨(List.getElem?_eq_some_iff.mp this).1, .inl this⟩
        · have := nb m q
          by_cases e : m = i
          · omega
          · omega
      · simp [turn1, lp_wanted_lines_3, f2, bi, ix, PL.named, L])
  obtain ⟨t2, t3⟩ := t
  simp only [List.length_range] at h3
  refine ⟨w, ?_, hw, fun i => ⟨h1 i, fun h => ?_⟩⟩
  · simp [b_z18, c, il, ln, st, dn, L]
  · induction h with
    | last => exact h2
    | step h e hr ih => exact h3 _ (by omega) ih _ e _ hr
theorem nodup_le : ∀ (n : Nat) (xs : List Nat), xs.Nodup → (∀ x ∈ xs, x < n) → xs.length ≤ n
  | 0, xs, _, h => by
    cases xs with
    | nil => simp
    | cons x xs => exact absurd (h x List.mem_cons_self) (by omega)
  | n + 1, xs, nd, h => by
    have h1 := nodup_le n (xs.erase n) (nd.erase n) (fun x hx => by
      have := (List.Nodup.mem_erase_iff nd).mp hx
      have := h x this.2
      omega)
    have := List.length_erase (a := n) (l := xs)
    split at this <;> omega
theorem any_int (k : Nat) (ks : List Nat) : ((ks.map fun k => D.int (k : Nat)).any fun y => eqB y (.int (k : Nat))) = decide (k ∈ ks) := by
  induction ks with
  | nil => simp
  | cons x ks ih =>
    rw [List.map_cons, List.any_cons, ih, eqB]
    by_cases h : x = k
    · simp [h]
    · have : ¬ (x : Int) = (k : Int) := by omega
      have h' : ¬ k = x := fun z => h z.symm
      simp [this, h']
theorem flat_ints (ks : List Nat) : (ks.map fun k => D.int (k : Nat)).all flatD = true := by
  rw [List.all_eq_true]; intro d hd; obtain ⟨k, _, rfl⟩ := List.mem_map.mp hd; rfl
theorem inD_Ns (neg : Bool) (k : Nat) (ks : List Nat) : inD neg (.int (k : Int)) (NsD ks) = some (.bl (if neg then !decide (k ∈ ks) else decide (k ∈ ks))) := by
  unfold inD NsD
  rw [seqD_lst]
  dsimp only
  rw [flat_ints, any_int]
  rfl
def addP (s : List Nat × List Nat) (p : Nat) : List Nat × List Nat := if p ∈ s.1 then s else (s.1 ++ [p], s.2 ++ [p])
structure Dfs (ls : List PL) (due ahead : List Nat) : Prop where
  nd : due.Nodup
  rc : ∀ x ∈ due, Rch ls x
  la : ls.length - 1 ∈ due
  sub : ∀ x ∈ ahead, x ∈ due
  cl : ∀ i ∈ due, i ∉ ahead → ∀ l, ls[i]? = some l → ∀ r ∈ l.ns, r ∈ due
theorem Dfs.le {ls : List PL} {due ahead : List Nat} (h : Dfs ls due ahead) (wf : Wf ls) (h0 : ls ≠ []) : due.length ≤ ls.length := nodup_le _ _ h.nd fun x hx => (h.rc x hx).lt wf h0
theorem ns_app (ks : List Nat) (k : Nat) (h : ks.length ≤ 1000) : appD (.int (k : Int)) (NsD ks) = some (NsD (ks ++ [k])) := by
  unfold NsD; rw [appD_at _ _ (by simp; omega), List.map_append]; rfl
theorem add_loop (P : D) : ∀ (ns : List Nat) (due ahead : List Nat), due.length + ns.length ≤ 1000 → ahead.length + ns.length ≤ 1000 → ∀ t, free (some t) = true → ∃ t', free (some t') = true ∧
    loop (gName 3) lp_l_wanted_1 (ns.map fun k => D.int (k : Nat)) [.sh P, .ow (NsD due), .ow (NsD ahead), t] = .ok .nx [.sh P, .ow (NsD (ns.foldl addP (due, ahead)).1), .ow (NsD (ns.foldl addP (due, ahead)).2), t']
  | [], due, ahead, _, _, t, ht => ⟨t, ht, rfl⟩
  | r :: ns, due, ahead, h1, h2, t, ht => by
    simp only [List.length_cons] at h1 h2
    have ind := inD_Ns true r due
    have il : ∀ w, isLst (some (NsD w)) = true := fun _ => rfl
    have a1 := ns_app due r (by omega)
    have a2 := ns_app ahead r (by omega)
    by_cases q : r ∈ due
    · obtain ⟨t', k1, k2⟩ := add_loop P ns due ahead (by omega) (by omega) (.sh (.int r)) rfl
      refine ⟨t', k1, ?_⟩
      rw [List.map_cons, loop_cont (r' := [.sh P, .ow (NsD due), .ow (NsD ahead), .sh (.int r)]) (by simp [turn1, lp_l_wanted_1, ht, ind, q]), k2]
      simp [addP, q]
    · obtain ⟨t', k1, k2⟩ := add_loop P ns (due ++ [r]) (ahead ++ [r]) (by simp; omega) (by simp; omega) (.sh (.int r)) rfl
      refine ⟨t', k1, ?_⟩
      rw [List.map_cons, loop_cont (r' := [.sh P, .ow (NsD (due ++ [r])), .ow (NsD (ahead ++ [r])), .sh (.int r)]) (by simp [turn1, lp_l_wanted_1, ht, ind, q, il, a1, a2]), k2]
      simp [addP, q]
theorem addP_fold : ∀ (ns : List Nat) (due ahead : List Nat), due.Nodup → (∀ x ∈ ahead, x ∈ due) →
    (ns.foldl addP (due, ahead)).1.Nodup ∧ (∀ x, x ∈ (ns.foldl addP (due, ahead)).1 ↔ x ∈ due ∨ x ∈ ns) ∧ (∀ x ∈ (ns.foldl addP (due, ahead)).2, x ∈ (ns.foldl addP (due, ahead)).1) ∧ (∀ x ∈ ahead, x ∈ (ns.foldl addP (due, ahead)).2) ∧
    (∀ x ∈ (ns.foldl addP (due, ahead)).1, x ∈ due ∨ x ∈ (ns.foldl addP (due, ahead)).2) ∧ (ns.foldl addP (due, ahead)).1.length + ahead.length = (ns.foldl addP (due, ahead)).2.length + due.length
  | [], due, ahead, nd, sb => ⟨nd, by simp, sb, fun x h => h, fun x h => .inl h, by simp; omega⟩
  | r :: ns, due, ahead, nd, sb => by
    simp only [List.foldl_cons]
    by_cases q : r ∈ due
    · rw [show addP (due, ahead) r = (due, ahead) by simp [addP, q]]
      obtain ⟨a, b, c, d, e, f⟩ := addP_fold ns due ahead nd sb
      refine ⟨a, fun x => ?_, c, d, e, f⟩
      rw [b]; simp only [List.mem_cons]
      constructor
      · rintro (h | h)
        · exact .inl h
        · exact .inr (.inr h)
      · rintro (h | rfl | h)
        · exact .inl h
        · exact .inl q
        · exact .inr h
    · rw [show addP (due, ahead) r = (due ++ [r], ahead ++ [r]) by simp [addP, q]]
      obtain ⟨a, b, c, d, e, f⟩ := addP_fold ns (due ++ [r]) (ahead ++ [r]) (by
        rw [List.nodup_append]
        exact ⟨nd, by simp, fun x hx y hy z => by simp at hy; subst hy z; exact q hx⟩) (fun x hx => by
        rcases List.mem_append.mp hx with h | h
        · exact List.mem_append_left _ (sb x h)
        · exact List.mem_append_right _ h)
      refine ⟨a, fun x => ?_, c, fun x hx => d x (List.mem_append_left _ hx), fun x hx => ?_, by simp at f; omega⟩
      · rw [b]; simp only [List.mem_append, List.mem_cons, List.not_mem_nil, or_false]
        constructor
        · rintro ((h | h) | h)
          · exact .inl h
          · exact .inr (.inl h)
          · exact .inr (.inr h)
        · rintro (h | h | h)
          · exact .inl (.inl h)
          · exact .inl (.inr h)
          · exact .inr h
      · rcases e x hx with h | h
        · rcases List.mem_append.mp h with h | h
          · exact .inl h
          · exact .inr (d x (List.mem_append_right _ h))
        · exact .inr h
theorem ne_nil (ks : List Nat) (k : Nat) : neG (NsD (ks ++ [k])) (.lst []) = some (.bl true) := by
  have p : VP.plain 60 (NsD (ks ++ [k])) = true := by
    unfold NsD; rw [VP.plain]
    generalize ks ++ [k] = xs
    induction xs with
    | nil => rfl
    | cons x xs ih => rw [List.map_cons, VP.plains, ih]; rfl
  have e : eqB (NsD (ks ++ [k])) (.lst []) = false := by
    unfold NsD; rw [eqB]
    cases ks <;> rfl
  unfold neG
  rw [p, e]; rfl
theorem dfs_while (ls : List PL) (wf : Wf ls) (h0 : ls ≠ []) (hl : ls.length ≤ 100) : ∀ (m N : Nat) (due ahead : List Nat), Dfs ls due ahead → (ls.length - due.length) + ahead.length = m → m ≤ 100 → m < N → ∀ t, free (some t) = true →
    ∃ due' t', whileN wc_l_wanted_2 wb_l_wanted_3 N [.sh (Pg ls), .ow (NsD due), .ow (NsD ahead), t] = .ok .nx [.sh (Pg ls), .ow (NsD due'), .ow (NsD []), t'] ∧ Dfs ls due' []
  | m, 0, due, ahead, _, _, _, h, _, _ => absurd h (by omega)
  | m, N + 1, due, ahead, J, hm, h100, hN, t, ht => by
    have dl := J.le wf h0
    rcases List.eq_nil_or_concat ahead with rfl | ⟨a, i, rfl⟩
    · refine ⟨due, t, whileN_stop ?_, J⟩
      have e : neG (NsD []) (.lst []) = some (.bl false) := rfl
      simp [wc_l_wanted_2, e]
    · rw [List.concat_eq_append] at *
      have hi := J.sub i (by simp)
      have hlt := (J.rc i hi).lt wf h0
      obtain ⟨l, hl'⟩ : ∃ l, ls[i]? = some l := ⟨_, List.getElem?_eq_getElem hlt⟩
      have ix := ix_Pg ls i l hl'
      have fw := l.few
      have hm' : ls.length - due.length + (a.length + 1) = m := by simpa using hm
      obtain ⟨t', ht', L⟩ := add_loop (Pg ls) l.ns due a (by omega) (by omega) t ht
      obtain ⟨p1, p2, p3, p4, p5, p6⟩ := addP_fold l.ns due a J.nd (fun x hx => J.sub x (List.mem_append_left _ hx))
      have J' : Dfs ls (l.ns.foldl addP (due, a)).1 (l.ns.foldl addP (due, a)).2 := by
        refine ⟨p1, fun x hx => ?_, (p2 _).mpr (.inl J.la), p3, fun x hx hna y hy r hr => ?_⟩
        · rcases (p2 x).mp hx with h | h
          · exact J.rc x h
          · exact .step (J.rc i hi) hl' h
        · rcases p5 x hx with h | h
          · by_cases e : x = i
            · subst e
              rw [hl'] at hy
              cases hy
              exact (p2 r).mpr (.inr hr)
            · refine (p2 r).mpr (.inl (J.cl x h (fun z => ?_) y hy r hr))
              rcases List.mem_append.mp z with z | z
              · exact hna (p4 x z)
              · exact e (by simpa using z)
          · exact absurd h hna
      have dl' := J'.le wf h0
      obtain ⟨due', t'', e, J''⟩ := dfs_while ls wf h0 hl (m - 1) N _ _ J' (by omega) (by omega) (by omega) t' ht'
      refine ⟨due', t'', ?_, J''⟩
      rw [← e]
      have po : ∀ r : Rho, popR 2 r (NsD (a ++ [i])) = .ok (.int (i : Nat)) (putS 2 (NsD a) r) := fun r => by
        unfold NsD; rw [List.map_append]; exact popR_lst _ _ _ _
      refine whileN_go (r1 := [.sh (Pg ls), .ow (NsD due), .ow (NsD (a ++ [i])), t]) (by simp [wc_l_wanted_2, ne_nil]) ?_
      simp [wb_l_wanted_3, po, ix, PL.reads, L]
theorem l_wanted_at (ls : List PL) (wf : Wf ls) (h0 : ls ≠ []) (hl : ls.length ≤ 100) : ∃ due, f_z13 [Pg ls] = .ok (NsD due) [] ∧ due.Nodup ∧ ∀ i, i ∈ due ↔ Rch ls i := by
  rw [f_z13, defn_at _ _ _ _ rfl]
  have hn := List.length_pos_iff.mpr h0
  have ln := lenD_Pg ls
  have e1 : D.lst [.int ((ls.length : Int) - 1)] = NsD [ls.length - 1] := by
    unfold NsD; rw [List.map_cons, List.map_nil, show ((ls.length - 1 : Nat) : Int) = (ls.length : Int) - 1 by omega]
  have J : Dfs ls [ls.length - 1] [ls.length - 1] := ⟨by simp, fun x hx => by simp at hx; subst hx; exact .last, by simp, fun x h => h, fun i h n => absurd h n⟩
  obtain ⟨due, t, e, J'⟩ := dfs_while ls wf h0 hl ls.length 10000 _ _ J (by simp; omega) hl (by omega) .no rfl
  refine ⟨due, ?_, J'.nd, fun i => ⟨J'.rc i, fun h => ?_⟩⟩
  · have e' : sWhile wc_l_wanted_2 wb_l_wanted_3 [.sh (Pg ls), .ow (NsD [ls.length - 1]), .ow (NsD [ls.length - 1]), .no] = .ok .nx [.sh (Pg ls), .ow (NsD due), .ow (NsD []), t] := e
    simp [b_z13, ln, e1, e']
  · induction h with
    | last => exact J'.la
    | step h e hr ih => exact J'.cl _ ih (by simp) _ e _ hr
theorem inK (k : Nat) (hk : k < 32) (js : List Nat) (hj : ∀ j ∈ js, j < 32) : ((js.map fun j => D.str (nm j)).any fun y => eqB y (.str (nm k))) = decide (k ∈ js) ∧ (js.map fun j => D.str (nm j)).all flatD = true := by
  induction js with
  | nil => simp
  | cons j js ih =>
    obtain ⟨h1, h2⟩ := ih fun x hx => hj x (List.mem_cons_of_mem _ hx)
    refine ⟨?_, ?_⟩
    · rw [List.map_cons, List.any_cons, h1, eqB_nm _ _ (hj j List.mem_cons_self) hk]
      by_cases e : j = k
      · simp [e]
      · have e' : ¬ k = j := fun z => e z.symm
        simp [e, e']
    · rw [List.map_cons, List.all_cons, h2]; rfl
theorem inKt (k : Nat) (hk : k < 32) (js : List Nat) (hj : ∀ j ∈ js, j < 32) : inD false (.str (nm k)) (.tup (js.map fun j => D.str (nm j))) = some (.bl (decide (k ∈ js))) := by
  obtain ⟨h1, h2⟩ := inK k hk js hj
  unfold inD; rw [seqD_tup]; dsimp only; rw [h2, h1]; rfl
theorem inKl (k : Nat) (hk : k < 32) (js : List Nat) (hj : ∀ j ∈ js, j < 32) : inD false (.str (nm k)) (.lst (js.map fun j => D.str (nm j))) = some (.bl (decide (k ∈ js))) := by
  obtain ⟨h1, h2⟩ := inK k hk js hj
  unfold inD; rw [seqD_lst]; dsimp only; rw [h2, h1]; rfl
def lnA (ls : List PL) (i : Nat) : PL := ls.getD i default
def kd (ls : List PL) (i : Nat) : Nat := (lnA ls i).k
def sd (ss : List (List Int)) (i : Nat) : List Int := ss.getD i []
def nsOf (ls : List PL) (i : Nat) : List Nat := (lnA ls i).ns
theorem kd_lt (ls : List PL) (i : Nat) : kd ls i < 32 := by have := (lnA ls i).k16; unfold kd; omega
theorem ix_kd (ls : List PL) (i : Nat) (h : i < ls.length) : itemD (Pg ls) (.int (i : Int)) = some (lnA ls i).d := ix_Pg ls i _ (by simp [lnA, h])
theorem ix_sd (ss : List (List Int)) (i : Nat) (h : i < ss.length) : itemD (Sl_ ss) (.int (i : Int)) = some (T (sd ss i)) := item_Sl ss i _ (by simp [sd, h])
def naming (ls : List PL) (w : List Bool) (p : Nat) : List Nat := (List.range ls.length).flatMap fun i => if w.getD i false then ((nsOf ls i).filter (fun r => decide (r = p))).map fun _ => i else []
theorem pick_comp (ls : List PL) (l : PL) (P W : D) (p i : Nat) (acc : D) (t : Sl) : mComp 1 (mSeq (mCall f_z15 [.val (mVar 5)])) (VP.gName 6) ct_naming_lines_2 ce_naming_lines_1 [.sh P, .sh W, .sh (.int p), .ow acc, .sh (.int i), .sh l.d] = .ok (NsD ((l.ns.filter fun r => decide (r = p)).map fun _ => i)) [.sh P, .sh W, .sh (.int p), .ow acc, .sh (.int i), .sh l.d] := by
  have n := l.named
  have fw := l.few
  generalize l.ns = ns at n fw ⊢
  generalize l.d = ld at n ⊢
  have e : ∀ r : Nat, decide ((r : Int) = (p : Int)) = decide (r = p) := fun r => by
    by_cases h : r = p
    · simp [h]
    · have h' : ¬ (r : Int) = (p : Int) := by omega
      simp [h, h']
  match ns, fw with
  | [], _ => simp [mComp_at, n, inner_at, innerR_ok, outR_ow, NsD]
  | [a], _ =>
    by_cases ha : a = p <;> simp [mComp_at, n, inner_at, innerR_ok, outR_ow, NsD, ct_naming_lines_2, ce_naming_lines_1, e, ha, appD_short]
  | [a, b], _ =>
    by_cases ha : a = p <;> by_cases hb : b = p <;> simp [mComp_at, n, inner_at, innerR_ok, outR_ow, NsD, ct_naming_lines_2, ce_naming_lines_1, e, ha, hb, appD_short]
  | [a, b, c], _ =>
    by_cases ha : a = p <;> by_cases hb : b = p <;> by_cases hc : c = p <;> simp [mComp_at, n, inner_at, innerR_ok, outR_ow, NsD, ct_naming_lines_2, ce_naming_lines_1, e, ha, hb, hc, appD_short]
  | _ :: _ :: _ :: _ :: _, h => simp at h
theorem enum_Pg (ls : List PL) : enumL (ls.map PL.d) = (List.range ls.length).map fun (i : Nat) => D.tup [.int i, (lnA ls i).d] := by
  rw [enumL_map]
  refine List.ext_getElem (by simp) fun i h1 h2 => ?_
  have h : i < ls.length := by simpa using h2
  simp [h, lnA]
theorem naming_at (ls : List PL) (w : List Bool) (p : Nat) (hw : w.length = ls.length) (hl : ls.length ≤ 100) : f_z16 [Pg ls, BlD w, .int p] = .ok (NsD (naming ls w p)) [] := by
  rw [f_z16, defn_at _ _ _ _ rfl]
  have en : enumD [Pg ls] = some ((List.range ls.length).map fun (i : Nat) => D.tup [.int i, (lnA ls i).d]) := by unfold Pg; rw [enumD_lst, enum_Pg]
  let f := fun (i : Nat) => if w.getD i false then ((nsOf ls i).filter (fun r => decide (r = p))).map fun _ => i else []
  obtain ⟨_, t, _, L⟩ := loop_foldM (g := gTup [4, 5]) (body := lp_naming_lines_3) (fun (i : Nat) => D.tup [.int i, (lnA ls i).d]) (fun (s : List Nat) (t : Sl × Sl) => [.sh (Pg ls), .sh (BlD w), .sh (.int p), .ow (NsD s), t.1, t.2]) free2
    (fun k s => s.length ≤ 3 * k) (fun s i => s ++ f i) (List.range ls.length) [] (.no, .no) ⟨rfl, rfl⟩ (by simp) (by
    intro j i hi s t ht hP
    obtain ⟨t4, t5⟩ := t
    obtain ⟨f4, f5⟩ := ht
    dsimp only at f4 f5
    obtain ⟨rfl, hi⟩ := range_at hi
    obtain ⟨b, hb⟩ : ∃ b, w[i]? = some b := ⟨_, List.getElem?_eq_getElem (by omega)⟩
    have hg : w.getD i false = b := by simp [hb]
    have bi := bl_item w i b hb
    have il : isLst (some (NsD s)) = true := rfl
    have fw := (lnA ls i).few
    cases b with
    | false =>
      have e : f i = [] := by simp [f, hb]
      refine ⟨by rw [e]; simp; omega, (.sh (.int i), .sh (lnA ls i).d), ⟨rfl, rfl⟩, ?_⟩
      rw [e]
      generalize (lnA ls i).d = ld
      simp [turn1, lp_naming_lines_3, f4, f5, bi]
    | true =>
      have e : f i = (((lnA ls i).ns.filter (fun r => decide (r = p))).map fun _ => i) := by simp [f, hb, nsOf]
      have pc := pick_comp ls (lnA ls i) (Pg ls) (BlD w) p i (NsD s) .no
      rw [← e] at pc
      have le : (f i).length ≤ 3 := by rw [e, List.length_map]; exact Nat.le_trans (List.length_filter_le _ _) fw
      have ex : extD (NsD (f i)) (NsD s) = some (NsD (s ++ f i)) := by
        unfold NsD; rw [extD_at _ _ (by simp [LIM]; omega), List.map_append]
      refine ⟨by simp; omega, (.sh (.int i), .sh (lnA ls i).d), ⟨rfl, rfl⟩, ?_⟩
      generalize (lnA ls i).d = ld at *
      generalize f i = fi at *
      simp [turn1, lp_naming_lines_3, f4, f5, bi, pc, il, ex])
  have e : (List.range ls.length).foldl (fun s i => s ++ f i) [] = naming ls w p := by
    have g : ∀ (xs : List Nat) (a : List Nat), xs.foldl (fun s i => s ++ f i) a = a ++ xs.flatMap f := by
      intro xs
      induction xs with
      | nil => intro a; simp
      | cons x xs ih => intro a; simp [ih]
    rw [g]; rfl
  rw [e] at L
  have l0 : D.lst [] = NsD [] := rfl
  simp [b_z16, l0, en, L]
def K4 : List Nat := [0, 12, 13, 14]
def S3 : List Nat := [6, 10, 11]
def H2 : List Nat := [7, 14]
def spr (ls : List PL) (ss : List (List Int)) (i p : Nat) : Bool := decide (kd ls i ∈ S3) && !decide (sd ss i = sd ss p)
def keptB (ls : List PL) (ss : List (List Int)) (p : Nat) (ms : List Nat) : Bool :=
  decide (p = ls.length - 1) || decide (kd ls p ∈ K4) || ms.any (fun i => decide (kd ls i ∈ H2)) || (!decide (kd ls p = 1) && (decide (1 < ms.length) || ms.any fun i => spr ls ss i p))
theorem spreads_at (ls : List PL) (ss : List (List Int)) (i p : Nat) (hi : i < ls.length) (hp : p < ls.length) (hs : ss.length = ls.length) : f_z17 [Pg ls, Sl_ ss, .int i, .int p] = .ok (.bl (spr ls ss i p)) [] := by
  rw [f_z17, defn_at _ _ _ _ rfl]
  have ix := ix_kd ls i hi
  have kk := PL.kind (lnA ls i)
  have kl := kd_lt ls i
  have ik : inD false (.str (nm (kd ls i))) (.tup [.str (nm 6), .str (nm 10), .str (nm 11)]) = some (.bl (decide (kd ls i ∈ S3))) := inKt (kd ls i) kl S3 (by simp [S3])
  have s1 := ix_sd ss i (by omega)
  have s2 := ix_sd ss p (by omega)
  have e : (lnA ls i).k = kd ls i := rfl
  rw [e] at kk
  generalize (lnA ls i).d = ld at *
  unfold spr
  by_cases h : kd ls i ∈ S3
  · rw [decide_eq_true h] at ik
    simp [b_z17, ix, kk, ik, s1, s2, h]
  · rw [decide_eq_false h] at ik
    simp [b_z17, ix, kk, ik, h]
theorem is_kept_at (ls : List PL) (ss : List (List Int)) (p : Nat) (ms : List Nat) (hp : p < ls.length) (hs : ss.length = ls.length) (hm : ∀ i ∈ ms, i < ls.length) (hl : ms.length ≤ 1000) : f_z0 [Pg ls, Sl_ ss, .int p, NsD ms] = .ok (.bl (keptB ls ss p ms)) [] := by
  rw [f_z0, defn_at _ _ _ _ rfl]
  have ix := ix_kd ls p hp
  have kk := PL.kind (lnA ls p)
  have kl := kd_lt ls p
  have e : (lnA ls p).k = kd ls p := rfl
  rw [e] at kk
  have i4 : inD false (.str (nm (kd ls p))) (.tup [.str (nm 0), .str (nm 12), .str (nm 13), .str (nm 14)]) = some (.bl (decide (kd ls p ∈ K4))) := inKt (kd ls p) kl K4 (by simp [K4])
  have ln := lenD_Pg ls
  have c1 : mComp 1 (mSeq (mVar 3)) (VP.gName 5) (VP.ret true) ce_is_kept_1 [.sh (Pg ls), .sh (Sl_ ss), .sh (.int p), .sh (NsD ms), .sh (.str (nm (kd ls p)))] = .ok (.lst (ms.map fun i => D.bl (decide (kd ls i ∈ H2)))) [.sh (Pg ls), .sh (Sl_ ss), .sh (.int p), .sh (NsD ms), .sh (.str (nm (kd ls p)))] := by
    refine compM (fun (i : Nat) => D.int i) (fun i => D.bl (decide (kd ls i ∈ H2))) ms (by simp [NsD]) (by omega) rfl fun i hi acc => ?_
    have ixi := ix_kd ls i (hm i hi)
    have kki := PL.kind (lnA ls i)
    have ei : (lnA ls i).k = kd ls i := rfl
    rw [ei] at kki
    have ik : inD false (.str (nm (kd ls i))) (.tup [.str (nm 7), .str (nm 14)]) = some (.bl (decide (kd ls i ∈ H2))) := inKt (kd ls i) (kd_lt ls i) H2 (by simp [H2])
    generalize (lnA ls i).d = ld at *
    simp [ce_is_kept_1, ixi, kki, ik]
  have c2 : mComp 1 (mSeq (mVar 3)) (VP.gName 5) (VP.ret true) ce_is_kept_2 [.sh (Pg ls), .sh (Sl_ ss), .sh (.int p), .sh (NsD ms), .sh (.str (nm (kd ls p)))] = .ok (.lst (ms.map fun i => D.bl (spr ls ss i p))) [.sh (Pg ls), .sh (Sl_ ss), .sh (.int p), .sh (NsD ms), .sh (.str (nm (kd ls p)))] := by
    refine compM (fun (i : Nat) => D.int i) (fun i => D.bl (spr ls ss i p)) ms (by simp [NsD]) (by omega) rfl fun i hi acc => ?_
    simp [ce_is_kept_2, spreads_at ls ss i p (hm i hi) hp hs]
  have a1 := any_at (fun i => decide (kd ls i ∈ H2)) ms
  have a2 := any_at (fun i => spr ls ss i p) ms
  have e1 := eqS (kd ls p) 1 kl (by omega)
  have lm : lenD (NsD ms) = some (.int ms.length) := by simp [NsD]
  generalize (lnA ls p).d = ld at *
  generalize D.lst (ms.map fun i => D.bl (decide (kd ls i ∈ H2))) = L1 at *
  generalize D.lst (ms.map fun i => D.bl (spr ls ss i p)) = L2 at *
  unfold keptB
  by_cases q1 : p = ls.length - 1
  · have q1' : (p : Int) = (ls.length : Int) - 1 := by omega
    have d1 : decide (p = ls.length - 1) = true := decide_eq_true q1
    have d2 : decide ((p : Int) = (ls.length : Int) - 1) = true := decide_eq_true q1'
    rw [d1]
    simp [b_z0, ix, kk, ln, d2]
  · have q1' : ¬ (p : Int) = (ls.length : Int) - 1 := by omega
    by_cases q2 : kd ls p ∈ K4
    · rw [decide_eq_true q2] at i4
      simp [b_z0, ix, kk, ln, q1', q1, i4, q2]
    · rw [decide_eq_false q2] at i4
      cases q3 : ms.any (fun i => decide (kd ls i ∈ H2)) with
      | true =>
        rw [q3] at a1
        simp [b_z0, ix, kk, ln, q1', q1, i4, q2, c1, a1, q3, -allD_lst]
      | false =>
        rw [q3] at a1
        by_cases q4 : kd ls p = 1
        · have d4 : decide (kd ls p = 1) = true := decide_eq_true q4
          rw [d4] at e1 ⊢
          simp [b_z0, ix, kk, ln, q1', q1, i4, q2, c1, a1, -allD_lst, e1]
        · rw [decide_eq_false q4] at e1
          by_cases q5 : 1 < ms.length
          · have q5' : (1 : Int) < ms.length := by omega
            simp [b_z0, ix, kk, ln, q1', q1, i4, q2, c1, a1, q3, -allD_lst, e1, q4, lm, q5, q5']
          · have q5' : ¬ (1 : Int) < ms.length := by omega
            simp [b_z0, ix, kk, ln, q1', q1, i4, q2, c1, a1, q3, -allD_lst, e1, q4, lm, q5, q5', c2, a2]
def keptL (ls : List PL) (ss : List (List Int)) (w : List Bool) : List Bool := (List.range ls.length).map fun p => w.getD p false && keptB ls ss p (naming ls w p)
theorem naming_mem (ls : List PL) (w : List Bool) (p i : Nat) : i ∈ naming ls w p ↔ i < ls.length ∧ w.getD i false = true ∧ p ∈ nsOf ls i := by
  unfold naming
  rw [List.mem_flatMap]
  constructor
  · rintro ⟨j, hj, h⟩
    rw [List.mem_range] at hj
    by_cases q : w.getD j false = true
    · rw [if_pos q] at h
      obtain ⟨r, hr, e⟩ := List.mem_map.mp h
      subst e
      rw [List.mem_filter] at hr
      have : r = p := by simpa using hr.2
      subst this
      exact ⟨hj, q, hr.1⟩
    · rw [if_neg q] at h; simp at h
  · rintro ⟨h1, h2, h3⟩
    refine ⟨i, List.mem_range.mpr h1, ?_⟩
    rw [if_pos h2]
    exact List.mem_map.mpr ⟨p, List.mem_filter.mpr ⟨h3, by simp⟩, rfl⟩
theorem naming_len (ls : List PL) (w : List Bool) (p : Nat) : (naming ls w p).length ≤ 3 * ls.length := by
  unfold naming
  generalize ls.length = n
  induction n with
  | zero => simp
  | succ n ih =>
    rw [List.range_succ, List.flatMap_append, List.length_append]
    have : ([n].flatMap fun i => if w.getD i false then ((nsOf ls i).filter (fun r => decide (r = p))).map fun _ => i else []).length ≤ 3 := by
      rw [List.flatMap_cons, List.flatMap_nil, List.append_nil]
      split
      · rw [List.length_map]; exact Nat.le_trans (List.length_filter_le _ _) (lnA ls n).few
      · simp
    omega
theorem kept_lines_at (ls : List PL) (ss : List (List Int)) (wf : Wf ls) (h0 : ls ≠ []) (hl : ls.length ≤ 100) (hs : ss.length = ls.length) : ∃ w, f_z18 [Pg ls] = .ok (BlD w) [] ∧ w.length = ls.length ∧ (∀ i, w[i]? = some true ↔ Rch ls i) ∧ f_z1 [Pg ls, Sl_ ss] = .ok (BlD (keptL ls ss w)) [] := by
  obtain ⟨w, h1, h2, h3⟩ := wanted_at ls wf h0 hl
  refine ⟨w, h1, h2, h3, ?_⟩
  rw [f_z1, defn_at _ _ _ _ rfl]
  have en : enumD [Pg ls] = some ((List.range ls.length).map fun (i : Nat) => D.tup [.int i, (lnA ls i).d]) := by unfold Pg; rw [enumD_lst, enum_Pg]
  let f := fun p => w.getD p false && keptB ls ss p (naming ls w p)
  obtain ⟨_, t, _, L⟩ := loop_foldM (g := gTup [4, 5]) (body := lp_kept_lines_1) (fun (i : Nat) => D.tup [.int i, (lnA ls i).d]) (fun (s : List Bool) (t : Sl × Sl) => [.sh (Pg ls), .sh (Sl_ ss), .sh (BlD w), .ow (BlD s), t.1, t.2]) free2
    (fun k s => s.length = k) (fun s i => s ++ [f i]) (List.range ls.length) [] (.no, .no) ⟨rfl, rfl⟩ rfl (by
    intro j i hi s t ht hP
    obtain ⟨t4, t5⟩ := t
    obtain ⟨f4, f5⟩ := ht
    dsimp only at f4 f5
    obtain ⟨rfl, hi⟩ := range_at hi
    obtain ⟨b, hb⟩ : ∃ b, w[i]? = some b := ⟨_, List.getElem?_eq_getElem (by omega)⟩
    have hg : w.getD i false = b := by simp [hb]
    have bi := bl_item w i b hb
    have il : isLst (some (BlD s)) = true := rfl
    have nl := naming_len ls w i
    have na := naming_at ls w i h2 hl
    have ik := is_kept_at ls ss i (naming ls w i) hi hs (fun m hm => ((naming_mem ls w i m).mp hm).1) (by omega)
    have ap : appD (.bl (f i)) (BlD s) = some (BlD (s ++ [f i])) := by
      unfold BlD; rw [appD_at _ _ (by simp; omega), List.map_append]; rfl
    refine ⟨by simp [hP], (.sh (.int i), .sh (lnA ls i).d), ⟨rfl, rfl⟩, ?_⟩
    generalize (lnA ls i).d = ld at *
    cases b with
    | false =>
      have e : f i = false := by simp only [f, hg, Bool.false_and]
      rw [e] at ap ⊢
      simp [turn1, lp_kept_lines_1, f4, f5, bi, il, ap]
    | true =>
      have e : f i = keptB ls ss i (naming ls w i) := by simp only [f, hg, Bool.true_and]
      rw [e] at ap ⊢
      simp [turn1, lp_kept_lines_1, f4, f5, bi, na, ik, il, ap])
  have e : (List.range ls.length).foldl (fun s i => s ++ [f i]) [] = keptL ls ss w := by
    have g : ∀ (xs : List Nat) (a : List Bool), xs.foldl (fun s i => s ++ [f i]) a = a ++ xs.map f := by
      intro xs
      induction xs with
      | nil => intro a; simp
      | cons x xs ih => intro a; simp [ih]
    rw [g]; rfl
  rw [e] at L
  have l0 : D.lst [] = BlD [] := rfl
  obtain ⟨t4, t5⟩ := t
  unfold b_z1
  simp only [startR_cons, startR_nil, rep_succ, rep_0, if_neg (show ¬ (false = true) by decide)]
  rw [sSeqE_at, show sSet 2 _ _ = .ok .nx [.sh (Pg ls), .sh (Sl_ ss), .sh (BlD w), .no, .no, .no] by simp [h1], seqE_nx]
  rw [sSeqE_at, show sOwn 3 _ _ = .ok .nx [.sh (Pg ls), .sh (Sl_ ss), .sh (BlD w), .ow (BlD []), .no, .no] by simp [l0], seqE_nx]
  rw [sSeqE_at, show VP.sFor _ _ _ _ = .ok .nx [.sh (Pg ls), .sh (Sl_ ss), .sh (BlD w), .ow (BlD (keptL ls ss w)), t4, t5] by simp [en, L, -List.map_map], seqE_nx]
  rw [sRetO_at 3 _ (BlD (keptL ls ss w)) rfl]
  simp
theorem plain_Bl (w : List Bool) : VP.plain 60 (BlD w) = true := by
  unfold BlD; rw [VP.plain]
  induction w with
  | nil => rfl
  | cons x xs ih => rw [List.map_cons, VP.plains, ih]; rfl
theorem eqB_Bl (w : List Bool) : eqB (BlD w) (BlD w) = true := by
  unfold BlD; rw [eqB]
  induction w with
  | nil => rfl
  | cons x xs ih => rw [List.map_cons, eqBs, ih, eqB]; simp
theorem truths_at (w : List Bool) (hw : w.length ≤ 1000) : f_z11 [BlD w, BlD w] = .ok (.bl true) [] := by
  rw [f_z11, defn_at _ _ _ _ rfl]
  have il : isaD "list" (BlD w) = some (.bl true) := by unfold BlD; simp
  have ln : lenD (BlD w) = some (.int w.length) := by simp [BlD]
  have sq : seqD (BlD w) = some (w.map .bl) := rfl
  have eq : eqG (BlD w) (BlD w) = some (.bl true) := by unfold eqG; rw [plain_Bl, eqB_Bl]; rfl
  obtain ⟨_, t, _, L⟩ := loop_foldM (g := gName 2) (body := lp_l_truths_1) D.bl (fun (_ : Unit) (t : Sl) => [.sh (BlD w), .sh (BlD w), t]) free1 (fun _ _ => True) (fun _ _ => ()) w () .no rfl trivial (by
    intro i b hb _ t ht _
    have hf : free (some t) = true := ht
    have ib : isaD "bool" (.bl b) = some (.bl true) := rfl
    exact ⟨trivial, .sh (.bl b), rfl, by simp [turn1, lp_l_truths_1, hf, ib]⟩)
  simp [b_z11, il, ln, sq, L, eq]
inductive Act where
  | mark (i : Nat)
  | ev (i p : Nat)
def hits (ls : List PL) (ss : List (List Int)) (p : Nat) : Act → Bool
  | .mark i => decide (i = p) && decide (kd ls i ∈ K4)
  | .ev i q => decide (q = p) && (decide (kd ls i ∈ H2) || (!decide (kd ls p = 1) && (decide (kd ls i ∈ S3) && !decide (sd ss p = sd ss i))))
def isEv (p : Nat) : Act → Bool
  | .mark _ => false
  | .ev _ q => decide (q = p)
def dueA (ls : List PL) (ss : List (List Int)) (as : List Act) (p : Nat) : Bool := as.any (hits ls ss p) || (!decide (kd ls p = 1) && decide (1 < as.countP (isEv p)))
structure Rep (ls : List PL) (ss : List (List Int)) (as : List Act) (due : List Bool) (often : List Nat) : Prop where
  l1 : due.length = ls.length
  l2 : often.length = ls.length
  at1 : ∀ p, p < ls.length → due[p]? = some (dueA ls ss as p)
  at2 : ∀ p, p < ls.length → often[p]? = some (as.countP (isEv p))
def Fr (ls : List PL) (ss : List (List Int)) (D0 : List Nat) (due : List Bool) (often : List Nat) (s5 s6 s7 : Sl) : Rho := [.sh (Pg ls), .sh (Sl_ ss), .sh (NsD D0), .ow (BlD due), .ow (NsD often), s5, s6, s7]
theorem if_set (ls : List PL) (ss : List (List Int)) (D0 : List Nat) (due : List Bool) (often : List Nat) (s5 s6 : Sl) (p : Nat) (hp : p < due.length) (c : M Bool) (b : Bool) (h : c (Fr ls ss D0 due often s5 s6 (.sh (.int p))) = .ok b (Fr ls ss D0 due often s5 s6 (.sh (.int p)))) :
    VP.sIf c (sSeq (sSetIx 3 (mVar 7) (mC (.bl true))) sNx) sNx (Fr ls ss D0 due often s5 s6 (.sh (.int p))) = .ok .nx (Fr ls ss D0 (if b then due.set p true else due) often s5 s6 (.sh (.int p))) := by
  rw [sIf_at, h]
  have st := bl_set due p true hp
  have il : isLst (some (BlD due)) = true := rfl
  cases b with
  | false => simp
  | true => simp [Fr, il, st]
theorem ev_turn (ls : List PL) (ss : List (List Int)) (D0 : List Nat) (hs : ss.length = ls.length) (i p : Nat) (hi : i < ls.length) (hp : p < ls.length) (as : List Act) (due : List Bool) (often : List Nat) (R : Rep ls ss as due often) (hc : as.countP (isEv p) ≤ 1000) :
    ∃ due' often', lp_l_kept_1 (Fr ls ss D0 due often (.sh (.int i)) (.sh (lnA ls i).d) (.sh (.int p))) = .ok .nx (Fr ls ss D0 due' often' (.sh (.int i)) (.sh (lnA ls i).d) (.sh (.int p))) ∧ Rep ls ss (as ++ [.ev i p]) due' often' := by
  have kk := PL.kind (lnA ls i)
  rw [show (lnA ls i).k = kd ls i from rfl] at kk
  have ixp := ix_kd ls p hp
  have kp := PL.kind (lnA ls p)
  rw [show (lnA ls p).k = kd ls p from rfl] at kp
  have s1 := ix_sd ss i (by omega)
  have s2 := ix_sd ss p (by omega)
  have ik : inD false (.str (nm (kd ls i))) (.lst [.str (nm 6), .str (nm 10), .str (nm 11)]) = some (.bl (decide (kd ls i ∈ S3))) := inKl (kd ls i) (kd_lt ls i) S3 (by simp [S3])
  have e7 := eqS (kd ls i) 7 (kd_lt ls i) (by omega)
  have e14 := eqS (kd ls i) 14 (kd_lt ls i) (by omega)
  have n1 := neS (kd ls p) 1 (kd_lt ls p) (by omega)
  obtain ⟨c, hcn⟩ : ∃ c, as.countP (isEv p) = c := ⟨_, rfl⟩
  have oc := R.at2 p hp
  rw [hcn] at oc hc
  have io : itemD (NsD often) (.int (p : Int)) = some (.int (c : Nat)) := by
    unfold NsD; rw [itemD_lst]; exact ixD_at _ _ _ (by omega) (by simp [oc])
  have so : setAt (.int (p : Int)) (.int ((c : Int) + 1)) (NsD often) = some (NsD (often.set p (c + 1))) := by
    unfold NsD; rw [setAt_lst _ _ _ (by omega) (by simp; have := R.l2; omega), Int.toNat_natCast, List.map_set]; rfl
  have io2 : itemD (NsD (often.set p (c + 1))) (.int (p : Int)) = some (.int ((c : Int) + 1)) := by
    unfold NsD; rw [itemD_lst]; exact ixD_at _ _ _ (by omega) (by rw [Int.toNat_natCast, List.getElem?_map, List.getElem?_set_self (by have := R.l2; omega)]; rfl)
  have il : isLst (some (NsD often)) = true := rfl
  have hl1 := R.l1
  generalize hld : (lnA ls i).d = ld at *
  generalize hlp : (lnA ls p).d = lp at *
  unfold lp_l_kept_1
  rw [sSeq_at, show sSetIx 4 _ _ (Fr ls ss D0 due often (.sh (.int i)) (.sh ld) (.sh (.int p))) = .ok .nx (Fr ls ss D0 due (often.set p (c + 1)) (.sh (.int i)) (.sh ld) (.sh (.int p))) by simp [Fr, io, so, il], seq_nx]
  have t1 : (VP.tOr (VP.tB (m2 eqG (m2 itemD (mVar 6) (mC (.int 0))) (mC (.str (nm 7))))) (VP.tB (m2 eqG (m2 itemD (mVar 6) (mC (.int 0))) (mC (.str (nm 14)))))) (Fr ls ss D0 due (often.set p (c + 1)) (.sh (.int i)) (.sh ld) (.sh (.int p))) = .ok (decide (kd ls i ∈ H2)) (Fr ls ss D0 due (often.set p (c + 1)) (.sh (.int i)) (.sh ld) (.sh (.int p))) := by
    by_cases q : kd ls i = 7
    · have d : decide (kd ls i = 7) = true := decide_eq_true q
      have d' : decide (kd ls i ∈ H2) = true := decide_eq_true (by rw [q]; simp [H2])
      rw [d'] ; rw [d] at e7
      simp [Fr, kk, e7]
    · by_cases q2 : kd ls i = 14
      · have d : decide (kd ls i = 14) = true := decide_eq_true q2
        have d' : decide (kd ls i ∈ H2) = true := decide_eq_true (by rw [q2]; simp [H2])
        rw [d']; rw [decide_eq_false q] at e7; rw [d] at e14
        simp [Fr, kk, e7, e14]
      · have d' : decide (kd ls i ∈ H2) = false := decide_eq_false (by simp [H2]; omega)
        rw [d']; rw [decide_eq_false q] at e7; rw [decide_eq_false q2] at e14
        simp [Fr, kk, e7, e14]
  rw [sSeq_at, if_set ls ss D0 due _ _ _ p (by omega) _ _ t1, seq_nx]
  generalize hd1 : (if decide (kd ls i ∈ H2) = true then due.set p true else due) = due1
  have hd1l : due1.length = ls.length := by rw [← hd1]; split <;> simp [hl1]
  have t2 : (VP.tAnd (VP.tB (m2 neG (m2 itemD (m2 itemD (mVar 0) (mVar 7)) (mC (.int 0))) (mC (.str (nm 1))))) (VP.tB (m2 gtI (mIxO 4 (mVar 7)) (mC (.int 1))))) (Fr ls ss D0 due1 (often.set p (c + 1)) (.sh (.int i)) (.sh ld) (.sh (.int p))) = .ok (!decide (kd ls p = 1) && decide (1 < c + 1)) (Fr ls ss D0 due1 (often.set p (c + 1)) (.sh (.int i)) (.sh ld) (.sh (.int p))) := by
    by_cases q : kd ls p = 1
    · rw [decide_eq_true q] at n1 ⊢
      simp [Fr, ixp, kp, n1]
    · rw [decide_eq_false q] at n1 ⊢
      by_cases z : 0 < c
      · have z' : (0 : Int) < c := by omega
        have z2 : (1 : Int) < (c : Int) + 1 := by omega
        simp [Fr, ixp, kp, n1, io2, z, z', z2]
      · have z' : ¬ (0 : Int) < c := by omega
        have z2 : ¬ (1 : Int) < (c : Int) + 1 := by omega
        simp [Fr, ixp, kp, n1, io2, z, z', z2]
  rw [sSeq_at, if_set ls ss D0 due1 _ _ _ p (by omega) _ _ t2, seq_nx]
  generalize hd2 : (if (!decide (kd ls p = 1) && decide (1 < c + 1)) = true then due1.set p true else due1) = due2
  have hd2l : due2.length = ls.length := by rw [← hd2]; split <;> simp [hd1l]
  have t3 : (VP.tAnd (VP.tB (m2 neG (m2 itemD (m2 itemD (mVar 0) (mVar 7)) (mC (.int 0))) (mC (.str (nm 1))))) (VP.tAnd (VP.tB (m2 (inD false) (m2 itemD (mVar 6) (mC (.int 0))) (mLst [(mC (.str (nm 6))), (mC (.str (nm 10))), (mC (.str (nm 11)))]))) (VP.tB (m2 neG (m2 itemD (mVar 1) (mVar 7)) (m2 itemD (mVar 1) (mVar 5)))))) (Fr ls ss D0 due2 (often.set p (c + 1)) (.sh (.int i)) (.sh ld) (.sh (.int p))) = .ok (!decide (kd ls p = 1) && (decide (kd ls i ∈ S3) && !decide (sd ss p = sd ss i))) (Fr ls ss D0 due2 (often.set p (c + 1)) (.sh (.int i)) (.sh ld) (.sh (.int p))) := by
    by_cases q : kd ls p = 1
    · rw [decide_eq_true q] at n1 ⊢
      simp [Fr, ixp, kp, n1]
    · rw [decide_eq_false q] at n1 ⊢
      by_cases q2 : kd ls i ∈ S3
      · rw [decide_eq_true q2] at ik ⊢
        simp [Fr, ixp, kp, n1, kk, ik, s1, s2]
      · rw [decide_eq_false q2] at ik ⊢
        simp [Fr, ixp, kp, n1, kk, ik]
  rw [sSeq_at, if_set ls ss D0 due2 _ _ _ p (by omega) _ _ t3, seq_nx]
  refine ⟨_, _, rfl, ⟨by split <;> simp [hd2l], by simp; exact R.l2, fun q hq => ?_, fun q hq => ?_⟩⟩
  · have cnt : ∀ q, (as ++ [Act.ev i p]).countP (isEv q) = as.countP (isEv q) + if p = q then 1 else 0 := fun q => by
      rw [List.countP_append]; simp [List.countP_cons, isEv]
    by_cases e : p = q
    · subst e
      have g : ∀ (d : List Bool) (b x : Bool), p < d.length → d[p]? = some x → (if b = true then d.set p true else d)[p]? = some (x || b) := fun d b x h1 h2 => by
        cases b
        · simp [h2]
        · simp [h1]
      have a0 := R.at1 p hp
      have a1 := g due (decide (kd ls i ∈ H2)) _ (by omega) a0
      rw [hd1] at a1
      have a2 := g due1 (!decide (kd ls p = 1) && decide (1 < c + 1)) _ (by omega) a1
      rw [hd2] at a2
      rw [g due2 _ _ (by omega) a2]
      congr 1
      unfold dueA
      rw [cnt p, if_pos rfl, List.any_append, hcn]
      simp only [List.any_cons, List.any_nil, hits, decide_true, Bool.true_and, Bool.or_false]
      generalize as.any (hits ls ss p) = x1
      generalize decide (kd ls i ∈ H2) = x2
      generalize decide (kd ls p = 1) = x3
      generalize (decide (kd ls i ∈ S3) && !decide (sd ss p = sd ss i)) = x4
      by_cases z : 1 < c
      · have z2 : 1 < c + 1 := by omega
        simp only [decide_eq_true z, decide_eq_true z2]
        cases x1 <;> cases x2 <;> cases x3 <;> cases x4 <;> rfl
      · simp only [decide_eq_false z]
        generalize decide (1 < c + 1) = x5
        cases x1 <;> cases x2 <;> cases x3 <;> cases x4 <;> cases x5 <;> rfl
    · have g : ∀ (d : List Bool) (b : Bool), (if b = true then d.set p true else d)[q]? = d[q]? := fun d b => by
        cases b
        · simp
        · simp [List.getElem?_set_ne e]
      rw [g, ← hd2, g, ← hd1, g, R.at1 q hq]
      congr 1
      unfold dueA
      rw [cnt q, if_neg e, List.any_append]
      simp [hits, e]
  · rw [List.countP_append]
    by_cases e : p = q
    · subst e
      rw [List.getElem?_set_self (by have := R.l2; omega), hcn]
      simp [List.countP_cons, isEv]
    · rw [List.getElem?_set_ne e, R.at2 q hq]
      simp [List.countP_cons, isEv, e]
theorem ev_loop (ls : List PL) (ss : List (List Int)) (D0 : List Nat) (hs : ss.length = ls.length) (i : Nat) (hi : i < ls.length) : ∀ (ns : List Nat) (as : List Act) (due : List Bool) (often : List Nat), (∀ r ∈ ns, r < ls.length) → Rep ls ss as due often → as.length + ns.length ≤ 900 → ∀ t, free (some t) = true →
    ∃ due' often' t', loop (gName 7) lp_l_kept_1 (ns.map fun k => D.int (k : Nat)) (Fr ls ss D0 due often (.sh (.int i)) (.sh (lnA ls i).d) t) = .ok .nx (Fr ls ss D0 due' often' (.sh (.int i)) (.sh (lnA ls i).d) t') ∧ Rep ls ss (as ++ ns.map (.ev i)) due' often' ∧ free (some t') = true
  | [], as, due, often, _, R, _, t, ht => ⟨due, often, t, rfl, by simpa using R, ht⟩
  | r :: ns, as, due, often, h, R, hl, t, ht => by
    have hr := h r List.mem_cons_self
    have hc : as.countP (isEv r) ≤ as.length := List.countP_le_length
    simp only [List.length_cons] at hl
    obtain ⟨due1, often1, e1, R1⟩ := ev_turn ls ss D0 hs i r hi hr as due often R (by omega)
    obtain ⟨due2, often2, t2, e2, R2, f2⟩ := ev_loop ls ss D0 hs i hi ns (as ++ [.ev i r]) due1 often1 (fun x hx => h x (List.mem_cons_of_mem _ hx)) R1 (by simp; omega) (.sh (.int r)) rfl
    refine ⟨due2, often2, t2, ?_, by simpa using R2, f2⟩
    rw [List.map_cons, loop_cont (r' := Fr ls ss D0 due1 often1 (.sh (.int i)) (.sh (lnA ls i).d) (.sh (.int r))) ?_, e2]
    rw [turn1, show gName 7 (.int (r : Int)) (Fr ls ss D0 due often (.sh (.int i)) (.sh (lnA ls i).d) t) = .ok () (Fr ls ss D0 due often (.sh (.int i)) (.sh (lnA ls i).d) (.sh (.int r))) by simp [Fr, ht]]
    rw [then_ok, e1]; rfl
def actsOf (ls : List PL) (ds : List Nat) : List Act := ds.flatMap fun i => .mark i :: (nsOf ls i).map (.ev i)
theorem mark_step (ls : List PL) (ss : List (List Int)) (as : List Act) (due : List Bool) (often : List Nat) (R : Rep ls ss as due often) (i : Nat) (hi : i < ls.length) : Rep ls ss (as ++ [.mark i]) (due.set i (dueA ls ss as i || decide (kd ls i ∈ K4))) often := by
  have cnt : ∀ q, (as ++ [Act.mark i]).countP (isEv q) = as.countP (isEv q) := fun q => by
    rw [List.countP_append]; simp [List.countP_cons, isEv]
  refine ⟨by simp; exact R.l1, R.l2, fun q hq => ?_, fun q hq => by rw [cnt]; exact R.at2 q hq⟩
  by_cases e : i = q
  · subst e
    rw [List.getElem?_set_self (by have := R.l1; omega)]
    congr 1
    unfold dueA
    rw [cnt, List.any_append]
    simp only [List.any_cons, List.any_nil, hits, decide_true, Bool.true_and, Bool.or_false]
    generalize as.any (hits ls ss i) = x1
    generalize (!decide (kd ls i = 1) && decide (1 < as.countP (isEv i))) = x2
    generalize decide (kd ls i ∈ K4) = x3
    cases x1 <;> cases x2 <;> cases x3 <;> rfl
  · rw [List.getElem?_set_ne e, R.at1 q hq]
    congr 1
    unfold dueA
    rw [cnt, List.any_append]
    simp [hits, e]
theorem kept_loop (ls : List PL) (ss : List (List Int)) (D0 : List Nat) (wf : Wf ls) (hs : ss.length = ls.length) : ∀ (ds : List Nat) (as : List Act) (due : List Bool) (often : List Nat), (∀ d ∈ ds, d < ls.length) → Rep ls ss as due often → as.length + 4 * ds.length ≤ 900 → ∀ t5 t6 t7, free (some t5) = true → free (some t6) = true → free (some t7) = true →
    ∃ due' often' t5' t6' t7', loop (gName 5) lp_l_kept_2 (ds.map fun k => D.int (k : Nat)) (Fr ls ss D0 due often t5 t6 t7) = .ok .nx (Fr ls ss D0 due' often' t5' t6' t7') ∧ Rep ls ss (as ++ actsOf ls ds) due' often'
  | [], as, due, often, _, R, _, t5, t6, t7, _, _, _ => ⟨due, often, t5, t6, t7, rfl, by simpa [actsOf] using R⟩
  | i :: ds, as, due, often, h, R, hl, t5, t6, t7, h5, h6, h7 => by
    have hi := h i List.mem_cons_self
    simp only [List.length_cons] at hl
    have ix := ix_kd ls i hi
    have kk := PL.kind (lnA ls i)
    rw [show (lnA ls i).k = kd ls i from rfl] at kk
    have i4 : inD false (.str (nm (kd ls i))) (.lst [.str (nm 0), .str (nm 12), .str (nm 13), .str (nm 14)]) = some (.bl (decide (kd ls i ∈ K4))) := inKl (kd ls i) (kd_lt ls i) K4 (by simp [K4])
    have bi := bl_item due i _ (R.at1 i hi)
    have il : isLst (some (BlD due)) = true := rfl
    have st := bl_set due i (dueA ls ss as i || decide (kd ls i ∈ K4)) (by have := R.l1; omega)
    have R1 := mark_step ls ss as due often R i hi
    have rd := (lnA ls i).reads
    have fw := (lnA ls i).few
    have nb : ∀ r ∈ (lnA ls i).ns, r < ls.length := fun r hr => by
      have := wf i (lnA ls i) (by simp [lnA, hi]) r hr; omega
    obtain ⟨due2, often2, t2, e2, R2, f2⟩ := ev_loop ls ss D0 hs i hi (lnA ls i).ns (as ++ [.mark i]) _ often nb R1 (by simp; omega) t7 h7
    obtain ⟨due3, often3, t5', t6', t7', e3, R3⟩ := kept_loop ls ss D0 wf hs ds _ due2 often2 (fun x hx => h x (List.mem_cons_of_mem _ hx)) R2 (by simp; omega) (.sh (.int i)) (.sh (lnA ls i).d) t2 rfl rfl f2
    refine ⟨due3, often3, t5', t6', t7', ?_, ?_⟩
    · rw [List.map_cons, loop_cont (r' := Fr ls ss D0 due2 often2 (.sh (.int i)) (.sh (lnA ls i).d) t2) ?_, e3]
      rw [turn1, show gName 5 (.int (i : Int)) (Fr ls ss D0 due often t5 t6 t7) = .ok () (Fr ls ss D0 due often (.sh (.int i)) t6 t7) by simp [Fr, h5], then_ok]
      unfold lp_l_kept_2
      rw [sSeq_at, show sSet 6 _ (Fr ls ss D0 due often (.sh (.int i)) t6 t7) = .ok .nx (Fr ls ss D0 due often (.sh (.int i)) (.sh (lnA ls i).d) t7) by simp [Fr, ix, h6], seq_nx]
      rw [sSeq_at, show sSetIx 3 _ _ (Fr ls ss D0 due often (.sh (.int i)) (.sh (lnA ls i).d) t7) = .ok .nx (Fr ls ss D0 (due.set i (dueA ls ss as i || decide (kd ls i ∈ K4))) often (.sh (.int i)) (.sh (lnA ls i).d) t7) by
        generalize dueA ls ss as i = x at *
        cases x
        · simp only [Bool.false_or] at st ⊢
          simp [Fr, bi, kk, i4, il, st]
        · simp only [Bool.true_or] at st ⊢
          simp [Fr, bi, il, st], seq_nx]
      rw [sSeq_at, show VP.sFor _ _ _ (Fr ls ss D0 (due.set i (dueA ls ss as i || decide (kd ls i ∈ K4))) often (.sh (.int i)) (.sh (lnA ls i).d) t7) = .ok .nx (Fr ls ss D0 due2 often2 (.sh (.int i)) (.sh (lnA ls i).d) t2) by
        rw [← e2]
        simp [Fr, rd], seq_nx]
      rfl
    · have e : as ++ actsOf ls (i :: ds) = as ++ [Act.mark i] ++ List.map (Act.ev i) (lnA ls i).ns ++ actsOf ls ds := by
        simp [actsOf, nsOf]
      rw [e]; exact R3
theorem acts_any (ls : List PL) (ss : List (List Int)) (p : Nat) (ds : List Nat) : (actsOf ls ds).any (hits ls ss p) = true ↔ (p ∈ ds ∧ kd ls p ∈ K4) ∨ ∃ i ∈ ds, p ∈ nsOf ls i ∧ (kd ls i ∈ H2 ∨ (kd ls p ≠ 1 ∧ kd ls i ∈ S3 ∧ sd ss p ≠ sd ss i)) := by
  unfold actsOf
  rw [List.any_eq_true]
  constructor
  · rintro ⟨a, ha, h⟩
    obtain ⟨i, hi, ha⟩ := List.mem_flatMap.mp ha
    rcases List.mem_cons.mp ha with rfl | ha
    · simp [hits] at h
      obtain ⟨rfl, h⟩ := h
      exact .inl ⟨hi, h⟩
    · obtain ⟨q, hq, rfl⟩ := List.mem_map.mp ha
      simp [hits] at h
      obtain ⟨rfl, h⟩ := h
      exact .inr ⟨i, hi, hq, h⟩
  · rintro (⟨h1, h2⟩ | ⟨i, h1, h2, h3⟩)
    · exact ⟨.mark p, List.mem_flatMap.mpr ⟨p, h1, List.mem_cons_self⟩, by simp [hits, h2]⟩
    · exact ⟨.ev i p, List.mem_flatMap.mpr ⟨i, h1, List.mem_cons_of_mem _ (List.mem_map.mpr ⟨p, h2, rfl⟩)⟩, by simp [hits]; exact h3⟩
theorem count_len (xs : List Nat) (p : Nat) (i : Nat) : (xs.map (Act.ev i)).countP (isEv p) = (xs.filter fun r => decide (r = p)).length := by
  rw [List.countP_map, List.countP_eq_length_filter]; rfl
theorem acts_count (ls : List PL) (p : Nat) : ∀ ds : List Nat, (actsOf ls ds).countP (isEv p) = (ds.flatMap fun i => ((nsOf ls i).filter (fun r => decide (r = p))).map fun _ => i).length
  | [] => rfl
  | d :: ds => by
    have ih := acts_count ls p ds
    unfold actsOf at ih ⊢
    rw [List.flatMap_cons, List.flatMap_cons, List.countP_append, List.length_append, ih, List.countP_cons, count_len]
    simp [isEv]
theorem naming_filter (ls : List PL) (w : List Bool) (p : Nat) : naming ls w p = ((List.range ls.length).filter fun i => w.getD i false).flatMap fun i => ((nsOf ls i).filter (fun r => decide (r = p))).map fun _ => i := by
  unfold naming
  generalize List.range ls.length = xs
  induction xs with
  | nil => rfl
  | cons x xs ih =>
    rw [List.flatMap_cons, ih, List.filter_cons]
    by_cases q : w.getD x false = true
    · rw [if_pos q, if_pos q, List.flatMap_cons]
    · rw [if_neg q, if_neg q]; rfl
theorem naming_count (ls : List PL) (w : List Bool) (ds : List Nat) (p : Nat) (nd : ds.Nodup) (hm : ∀ i, i ∈ ds ↔ i < ls.length ∧ w.getD i false = true) : (naming ls w p).length = (actsOf ls ds).countP (isEv p) := by
  rw [acts_count, naming_filter]
  have pm : ((List.range ls.length).filter fun i => w.getD i false).Perm ds := by
    refine (List.perm_ext_iff_of_nodup (List.Pairwise.filter _ List.nodup_range) nd).mpr fun i => ?_
    rw [List.mem_filter, List.mem_range, hm]
  exact (pm.flatMap_right _).length_eq
theorem kept_same (ls : List PL) (ss : List (List Int)) (wf : Wf ls) (h0 : ls ≠ []) (w : List Bool) (hw : w.length = ls.length) (hr : ∀ i, w[i]? = some true ↔ Rch ls i) (ds : List Nat) (nd : ds.Nodup) (hd : ∀ i, i ∈ ds ↔ Rch ls i) (p : Nat) (hp : p < ls.length) :
    (w.getD p false && keptB ls ss p (naming ls w p)) = (decide (p = ls.length - 1) || dueA ls ss (actsOf ls ds) p) := by
  have wg : ∀ i, i < ls.length → (w.getD i false = true ↔ Rch ls i) := fun i hi => by
    rw [← hr i]
    have : i < w.length := by omega
    simp [this]
  have hm : ∀ i, i ∈ ds ↔ i < ls.length ∧ w.getD i false = true := fun i => by
    rw [hd]
    constructor
    · intro h; have := h.lt wf h0; exact ⟨this, (wg i this).mpr h⟩
    · rintro ⟨h1, h2⟩; exact (wg i h1).mp h2
  have nc := naming_count ls w ds p nd hm
  have ac := acts_any ls ss p ds
  have nm_ : ∀ i, i ∈ naming ls w p ↔ i ∈ ds ∧ p ∈ nsOf ls i := fun i => by
    rw [naming_mem, hm]
    constructor
    · rintro ⟨a, b, c⟩; exact ⟨⟨a, b⟩, c⟩
    · rintro ⟨⟨a, b⟩, c⟩; exact ⟨a, b, c⟩
  rw [Bool.eq_iff_iff]
  by_cases q : Rch ls p
  · rw [(wg p hp).mpr q, Bool.true_and]
    have pd := (hd p).mpr q
    unfold keptB dueA
    simp only [Bool.or_eq_true, decide_eq_true_eq, Bool.and_eq_true, Bool.not_eq_true', decide_eq_false_iff_not, List.any_eq_true]
    rw [List.any_eq_true] at ac
    rw [ac, ← nc]
    constructor
    · rintro (((h | h) | ⟨i, h1, h2⟩) | ⟨h1, h | ⟨i, h2, h3⟩⟩)
      · exact .inl h
      · exact .inr (.inl (.inl ⟨pd, h⟩))
      · obtain ⟨a, b⟩ := (nm_ i).mp h1
        exact .inr (.inl (.inr ⟨i, a, b, .inl h2⟩))
      · exact .inr (.inr ⟨h1, h⟩)
      · obtain ⟨a, b⟩ := (nm_ i).mp h2
        simp [spr] at h3
        exact .inr (.inl (.inr ⟨i, a, b, .inr ⟨h1, h3.1, fun z => h3.2 z.symm⟩⟩))
    · rintro (h | ((⟨_, h⟩ | ⟨i, a, b, h | ⟨h1, h2, h3⟩⟩) | ⟨h1, h2⟩))
      · exact .inl (.inl (.inl h))
      · exact .inl (.inl (.inr h))
      · exact .inl (.inr ⟨i, (nm_ i).mpr ⟨a, b⟩, h⟩)
      · exact .inr ⟨h1, .inr ⟨i, (nm_ i).mpr ⟨a, b⟩, by simp [spr]; exact ⟨h2, fun z => h3 z.symm⟩⟩⟩
      · exact .inr ⟨h1, .inl h2⟩
  · have z : w.getD p false = false := by
      cases e : w.getD p false with
      | false => rfl
      | true => exact absurd ((wg p hp).mp e) q
    rw [z, Bool.false_and]
    constructor
    · intro h; cases h
    · intro h
      refine absurd ?_ q
      unfold dueA at h
      simp only [Bool.or_eq_true, decide_eq_true_eq, Bool.and_eq_true] at h
      rcases h with h | (h | ⟨_, h⟩)
      · subst h; exact .last
      · rcases ac.mp h with ⟨h, _⟩ | ⟨i, h1, h2, _⟩
        · exact (hd p).mp h
        · have hi := (hd i).mp h1
          have hil := hi.lt wf h0
          exact .step hi (l := lnA ls i) (by simp [lnA, hil]) h2
      · have hn : 0 < (naming ls w p).length := by rw [nc]; omega
        obtain ⟨i, hi⟩ := List.exists_mem_of_length_pos hn
        obtain ⟨a, b⟩ := (nm_ i).mp hi
        have hir := (hd i).mp a
        have hil := hir.lt wf h0
        exact .step hir (l := lnA ls i) (by simp [lnA, hil]) b
theorem l_kept_at (ls : List PL) (ss : List (List Int)) (wf : Wf ls) (h0 : ls ≠ []) (hl : ls.length ≤ 100) (hs : ss.length = ls.length) (w : List Bool) (hw : w.length = ls.length) (hr : ∀ i, w[i]? = some true ↔ Rch ls i) : f_z4 [Pg ls, Sl_ ss] = .ok (BlD (keptL ls ss w)) [] := by
  rw [f_z4, defn_at _ _ _ _ rfl]
  obtain ⟨ds, e1, nd, hd⟩ := l_wanted_at ls wf h0 hl
  have hn := List.length_pos_iff.mpr h0
  have ln := lenD_Pg ls
  have m1 : mulL (.lst [.bl false]) (.int (ls.length : Int)) = some (BlD (List.replicate ls.length false)) := by
    have : mulL (.lst [.bl false]) (.int (ls.length : Int)) = if -(LIM : Int) ≤ (ls.length : Int) ∧ (ls.length : Int) ≤ LIM ∧ [D.bl false].length * (ls.length : Int).toNat ≤ LIM then some (.lst (List.replicate (ls.length : Int).toNat [D.bl false]).flatten) else none := rfl
    rw [this, if_pos ⟨by simp [LIM] <;> omega, by simp [LIM] <;> omega, by simp [LIM]; omega⟩, Int.toNat_natCast]
    unfold BlD; simp
  have m2 : mulL (.lst [.int 0]) (.int (ls.length : Int)) = some (NsD (List.replicate ls.length 0)) := by
    have : mulL (.lst [.int 0]) (.int (ls.length : Int)) = if -(LIM : Int) ≤ (ls.length : Int) ∧ (ls.length : Int) ≤ LIM ∧ [D.int 0].length * (ls.length : Int).toNat ≤ LIM then some (.lst (List.replicate (ls.length : Int).toNat [D.int 0]).flatten) else none := rfl
    rw [this, if_pos ⟨by simp [LIM] <;> omega, by simp [LIM] <;> omega, by simp [LIM]; omega⟩, Int.toNat_natCast]
    unfold NsD; simp
  have R0 : Rep ls ss [] (List.replicate ls.length false) (List.replicate ls.length 0) := ⟨by simp, by simp, fun p hp => by simp [hp, dueA], fun p hp => by simp [hp]⟩
  have dl : ds.length ≤ ls.length := nodup_le _ _ nd fun x hx => ((hd x).mp hx).lt wf h0
  obtain ⟨due, often, t5, t6, t7, L, R⟩ := kept_loop ls ss ds wf hs ds [] _ _ (fun d h => ((hd d).mp h).lt wf h0) R0 (by simp; omega) .no .no .no rfl rfl rfl
  rw [List.nil_append] at R
  have sl : setAt (.int (-1)) (.bl true) (BlD due) = some (BlD (due.set (ls.length - 1) true)) := by
    unfold BlD
    show (ixP _ (-1)).map _ = _
    have : ixP (due.map D.bl).length (-1) = some (ls.length - 1) := by
      unfold ixP
      rw [if_neg (by omega), if_pos (by simp; have := R.l1; omega)]
      simp; have := R.l1; omega
    rw [this, List.map_set]; rfl
  have ef : due.set (ls.length - 1) true = keptL ls ss w := by
    refine List.ext_getElem? fun p => ?_
    by_cases hp : p < ls.length
    · have r : (keptL ls ss w)[p]? = some (w.getD p false && keptB ls ss p (naming ls w p)) := by simp [keptL, hp]
      rw [r, kept_same ls ss wf h0 w hw hr ds nd hd p hp]
      by_cases e : ls.length - 1 = p
      · subst e
        rw [List.getElem?_set_self (by have := R.l1; omega)]
        simp
      · have e' : ¬ p = ls.length - 1 := fun z => e z.symm
        rw [List.getElem?_set_ne e, R.at1 p hp]
        simp [e']
    · rw [List.getElem?_eq_none (by simp; have := R.l1; omega), List.getElem?_eq_none (by simp [keptL]; omega)]
  rw [ef] at sl
  have il : isLst (some (BlD due)) = true := rfl
  have sq : seqD (NsD ds) = some (ds.map fun k => D.int (k : Nat)) := rfl
  unfold b_z4
  simp only [startR_cons, startR_nil, rep_succ, rep_0, if_neg (show ¬ (false = true) by decide)]
  rw [sSeq_at, show sSet 2 _ _ = .ok .nx [.sh (Pg ls), .sh (Sl_ ss), .sh (NsD ds), .no, .no, .no, .no, .no] by simp [e1], seq_nx]
  rw [sSeq_at, show sOwn 3 _ _ = .ok .nx [.sh (Pg ls), .sh (Sl_ ss), .sh (NsD ds), .ow (BlD (List.replicate ls.length false)), .no, .no, .no, .no] by simp [ln, m1], seq_nx]
  rw [sSeq_at, show sOwn 4 _ _ = .ok .nx (Fr ls ss ds (List.replicate ls.length false) (List.replicate ls.length 0) .no .no .no) by simp [ln, m2, Fr], seq_nx]
  rw [sSeq_at, show VP.sFor _ _ _ _ = .ok .nx (Fr ls ss ds due often t5 t6 t7) by rw [← L]; simp [Fr, sq], seq_nx]
  unfold Fr
  simp [il, sl]
def SI (s : List Int) : Prop := s.length ≤ 4 ∧ (∀ x ∈ s, 0 ≤ x ∧ x ≤ 24) ∧ prodR s ≤ 27
def Pre (s : List Int) : Prop := s.length ≤ 9 ∧ ∀ x ∈ s, 0 ≤ x ∧ x ≤ 100
theorem SI.pre {s : List Int} (h : SI s) : Pre s := ⟨by have := h.1; omega, fun x hx => by have := h.2.1 x hx; omega⟩
theorem SI.get {s : List Int} (h : SI s) (k : Nat) : 0 ≤ s.getD k 0 ∧ s.getD k 0 ≤ 24 := by
  by_cases hk : k < s.length
  · have := h.2.1 s[k] (List.getElem_mem hk); simpa [hk] using this
  · rw [List.getD_eq_getElem?_getD, List.getElem?_eq_none (by omega)]; simp
theorem SI.prod0 {s : List Int} (h : SI s) : 0 ≤ prodR s := (prod_le s fun x hx => by have := h.2.1 x hx; omega).1
theorem cutTo (s : List Int) (k : Nat) (hk : k ≤ s.length) : cutA (T s) none (some (k : Int)) = some (T (s.take k)) := by
  have : cutA (T s) none (some (k : Int)) = some (.tup (cutD (s.map .int) none (some (k : Int)))) := rfl
  rw [this, cutD, List.length_map, sIx_nat _ _ _ hk, sIx_none]
  simp [T]
theorem cutFr (s : List Int) (k : Nat) (hk : k ≤ s.length) : cutA (T s) (some (k : Int)) none = some (T (s.drop k)) := by
  have : cutA (T s) (some (k : Int)) none = some (.tup (cutD (s.map .int) (some (k : Int)) none)) := rfl
  rw [this, cutD, List.length_map, sIx_nat _ _ _ hk, sIx_none, List.take_of_length_le (by simp)]
  simp [T]
theorem cellsT (s : List Int) (h : Pre s) : f_z2 [T s] = .ok (.int (prodR s)) [] := by
  rw [f_z2, defn_at _ _ _ _ rfl]
  obtain ⟨_, t, _, L⟩ := loop_foldM (g := gName 2) (body := lp_l_cells_1) D.int (fun (p : Int) (t : Sl) => [.sh (T s), .sh (.int p), t]) free1 (fun _ _ => True) (fun p x => p * x) s 1 .no rfl trivial (by
    intro i x hx p t ht _
    have hm := h.2 x (List.mem_of_getElem? hx)
    have hf : free (some t) = true := ht
    refine ⟨trivial, .sh (.int x), rfl, ?_⟩
    simp [turn1, lp_l_cells_1, hf, mulI_right p x (by omega) (by omega)])
  rw [prod_foldl, Int.one_mul] at L
  simp [b_z2, L]
inductive EachP {A B : Type} (P : A → B → Prop) : List A → List B → Prop where
  | nil : EachP P [] []
  | cons {a : A} {b : B} {as : List A} {bs : List B} (h : P a b) (t : EachP P as bs) : EachP P (a :: as) (b :: bs)
theorem EachP.len {A B : Type} {P : A → B → Prop} : ∀ {as : List A} {bs : List B}, EachP P as bs → as.length = bs.length
  | _, _, .nil => rfl
  | _, _, .cons _ t => by simp [EachP.len t]
theorem EachP.right {A B : Type} {P : A → B → Prop} : ∀ {as : List A} {bs : List B}, EachP P as bs → ∀ b ∈ bs, ∃ a ∈ as, P a b
  | _, _, .cons (a := a) h t, b, hb => by
    rcases List.mem_cons.mp hb with rfl | hb
    · exact ⟨a, List.mem_cons_self, h⟩
    · obtain ⟨a', h1, h2⟩ := EachP.right t b hb
      exact ⟨a', List.mem_cons_of_mem _ h1, h2⟩
theorem comp_ints {A : Type} {it : M (List D)} {elt : M D} {k : Nat} {r0 : Rho} (mk : A → D) (R : Nat → Rho) (P : A → Int → Prop) (as : List A) (p : Nat) (hlen : ∀ q, (R q).length = k) (hds : it r0 = .ok (as.map mk) (R p)) (hL : as.length ≤ 1000)
    (he : ∀ a ∈ as, ∀ q, ∃ q' b, P a b ∧ ∀ acc, elt (R q ++ [.sh (mk a), .ow acc]) = .ok (.int b) (R q' ++ [.sh (mk a), .ow acc])) :
    ∃ q' bs, mComp 1 it (gName k) (ret true) elt r0 = .ok (Z bs) (R q') ∧ EachP P as bs := by
  have ch : ∀ (a : A) (q : Nat), ∃ z : Nat × Int, a ∈ as → P a z.2 ∧ ∀ acc, elt (R q ++ [.sh (mk a), .ow acc]) = .ok (.int z.2) (R z.1 ++ [.sh (mk a), .ow acc]) := fun a q => by
    by_cases h : a ∈ as
    · obtain ⟨q', b, h1, h2⟩ := he a h q
      exact ⟨(q', b), fun _ => ⟨h1, h2⟩⟩
    · exact ⟨(0, 0), fun z => absurd z h⟩
  let F := fun a q => Classical.choose (ch a q)
  have hF : ∀ a q, a ∈ as → P a (F a q).2 ∧ ∀ acc, elt (R q ++ [.sh (mk a), .ow acc]) = .ok (.int (F a q).2) (R (F a q).1 ++ [.sh (mk a), .ow acc]) := fun a q => Classical.choose_spec (ch a q)
  have h := (compS (elt := elt) mk R (fun _ _ => True) (fun q a => (F a q).1) (fun q a => .int (F a q).2) as p hlen hds (by omega) trivial (fun i a ha q acc _ => ⟨trivial, (hF a q (List.mem_of_getElem? ha)).2 acc⟩)).1
  have em : ∀ (as : List A) (s : Nat), outs (fun q a => (F a q).1) (fun q a => D.int (F a q).2) s as = (outs (fun q a => (F a q).1) (fun q a => (F a q).2) s as).map D.int := by
    intro as
    induction as with
    | nil => intro s; rfl
    | cons a as ih => intro s; simp [outs, ih]
  have ea : ∀ (bs : List A) (s : Nat), (∀ a ∈ bs, a ∈ as) → EachP P bs (outs (fun q a => (F a q).1) (fun q a => (F a q).2) s bs) := by
    intro bs
    induction bs with
    | nil => intro s _; exact .nil
    | cons a bs ih => intro s hb; exact .cons (hF a s (hb a List.mem_cons_self)).1 (ih _ fun x hx => hb x (List.mem_cons_of_mem _ hx))
  rw [em] at h
  exact ⟨_, _, h, ea as p fun a h => h⟩
theorem view_at (ns : List Int) (q a : Nat) (s : List Int) (hs : SI s) (w : Int) (w0 : 0 ≤ w) (w4 : w < 4) : ∃ (l : PL) (t : List Int) (q' : Nat), f_z12 [Row ns q, .int a, T s, .int w] = .ok (.tup [l.d, T t]) [Row ns q'] ∧ l.fine ∧ l.ns = [a] ∧ Pre t := by
  rw [f_z12, defn_at _ _ _ _ rfl]
  have hl := hs.1
  have hp := hs.pre
  have h0 := hs.prod0
  have t2 := fun q => taken_at ns q 2 (by omega)
  have t4 := fun q => taken_at ns q 4 (by omega)
  have ww : w = 0 ∨ w = 1 ∨ w = 2 ∨ w = 3 := by omega
  rcases ww with rfl | rfl | rfl | rfl
  ·
    have tm := taken_at ns q (max 1 (s.length : Int)) (by omega)
    have r1 : 0 ≤ cell ns q % max 1 (s.length : Int) := Int.emod_nonneg _ (by omega)
    generalize cell ns q % max 1 (s.length : Int) = tn at tm r1
    have er : rng1 [.int (s.length : Int)] = some ((List.range s.length).map fun (k : Nat) => .int k) := rng1_nat _ _ (by omega) (by omega) (by omega)
    have hc : mComp 1 (mRng1 [(mVar 4)]) (VP.gName 10) (VP.ret true) ce_l_view_1 [.io (Row ns (q + 1)), .sh (.int a), .sh (T s), .sh (.int 0), .sh (.int s.length), .sh (.int tn), .no, .no, .no, .no] = .ok (Z ((List.range s.length).map fun (k : Nat) => ((k : Int) + tn) % (s.length : Int))) [.io (Row ns (q + 1)), .sh (.int a), .sh (T s), .sh (.int 0), .sh (.int s.length), .sh (.int tn), .no, .no, .no, .no] := by
      refine compM (fun (k : Nat) => D.int k) (fun k => D.int (((k : Int) + tn) % s.length)) (List.range s.length) (by simp [er]) (by simp; omega) (by simp [Z, Function.comp_def]) fun k hk acc => ?_
      have hk' := List.mem_range.mp hk
      have md := modI_pos ((k : Int) + tn) s.length (by omega)
      simp [ce_l_view_1, md]
    have bd : ∀ x ∈ (List.range s.length).map fun (k : Nat) => ((k : Int) + tn) % (s.length : Int), 0 ≤ x ∧ x < s.length := fun x hx => by
      obtain ⟨k, hk, rfl⟩ := List.mem_map.mp hx
      have hk' := List.mem_range.mp hk
      exact ⟨Int.emod_nonneg _ (by omega), Int.emod_lt_of_pos _ (by omega)⟩
    have lo : ((List.range s.length).map fun (k : Nat) => ((k : Int) + tn) % (s.length : Int)).length ≤ 4 := by simp; omega
    generalize ((List.range s.length).map fun (k : Nat) => ((k : Int) + tn) % (s.length : Int)) = ord at hc bd lo
    have hc2 : ∀ (o : List Int) (q' : Nat), (∀ x ∈ o, 0 ≤ x ∧ x < (s.length : Int)) → o.length ≤ 4 → mComp 1 (mSeq (mVar 6)) (VP.gName 10) (VP.ret true) ce_l_view_2 [.io (Row ns q'), .sh (.int a), .sh (T s), .sh (.int 0), .sh (.int s.length), .sh (.int tn), .sh (Z o), .no, .no, .no] = .ok (Z (o.map fun x => s.getD x.toNat 0)) [.io (Row ns q'), .sh (.int a), .sh (T s), .sh (.int 0), .sh (.int s.length), .sh (.int tn), .sh (Z o), .no, .no, .no] := fun o q' hb hl' => by
      refine compM D.int (fun x => D.int (s.getD x.toNat 0)) o (by simp) (by omega) (by simp [Z, Function.comp_def]) fun x hx acc => ?_
      have := hb x hx
      have ix := ix_ints s x this.1 this.2
      simp [ce_l_view_2, ix]
    have tt := t2 (q + 1)
    by_cases c : cell ns (q + 1) % 2 = 1
    · have rv : revL (Z ord) = some (Z ord.reverse) := by simp [Z, revL]
      have h2 := hc2 ord.reverse (q + 2) (fun x hx => bd x (by simpa using hx)) (by simpa using lo)
      refine ⟨.turn a ord.reverse, ord.reverse.map fun x => s.getD x.toNat 0, q + 2, ?_, trivial, rfl, by simp; omega, fun x hx => ?_⟩
      · simp [b_z12, tm, hc, tt, c, rv, h2, PL.d, PL.k, PL.ps]
      · obtain ⟨y, _, rfl⟩ := List.mem_map.mp hx
        have := hs.get y.toNat; omega
    · have h2 := hc2 ord (q + 2) bd lo
      refine ⟨.turn a ord, ord.map fun x => s.getD x.toNat 0, q + 2, ?_, trivial, rfl, by simp; omega, fun x hx => ?_⟩
      · simp [b_z12, tm, hc, tt, c, h2, PL.d, PL.k, PL.ps]
      · obtain ⟨y, _, rfl⟩ := List.mem_map.mp hx
        have := hs.get y.toNat; omega
  ·
    have tm := taken_at ns q ((s.length : Int) + 1) (by omega)
    obtain ⟨k, hk, hk2⟩ : ∃ k : Nat, cell ns q % ((s.length : Int) + 1) = k ∧ k ≤ s.length := by
      have r1 : 0 ≤ cell ns q % ((s.length : Int) + 1) := Int.emod_nonneg _ (by omega)
      have r2 : cell ns q % ((s.length : Int) + 1) < (s.length : Int) + 1 := Int.emod_lt_of_pos _ (by omega)
      exact ⟨(cell ns q % ((s.length : Int) + 1)).toNat, by omega, by omega⟩
    rw [hk] at tm
    have c1 := cutTo s k hk2
    have c2 := cutFr s k hk2
    have a1 := addA_T (s.take k) [1] (by simp [LIM]; omega)
    have a2 := addA_T (s.take k ++ [1]) (s.drop k) (by simp [LIM]; omega)
    refine ⟨.wide a k, pin s k 1, q + 1, ?_, trivial, rfl, by simp [pin]; omega, fun x hx => ?_⟩
    · simp [b_z12, tm, c1, c2, tup1, a1, a2, PL.d, PL.k, PL.ps, pin, -cutA_T]
    · simp only [pin] at hx
      rcases List.mem_append.mp hx with hx | hx
      · have := hs.2.1 x (List.mem_of_mem_take hx); omega
      · rcases List.mem_cons.mp hx with rfl | hx
        · omega
        · have := hs.2.1 x (List.mem_of_mem_drop hx); omega
  ·
    obtain ⟨q1, ys, hc, he⟩ := comp_ints (it := mSeq (mVar 2)) (elt := ce_l_view_3) (k := 10) (r0 := [.io (Row ns q), .sh (.int a), .sh (T s), .sh (.int 2), .sh (.int s.length), .no, .no, .no, .no, .no]) D.int (fun q => [.io (Row ns q), .sh (.int a), .sh (T s), .sh (.int 2), .sh (.int s.length), .no, .no, .no, .no, .no]) (fun x y => 0 ≤ y ∧ y ≤ 24) s q (fun _ => rfl) (by simp) (by omega) (fun x hx q' => by
      have tt := t4 q'
      have hb := hs.2.1 x hx
      have i0 : ∀ a b : D, ixD [a, b] 0 = some a := fun _ _ => rfl
      have i1 : ∀ a b : D, ixD [a, b] 1 = some b := fun _ _ => rfl
      by_cases c : x = 1
      · refine ⟨q' + 1, cell ns q' % 4, by omega, fun acc => ?_⟩
        subst c
        simp [ce_l_view_3, tt, intD_bl, i1]
      · refine ⟨q' + 1, x, hb, fun acc => ?_⟩
        simp [ce_l_view_3, tt, intD_bl, c, i0])
    have hy : ∀ y ∈ ys, 0 ≤ y ∧ y ≤ 24 := fun y hy => by obtain ⟨_, _, h⟩ := he.right y hy; exact h
    have yl := he.len
    have tt := t2 q1
    by_cases c : cell ns q1 % 2 = 1
    · have t5 := t4 (q1 + 1)
      have ad := addA_T [cell ns (q1 + 1) % 4] ys (by simp [LIM]; omega)
      refine ⟨.spread a (cell ns (q1 + 1) % 4 :: ys), cell ns (q1 + 1) % 4 :: ys, q1 + 2, ?_, trivial, rfl, by simp; omega, fun x hx => ?_⟩
      · simp [b_z12, hc, tt, c, t5, tup1, ad, PL.d, PL.k, PL.ps]
      · rcases List.mem_cons.mp hx with rfl | hx
        · omega
        · have := hy x hx; omega
    · refine ⟨.spread a ys, ys, q1 + 1, ?_, trivial, rfl, by omega, fun x hx => by have := hy x hx; omega⟩
      simp [b_z12, hc, tt, c, PL.d, PL.k, PL.ps]
  ·
    have cl := cellsT s hp
    have tt := t4 q
    have rv : revT (T s) = some (T s.reverse) := by simp [T, revT]
    have hpr := hs.2.2
    obtain ⟨t, ht, hpt⟩ : ∃ t, ixD [T s.reverse, T [prodR s], T [1, prodR s], T [prodR s, 1]] (cell ns q % 4) = some (T t) ∧ Pre t := by
      have c4 : cell ns q % 4 = 0 ∨ cell ns q % 4 = 1 ∨ cell ns q % 4 = 2 ∨ cell ns q % 4 = 3 := by omega
      rcases c4 with c | c | c | c <;> rw [c]
      · exact ⟨s.reverse, rfl, by simp; omega, fun x hx => by have := hs.2.1 x (by simpa using hx); omega⟩
      · exact ⟨[prodR s], rfl, by simp, fun x hx => by simp at hx; subst hx; omega⟩
      · exact ⟨[1, prodR s], rfl, by simp, fun x hx => by simp at hx; omega⟩
      · exact ⟨[prodR s, 1], rfl, by simp, fun x hx => by simp at hx; omega⟩
    refine ⟨.shape a t, t, q + 1, ?_, trivial, rfl, hpt⟩
    have e1 : ∀ x : Int, D.tup [.int x] = T [x] := fun _ => rfl
    have e2 : ∀ x y : Int, D.tup [.int x, .int y] = T [x, y] := fun _ _ => rfl
    have tu : ∀ x y : Int, tupD [.int x, .int y] = some (T [x, y]) := fun _ _ => rfl
    simp [b_z12, cl, tt, rv, e1, e2, tu, ht, PL.d, PL.k, PL.ps]
theorem changedT (s : List Int) (k : Nat) (x : Int) (hk : k < s.length) (hl : s.length ≤ 100) : f_z3 [T s, .int k, .int x] = .ok (T (rep s k x)) [] := by
  rw [f_z3, defn_at _ _ _ _ rfl]
  have a1 := addA_T (s.take k) [x] (by simp [LIM]; omega)
  have a2 := addA_T (s.take k ++ [x]) (s.drop (k + 1)) (by simp [LIM]; omega)
  have c1 := cutTo s k (by omega)
  have c2 := cutFr s (k + 1) (by omega)
  rw [show (((k + 1 : Nat)) : Int) = (k : Int) + 1 by omega] at c2
  simp [b_z3, c1, c2, tup1, a1, a2, rep, -cutA_T]
theorem rep_of {s : List Int} {k : Nat} {x : Int} (h : Pre s) (hx : 0 ≤ x ∧ x ≤ 100) (hk : k < s.length) : Pre (rep s k x) := by
  refine ⟨by have := h.1; simp [rep]; omega, fun y hy => ?_⟩
  simp only [rep] at hy
  rcases List.mem_append.mp hy with hy | hy
  · exact h.2 y (List.mem_of_mem_take hy)
  · rcases List.mem_cons.mp hy with rfl | hy
    · exact hx
    · exact h.2 y (List.mem_of_mem_drop hy)
theorem wo_of {s : List Int} {k : Nat} (h : Pre s) : Pre (wo s k) := by
  refine ⟨by have := h.1; simp [wo]; omega, fun y hy => ?_⟩
  simp only [wo] at hy
  rcases List.mem_append.mp hy with hy | hy
  · exact h.2 y (List.mem_of_mem_take hy)
  · exact h.2 y (List.mem_of_mem_drop hy)
theorem pickF (m : Int) (h0 : 0 ≤ m) (h4 : m < 4) : ∃ d, d < 32 ∧ ixD [.str (nm 19), .str (nm 21), .str (nm 22), .str (nm 23)] m = some (.str (nm d)) := by
  have : m = 0 ∨ m = 1 ∨ m = 2 ∨ m = 3 := by omega
  rcases this with rfl | rfl | rfl | rfl
  · exact ⟨19, by omega, rfl⟩
  · exact ⟨21, by omega, rfl⟩
  · exact ⟨22, by omega, rfl⟩
  · exact ⟨23, by omega, rfl⟩
theorem sided_at (ns : List Int) (q a : Nat) (s : List Int) (hs : SI s) (hne : s ≠ []) (w : Int) (w0 : 4 ≤ w) (w9 : w < 9) : ∃ (l : PL) (t : List Int) (q' : Nat), f_z9 [Row ns q, .int a, T s, .int w] = .ok (.tup [l.d, T t]) [Row ns q'] ∧ l.fine ∧ l.ns = [a] ∧ Pre t := by
  rw [f_z9, defn_at _ _ _ _ rfl]
  have hl := hs.1
  have hp := hs.pre
  have hn := List.length_pos_iff.mpr hne
  have ts := taken_at ns q s.length (by omega)
  obtain ⟨j, hj, hj2⟩ : ∃ j : Nat, cell ns q % (s.length : Int) = j ∧ j < s.length := by
    have r1 : 0 ≤ cell ns q % (s.length : Int) := Int.emod_nonneg _ (by omega)
    have r2 : cell ns q % (s.length : Int) < s.length := Int.emod_lt_of_pos _ (by omega)
    exact ⟨(cell ns q % (s.length : Int)).toNat, by omega, by omega⟩
  rw [hj] at ts
  have ix := ix_ints s j (by omega) (by omega)
  rw [Int.toNat_natCast] at ix
  have sb := hs.get j
  generalize hz : s.getD j 0 = z at ix sb
  have t9 := taken_at ns (q + 1) 9 (by omega)
  have t4 := taken_at ns (q + 1) 4 (by omega)
  have tR := taken_at ns (q + 2) 1000003 (by omega)
  have c1 := cutTo s j (by omega)
  have c2 := cutFr s (j + 1) (by omega)
  rw [show (((j + 1 : Nat)) : Int) = (j : Int) + 1 by omega] at c2
  have a1 := addA_T (s.take j) (s.drop (j + 1)) (by simp [LIM]; omega)
  have ww : w = 4 ∨ w = 5 ∨ w = 6 ∨ w = 7 ∨ w = 8 := by omega
  by_cases c4 : w = 4
  · subst c4
    exact ⟨.shift a j (cell ns (q + 1) % 9 - 4) (cell ns (q + 2) % 1000003), s, q + 3, by simp [b_z9, ts, ix, t9, tR, PL.d, PL.k, PL.ps], trivial, rfl, hp⟩
  by_cases c5 : w = 5
  · subst c5
    have i2 : ixD [.int 2, .int 4] (if 0 < z then 1 else 0) = some (.int (if 0 < z then 4 else 2)) := by split <;> rfl
    have md := modI_pos (cell ns (q + 1) % 4) (if 0 < z then 4 else 2) (by split <;> omega)
    obtain ⟨d, hd, id⟩ := pickF (cell ns (q + 1) % 4 % (if 0 < z then 4 else 2)) (by split <;> omega) (by split <;> omega)
    refine ⟨.fold d a j, wo s j, q + 2, ?_, hd, rfl, wo_of hp⟩
    simp [b_z9, ts, ix, t4, intD_bl, i2, md, id, c1, c2, a1, wo, PL.d, PL.k, PL.ps, -cutA_T]
  by_cases c6 : w = 6
  · subst c6
    obtain ⟨d, hd, id⟩ := pickF (cell ns (q + 1) % 4) (by omega) (by omega)
    exact ⟨.run d a j, s, q + 2, by simp [b_z9, ts, ix, t4, id, PL.d, PL.k, PL.ps], hd, rfl, hp⟩
  by_cases z0 : z = 0
  · subst z0
    exact ⟨.one 18 a, s, q + 1, by simp [b_z9, ts, ix, c4, c5, c6, PL.d, PL.k, PL.ps], by simp [PL.fine], rfl, hp⟩
  have tz := taken_at ns (q + 1) z (by omega)
  have b0 : 0 ≤ cell ns (q + 1) % z := Int.emod_nonneg _ (by omega)
  have b1 : cell ns (q + 1) % z < z := Int.emod_lt_of_pos _ (by omega)
  generalize cell ns (q + 1) % z = b at tz b0 b1
  by_cases c7 : w = 7
  · subst c7
    refine ⟨.drop a j b, wo s j, q + 2, ?_, trivial, rfl, wo_of hp⟩
    simp [b_z9, ts, ix, z0, tz, c1, c2, a1, wo, PL.d, PL.k, PL.ps, -cutA_T]
  · have t3 := taken_at ns (q + 2) 3 (by omega)
    have t2 := taken_at ns (q + 3) 2 (by omega)
    obtain ⟨st, hst⟩ : ∃ st, 1 + cell ns (q + 2) % 3 = st := ⟨_, rfl⟩
    have hst3 : 1 ≤ st ∧ st ≤ 3 := by omega
    have f1 := fdivI_pos (z - 1 - b) st (by omega) (by omega)
    have f2 := fdivI_pos b st (by omega) (by omega)
    have k1 : 0 ≤ (z - 1 - b) / st := Int.ediv_nonneg (by omega) (by omega)
    have k2 : (z - 1 - b) / st ≤ z - 1 - b := Int.ediv_le_self _ (by omega)
    have k3 : 0 ≤ b / st := Int.ediv_nonneg (by omega) (by omega)
    have k4 : b / st ≤ b := Int.ediv_le_self _ (by omega)
    by_cases c : cell ns (q + 3) % 2 = 1
    · have tm := taken_at ns (q + 4) (b / st + 2) (by omega)
      have m0 : 0 ≤ cell ns (q + 4) % (b / st + 2) := Int.emod_nonneg _ (by omega)
      have m1 : cell ns (q + 4) % (b / st + 2) < b / st + 2 := Int.emod_lt_of_pos _ (by omega)
      generalize cell ns (q + 4) % (b / st + 2) = m at tm m0 m1
      have ch := changedT s j (b / st + 1 - m) hj2 (by omega)
      refine ⟨.cut a j b (0 - st) (b / st + 1 - m), rep s j (b / st + 1 - m), q + 5, ?_, trivial, rfl, rep_of hp (by omega) hj2⟩
      simp [b_z9, ts, ix, c4, c5, c6, c7, z0, tz, t3, hst, f1, f2, t2, c, tm, ch, PL.d, PL.k, PL.ps]
    · have tm := taken_at ns (q + 4) ((z - 1 - b) / st + 2) (by omega)
      have m0 : 0 ≤ cell ns (q + 4) % ((z - 1 - b) / st + 2) := Int.emod_nonneg _ (by omega)
      have m1 : cell ns (q + 4) % ((z - 1 - b) / st + 2) < (z - 1 - b) / st + 2 := Int.emod_lt_of_pos _ (by omega)
      generalize cell ns (q + 4) % ((z - 1 - b) / st + 2) = m at tm m0 m1
      have ch := changedT s j ((z - 1 - b) / st + 1 - m) hj2 (by omega)
      refine ⟨.cut a j b st ((z - 1 - b) / st + 1 - m), rep s j ((z - 1 - b) / st + 1 - m), q + 5, ?_, trivial, rfl, rep_of hp (by omega) hj2⟩
      simp [b_z9, ts, ix, c4, c5, c6, c7, z0, tz, t3, hst, f1, t2, c, tm, ch, PL.d, PL.k, PL.ps]
theorem back_bd (s : List Int) (h : ∀ x ∈ s, 0 ≤ x ∧ x ≤ 24) (k : Nat) : 0 ≤ back s k ∧ back s k ≤ 24 := by
  unfold back
  split
  · rename_i hk
    have h2 : s.length - 1 - k < s.length := by omega
    have := h s[s.length - 1 - k] (List.getElem_mem h2)
    simpa [h2] using this
  · omega
theorem meet_bd {s t m : List Int} (h1 : ∀ x ∈ s, 0 ≤ x ∧ x ≤ 24) (h2 : ∀ x ∈ t, 0 ≤ x ∧ x ≤ 24) (h : meet s t = some m) : ∀ x ∈ m, 0 ≤ x ∧ x ≤ 24 := fun x hx => by
  unfold meet at h
  split at h
  · cases h
    rw [List.mem_reverse] at hx
    obtain ⟨p, hp, rfl⟩ := List.mem_map.mp hx
    unfold pairs at hp
    obtain ⟨k, _, rfl⟩ := List.mem_map.mp hp
    have := back_bd s h1 k
    have := back_bd t h2 k
    unfold pk
    dsimp only
    split <;> omega
  · cases h
theorem meet_self (s : List Int) : ∃ m, meet s s = some m := by
  unfold meet
  rw [if_pos]
  · exact ⟨_, rfl⟩
  · rw [List.all_eq_true]
    intro p hp
    unfold pairs at hp
    obtain ⟨k, _, rfl⟩ := List.mem_map.mp hp
    simp [okk]
def SIs (ss : List (List Int)) : Prop := ∀ s ∈ ss, SI s
theorem SIs.at {ss : List (List Int)} (h : SIs ss) {i : Nat} (hi : i < ss.length) : SI (sd ss i) := by
  have : sd ss i = ss[i] := by simp [sd, hi]
  rw [this]; exact h _ (List.getElem_mem hi)
theorem pickD (m : Int) (h0 : 0 ≤ m) (h3 : m < 3) : ∃ d, d < 32 ∧ ixD [.str (nm 16), .str (nm 17), .str (nm 18)] m = some (.str (nm d)) := by
  have : m = 0 ∨ m = 1 ∨ m = 2 := by omega
  rcases this with rfl | rfl | rfl
  · exact ⟨16, by omega, rfl⟩
  · exact ⟨17, by omega, rfl⟩
  · exact ⟨18, by omega, rfl⟩
theorem pickB (m : Int) (h0 : 0 ≤ m) (h7 : m < 7) : ∃ d, d < 32 ∧ ixD [.str (nm 19), .str (nm 20), .str (nm 21), .str (nm 22), .str (nm 23), .str (nm 24), .str (nm 25)] m = some (.str (nm d)) := by
  have : m = 0 ∨ m = 1 ∨ m = 2 ∨ m = 3 ∨ m = 4 ∨ m = 5 ∨ m = 6 := by omega
  rcases this with rfl | rfl | rfl | rfl | rfl | rfl | rfl
  · exact ⟨19, by omega, rfl⟩
  · exact ⟨20, by omega, rfl⟩
  · exact ⟨21, by omega, rfl⟩
  · exact ⟨22, by omega, rfl⟩
  · exact ⟨23, by omega, rfl⟩
  · exact ⟨24, by omega, rfl⟩
  · exact ⟨25, by omega, rfl⟩
theorem nT (s : List Int) : isNon (T s) = false := rfl
theorem drawn (ns : List Int) (q n : Nat) (h : 0 < n) : ∃ b : Nat, cell ns q % (n : Int) = b ∧ b < n := by
  have r1 : 0 ≤ cell ns q % (n : Int) := Int.emod_nonneg _ (by omega)
  have r2 : cell ns q % (n : Int) < n := Int.emod_lt_of_pos _ (by omega)
  exact ⟨(cell ns q % (n : Int)).toNat, by omega, by omega⟩
theorem more_at (ns : List Int) (q a ix_ : Nat) (ss : List (List Int)) (hss : SIs ss) (ha : a < ss.length) (hi : ix_ < ss.length) (h1 : (sd ss ix_).length = 1) (w : Int) (w4 : 4 ≤ w) (w15 : w < 15) (hw : w < 9 → sd ss a = []) :
    ∃ (l : PL) (t : List Int) (q' : Nat), f_z6 [Row ns q, .int a, Sl_ ss, .int w, .int ix_] = .ok (.tup [l.d, T t]) [Row ns q', Sl_ ss] ∧ l.fine ∧ (∀ r ∈ l.ns, r < ss.length) ∧ Pre t := by
  rw [f_z6, defn_at _ _ _ _ rfl]
  have ia := ix_sd ss a ha
  have hs := hss.at ha
  have hl := hs.1
  have hp := hs.pre
  have ln := lenD_Sl ss
  have tb := taken_at ns q ss.length (by omega)
  obtain ⟨b, hb, hb2⟩ := drawn ns q ss.length (by omega)
  rw [hb] at tb
  have ib := ix_sd ss b hb2
  have ii := ix_sd ss ix_ hi
  have hsb := hss.at hb2
  have hsi := hss.at hi
  by_cases c9 : w = 9
  · subst c9
    have t3 := taken_at ns (q + 1) 3 (by omega)
    obtain ⟨d, hd, id⟩ := pickD (cell ns (q + 1) % 3) (by omega) (by omega)
    exact ⟨.one d a, sd ss a, q + 2, by simp [b_z6, ia, ln, tb, t3, id, PL.d, PL.k, PL.ps], hd, fun r hr => by simp [PL.ns] at hr; omega, hp⟩
  by_cases c10 : w = 10
  · subst c10
    have t7 := taken_at ns (q + 1) 7 (by omega)
    obtain ⟨d, hd, id⟩ := pickB (cell ns (q + 1) % 7) (by omega) (by omega)
    have m1 := l_met_at (sd ss a) (sd ss b) hl hsb.1
    cases e : meet (sd ss a) (sd ss b) with
    | none =>
      rw [e] at m1
      have m2 := l_met_at (sd ss a) (sd ss a) hl hl
      obtain ⟨m, em⟩ := meet_self (sd ss a)
      rw [em] at m2
      have ml := meet_len em
      have mb := meet_bd hs.2.1 hs.2.1 em
      refine ⟨.both d a a, m, q + 2, ?_, hd, fun r hr => by simp [PL.ns] at hr; omega, by omega, fun x hx => by have := mb x hx; omega⟩
      simp only [optT] at m1 m2
      simp [b_z6, ia, ib, ln, tb, t7, id, m1, m2, PL.d, PL.k, PL.ps]
    | some m =>
      rw [e] at m1
      have ml := meet_len e
      have hbl := hsb.1
      have mb := meet_bd hs.2.1 hsb.2.1 e
      refine ⟨.both d a b, m, q + 2, ?_, hd, fun r hr => by simp [PL.ns] at hr; omega, by omega, fun x hx => by have := mb x hx; omega⟩
      simp only [optT] at m1
      simp [b_z6, ia, ib, ln, tb, t7, id, m1, nT, PL.d, PL.k, PL.ps]
  by_cases c11 : w = 11
  · subst c11
    have tc := taken_at ns (q + 1) ss.length (by omega)
    obtain ⟨c, hc, hc2⟩ := drawn ns (q + 1) ss.length (by omega)
    rw [hc] at tc
    have ic := ix_sd ss c hc2
    have hsc := hss.at hc2
    have m1 := l_met_at (sd ss a) (sd ss b) hl hsb.1
    cases e : meet (sd ss a) (sd ss b) with
    | none =>
      rw [e] at m1
      simp only [optT] at m1
      exact ⟨.wher a a a, sd ss a, q + 2, by simp [b_z6, ia, ib, ln, tb, tc, m1, PL.d, PL.k, PL.ps], trivial, fun r hr => by simp [PL.ns] at hr; omega, hp⟩
    | some m =>
      rw [e] at m1
      have ml := meet_len e
      have hbl := hsb.1
      have mb := meet_bd hs.2.1 hsb.2.1 e
      have m2 := l_met_at m (sd ss c) (by omega) hsc.1
      cases e2 : meet m (sd ss c) with
      | none =>
        rw [e2] at m2
        simp only [optT] at m1 m2
        exact ⟨.wher a a a, sd ss a, q + 2, by simp [b_z6, ia, ib, ic, ln, tb, tc, m1, m2, nT, PL.d, PL.k, PL.ps], trivial, fun r hr => by simp [PL.ns] at hr; omega, hp⟩
      | some n =>
        rw [e2] at m2
        simp only [optT] at m1 m2
        have nl := meet_len e2
        have hcl := hsc.1
        have nb := meet_bd mb hsc.2.1 e2
        exact ⟨.wher b a c, n, q + 2, by simp [b_z6, ia, ib, ic, ln, tb, tc, m1, m2, nT, PL.d, PL.k, PL.ps], trivial, fun r hr => by simp [PL.ns] at hr; omega, by omega, fun x hx => by have := nb x hx; omega⟩
  by_cases c12 : w = 12
  · subst c12
    have t3 := taken_at ns (q + 1) 3 (by omega)
    obtain ⟨n, hn, hn3⟩ := drawn ns (q + 1) 3 (by omega)
    have er : rng1 [.int (cell ns (q + 1) % 3)] = some ((List.range n).map fun (k : Nat) => .int k) := rng1_nat _ _ (by omega) (by omega) (by omega)
    obtain ⟨q1, ys, hc, he⟩ := comp_ints (it := mRng1 [(mCall f_z10 [.io 0, .val (mC (.int 3))])]) (elt := ce_l_more_1) (k := 11) (r0 := [.io (Row ns (q + 1)), .sh (.int a), .io (Sl_ ss), .sh (.int 12), .sh (.int ix_), .sh (T (sd ss a)), .sh (.int b), .no, .no, .no, .no]) (fun (k : Nat) => D.int k) (fun q => [.io (Row ns q), .sh (.int a), .io (Sl_ ss), .sh (.int 12), .sh (.int ix_), .sh (T (sd ss a)), .sh (.int b), .no, .no, .no, .no]) (fun _ y => 0 ≤ y ∧ y ≤ 24) (List.range n) (q + 2) (fun _ => rfl) (by simp [t3, er]) (by simp; omega) (fun k _ q' => by
      have tt := taken_at ns q' 3 (by omega)
      exact ⟨q' + 1, 1 + cell ns q' % 3, by omega, fun acc => by simp [ce_l_more_1, tt]⟩)
    have hy : ∀ y ∈ ys, 0 ≤ y ∧ y ≤ 24 := fun y hy => by obtain ⟨_, _, h⟩ := he.right y hy; exact h
    have yl := he.len
    simp only [List.length_range] at yl
    have tR := taken_at ns q1 1000003 (by omega)
    exact ⟨.even ys (cell ns q1 % 1000003), ys, q1 + 1, by simp [b_z6, ia, ln, tb, hc, tR, PL.d, PL.k, PL.ps], trivial, fun r hr => by simp [PL.ns] at hr, by omega, fun x hx => by have := hy x hx; omega⟩
  by_cases c0 : sd ss a = []
  · rw [c0] at ia hp
    exact ⟨.one 16 a, [], q + 1, by simp [b_z6, ia, ln, tb, c9, c10, c11, c12, tup0, PL.d, PL.k, PL.ps], by simp [PL.fine], fun r hr => by simp [PL.ns] at hr; omega, hp⟩
  have hn := List.length_pos_iff.mpr c0
  have w9 : ¬ w < 9 := fun z => c0 (hw z)
  have tj := taken_at ns (q + 1) (sd ss a).length (by omega)
  obtain ⟨j, hj, hj2⟩ := drawn ns (q + 1) (sd ss a).length (by omega)
  rw [hj] at tj
  have ga := hs.get j
  by_cases c13 : w = 13
  · subst c13
    have t5 := taken_at ns (q + 2) 5 (by omega)
    have fin : ∀ e : Nat, e < ss.length → (sd ss e).length = 1 → itemD (T (sd ss e)) (.int 0) = some (.int ((sd ss e).getD 0 0)) ∧ f_z3 [T (sd ss a), .int j, .int ((sd ss e).getD 0 0)] = .ok (T (rep (sd ss a) j ((sd ss e).getD 0 0))) [] ∧ Pre (rep (sd ss a) j ((sd ss e).getD 0 0)) := fun e he hl1 => by
      have g := (hss.at he).get 0
      have ixe := ix_ints (sd ss e) 0 (by omega) (by omega)
      refine ⟨by rw [itemD_T]; exact ixe, changedT _ _ _ hj2 (by omega), rep_of hp (by omega) hj2⟩
    by_cases k5 : cell ns (q + 2) % 5 < 4
    · obtain ⟨f1, f2, f3⟩ := fin ix_ hi h1
      generalize (sd ss ix_).getD 0 0 = v at *
      exact ⟨.pick a j ix_, _, q + 3, by simp [b_z6, ia, ii, ln, tb, c0, tup0, tj, t5, k5, f1, f2, PL.d, PL.k, PL.ps, -itemD_T], trivial, fun r hr => by simp [PL.ns] at hr; omega, f3⟩
    · by_cases kb : (sd ss b).length = 1
      · obtain ⟨f1, f2, f3⟩ := fin b hb2 kb
        have kb' : ((sd ss b).length : Int) = 1 := by omega
        generalize (sd ss b).getD 0 0 = v at *
        exact ⟨.pick a j b, _, q + 3, by simp [b_z6, ia, ib, ln, tb, c0, tup0, tj, t5, k5, kb', kb, f1, f2, PL.d, PL.k, PL.ps, -itemD_T], trivial, fun r hr => by simp [PL.ns] at hr; omega, f3⟩
      · obtain ⟨f1, f2, f3⟩ := fin ix_ hi h1
        have kb' : ¬ ((sd ss b).length : Int) = 1 := by omega
        generalize (sd ss ix_).getD 0 0 = v at *
        exact ⟨.pick a j ix_, _, q + 3, by simp [b_z6, ia, ib, ii, ln, tb, c0, tup0, tj, t5, k5, kb', kb, f1, f2, PL.d, PL.k, PL.ps, -itemD_T], trivial, fun r hr => by simp [PL.ns] at hr; omega, f3⟩
  · have c14 : w = 14 := by omega
    subst c14
    have i1 := ix_ints (sd ss a) j (by omega) (by omega)
    rw [Int.toNat_natCast] at i1
    have i1' : itemD (T (sd ss a)) (.int (j : Int)) = some (.int ((sd ss a).getD j 0)) := by rw [itemD_T]; exact i1
    have fin : ∀ e : Nat, e < ss.length → (sd ss e).length = (sd ss a).length → itemD (T (sd ss e)) (.int (j : Int)) = some (.int ((sd ss e).getD j 0)) ∧ f_z3 [T (sd ss a), .int j, .int ((sd ss a).getD j 0 + (sd ss e).getD j 0)] = .ok (T (rep (sd ss a) j ((sd ss a).getD j 0 + (sd ss e).getD j 0))) [] ∧ Pre (rep (sd ss a) j ((sd ss a).getD j 0 + (sd ss e).getD j 0)) := fun e he hl1 => by
      have g := (hss.at he).get j
      have ixe := ix_ints (sd ss e) j (by omega) (by omega)
      rw [Int.toNat_natCast] at ixe
      refine ⟨by rw [itemD_T]; exact ixe, changedT _ _ _ hj2 (by omega), rep_of hp (by omega) hj2⟩
    have ch0 := changedT (sd ss a) j 0 hj2 (by omega)
    by_cases kl : (sd ss b).length = (sd ss a).length
    · have kl' : ((sd ss b).length : Int) = (sd ss a).length := by omega
      have ch1 := changedT (sd ss b) j 0 (by omega) (by have := hsb.1; omega)
      by_cases kr : rep (sd ss a) j 0 = rep (sd ss b) j 0
      · obtain ⟨f1, f2, f3⟩ := fin b hb2 kl
        refine ⟨.join a b j, _, q + 2, ?_, trivial, fun r hr => by simp [PL.ns] at hr; omega, f3⟩
        rw [← kr] at ch1
        generalize rep (sd ss a) j 0 = r0 at *
        generalize (sd ss a).getD j 0 = v3 at *
        generalize (sd ss b).getD j 0 = v2 at *
        simp [b_z6, ia, ib, ln, tb, c0, tup0, tj, kl', kl, ch0, ch1, i1', f1, f2, PL.d, PL.k, PL.ps, -itemD_T]
      · obtain ⟨f1, f2, f3⟩ := fin a ha rfl
        refine ⟨.join a a j, _, q + 2, ?_, trivial, fun r hr => by simp [PL.ns] at hr; omega, f3⟩
        generalize rep (sd ss a) j 0 = r0 at *
        generalize rep (sd ss b) j 0 = r1 at *
        generalize (sd ss a).getD j 0 = v3 at *
        simp [b_z6, ia, ib, ln, tb, c0, tup0, tj, kl', kl, ch0, ch1, kr, i1', f2, PL.d, PL.k, PL.ps, -itemD_T]
    · obtain ⟨f1, f2, f3⟩ := fin a ha rfl
      have kl' : ¬ ((sd ss b).length : Int) = (sd ss a).length := by omega
      refine ⟨.join a a j, _, q + 2, ?_, trivial, fun r hr => by simp [PL.ns] at hr; omega, f3⟩
      generalize (sd ss a).getD j 0 = v3 at *
      simp [b_z6, ia, ib, ln, tb, c0, tup0, tj, kl', kl, i1', f2, PL.d, PL.k, PL.ps, -itemD_T]
def mxl : List Int → Int
  | [] => 0
  | i :: is => is.foldl (fun a b => if a < b then b else a) i
theorem fold_mx : ∀ (is : List Int) (a : Int), a ≤ is.foldl (fun a b => if a < b then b else a) a ∧ ∀ x ∈ is, x ≤ is.foldl (fun a b => if a < b then b else a) a
  | [], a => ⟨by simp, fun x hx => by simp at hx⟩
  | i :: is, a => by
    obtain ⟨h1, h2⟩ := fold_mx is (if a < i then i else a)
    simp only [List.foldl_cons]
    generalize is.foldl (fun a b => if a < b then b else a) (if a < i then i else a) = z at *
    refine ⟨by split at h1 <;> omega, fun x hx => ?_⟩
    rcases List.mem_cons.mp hx with rfl | hx
    · split at h1 <;> omega
    · exact h2 x hx
theorem mxl_le {t : List Int} (h : mxl t ≤ 24) : ∀ x ∈ t, x ≤ 24 := fun x hx => by
  cases t with
  | nil => simp at hx
  | cons i is =>
    obtain ⟨h1, h2⟩ := fold_mx is i
    have e : mxl (i :: is) = is.foldl (fun a b => if a < b then b else a) i := rfl
    rcases List.mem_cons.mp hx with rfl | hx
    · omega
    · have := h2 x hx; omega
theorem maxD_T (t : List Int) : maxDef (T t) (.int 0) = some (.int (mxl t)) := by rw [maxDef_T]; cases t <;> rfl
def Fp (ns : List Int) (gs : List (List Int)) (c tn ix_ : Int) (ls : List PL) (ss : List (List Int)) (q : Nat) (s2 s3 s9 s10 s11 : Sl) : Rho := [.io (Row ns q), .ow (Sl_ gs), s2, s3, .sh (.int c), .sh (.int tn), .ow (Pg ls), .ow (Sl_ ss), .sh (.int ix_), s9, s10, s11]
structure Gd (gs : List (List Int)) (ls : List PL) (ss : List (List Int)) (ix_ : Nat) : Prop where
  len : ss.length = ls.length
  wf : Wf ls
  fine : ∀ l ∈ ls, l.fine
  si : SIs ss
  ix : ix_ < ss.length
  one : (sd ss ix_).length = 1
  ne : ls ≠ []
theorem Gd.more {gs : List (List Int)} {ls : List PL} {ss : List (List Int)} {ix_ : Nat} (g : Gd gs ls ss ix_) {l : PL} {t : List Int} (hl : ∀ r ∈ l.ns, r < ss.length) (hf : l.fine) (ht : SI t) : Gd gs (ls ++ [l]) (ss ++ [t]) ix_ := by
  refine ⟨by simp [g.len], fun i x hx r hr => ?_, fun x hx => ?_, fun x hx => ?_, by simp; have := g.ix; omega, ?_, by simp⟩
  · by_cases h : i < ls.length
    · rw [List.getElem?_append_left h] at hx; exact g.wf i x hx r hr
    · rw [List.getElem?_append_right (by omega)] at hx
      have : i - ls.length = 0 := by
        have := (List.getElem?_eq_some_iff.mp hx).1
        simp at this; omega
      rw [this] at hx
      simp at hx
      subst hx
      have := hl r hr
      have := g.len
      omega
  · rcases List.mem_append.mp hx with hx | hx
    · exact g.fine x hx
    · have : x = l := by simpa using hx
      subst this; exact hf
  · rcases List.mem_append.mp hx with hx | hx
    · exact g.si x hx
    · have : x = t := by simpa using hx
      subst this; exact ht
  · have h := g.ix
    have e : sd (ss ++ [t]) ix_ = sd ss ix_ := by
      unfold sd; rw [List.getD_eq_getElem?_getD, List.getElem?_append_left h, List.getD_eq_getElem?_getD]
    rw [e]; exact g.one
theorem found_at (ns : List Int) (gs : List (List Int)) (hgs : SIs gs) (tn : Int) (ix_ : Nat) (ls : List PL) (ss : List (List Int)) (g : Gd gs ls ss ix_) (q : Nat) (s2 s3 s11 : Sl) (h11 : free (some s11) = true) (a : Nat) (ha : a < ss.length) (w : Int) (w0 : 0 ≤ w) (w16 : w < 16) (hg : 0 < gs.length) (G : M Fl)
    (hG : G = (VP.sIf (VP.tB (m2 ltI (mVar 10) (mC (.int 4)))) (sSeq (sSet 11 (mCall f_z12 [.io 0, .val (mVar 9), .val (mIxO 7 (mVar 9)), .val (mVar 10)]))
    sNx) (sSeq (VP.sIf (VP.tAnd (VP.tB (m2 ltI (mVar 10) (mC (.int 9)))) (VP.tB (m2 neG (mIxO 7 (mVar 9)) (mTup [])))) (sSeq (sSet 11 (mCall f_z9 [.io 0, .val (mVar 9), .val (mIxO 7 (mVar 9)), .val (mVar 10)]))
    sNx) (sSeq (VP.sIf (VP.tB (m2 eqG (mVar 10) (mC (.int 15)))) (sSeq (sSet 11 (mTup [(mTup [(mC (.str (nm 0))), (m2 modI (mVar 9) (mVar 4))]), (mIxO 1 (m2 modI (mVar 9) (mVar 4)))]))
    sNx) (sSeq (sSet 11 (mCall f_z6 [.io 0, .val (mVar 9), .io 7, .val (mVar 10), .val (mVar 8)]))
    sNx))
    sNx))
    sNx))) : ∃ (l : PL) (t : List Int) (q' : Nat), G (Fp ns gs gs.length tn ix_ ls ss q s2 s3 (.sh (.int a)) (.sh (.int w)) s11) = .ok .nx (Fp ns gs gs.length tn ix_ ls ss q' s2 s3 (.sh (.int a)) (.sh (.int w)) (.sh (.tup [l.d, T t]))) ∧ l.fine ∧ (∀ r ∈ l.ns, r < ss.length) ∧ Pre t := by
  subst hG
  have ia := ix_sd ss a ha
  have hs := g.si.at ha
  by_cases c1 : w < 4
  · obtain ⟨l, t, q', e, h1, h2, h3⟩ := view_at ns q a (sd ss a) hs w w0 c1
    refine ⟨l, t, q', ?_, h1, fun r hr => by rw [h2] at hr; simp at hr; omega, h3⟩
    generalize l.d = ld at *
    simp [Fp, c1, ia, e, h11]
  · by_cases c2 : w < 9 ∧ sd ss a ≠ []
    · obtain ⟨l, t, q', e, h1, h2, h3⟩ := sided_at ns q a (sd ss a) hs c2.2 w (by omega) c2.1
      refine ⟨l, t, q', ?_, h1, fun r hr => by rw [h2] at hr; simp at hr; omega, h3⟩
      generalize l.d = ld at *
      have c22 := c2.2
      simp [Fp, c1, c2.1, c22, tup0, ia, e, h11]
    · by_cases c3 : w = 15
      · subst c3
        have md := modI_pos a gs.length (by omega)
        obtain ⟨b, hb⟩ : ∃ b, b = a % gs.length := ⟨_, rfl⟩
        have hbn : b < gs.length := by rw [hb]; exact Nat.mod_lt _ hg
        have eb : ((a : Int) % (gs.length : Int)) = (b : Int) := by rw [hb]; simp
        rw [eb] at md
        have ib := ix_sd gs b hbn
        have hb' := hgs.at hbn
        refine ⟨.given b, sd gs b, q, ?_, trivial, fun r hr => by simp [PL.ns] at hr, hb'.pre⟩
        simp [Fp, md, ib, h11, PL.d, PL.k, PL.ps]
      · obtain ⟨l, t, q', e, h1, h2, h3⟩ := more_at ns q a ix_ ss g.si ha g.ix g.one w (by omega) (by omega) (fun z => by
          cases e : sd ss a with
          | nil => rfl
          | cons x r => exact absurd ⟨z, by rw [e]; simp⟩ c2)
        refine ⟨l, t, q', ?_, h1, h2, h3⟩
        generalize l.d = ld at *
        by_cases c4 : w < 9
        · have c5 : sd ss a = [] := by
            cases e : sd ss a with
            | nil => rfl
            | cons x r => exact absurd ⟨c4, by rw [e]; simp⟩ c2
          rw [c5] at ia
          simp [Fp, c1, c4, tup0, ia, c3, e, h11]
        · simp [Fp, c1, c4, c3, e, h11]
theorem turn5 (ns : List Int) (gs : List (List Int)) (hgs : SIs gs) (hg : 0 < gs.length) (tn : Int) (ix_ : Nat) (ls : List PL) (ss : List (List Int)) (g : Gd gs ls ss ix_) (hl : ls.length ≤ 40) (q : Nat) (s2 s3 s9 s10 s11 : Sl) (h9 : free (some s9) = true) (h10 : free (some s10) = true) (h11 : free (some s11) = true) :
    ∃ (l : PL) (t : List Int) (q' : Nat) (s9' s10' s11' : Sl), lp_l_program_5 (Fp ns gs gs.length tn ix_ ls ss q s2 s3 s9 s10 s11) = .ok .nx (Fp ns gs gs.length tn ix_ (ls ++ [l]) (ss ++ [t]) q' s2 s3 s9' s10' s11') ∧ Gd gs (ls ++ [l]) (ss ++ [t]) ix_ ∧ free (some s9') = true ∧ free (some s10') = true ∧ free (some s11') = true := by
  have ln := lenD_Pg ls
  have hn := List.length_pos_iff.mpr g.ne
  have tl := taken_at ns q ls.length (by omega)
  obtain ⟨b, hb, hb2⟩ := drawn ns q ls.length hn
  rw [hb] at tl
  obtain ⟨a, hae, ha⟩ : ∃ a : Nat, (ls.length : Int) - 1 - b = a ∧ a < ss.length := ⟨ls.length - 1 - b, by omega, by have := g.len; omega⟩
  have t16 := taken_at ns (q + 1) 16 (by omega)
  have w0 : 0 ≤ cell ns (q + 1) % 16 := by omega
  have w16 : cell ns (q + 1) % 16 < 16 := by omega
  generalize cell ns (q + 1) % 16 = w at t16 w0 w16
  obtain ⟨l, t, q', e, h1, h2, h3⟩ := found_at ns gs hgs tn ix_ ls ss g (q + 2) s2 s3 s11 h11 a ha w w0 w16 hg _ rfl
  unfold lp_l_program_5
  rw [sSeq_at, show sSet 9 _ _ = .ok .nx (Fp ns gs gs.length tn ix_ ls ss (q + 1) s2 s3 (.sh (.int a)) s10 s11) by simp [Fp, ln, tl, hae, h9], seq_nx]
  rw [sSeq_at, show sSet 10 _ _ = .ok .nx (Fp ns gs gs.length tn ix_ ls ss (q + 2) s2 s3 (.sh (.int a)) (.sh (.int w)) s11) by simp [Fp, t16, h10], seq_nx]
  rw [sSeq_at, e, seq_nx]
  have cl := cellsT t h3
  have mx := maxD_T t
  have ia := ix_sd ss a ha
  have i0 : ∀ x y : D, ixD [x, y] 0 = some x := fun _ _ => rfl
  have i1 : ∀ x y : D, ixD [x, y] 1 = some y := fun _ _ => rfl
  have il1 : isLst (some (Pg ls)) = true := rfl
  have il2 : isLst (some (Sl_ ss)) = true := rfl
  have apP : ∀ l : PL, appD l.d (Pg ls) = some (Pg (ls ++ [l])) := fun l => by
    unfold Pg; rw [appD_at _ _ (by simp; omega), List.map_append]; rfl
  have apS : ∀ t, appD (T t) (Sl_ ss) = some (Sl_ (ss ++ [t])) := fun t => by
    unfold Sl_; rw [appD_at _ _ (by simp; have := g.len; omega), List.map_append]; rfl
  have fin : ∀ (l : PL) (t : List Int) (q' : Nat), (sSeq (sApp 6 (m2 itemD (mVar 11) (mC (.int 0)))) (sSeq (sApp 7 (m2 itemD (mVar 11) (mC (.int 1)))) sNx)) (Fp ns gs gs.length tn ix_ ls ss q' s2 s3 (.sh (.int a)) (.sh (.int w)) (.sh (.tup [l.d, T t]))) = .ok .nx (Fp ns gs gs.length tn ix_ (ls ++ [l]) (ss ++ [t]) q' s2 s3 (.sh (.int a)) (.sh (.int w)) (.sh (.tup [l.d, T t]))) := fun l t q' => by
    have := apP l
    generalize l.d = ld at *
    simp [Fp, i0, i1, il1, il2, this, apS]
  by_cases c : prodR t ≤ 27 ∧ t.length ≤ 4 ∧ mxl t ≤ 24
  · have k1 : ¬ 27 < prodR t := by omega
    have k2 : ¬ (4 : Int) < t.length := by omega
    have k3 : ¬ 24 < mxl t := by omega
    rw [sSeq_at, show VP.sIf _ _ _ _ = .ok .nx (Fp ns gs gs.length tn ix_ ls ss q' s2 s3 (.sh (.int a)) (.sh (.int w)) (.sh (.tup [l.d, T t]))) by
      generalize l.d = ld at *
      simp [Fp, i1, cl, mx, k1, k2, k3], seq_nx, fin]
    exact ⟨l, t, q', _, _, _, rfl, g.more h2 h1 ⟨c.2.1, fun x hx => ⟨(h3.2 x hx).1, mxl_le c.2.2 x hx⟩, c.1⟩, rfl, rfl, rfl⟩
  · have hs := g.si.at ha
    rw [sSeq_at, show VP.sIf _ _ _ _ = .ok .nx (Fp ns gs gs.length tn ix_ ls ss q' s2 s3 (.sh (.int a)) (.sh (.int w)) (.sh (.tup [(PL.one 16 a).d, T (sd ss a)]))) by
      generalize l.d = ld at *
      by_cases k1 : 27 < prodR t
      · simp [Fp, i1, cl, k1, ia, PL.d, PL.k, PL.ps]
      · by_cases k2 : (4 : Int) < t.length
        · simp [Fp, i1, cl, k1, k2, ia, PL.d, PL.k, PL.ps]
        · have k3 : 24 < mxl t := by
            by_cases z : 24 < mxl t
            · exact z
            · exact absurd ⟨by omega, by omega, by omega⟩ c
          simp [Fp, i1, cl, mx, k1, k2, k3, ia, PL.d, PL.k, PL.ps], seq_nx, fin]
    exact ⟨.one 16 a, sd ss a, q', _, _, _, rfl, g.more (fun r hr => by simp [PL.ns] at hr; omega) (by simp [PL.fine]) hs, rfl, rfl, rfl⟩
theorem tab8 (m : Int) (h0 : 0 ≤ m) (h8 : m < 8) : ∃ v : Int, 0 ≤ v ∧ v ≤ 3 ∧ ixD [.int 2, .int 3, .int 1, .int 2, .int 3, .int 1, .int 2, .int 0] m = some (.int v) := by
  have : m = 0 ∨ m = 1 ∨ m = 2 ∨ m = 3 ∨ m = 4 ∨ m = 5 ∨ m = 6 ∨ m = 7 := by omega
  rcases this with rfl | rfl | rfl | rfl | rfl | rfl | rfl | rfl
  · exact ⟨2, by omega, by omega, rfl⟩
  · exact ⟨3, by omega, by omega, rfl⟩
  · exact ⟨1, by omega, by omega, rfl⟩
  · exact ⟨2, by omega, by omega, rfl⟩
  · exact ⟨3, by omega, by omega, rfl⟩
  · exact ⟨1, by omega, by omega, rfl⟩
  · exact ⟨2, by omega, by omega, rfl⟩
  · exact ⟨0, by omega, by omega, rfl⟩
theorem tab4 (m : Int) (h0 : 0 ≤ m) (h8 : m < 4) : ∃ v : Int, 0 ≤ v ∧ v ≤ 4 ∧ ixD [.int 2, .int 3, .int 1, .int 4] m = some (.int v) := by
  have : m = 0 ∨ m = 1 ∨ m = 2 ∨ m = 3 := by omega
  rcases this with rfl | rfl | rfl | rfl
  · exact ⟨2, by omega, by omega, rfl⟩
  · exact ⟨3, by omega, by omega, rfl⟩
  · exact ⟨1, by omega, by omega, rfl⟩
  · exact ⟨4, by omega, by omega, rfl⟩
theorem prod3 : ∀ (xs : List Int), (∀ x ∈ xs, 0 ≤ x ∧ x ≤ 3) → 0 ≤ prodR xs ∧ prodR xs ≤ 3 ^ xs.length
  | [], _ => by simp [prodR]
  | x :: r, h => by
    have hx := h x List.mem_cons_self
    have hr := prod3 r fun y hy => h y (List.mem_cons_of_mem _ hy)
    simp only [prodR, List.length_cons]
    refine ⟨Int.mul_nonneg hx.1 hr.1, ?_⟩
    have : x * prodR r ≤ 3 * 3 ^ r.length := Int.mul_le_mul hx.2 hr.2 hr.1 (by omega)
    rw [Int.pow_succ]; omega
theorem si3 (xs : List Int) (hl : xs.length ≤ 3) (h : ∀ x ∈ xs, 0 ≤ x ∧ x ≤ 3) : SI xs := by
  refine ⟨by omega, fun x hx => by have := h x hx; omega, ?_⟩
  have p := (prod3 xs h).2
  have : (3 : Int) ^ xs.length ≤ 27 := by
    generalize xs.length = n at *
    match n, hl with
    | 0, _ => decide
    | 1, _ => decide
    | 2, _ => decide
    | 3, _ => decide
  omega
theorem noLs_T : ∀ ss : List (List Int), noLs (ss.map T) = true
  | [] => rfl
  | s :: ss => by
    have : noL (T s) = true := by
      unfold T; rw [noL]
      induction s with
      | nil => rfl
      | cons x s ih => rw [List.map_cons, noLs, noL, ih]; rfl
    rw [List.map_cons, noLs, this, noLs_T ss]; rfl
def free4 (t : Sl × Sl × Sl × Sl) : Prop := free (some t.1) = true ∧ free (some t.2.1) = true ∧ free (some t.2.2.1) = true ∧ free (some t.2.2.2) = true
theorem program_at (ns : List Int) (p : Nat) : ∃ (ls : List PL) (ss gs : List (List Int)) (ix_ q : Nat), f_z7 [Row ns p] = .ok (.tup [Pg ls, Sl_ ss, .int gs.length, Sl_ gs]) [Row ns q] ∧ Gd gs ls ss ix_ ∧ SIs gs ∧ ls.length ≤ 14 := by
  rw [f_z7, defn_at _ _ _ _ rfl]
  have l0 : D.lst [] = Sl_ [] := rfl
  have t2 := taken_at ns p 2 (by omega)
  obtain ⟨n, hn, hn2⟩ : ∃ n : Nat, 1 + cell ns p % 2 = n ∧ 1 ≤ n ∧ n ≤ 2 := ⟨(1 + cell ns p % 2).toNat, by omega, by omega, by omega⟩
  have er : rng1 [.int (n : Int)] = some ((List.range n).map fun (k : Nat) => .int k) := rng1_nat _ _ (by omega) (by omega) (by omega)
  obtain ⟨⟨q1, gs⟩, t, ⟨hgl, hgs⟩, ht, L⟩ := loop_inv (g := gName 2) (body := lp_l_program_2) (fun (k : Nat) => D.int k) (fun (s : Nat × List (List Int)) (t : Sl × Sl) => [.io (Row ns s.1), .ow (Sl_ s.2), t.1, t.2, .no, .no, .no, .no, .no, .no, .no, .no]) free2 (List.range n) (fun k s => s.2.length = k ∧ SIs s.2) (p + 1, []) (.no, .no) ⟨rfl, rfl⟩ ⟨rfl, fun s hs => by simp at hs⟩ (by
    intro i k hk s t ht hP
    obtain ⟨q, gs⟩ := s
    obtain ⟨t3, t4⟩ := t
    obtain ⟨f3, f4⟩ := ht
    obtain ⟨hl, hok⟩ := hP
    dsimp only at f3 f4 hl hok
    obtain ⟨rfl, hk⟩ := range_at hk
    have tk := taken_at ns q 4 (by omega)
    obtain ⟨m, hm, hm4⟩ := drawn ns q 4 (by omega)
    rw [show ((4 : Nat) : Int) = 4 from rfl] at hm
    rw [hm] at tk
    have er : rng1 [.int (m : Int)] = some ((List.range m).map fun (k : Nat) => .int k) := rng1_nat _ _ (by omega) (by omega) (by omega)
    obtain ⟨q', ys, hc, he⟩ := comp_ints (it := mRng1 [(mVar 3)]) (elt := ce_l_program_1) (k := 12) (r0 := [.io (Row ns (q + 1)), .ow (Sl_ gs), .sh (.int k), .sh (.int m), .no, .no, .no, .no, .no, .no, .no, .no]) (fun (k : Nat) => D.int k) (fun q => [.io (Row ns q), .ow (Sl_ gs), .sh (.int k), .sh (.int m), .no, .no, .no, .no, .no, .no, .no, .no]) (fun _ y => 0 ≤ y ∧ y ≤ 3) (List.range m) (q + 1) (fun _ => rfl) (by simp [er]) (by simp; omega) (fun j _ q' => by
      have t8 := taken_at ns q' 8 (by omega)
      obtain ⟨v, v0, v3, iv⟩ := tab8 (cell ns q' % 8) (by omega) (by omega)
      have l8 : lstD [.int 2, .int 3, .int 1, .int 2, .int 3, .int 1, .int 2, .int 0] = some (.lst [.int 2, .int 3, .int 1, .int 2, .int 3, .int 1, .int 2, .int 0]) := rfl
      exact ⟨q' + 1, v, ⟨v0, v3⟩, fun acc => by simp [ce_l_program_1, l8, t8, iv]⟩)
    have yl := he.len
    simp only [List.length_range] at yl
    have hy : SI ys := si3 ys (by omega) fun y hy => by obtain ⟨_, _, h⟩ := he.right y hy; exact h
    have ap : appD (T ys) (Sl_ gs) = some (Sl_ (gs ++ [ys])) := by
      unfold Sl_; rw [appD_at _ _ (by simp; omega), List.map_append]; rfl
    have il : isLst (some (Sl_ gs)) = true := rfl
    refine ⟨(q', gs ++ [ys]), (.sh (.int k), .sh (.int m)), ⟨by simp [hl], fun x hx => ?_⟩, ⟨rfl, rfl⟩, ?_⟩
    · rcases List.mem_append.mp hx with hx | hx
      · exact hok x hx
      · have : x = ys := by simpa using hx
        subst this; exact hy
    · simp [turn1, lp_l_program_2, f3, f4, tk, hc, il, ap])
  obtain ⟨t3, t4⟩ := t
  obtain ⟨f3, f4⟩ := ht
  simp only [List.length_range] at hgl
  dsimp only at hgl hgs f3 f4
  have tv := taken_at ns q1 4 (by omega)
  obtain ⟨v, v0, v4, iv⟩ := tab4 (cell ns q1 % 4) (by omega) (by omega)
  have hv : SI [v] := ⟨by simp, fun x hx => by simp at hx; omega, by simp [prodR]; omega⟩
  have ap : appD (T [v]) (Sl_ gs) = some (Sl_ (gs ++ [[v]])) := by
    unfold Sl_; rw [appD_at _ _ (by simp; omega), List.map_append]; rfl
  have il : isLst (some (Sl_ gs)) = true := rfl
  unfold b_z7
  simp only [startR_cons, startR_nil, rep_succ, rep_0, if_pos rfl]
  rw [sSeq_at, show sOwn 1 _ _ = .ok .nx [.io (Row ns p), .ow (Sl_ []), .no, .no, .no, .no, .no, .no, .no, .no, .no, .no] by simp [l0], seq_nx]
  rw [sSeq_at, show VP.sFor _ _ _ _ = .ok .nx [.io (Row ns q1), .ow (Sl_ gs), t3, t4, .no, .no, .no, .no, .no, .no, .no, .no] by simp [t2, hn, er, L], seq_nx]
  rw [sSeq_at, show sApp 1 _ _ = .ok .nx [.io (Row ns (q1 + 1)), .ow (Sl_ (gs ++ [[v]])), t3, t4, .no, .no, .no, .no, .no, .no, .no, .no] by simp [tv, iv, il, tup1, ap], seq_nx]
  have hgs2 : SIs (gs ++ [[v]]) := fun x hx => by
    rcases List.mem_append.mp hx with hx | hx
    · exact hgs x hx
    · have : x = [v] := by simpa using hx
      subst this; exact hv
  have hlast : sd (gs ++ [[v]]) ((gs ++ [[v]]).length - 1) = [v] := by simp [sd]
  have hg3 : 2 ≤ (gs ++ [[v]]).length ∧ (gs ++ [[v]]).length ≤ 3 := by simp; omega
  generalize gs ++ [[v]] = gs at *
  have ln := lenD_Sl gs
  have tt := taken_at ns (q1 + 1) gs.length (by omega)
  obtain ⟨tn, htn, htn2⟩ := drawn ns (q1 + 1) gs.length (by omega)
  rw [htn] at tt
  rw [sSeq_at, show sSet 4 _ _ = .ok .nx [.io (Row ns (q1 + 1)), .ow (Sl_ gs), t3, t4, .sh (.int gs.length), .no, .no, .no, .no, .no, .no, .no] by simp [ln], seq_nx]
  rw [sSeq_at, show sSet 5 _ _ = .ok .nx [.io (Row ns (q1 + 2)), .ow (Sl_ gs), t3, t4, .sh (.int gs.length), .sh (.int tn), .no, .no, .no, .no, .no, .no] by simp [tt], seq_nx]
  have er2 : rng1 [.int (gs.length : Int)] = some ((List.range gs.length).map fun (k : Nat) => .int k) := rng1_nat _ _ (by omega) (by omega) (by omega)
  let pl := fun (k : Nat) => PL.given (((k + tn) % gs.length : Nat))
  have c6 : mComp 1 (mRng1 [(mVar 4)]) (VP.gName 12) (VP.ret true) ce_l_program_3 [.io (Row ns (q1 + 2)), .ow (Sl_ gs), t3, t4, .sh (.int gs.length), .sh (.int tn), .no, .no, .no, .no, .no, .no] = .ok (Pg ((List.range gs.length).map pl)) [.io (Row ns (q1 + 2)), .ow (Sl_ gs), t3, t4, .sh (.int gs.length), .sh (.int tn), .no, .no, .no, .no, .no, .no] := by
    refine compM (fun (k : Nat) => D.int k) (fun k => (pl k).d) (List.range gs.length) (by simp [er2]) (by simp; omega) (by simp [Pg, Function.comp_def]) fun k hk acc => ?_
    have md := modI_pos ((k : Int) + tn) gs.length (by omega)
    rw [show ((k : Int) + tn) % (gs.length : Int) = (((k + tn) % gs.length : Nat) : Int) by simp] at md
    simp [ce_l_program_3, md, pl, PL.d, PL.k, PL.ps]
  rw [sSeq_at, show sOwn 6 _ _ = .ok .nx [.io (Row ns (q1 + 2)), .ow (Sl_ gs), t3, t4, .sh (.int gs.length), .sh (.int tn), .ow (Pg ((List.range gs.length).map pl)), .no, .no, .no, .no, .no] by simp [c6], seq_nx]
  let sl := fun (k : Nat) => sd gs ((k + tn) % gs.length)
  have c7 : mComp 1 (mSeq (mVar 6)) (VP.gName 12) (VP.ret true) ce_l_program_4 [.sh (Row ns (q1 + 2)), .sh (Sl_ gs), viewS t3, viewS t4, .sh (.int gs.length), .sh (.int tn), .sh (Pg ((List.range gs.length).map pl)), .no, .no, .no, .no, .no] = .ok (.lst (((List.range gs.length).map sl).map T)) [.sh (Row ns (q1 + 2)), .sh (Sl_ gs), viewS t3, viewS t4, .sh (.int gs.length), .sh (.int tn), .sh (Pg ((List.range gs.length).map pl)), .no, .no, .no, .no, .no] := by
    refine compM (fun (k : Nat) => (pl k).d) (fun k => T (sl k)) (List.range gs.length) (by simp [seq_Pg, Function.comp_def]) (by simp; omega) (by simp [Function.comp_def]) fun k hk acc => ?_
    have ib := ix_sd gs ((k + tn) % gs.length) (Nat.mod_lt _ (by omega))
    have i1 : itemD (pl k).d (.int 1) = some (.int (((k + tn) % gs.length : Nat))) := rfl
    generalize (pl k).d = ld at *
    rw [show sl k = sd gs ((k + tn) % gs.length) from rfl]
    generalize (k + tn) % gs.length = j at ib i1 ⊢
    simp [ce_l_program_4, i1, ib]
  have nl := noLs_T ((List.range gs.length).map sl)
  rw [sSeq_at, show sOwn 7 _ _ = .ok .nx [.io (Row ns (q1 + 2)), .ow (Sl_ gs), t3, t4, .sh (.int gs.length), .sh (.int tn), .ow (Pg ((List.range gs.length).map pl)), .ow (Sl_ ((List.range gs.length).map sl)), .no, .no, .no, .no] by
    have vr := viewR_ok [.io (Row ns (q1 + 2)), .ow (Sl_ gs), t3, t4, .sh (.int gs.length), .sh (.int tn), .ow (Pg ((List.range gs.length).map pl)), .no, .no, .no, .no, .no] [.sh (Row ns (q1 + 2)), .sh (Sl_ gs), viewS t3, viewS t4, .sh (.int gs.length), .sh (.int tn), .sh (Pg ((List.range gs.length).map pl)), .no, .no, .no, .no, .no] _ nl
    rw [sOwn_at, mView_at]
    simp only [List.map_cons, List.map_nil, viewS_io, viewS_ow, viewS_sh, viewS_no]
    rw [c7, vr]
    simp [Sl_], seq_nx]
  have mi := modI_pos ((gs.length : Int) - 1 - tn) gs.length (by omega)
  rw [Int.emod_eq_of_lt (by omega) (by omega)] at mi
  obtain ⟨ix_, hix⟩ : ∃ ix_ : Nat, (gs.length : Int) - 1 - tn = ix_ := ⟨gs.length - 1 - tn, by omega⟩
  rw [hix] at mi
  rw [sSeq_at, show sSet 8 _ _ = .ok .nx (Fp ns gs gs.length tn ix_ ((List.range gs.length).map pl) ((List.range gs.length).map sl) (q1 + 2) t3 t4 .no .no .no) by simp [Fp, hix, mi], seq_nx]
  have G0 : Gd gs ((List.range gs.length).map pl) ((List.range gs.length).map sl) ix_ := by
    refine ⟨by simp, fun i l hl r hr => ?_, fun l hl => ?_, fun s hs => ?_, by simp; omega, ?_, fun z => ?_⟩
    · have hm := List.mem_of_getElem? hl
      obtain ⟨k, _, rfl⟩ := List.mem_map.mp hm
      simp [pl, PL.ns] at hr
    · obtain ⟨k, _, rfl⟩ := List.mem_map.mp hl; trivial
    · obtain ⟨k, hk, rfl⟩ := List.mem_map.mp hs
      exact hgs2.at (Nat.mod_lt _ (by omega))
    · have hlt : ix_ < gs.length := by omega
      have e : sd ((List.range gs.length).map sl) ix_ = sl ix_ := by simp [sd, hlt]
      rw [e]
      simp only [sl]
      rw [show ix_ + tn = gs.length - 1 by omega, Nat.mod_eq_of_lt (by omega), hlast]; rfl
    · have := congrArg List.length z; rw [List.length_map, List.length_range, List.length_nil] at this; omega
  have hlen0 : ((List.range gs.length).map pl).length ≤ 3 := by simp; omega
  generalize ((List.range gs.length).map pl) = ls0 at *
  generalize ((List.range gs.length).map sl) = ss0 at *
  have t10 := taken_at ns (q1 + 2) 10 (by omega)
  obtain ⟨n10, hn10, hn102⟩ : ∃ n : Nat, 1 + cell ns (q1 + 2) % 10 = n ∧ n ≤ 10 := ⟨(1 + cell ns (q1 + 2) % 10).toNat, by omega, by omega⟩
  have er10 : rng1 [.int (n10 : Int)] = some ((List.range n10).map fun (k : Nat) => .int k) := rng1_nat _ _ (by omega) (by omega) (by omega)
  obtain ⟨⟨q3, ls, ss⟩, t, ⟨hll, hG⟩, ht, L5⟩ := loop_inv (g := gName 2) (body := lp_l_program_5) (fun (k : Nat) => D.int k) (fun (s : Nat × List PL × List (List Int)) (t : Sl × Sl × Sl × Sl) => Fp ns gs gs.length tn ix_ s.2.1 s.2.2 s.1 t.1 t4 t.2.1 t.2.2.1 t.2.2.2) free4 (List.range n10) (fun k s => s.2.1.length ≤ 3 + k ∧ Gd gs s.2.1 s.2.2 ix_) (q1 + 3, ls0, ss0) (t3, .no, .no, .no) ⟨f3, rfl, rfl, rfl⟩ ⟨by omega, G0⟩ (by
    intro i k hk s t ht hP
    obtain ⟨q, ls, ss⟩ := s
    obtain ⟨s2, s9, s10, s11⟩ := t
    obtain ⟨g2, g9, g10, g11⟩ := ht
    obtain ⟨hl, hG⟩ := hP
    dsimp only at g2 g9 g10 g11 hl hG
    obtain ⟨rfl, hk⟩ := range_at hk
    obtain ⟨l, t, q', s9', s10', s11', e, hG', k9, k10, k11⟩ := turn5 ns gs hgs2 (by omega) tn ix_ ls ss hG (by omega) q (.sh (.int k)) t4 s9 s10 s11 g9 g10 g11
    refine ⟨(q', ls ++ [l], ss ++ [t]), (.sh (.int k), s9', s10', s11'), ⟨by simp; omega, hG'⟩, ⟨rfl, k9, k10, k11⟩, ?_⟩
    dsimp only
    rw [turn1, show gName 2 (.int (k : Int)) (Fp ns gs gs.length tn ix_ ls ss q s2 t4 s9 s10 s11) = .ok () (Fp ns gs gs.length tn ix_ ls ss q (.sh (.int k)) t4 s9 s10 s11) by simp [Fp, g2], then_ok, e]
    rfl)
  obtain ⟨s2, s9, s10, s11⟩ := t
  simp only [List.length_range] at hll
  dsimp only at hll hG L5
  rw [sSeq_at, show VP.sFor _ _ _ _ = .ok .nx (Fp ns gs gs.length tn ix_ ls ss q3 s2 t4 s9 s10 s11) by
    rw [← L5]
    simp [Fp, t10, hn10, er10], seq_nx]
  have tu : ∀ a b c d : D, tupD [a, b, c, d] = some (.tup [a, b, c, d]) := fun _ _ _ _ => rfl
  refine ⟨ls, ss, gs, ix_, q3, ?_, hG, hgs2, by omega⟩
  unfold Fp
  simp [tu]
theorem law_at (ns : List Int) : f_law [Z ns] = .ok (.bl true) [] := by
  rw [f_law, defn_at _ _ _ _ rfl]
  have r0 : D.lst [Z ns, .int 0] = Row ns 0 := rfl
  obtain ⟨ls, ss, gs, ix_, q, ep, g, hgs, hl⟩ := program_at ns 0
  have cl : ∀ r : Rho, appL f_z7 (Row ns 0) r = .ok (.tup [Pg ls, Sl_ ss, .int gs.length, Sl_ gs]) r := fun r => appL_at _ _ _ _ r ep
  obtain ⟨w, w1, w2, w3, w4⟩ := kept_lines_at ls ss g.wf g.ne (by omega) g.len
  obtain ⟨ds, d1, d2, d3⟩ := l_wanted_at ls g.wf g.ne (by omega)
  have k1 := l_kept_at ls ss g.wf g.ne (by omega) g.len w w2 w3
  have tw := truths_at w (by omega)
  have tk := truths_at (keptL ls ss w) (by simp [keptL]; omega)
  have i0 : itemD (.tup [Pg ls, Sl_ ss, .int gs.length, Sl_ gs]) (.int 0) = some (Pg ls) := rfl
  have i1 : itemD (.tup [Pg ls, Sl_ ss, .int gs.length, Sl_ gs]) (.int 1) = some (Sl_ ss) := rfl
  have lo1 : lstOf (Pg ls) = some (Pg ls) := rfl
  have lo2 : lstOf (Sl_ ss) = some (Sl_ ss) := rfl
  have n1 := neG_Pg ls g.fine
  have n2 := neG_Sl ss
  have ln := lenD_Pg ls
  have er : rng1 [.int (ls.length : Int)] = some ((List.range ls.length).map fun (k : Nat) => .int k) := rng1_nat _ _ (by omega) (by omega) (by omega)
  have hn := List.length_pos_iff.mpr g.ne
  have ew : (List.range ls.length).map (fun k => decide (k ∈ ds)) = w := by
    refine List.ext_getElem? fun p => ?_
    by_cases hp : p < ls.length
    · obtain ⟨b, hb⟩ : ∃ b, w[p]? = some b := ⟨_, List.getElem?_eq_getElem (by omega)⟩
      have e : decide (p ∈ ds) = b := by
        have : p ∈ ds ↔ w[p]? = some true := (d3 p).trans (w3 p).symm
        rw [hb] at this
        cases b with
        | true => exact decide_eq_true (this.mpr rfl)
        | false => exact decide_eq_false fun z => by have := this.mp z; simp at this
      rw [hb, List.getElem?_map, List.getElem?_range hp]
      simp [e]
    · rw [List.getElem?_eq_none (by simp; omega), List.getElem?_eq_none (by omega)]
  have c5 : mComp 1 (mRng1 [(m1 lenD (mVar 2))]) (VP.gName 8) (VP.ret true) ce_law_1 [.sh (Z ns), .sh (.tup [Pg ls, Sl_ ss, .int gs.length, Sl_ gs]), .sh (Pg ls), .sh (Sl_ ss), .sh (NsD ds), .no, .no, .no] = .ok (BlD w) [.sh (Z ns), .sh (.tup [Pg ls, Sl_ ss, .int gs.length, Sl_ gs]), .sh (Pg ls), .sh (Sl_ ss), .sh (NsD ds), .no, .no, .no] := by
    refine compM (fun (k : Nat) => D.int k) (fun k => D.bl (decide (k ∈ ds))) (List.range ls.length) (by simp [ln, er]) (by simp; omega) (by rw [← ew]; simp [BlD, Function.comp_def]) fun k hk acc => ?_
    have := inD_Ns false k ds
    simp [ce_law_1, this]
  have kl : (keptL ls ss w).length = ls.length := by simp [keptL]
  obtain ⟨b, hb⟩ : ∃ b, (keptL ls ss w)[0]? = some b := ⟨_, List.getElem?_eq_getElem (by omega)⟩
  have b0 := bl_item (keptL ls ss w) 0 b hb
  have s0 := bl_set (keptL ls ss w) 0 (!b) (by omega)
  have il : isLst (some (BlD (keptL ls ss w))) = true := rfl
  rw [show ((0 : Nat) : Int) = 0 from rfl] at b0 s0
  generalize BlD ((keptL ls ss w).set 0 (!b)) = KB at *
  generalize BlD (keptL ls ss w) = KK at *
  generalize D.tup [Pg ls, Sl_ ss, .int gs.length, Sl_ gs] = PP at *
  generalize BlD w = WW at *
  generalize Pg ls = PL_ at *
  generalize Sl_ ss = SS at *
  simp [b_law, r0, cl, i0, i1, lo1, lo2, d1, c5, w1, tw, w4, k1, tk, n1, n2, b0, s0, il]
end LW

end
section
set_option Elab.async false
set_option maxRecDepth 100000
set_option maxHeartbeats 4000000
set_option linter.all false
namespace LW
open PySem PySem.Spec PyProof.Rows L2 VP VS
seal PVSs PVS PV PB PBW PF PLs PAs PR PVG PVI PVGs PTs
def top (i : Nat) : Stmt := PySem.Challenge.pw_loomarrays_k16_wanted_and_kept.main.body.getD i (.Pass ⟨0, 0, 0, 0⟩)
structure Adr where
  a_z8 : Addr
  fd_z8 : FuncData
  a_z13 : Addr
  fd_z13 : FuncData
  a_z4 : Addr
  fd_z4 : FuncData
  a_z2 : Addr
  fd_z2 : FuncData
  a_z3 : Addr
  fd_z3 : FuncData
  a_z5 : Addr
  fd_z5 : FuncData
  a_z10 : Addr
  fd_z10 : FuncData
  a_z6 : Addr
  fd_z6 : FuncData
  a_z9 : Addr
  fd_z9 : FuncData
  a_z12 : Addr
  fd_z12 : FuncData
  a_z7 : Addr
  fd_z7 : FuncData
  a_z11 : Addr
  fd_z11 : FuncData
  a_z17 : Addr
  fd_z17 : FuncData
  a_z0 : Addr
  fd_z0 : FuncData
  a_z15 : Addr
  fd_z15 : FuncData
  a_z16 : Addr
  fd_z16 : FuncData
  a_z18 : Addr
  fd_z18 : FuncData
  a_z1 : Addr
  fd_z1 : FuncData
  a_law : Addr
  fd_law : FuncData
structure Txt (w : World) (K : Frag) (mg : MG) (a : Adr) : Prop where
  b_any : mg "any" = none
  b_bool : mg "bool" = none
  b_enumerate : mg "enumerate" = none
  b_int : mg "int" = none
  b_isinstance : mg "isinstance" = none
  b_len : mg "len" = none
  b_list : mg "list" = none
  b_max : mg "max" = none
  b_range : mg "range" = none
  b_reversed : mg "reversed" = none
  b_tuple : mg "tuple" = none
  b_zip : mg "zip" = none
  g_FORMS : TabT w K mg "FORMS" tab_FORMS abs_FORMS
  d_z8 : DefF K mg "_law_reads" (top 18) ["_law_line"] a.a_z8 a.fd_z8
  d_z13 : DefF K mg "_law_wanted" (top 19) ["_law_program_here"] a.a_z13 a.fd_z13
  d_z4 : DefF K mg "_law_kept" (top 20) ["_law_program_here", "_law_sides"] a.a_z4 a.fd_z4
  d_z2 : DefF K mg "_law_cells" (top 11) ["_law_sides"] a.a_z2 a.fd_z2
  d_z3 : DefF K mg "_law_changed" (top 13) ["_law_sides", "_law_side", "_law_size"] a.a_z3 a.fd_z3
  d_z5 : DefF K mg "_law_met" (top 12) ["_law_one", "_law_other"] a.a_z5 a.fd_z5
  d_z10 : DefF K mg "_law_taken" (top 10) ["_law_row", "_law_many"] a.a_z10 a.fd_z10
  d_z6 : DefF K mg "_law_more" (top 16) ["_law_row", "_law_a", "_law_sides", "_law_way", "_law_index"] a.a_z6 a.fd_z6
  d_z9 : DefF K mg "_law_sided" (top 15) ["_law_row", "_law_a", "_law_own", "_law_way"] a.a_z9 a.fd_z9
  d_z12 : DefF K mg "_law_view" (top 14) ["_law_row", "_law_a", "_law_own", "_law_way"] a.a_z12 a.fd_z12
  d_z7 : DefF K mg "_law_program" (top 17) ["_law_row"] a.a_z7 a.fd_z7
  d_z11 : DefF K mg "_law_truths" (top 21) ["_law_found", "_law_due"] a.a_z11 a.fd_z11
  d_z17 : DefF K mg "spreads" (top 8) ["program", "sides", "number", "at"] a.a_z17 a.fd_z17
  d_z0 : DefF K mg "is_kept" (top 7) ["program", "sides", "at", "naming"] a.a_z0 a.fd_z0
  d_z15 : DefF K mg "named_by" (top 2) ["line"] a.a_z15 a.fd_z15
  d_z16 : DefF K mg "naming_lines" (top 6) ["program", "wanted", "at"] a.a_z16 a.fd_z16
  d_z18 : DefF K mg "wanted_lines" (top 4) ["program"] a.a_z18 a.fd_z18
  d_z1 : DefF K mg "kept_lines" (top 5) ["program", "sides"] a.a_z1 a.fd_z1
  d_law : DefF K mg "law" (top 22) ["_law_script"] a.a_law a.fd_law
section
variable {P : Program} {w : World} {K : Frag} {mg : MG} {base : Heap} {a : Adr} (T : Txt w K mg a)
theorem sc_z8 : FnScope ["_law_line"] ["_law_line"] (defScope (top 18)) := scs
include T in
theorem ok_z8 : FnOk P w K mg base CX0 1 a.a_z8 a.fd_z8 ["_law_line"] (spV K mg [false] f_z8) := by
  have S := sc_z8
  refine fn_ok (N := ["_law_line"]) (ps := ["_law_line"]) (body := b_z8) T.d_z8.fu S rfl fun cdv A outer s H E hr => ?_
  exact (vss_cons (vs_if (PBW.pb (pb_or (pb_cmp (op_eqD hr.units) g_eqD (pv_ix (pv_var 0) pv_int) pv_str (nomark _)) (pb_or1 (pb_cmp (op_eqD hr.units) g_eqD (pv_ix (pv_var 0) pv_int) pv_str (nomark _))))) (vss_cons (vs_ret (PF.pv (pf_lst pl_nil)))
    vss_nil) vss_nil)
    (vss_cons (vs_if (pb_cmp (op_eqD hr.units) g_eqD (pv_ix (pv_var 0) pv_int) pv_str (nomark _)) (vss_cons (vs_ret (PF.pv (pf_lst (pl_cons (pv_ix (pv_var 0) pv_int) (pl_cons (pv_ix (pv_var 0) pv_int) (pl_cons (pv_ix (pv_var 0) pv_int) pl_nil))))))
    vss_nil) vss_nil)
    (vss_cons (vs_if (pb_cmp (op_eqD hr.units) g_eqD (pv_ix (pv_var 0) pv_int) pv_str (nomark _)) (vss_cons (vs_ret (PF.pv (pf_lst (pl_cons (pv_ix (pv_var 0) pv_int) (pl_cons (pv_ix (pv_var 0) pv_int) pl_nil)))))
    vss_nil) vss_nil)
    (vss_cons (vs_if (PBW.pb (pb_or (pb_cmp (op_eqD hr.units) g_eqD (pv_ix (pv_var 0) pv_int) pv_str (nomark _)) (pb_or (pb_cmp (op_eqD hr.units) g_eqD (pv_ix (pv_var 0) pv_int) pv_str (nomark _)) (pb_or1 (pb_cmp (op_eqD hr.units) g_eqD (pv_ix (pv_var 0) pv_int) pv_str (nomark _)))))) (vss_cons (vs_ret (PF.pv (pf_lst (pl_cons (pv_ix (pv_var 0) pv_int) pl_nil))))
    vss_nil) vss_nil)
    (vss_cons (vs_if (pb_cmp (op_eqD hr.units) g_eqD (pv_ix (pv_var 0) pv_int) pv_str (nomark _)) (vss_cons (vs_ret (PF.pv (pf_lst (pl_cons (pv_ix (pv_var 0) pv_int) (pl_cons (pv_ix (pv_var 0) pv_int) pl_nil)))))
    vss_nil) vss_nil)
    (vss_cons (vs_if (pb_cmp (op_eqD hr.units) g_eqD (pv_ix (pv_var 0) pv_int) pv_str (nomark _)) (vss_cons (vs_ret (PF.pv (pf_lst (pl_cons (pv_ix (pv_var 0) pv_int) (pl_cons (pv_ix (pv_var 0) pv_int) pl_nil)))))
    vss_nil) vss_nil)
    (vss_cons (vs_ret (PF.pv (pf_lst (pl_cons (pv_ix (pv_var 0) pv_int) pl_nil))))
    vss_nil)))))))
theorem sc_z13 : FnScope ["_law_program_here", "_law_due", "_law_ahead", "_law_place"] ["_law_program_here"] (defScope (top 19)) := scs
include T in
theorem ok_z13 : FnOk P w K mg base CX0 2 a.a_z13 a.fd_z13 ["_law_program_here"] (spV K mg [false] f_z13) := by
  have S := sc_z13
  refine fn_ok (N := ["_law_program_here", "_law_due", "_law_ahead", "_law_place"]) (ps := ["_law_program_here"]) (body := b_z13) T.d_z13.fu S rfl fun cdv A outer s H E hr => ?_
  exact (vss_cons (vs_own 1 S.nd rfl (Or.inl rfl) (pf_lst (pl_cons (pv_op op_sub g_sub (pv_call1B call_len_seq g_len rfl T.b_len PySem.boot_len (PV.rd (pv_var 0))) pv_int) pl_nil)))
    (vss_cons (vs_own 2 S.nd rfl (Or.inl rfl) (pf_lst (pl_cons (pv_op op_sub g_sub (pv_call1B call_len_seq g_len rfl T.b_len PySem.boot_len (PV.rd (pv_var 0))) pv_int) pl_nil)))
    (vss_cons (vs_while PassesOwn.never (pb_eqO true hr.units 2 (PF.pv (pf_lst pl_nil)) (nomark _)) (vss_cons (vs_for PassesOwn.never rfl (vi_seq (pc T.d_z8 (ok_z8 T) hr rfl (pas_val (pv_ix (pv_var 0) (pv_pop 2 (hpe := fun ho => pe_bm0 PySem.F.plainAttrs_list PySem.F.slot_list_pop PySem.F.type_list_pop mt_pop ho))) pas_nil))) (vg_name 3 S.nd rfl (Or.inl rfl)) (vss_cons (vs_if (pb_notInO 1 (pv_var 3) (by with_unfolding_all rfl)) (vss_cons (vs_app 1 (pv_var 3) (hpe := fun ho ha => pe_bm PySem.F.plainAttrs_list PySem.F.slot_list_append PySem.F.type_list_append mt_append ho ha))
    (vss_cons (vs_app 2 (pv_var 3) (hpe := fun ho ha => pe_bm PySem.F.plainAttrs_list PySem.F.slot_list_append PySem.F.type_list_append mt_append ho ha))
    vss_nil)) vss_nil)
    vss_nil) gName_x)
    vss_nil))
    (vss_cons (vs_fz (i := 1) (vs_ret (pv_var 1)))
    vss_nil))))
theorem sc_z4 : FnScope ["_law_program_here", "_law_sides", "_law_wanted_here", "_law_due", "_law_often", "_law_at", "_law_line", "_law_place"] ["_law_program_here", "_law_sides"] (defScope (top 20)) := scs
include T in
theorem ok_z4 : FnOk P w K mg base CX0 3 a.a_z4 a.fd_z4 ["_law_program_here", "_law_sides"] (spV K mg [false, false] f_z4) := by
  have S := sc_z4
  refine fn_ok (N := ["_law_program_here", "_law_sides", "_law_wanted_here", "_law_due", "_law_often", "_law_at", "_law_line", "_law_place"]) (ps := ["_law_program_here", "_law_sides"]) (body := b_z4) T.d_z4.fu S rfl fun cdv A outer s H E hr => ?_
  exact (vss_cons (vs_set 2 S.nd rfl (Or.inl rfl) (pc T.d_z13 (ok_z13 T) hr rfl (pas_val (pv_var 0) pas_nil)))
    (vss_cons (vs_own 3 S.nd rfl (Or.inl rfl) (pf_mulL (PF.pv (pf_lst (pl_cons pv_bl pl_nil))) (pv_call1B call_len_seq g_len rfl T.b_len PySem.boot_len (PV.rd (pv_var 0)))))
    (vss_cons (vs_own 4 S.nd rfl (Or.inl rfl) (pf_mulL (PF.pv (pf_lst (pl_cons pv_int pl_nil))) (pv_call1B call_len_seq g_len rfl T.b_len PySem.boot_len (PV.rd (pv_var 0)))))
    (vss_cons (vs_for PassesOwn.never rfl (vi_seq (pv_var 2)) (vg_name 5 S.nd rfl (Or.inl rfl)) (vss_cons (vs_set 6 S.nd rfl (Or.inl rfl) (pv_ix (pv_var 0) (pv_var 5)))
    (vss_cons (vs_setIx 3 (pv_var 5) (pv_or (pv_ixO 3 (pv_var 5)) (pv_one (pv_cmp op_in_seq (g_in false) (pv_ix (pv_var 6) pv_int) (PF.pv (pf_lst (pl_cons pv_str (pl_cons pv_str (pl_cons pv_str (pl_cons pv_str pl_nil)))))) (by with_unfolding_all rfl)))))
    (vss_cons (vs_for PassesOwn.never rfl (vi_seq (pc T.d_z8 (ok_z8 T) hr rfl (pas_val (pv_var 6) pas_nil))) (vg_name 7 S.nd rfl (Or.inl rfl)) (vss_cons (vs_setIx 4 (pv_var 7) (pv_op op_addA g_addA (pv_ixO 4 (pv_var 7)) pv_int))
    (vss_cons (vs_if (PBW.pb (pb_or (pb_cmp (op_eqD hr.units) g_eqD (pv_ix (pv_var 6) pv_int) pv_str (nomark _)) (pb_or1 (pb_cmp (op_eqD hr.units) g_eqD (pv_ix (pv_var 6) pv_int) pv_str (nomark _))))) (vss_cons (vs_setIx 3 (pv_var 7) pv_bl)
    vss_nil) vss_nil)
    (vss_cons (vs_if (PBW.pb (pb_and (pb_cmp (op_neD hr.units) g_neD (pv_ix (pv_ix (pv_var 0) (pv_var 7)) pv_int) pv_str (nomark _)) (pb_and1 (pb_cmp op_gt g_gt (pv_ixO 4 (pv_var 7)) pv_int (nomark _))))) (vss_cons (vs_setIx 3 (pv_var 7) pv_bl)
    vss_nil) vss_nil)
    (vss_cons (vs_if (PBW.pb (pb_and (pb_cmp (op_neD hr.units) g_neD (pv_ix (pv_ix (pv_var 0) (pv_var 7)) pv_int) pv_str (nomark _)) (pb_and (pb_cmp op_in_seq (g_in false) (pv_ix (pv_var 6) pv_int) (PF.pv (pf_lst (pl_cons pv_str (pl_cons pv_str (pl_cons pv_str pl_nil))))) (by with_unfolding_all rfl)) (pb_and1 (pb_cmp (op_neD hr.units) g_neD (pv_ix (pv_var 1) (pv_var 7)) (pv_ix (pv_var 1) (pv_var 5)) (nomark _)))))) (vss_cons (vs_setIx 3 (pv_var 7) pv_bl)
    vss_nil) vss_nil)
    vss_nil)))) gName_x)
    vss_nil))) gName_x)
    (vss_cons (vs_setIx 3 (pv_un un_neg un_negG pv_int) pv_bl)
    (vss_cons (vs_fz (i := 3) (vs_ret (pv_var 3)))
    vss_nil))))))
theorem sc_z2 : FnScope ["_law_sides", "_law_found", "_law_size"] ["_law_sides"] (defScope (top 11)) := scs
include T in
theorem ok_z2 : FnOk P w K mg base CX0 1 a.a_z2 a.fd_z2 ["_law_sides"] (spV K mg [false] f_z2) := by
  have S := sc_z2
  refine fn_ok (N := ["_law_sides", "_law_found", "_law_size"]) (ps := ["_law_sides"]) (body := b_z2) T.d_z2.fu S rfl fun cdv A outer s H E hr => ?_
  exact (vss_cons (vs_set 1 S.nd rfl (Or.inl rfl) pv_int)
    (vss_cons (vs_for PassesOwn.never rfl (vi_seq (pv_var 0)) (vg_name 2 S.nd rfl (Or.inl rfl)) (vss_cons (vs_set 1 S.nd rfl (Or.inl rfl) (pv_op op_mul g_mul (pv_var 1) (pv_var 2)))
    vss_nil) gName_x)
    (vss_cons (vs_ret (pv_var 1))
    vss_nil)))
theorem sc_z3 : FnScope ["_law_sides", "_law_side", "_law_size"] ["_law_sides", "_law_side", "_law_size"] (defScope (top 13)) := scs
include T in
theorem ok_z3 : FnOk P w K mg base CX0 1 a.a_z3 a.fd_z3 ["_law_sides", "_law_side", "_law_size"] (spV K mg [false, false, false] f_z3) := by
  have S := sc_z3
  refine fn_ok (N := ["_law_sides", "_law_side", "_law_size"]) (ps := ["_law_sides", "_law_side", "_law_size"]) (body := b_z3) T.d_z3.fu S rfl fun cdv A outer s H E hr => ?_
  exact (vss_cons (vs_ret (pv_op op_addA g_addA (pv_op op_addA g_addA (pv_sl (pv_var 0) pp_none (pp_some (pv_var 1))) (pv_tup (pl_cons (pv_var 2) pl_nil))) (pv_sl (pv_var 0) (pp_some (pv_op op_addA g_addA (pv_var 1) pv_int)) pp_none)))
    vss_nil)
theorem sc_z5 : FnScope ["_law_one", "_law_other", "_law_many", "_law_left", "_law_right", "_law_found", "_law_k"] ["_law_one", "_law_other"] (defScope (top 12)) := scs
include T in
theorem ok_z5 : FnOk P w K mg base CX0 1 a.a_z5 a.fd_z5 ["_law_one", "_law_other"] (spV K mg [false, false] f_z5) := by
  have S := sc_z5
  refine fn_ok (N := ["_law_one", "_law_other", "_law_many", "_law_left", "_law_right", "_law_found", "_law_k"]) (ps := ["_law_one", "_law_other"]) (body := b_z5) T.d_z5.fu S rfl fun cdv A outer s H E hr => ?_
  exact (vss_cons (vs_set 2 S.nd rfl (Or.inl rfl) (pv_callB (call_max2 rfl) g_max rfl T.b_max boot_max (pl_cons (pv_call1B call_len_seq g_len rfl T.b_len PySem.boot_len (PV.rd (pv_var 0))) (pl_cons (pv_call1B call_len_seq g_len rfl T.b_len PySem.boot_len (PV.rd (pv_var 1))) pl_nil))))
    (vss_cons (vs_set 3 S.nd rfl (Or.inl rfl) (pv_op op_addA g_addA (pv_op op_mulA g_mulA (pv_tup (pl_cons pv_int pl_nil)) (pv_op op_sub g_sub (pv_var 2) (pv_call1B call_len_seq g_len rfl T.b_len PySem.boot_len (PV.rd (pv_var 0))))) (pv_var 0)))
    (vss_cons (vs_set 4 S.nd rfl (Or.inl rfl) (pv_op op_addA g_addA (pv_op op_mulA g_mulA (pv_tup (pl_cons pv_int pl_nil)) (pv_op op_sub g_sub (pv_var 2) (pv_call1B call_len_seq g_len rfl T.b_len PySem.boot_len (PV.rd (pv_var 1))))) (pv_var 1)))
    (vss_cons (vs_set 5 S.nd rfl (Or.inl rfl) (pv_tup pl_nil))
    (vss_cons (vs_for PassesOwn.never rfl (vi_range1 rfl T.b_range (pl_cons (pv_var 2) pl_nil)) (vg_name 6 S.nd rfl (Or.inl rfl)) (vss_cons (vs_if (PBW.pb (pb_and (pb_cmp (op_neD hr.units) g_neD (pv_ix (pv_var 3) (pv_var 6)) (pv_ix (pv_var 4) (pv_var 6)) (nomark _)) (pb_and (pb_cmp (op_neD hr.units) g_neD (pv_ix (pv_var 3) (pv_var 6)) pv_int (nomark _)) (pb_and1 (pb_cmp (op_neD hr.units) g_neD (pv_ix (pv_var 4) (pv_var 6)) pv_int (nomark _)))))) (vss_cons (vs_ret pv_non)
    vss_nil) vss_nil)
    (vss_cons (vs_set 5 S.nd rfl (Or.inl rfl) (pv_op op_addA g_addA (pv_var 5) (pv_tup (pl_cons (pv_ix (PF.pv (pf_lst (pl_cons (pv_ix (pv_var 3) (pv_var 6)) (pl_cons (pv_ix (pv_var 4) (pv_var 6)) pl_nil)))) (pv_callT call_int1 g_intD rfl T.b_int boot_int (pl_cons (pv_cmp (op_eqD hr.units) g_eqD (pv_ix (pv_var 3) (pv_var 6)) pv_int (nomark _)) pl_nil))) pl_nil))))
    vss_nil)) gName_x)
    (vss_cons (vs_ret (pv_var 5))
    vss_nil))))))
theorem sc_z10 : FnScope ["_law_row", "_law_many", "_law_at"] ["_law_row", "_law_many"] (defScope (top 10)) := scs
include T in
theorem ok_z10 : FnOk P w K mg base CX0 1 a.a_z10 a.fd_z10 ["_law_row", "_law_many"] (spV K mg [true, false] f_z10) := by
  have S := sc_z10
  refine fn_ok (N := ["_law_row", "_law_many", "_law_at"]) (ps := ["_law_row", "_law_many"]) (body := b_z10) T.d_z10.fu S rfl fun cdv A outer s H E hr => ?_
  exact (vss_cons (vs_set 2 S.nd rfl (Or.inl rfl) (pv_ixO 0 pv_int))
    (vss_cons (vs_setIx 0 pv_int (pv_op op_addA g_addA (pv_var 2) pv_int))
    (vss_cons (vs_if (pb_cmp op_lt g_lt (pv_var 2) (pv_call1B call_len_seq g_len rfl T.b_len PySem.boot_len (PV.rd (pv_ixO 0 pv_int))) (nomark _)) (vss_cons (vs_ret (pv_op op_mod g_mod (pv_ix (pv_ixO 0 pv_int) (pv_var 2)) (pv_var 1)))
    vss_nil) vss_nil)
    (vss_cons (vs_ret pv_int)
    vss_nil))))
theorem sc_z6 : FnScope ["_law_row", "_law_a", "_law_sides", "_law_way", "_law_index", "_law_own", "_law_b", "_law_deed", "_law_c", "_law_found", "_law_side"] ["_law_row", "_law_a", "_law_sides", "_law_way", "_law_index"] (defScope (top 16)) := scs
include T in
theorem ok_z6 : FnOk P w K mg base CX0 2 a.a_z6 a.fd_z6 ["_law_row", "_law_a", "_law_sides", "_law_way", "_law_index"] (spV K mg [true, false, true, false, false] f_z6) := by
  have S := sc_z6
  refine fn_ok (N := ["_law_row", "_law_a", "_law_sides", "_law_way", "_law_index", "_law_own", "_law_b", "_law_deed", "_law_c", "_law_found", "_law_side"]) (ps := ["_law_row", "_law_a", "_law_sides", "_law_way", "_law_index"]) (body := b_z6) T.d_z6.fu S rfl fun cdv A outer s H E hr => ?_
  exact (vss_cons (vs_set 5 S.nd rfl (Or.inl rfl) (pv_ixO 2 (pv_var 1)))
    (vss_cons (vs_set 6 S.nd rfl (Or.inl rfl) (pc T.d_z10 (ok_z10 T) hr rfl (pas_io 0 (pas_val (pv_call1B call_len_seq g_len rfl T.b_len PySem.boot_len (pr_var 2)) pas_nil))))
    (vss_cons (vs_if (pb_cmp (op_eqD hr.units) g_eqD (pv_var 3) pv_int (nomark _)) (vss_cons (vs_ret (pv_tup (pl_cons (pv_tup (pl_cons pv_str (pl_cons (pv_ix (PF.pv (pf_lst (pl_cons pv_str (pl_cons pv_str (pl_cons pv_str pl_nil))))) (pc T.d_z10 (ok_z10 T) hr rfl (pas_io 0 (pas_val pv_int pas_nil)))) (pl_cons (pv_var 1) pl_nil)))) (pl_cons (pv_var 5) pl_nil))))
    vss_nil) vss_nil)
    (vss_cons (vs_if (pb_cmp (op_eqD hr.units) g_eqD (pv_var 3) pv_int (nomark _)) (vss_cons (vs_set 7 S.nd rfl (Or.inl rfl) (pv_ix (PF.pv (pf_lst (pl_cons pv_str (pl_cons pv_str (pl_cons pv_str (pl_cons pv_str (pl_cons pv_str (pl_cons pv_str (pl_cons pv_str pl_nil))))))))) (pc T.d_z10 (ok_z10 T) hr rfl (pas_io 0 (pas_val pv_int pas_nil)))))
    (vss_cons (vs_if (pb_cmp op_isN g_isN (pc T.d_z5 (ok_z5 T) hr rfl (pas_val (pv_var 5) (pas_val (pv_ixO 2 (pv_var 6)) pas_nil))) pv_non (nomark _)) (vss_cons (vs_set 6 S.nd rfl (Or.inl rfl) (pv_var 1))
    vss_nil) vss_nil)
    (vss_cons (vs_ret (pv_tup (pl_cons (pv_tup (pl_cons pv_str (pl_cons (pv_var 7) (pl_cons (pv_var 1) (pl_cons (pv_var 6) pl_nil))))) (pl_cons (pc T.d_z5 (ok_z5 T) hr rfl (pas_val (pv_var 5) (pas_val (pv_ixO 2 (pv_var 6)) pas_nil))) pl_nil))))
    vss_nil))) vss_nil)
    (vss_cons (vs_if (pb_cmp (op_eqD hr.units) g_eqD (pv_var 3) pv_int (nomark _)) (vss_cons (vs_set 8 S.nd rfl (Or.inl rfl) (pc T.d_z10 (ok_z10 T) hr rfl (pas_io 0 (pas_val (pv_call1B call_len_seq g_len rfl T.b_len PySem.boot_len (pr_var 2)) pas_nil))))
    (vss_cons (vs_set 9 S.nd rfl (Or.inl rfl) (pc T.d_z5 (ok_z5 T) hr rfl (pas_val (pv_var 5) (pas_val (pv_ixO 2 (pv_var 6)) pas_nil))))
    (vss_cons (vs_if (PBW.pb (pb_or (pb_cmp op_isN g_isN (pv_var 9) pv_non (nomark _)) (pb_or1 (pb_cmp op_isN g_isN (pc T.d_z5 (ok_z5 T) hr rfl (pas_val (pv_var 9) (pas_val (pv_ixO 2 (pv_var 8)) pas_nil))) pv_non (nomark _))))) (vss_cons (vs_ret (pv_tup (pl_cons (pv_tup (pl_cons pv_str (pl_cons (pv_var 1) (pl_cons (pv_var 1) (pl_cons (pv_var 1) pl_nil))))) (pl_cons (pv_var 5) pl_nil))))
    vss_nil) vss_nil)
    (vss_cons (vs_ret (pv_tup (pl_cons (pv_tup (pl_cons pv_str (pl_cons (pv_var 6) (pl_cons (pv_var 1) (pl_cons (pv_var 8) pl_nil))))) (pl_cons (pc T.d_z5 (ok_z5 T) hr rfl (pas_val (pv_var 9) (pas_val (pv_ixO 2 (pv_var 8)) pas_nil))) pl_nil))))
    vss_nil)))) vss_nil)
    (vss_cons (vs_if (pb_cmp (op_eqD hr.units) g_eqD (pv_var 3) pv_int (nomark _)) (vss_cons (vs_set 9 S.nd rfl (Or.inl rfl) (pv_call1T call_tuple_of g_tupOf rfl T.b_tuple boot_tuple (PV.rd (PF.pv (pf_comp 1 rfl (N' := ["_law_row", "_law_a", "_law_sides", "_law_way", "_law_index", "_law_own", "_law_b", "_law_deed", "_law_c", "_law_found", "_law_side", "_law_k", "?acc11"]) ⟨rfl, by kernel_rfl⟩ rfl (vi_range1 rfl T.b_range (pl_cons (pc T.d_z10 (ok_z10 T) hr rfl (pas_io 0 (pas_val pv_int pas_nil))) pl_nil)) gName_x (hjs_of (by kernel_rfl)) (fun C s H ex => (vg_name 11 (ndk ["_law_row", "_law_a", "_law_sides", "_law_way", "_law_index", "_law_own", "_law_b", "_law_deed", "_law_c", "_law_found", "_law_side", "_law_k", "?acc11"]) rfl (Or.inl rfl))) (fun C s H ex => pts_nil) (fun C s H ex => (pv_op op_addA g_addA pv_int (pc T.d_z10 (ok_z10 T) hr rfl (pas_io 0 (pas_val pv_int pas_nil))))))))))
    (vss_cons (vs_ret (pv_tup (pl_cons (pv_tup (pl_cons pv_str (pl_cons (pv_var 9) (pl_cons (pc T.d_z10 (ok_z10 T) hr rfl (pas_io 0 (pas_val pv_int pas_nil))) pl_nil)))) (pl_cons (pv_var 9) pl_nil))))
    vss_nil)) vss_nil)
    (vss_cons (vs_if (pb_cmp (op_eqD hr.units) g_eqD (pv_var 5) (pv_tup pl_nil) (nomark _)) (vss_cons (vs_ret (pv_tup (pl_cons (pv_tup (pl_cons pv_str (pl_cons pv_str (pl_cons (pv_var 1) pl_nil)))) (pl_cons (pv_var 5) pl_nil))))
    vss_nil) vss_nil)
    (vss_cons (vs_set 10 S.nd rfl (Or.inl rfl) (pc T.d_z10 (ok_z10 T) hr rfl (pas_io 0 (pas_val (pv_call1B call_len_seq g_len rfl T.b_len PySem.boot_len (PV.rd (pv_var 5))) pas_nil))))
    (vss_cons (vs_if (pb_cmp (op_eqD hr.units) g_eqD (pv_var 3) pv_int (nomark _)) (vss_cons (vs_if (PBW.pb (pb_or (pb_cmp op_lt g_lt (pc T.d_z10 (ok_z10 T) hr rfl (pas_io 0 (pas_val pv_int pas_nil))) pv_int (nomark _)) (pb_or1 (pb_cmp (op_neD hr.units) g_neD (pv_call1B call_len_seq g_len rfl T.b_len PySem.boot_len (PV.rd (pv_ixO 2 (pv_var 6)))) pv_int (nomark _))))) (vss_cons (vs_set 6 S.nd rfl (Or.inl rfl) (pv_var 4))
    vss_nil) vss_nil)
    (vss_cons (vs_ret (pv_tup (pl_cons (pv_tup (pl_cons pv_str (pl_cons (pv_var 1) (pl_cons (pv_var 10) (pl_cons (pv_var 6) pl_nil))))) (pl_cons (pc T.d_z3 (ok_z3 T) hr rfl (pas_val (pv_var 5) (pas_val (pv_var 10) (pas_val (pv_ix (pv_ixO 2 (pv_var 6)) pv_int) pas_nil)))) pl_nil))))
    vss_nil)) vss_nil)
    (vss_cons (vs_if (PBW.pb (pb_or (pb_cmp (op_neD hr.units) g_neD (pv_call1B call_len_seq g_len rfl T.b_len PySem.boot_len (PV.rd (pv_ixO 2 (pv_var 6)))) (pv_call1B call_len_seq g_len rfl T.b_len PySem.boot_len (PV.rd (pv_var 5))) (nomark _)) (pb_or1 (pb_cmp (op_neD hr.units) g_neD (pc T.d_z3 (ok_z3 T) hr rfl (pas_val (pv_var 5) (pas_val (pv_var 10) (pas_val pv_int pas_nil)))) (pc T.d_z3 (ok_z3 T) hr rfl (pas_val (pv_ixO 2 (pv_var 6)) (pas_val (pv_var 10) (pas_val pv_int pas_nil)))) (nomark _))))) (vss_cons (vs_set 6 S.nd rfl (Or.inl rfl) (pv_var 1))
    vss_nil) vss_nil)
    (vss_cons (vs_ret (pv_tup (pl_cons (pv_tup (pl_cons pv_str (pl_cons (pv_var 1) (pl_cons (pv_var 6) (pl_cons (pv_var 10) pl_nil))))) (pl_cons (pc T.d_z3 (ok_z3 T) hr rfl (pas_val (pv_var 5) (pas_val (pv_var 10) (pas_val (pv_op op_addA g_addA (pv_ix (pv_var 5) (pv_var 10)) (pv_ix (pv_ixO 2 (pv_var 6)) (pv_var 10))) pas_nil)))) pl_nil))))
    vss_nil)))))))))))
theorem sc_z9 : FnScope ["_law_row", "_law_a", "_law_own", "_law_way", "_law_side", "_law_size", "_law_folds", "_law_by", "_law_deed", "_law_begin", "_law_step", "_law_room", "_law_many"] ["_law_row", "_law_a", "_law_own", "_law_way"] (defScope (top 15)) := scs
include T in
theorem ok_z9 : FnOk P w K mg base CX0 2 a.a_z9 a.fd_z9 ["_law_row", "_law_a", "_law_own", "_law_way"] (spV K mg [true, false, false, false] f_z9) := by
  have S := sc_z9
  refine fn_ok (N := ["_law_row", "_law_a", "_law_own", "_law_way", "_law_side", "_law_size", "_law_folds", "_law_by", "_law_deed", "_law_begin", "_law_step", "_law_room", "_law_many"]) (ps := ["_law_row", "_law_a", "_law_own", "_law_way"]) (body := b_z9) T.d_z9.fu S rfl fun cdv A outer s H E hr => ?_
  exact (vss_cons (vs_set 4 S.nd rfl (Or.inl rfl) (pc T.d_z10 (ok_z10 T) hr rfl (pas_io 0 (pas_val (pv_call1B call_len_seq g_len rfl T.b_len PySem.boot_len (PV.rd (pv_var 2))) pas_nil))))
    (vss_cons (vs_set 5 S.nd rfl (Or.inl rfl) (pv_ix (pv_var 2) (pv_var 4)))
    (vss_cons (vs_set 6 S.nd rfl (Or.inl rfl) (PF.pv (pf_lst (pl_cons pv_str (pl_cons pv_str (pl_cons pv_str (pl_cons pv_str pl_nil)))))))
    (vss_cons (vs_if (pb_cmp (op_eqD hr.units) g_eqD (pv_var 3) pv_int (nomark _)) (vss_cons (vs_set 7 S.nd rfl (Or.inl rfl) (pv_op op_sub g_sub (pc T.d_z10 (ok_z10 T) hr rfl (pas_io 0 (pas_val pv_int pas_nil))) pv_int))
    (vss_cons (vs_ret (pv_tup (pl_cons (pv_tup (pl_cons pv_str (pl_cons (pv_var 1) (pl_cons (pv_var 4) (pl_cons (pv_var 7) (pl_cons (pc T.d_z10 (ok_z10 T) hr rfl (pas_io 0 (pas_val pv_int pas_nil))) pl_nil)))))) (pl_cons (pv_var 2) pl_nil))))
    vss_nil)) vss_nil)
    (vss_cons (vs_if (pb_cmp (op_eqD hr.units) g_eqD (pv_var 3) pv_int (nomark _)) (vss_cons (vs_set 8 S.nd rfl (Or.inl rfl) (pv_ix (pv_var 6) (pv_op op_mod g_mod (pc T.d_z10 (ok_z10 T) hr rfl (pas_io 0 (pas_val pv_int pas_nil))) (pv_ix (PF.pv (pf_lst (pl_cons pv_int (pl_cons pv_int pl_nil)))) (pv_callT call_int1 g_intD rfl T.b_int boot_int (pl_cons (pv_cmp op_gt g_gt (pv_var 5) pv_int (nomark _)) pl_nil))))))
    (vss_cons (vs_ret (pv_tup (pl_cons (pv_tup (pl_cons pv_str (pl_cons (pv_var 8) (pl_cons (pv_var 1) (pl_cons (pv_var 4) pl_nil))))) (pl_cons (pv_op op_addA g_addA (pv_sl (pv_var 2) pp_none (pp_some (pv_var 4))) (pv_sl (pv_var 2) (pp_some (pv_op op_addA g_addA (pv_var 4) pv_int)) pp_none)) pl_nil))))
    vss_nil)) vss_nil)
    (vss_cons (vs_if (pb_cmp (op_eqD hr.units) g_eqD (pv_var 3) pv_int (nomark _)) (vss_cons (vs_ret (pv_tup (pl_cons (pv_tup (pl_cons pv_str (pl_cons (pv_ix (pv_var 6) (pc T.d_z10 (ok_z10 T) hr rfl (pas_io 0 (pas_val pv_int pas_nil)))) (pl_cons (pv_var 1) (pl_cons (pv_var 4) pl_nil))))) (pl_cons (pv_var 2) pl_nil))))
    vss_nil) vss_nil)
    (vss_cons (vs_if (pb_cmp (op_eqD hr.units) g_eqD (pv_var 5) pv_int (nomark _)) (vss_cons (vs_ret (pv_tup (pl_cons (pv_tup (pl_cons pv_str (pl_cons pv_str (pl_cons (pv_var 1) pl_nil)))) (pl_cons (pv_var 2) pl_nil))))
    vss_nil) vss_nil)
    (vss_cons (vs_set 9 S.nd rfl (Or.inl rfl) (pc T.d_z10 (ok_z10 T) hr rfl (pas_io 0 (pas_val (pv_var 5) pas_nil))))
    (vss_cons (vs_if (pb_cmp (op_eqD hr.units) g_eqD (pv_var 3) pv_int (nomark _)) (vss_cons (vs_ret (pv_tup (pl_cons (pv_tup (pl_cons pv_str (pl_cons (pv_var 1) (pl_cons (pv_var 4) (pl_cons (pv_var 9) pl_nil))))) (pl_cons (pv_op op_addA g_addA (pv_sl (pv_var 2) pp_none (pp_some (pv_var 4))) (pv_sl (pv_var 2) (pp_some (pv_op op_addA g_addA (pv_var 4) pv_int)) pp_none)) pl_nil))))
    vss_nil) vss_nil)
    (vss_cons (vs_set 10 S.nd rfl (Or.inl rfl) (pv_op op_addA g_addA pv_int (pc T.d_z10 (ok_z10 T) hr rfl (pas_io 0 (pas_val pv_int pas_nil)))))
    (vss_cons (vs_set 11 S.nd rfl (Or.inl rfl) (pv_op op_fdiv g_fdiv (pv_op op_sub g_sub (pv_op op_sub g_sub (pv_var 5) pv_int) (pv_var 9)) (pv_var 10)))
    (vss_cons (vs_if (pb_cmp (op_eqD hr.units) g_eqD (pc T.d_z10 (ok_z10 T) hr rfl (pas_io 0 (pas_val pv_int pas_nil))) pv_int (nomark _)) (vss_cons (vs_set 11 S.nd rfl (Or.inl rfl) (pv_op op_fdiv g_fdiv (pv_var 9) (pv_var 10)))
    (vss_cons (vs_set 10 S.nd rfl (Or.inl rfl) (pv_op op_sub g_sub pv_int (pv_var 10)))
    vss_nil)) vss_nil)
    (vss_cons (vs_set 12 S.nd rfl (Or.inl rfl) (pv_op op_sub g_sub (pv_op op_addA g_addA (pv_var 11) pv_int) (pc T.d_z10 (ok_z10 T) hr rfl (pas_io 0 (pas_val (pv_op op_addA g_addA (pv_var 11) pv_int) pas_nil)))))
    (vss_cons (vs_ret (pv_tup (pl_cons (pv_tup (pl_cons pv_str (pl_cons (pv_var 1) (pl_cons (pv_var 4) (pl_cons (pv_var 9) (pl_cons (pv_var 10) (pl_cons (pv_var 12) pl_nil))))))) (pl_cons (pc T.d_z3 (ok_z3 T) hr rfl (pas_val (pv_var 2) (pas_val (pv_var 4) (pas_val (pv_var 12) pas_nil)))) pl_nil))))
    vss_nil))))))))))))))
theorem sc_z12 : FnScope ["_law_row", "_law_a", "_law_own", "_law_way", "_law_many", "_law_turn", "_law_order", "_law_at", "_law_sides", "_law_cells_here"] ["_law_row", "_law_a", "_law_own", "_law_way"] (defScope (top 14)) := scs
include T in
theorem ok_z12 : FnOk P w K mg base CX0 2 a.a_z12 a.fd_z12 ["_law_row", "_law_a", "_law_own", "_law_way"] (spV K mg [true, false, false, false] f_z12) := by
  have S := sc_z12
  refine fn_ok (N := ["_law_row", "_law_a", "_law_own", "_law_way", "_law_many", "_law_turn", "_law_order", "_law_at", "_law_sides", "_law_cells_here"]) (ps := ["_law_row", "_law_a", "_law_own", "_law_way"]) (body := b_z12) T.d_z12.fu S rfl fun cdv A outer s H E hr => ?_
  exact (vss_cons (vs_set 4 S.nd rfl (Or.inr rfl) (pv_call1B call_len_seq g_len rfl T.b_len PySem.boot_len (PV.rd (pv_var 2))))
    (vss_cons (vs_if (pb_cmp (op_eqD hr.units) g_eqD (pv_var 3) pv_int (nomark _)) (vss_cons (vs_set 5 S.nd rfl (Or.inr rfl) (pc T.d_z10 (ok_z10 T) hr rfl (pas_io 0 (pas_val (pv_callB (call_max2 rfl) g_max rfl T.b_max boot_max (pl_cons pv_int (pl_cons (pv_var 4) pl_nil))) pas_nil))))
    (vss_cons (vs_setC 1 6 S.nd rfl (Or.inl rfl) rfl (N' := ["_law_row", "_law_a", "_law_own", "_law_way", "_law_many", "_law_turn", "_law_order", "_law_at", "_law_sides", "_law_cells_here", "_law_k", "?acc10"]) ⟨rfl, by kernel_rfl⟩ rfl (vi_range1 rfl T.b_range (pl_cons (pv_var 4) pl_nil)) gName_x (hjs_of (by kernel_rfl)) (fun C s H ex => (vg_name 10 (ndk ["_law_row", "_law_a", "_law_own", "_law_way", "_law_many", "_law_turn", "_law_order", "_law_at", "_law_sides", "_law_cells_here", "_law_k", "?acc10"]) rfl (Or.inl rfl))) (fun C s H ex => pts_nil) (fun C s H ex => (pv_op op_mod g_mod (pv_op op_addA g_addA (pv_var 10) (pv_var 5)) (pv_var 4))))
    (vss_cons (vs_if (pb_cmp (op_eqD hr.units) g_eqD (pc T.d_z10 (ok_z10 T) hr rfl (pas_io 0 (pas_val pv_int pas_nil))) pv_int (nomark _)) (vss_cons (vs_set 6 S.nd rfl (Or.inl rfl) (PF.pv (pf_revL rfl T.b_reversed rfl T.b_list (PV.rd (pv_var 6)))))
    vss_nil) vss_nil)
    (vss_cons (vs_ret (pv_tup (pl_cons (pv_tup (pl_cons pv_str (pl_cons (pv_var 1) (pl_cons (pv_call1T call_tuple_of g_tupOf rfl T.b_tuple boot_tuple (PV.rd (pv_var 6))) pl_nil)))) (pl_cons (pv_call1T call_tuple_of g_tupOf rfl T.b_tuple boot_tuple (PV.rd (PF.pv (pf_comp 1 rfl (N' := ["_law_row", "_law_a", "_law_own", "_law_way", "_law_many", "_law_turn", "_law_order", "_law_at", "_law_sides", "_law_cells_here", "_law_k", "?acc10"]) ⟨rfl, by kernel_rfl⟩ rfl (vi_seq (pv_var 6)) gName_x (hjs_of (by kernel_rfl)) (fun C s H ex => (vg_name 10 (ndk ["_law_row", "_law_a", "_law_own", "_law_way", "_law_many", "_law_turn", "_law_order", "_law_at", "_law_sides", "_law_cells_here", "_law_k", "?acc10"]) rfl (Or.inl rfl))) (fun C s H ex => pts_nil) (fun C s H ex => (pv_ix (pv_var 2) (pv_var 10))))))) pl_nil))))
    vss_nil)))) vss_nil)
    (vss_cons (vs_if (pb_cmp (op_eqD hr.units) g_eqD (pv_var 3) pv_int (nomark _)) (vss_cons (vs_set 7 S.nd rfl (Or.inl rfl) (pc T.d_z10 (ok_z10 T) hr rfl (pas_io 0 (pas_val (pv_op op_addA g_addA (pv_var 4) pv_int) pas_nil))))
    (vss_cons (vs_ret (pv_tup (pl_cons (pv_tup (pl_cons pv_str (pl_cons (pv_var 1) (pl_cons (pv_var 7) pl_nil)))) (pl_cons (pv_op op_addA g_addA (pv_op op_addA g_addA (pv_sl (pv_var 2) pp_none (pp_some (pv_var 7))) (pv_tup (pl_cons pv_int pl_nil))) (pv_sl (pv_var 2) (pp_some (pv_var 7)) pp_none)) pl_nil))))
    vss_nil)) vss_nil)
    (vss_cons (vs_if (pb_cmp (op_eqD hr.units) g_eqD (pv_var 3) pv_int (nomark _)) (vss_cons (vs_set 8 S.nd rfl (Or.inl rfl) (pv_call1T call_tuple_of g_tupOf rfl T.b_tuple boot_tuple (PV.rd (PF.pv (pf_comp 1 rfl (N' := ["_law_row", "_law_a", "_law_own", "_law_way", "_law_many", "_law_turn", "_law_order", "_law_at", "_law_sides", "_law_cells_here", "_law_size", "?acc10"]) ⟨rfl, by kernel_rfl⟩ rfl (vi_seq (pv_var 2)) gName_x (hjs_of (by kernel_rfl)) (fun C s H ex => (vg_name 10 (ndk ["_law_row", "_law_a", "_law_own", "_law_way", "_law_many", "_law_turn", "_law_order", "_law_at", "_law_sides", "_law_cells_here", "_law_size", "?acc10"]) rfl (Or.inl rfl))) (fun C s H ex => pts_nil) (fun C s H ex => (pv_ix (PF.pv (pf_lst (pl_cons (pv_var 10) (pl_cons (pc T.d_z10 (ok_z10 T) hr rfl (pas_io 0 (pas_val pv_int pas_nil))) pl_nil)))) (pv_callT call_int1 g_intD rfl T.b_int boot_int (pl_cons (pv_cmp (op_eqD hr.units) g_eqD (pv_var 10) pv_int (nomark _)) pl_nil)))))))))
    (vss_cons (vs_if (pb_cmp (op_eqD hr.units) g_eqD (pc T.d_z10 (ok_z10 T) hr rfl (pas_io 0 (pas_val pv_int pas_nil))) pv_int (nomark _)) (vss_cons (vs_set 8 S.nd rfl (Or.inl rfl) (pv_op op_addA g_addA (pv_tup (pl_cons (pc T.d_z10 (ok_z10 T) hr rfl (pas_io 0 (pas_val pv_int pas_nil))) pl_nil)) (pv_var 8)))
    vss_nil) vss_nil)
    (vss_cons (vs_ret (pv_tup (pl_cons (pv_tup (pl_cons pv_str (pl_cons (pv_var 1) (pl_cons (pv_var 8) pl_nil)))) (pl_cons (pv_var 8) pl_nil))))
    vss_nil))) vss_nil)
    (vss_cons (vs_set 9 S.nd rfl (Or.inl rfl) (pc T.d_z2 (ok_z2 T) hr rfl (pas_val (pv_var 2) pas_nil)))
    (vss_cons (vs_set 8 S.nd rfl (Or.inl rfl) (pv_ix (PF.pv (pf_lst (pl_cons (pv_revT rfl T.b_reversed rfl T.b_tuple (PV.rd (pv_var 2))) (pl_cons (pv_tup (pl_cons (pv_var 9) pl_nil)) (pl_cons (pv_tup (pl_cons pv_int (pl_cons (pv_var 9) pl_nil))) (pl_cons (pv_tup (pl_cons (pv_var 9) (pl_cons pv_int pl_nil))) pl_nil)))))) (pc T.d_z10 (ok_z10 T) hr rfl (pas_io 0 (pas_val pv_int pas_nil)))))
    (vss_cons (vs_ret (pv_tup (pl_cons (pv_tup (pl_cons pv_str (pl_cons (pv_var 1) (pl_cons (pv_var 8) pl_nil)))) (pl_cons (pv_var 8) pl_nil))))
    vss_nil)))))))
theorem sc_z7 : FnScope ["_law_row", "_law_given", "_law_k", "_law_many", "_law_count", "_law_turn", "_law_program_here", "_law_sides", "_law_index", "_law_a", "_law_way", "_law_found"] ["_law_row"] (defScope (top 17)) := scs
include T in
theorem ok_z7 : FnOk P w K mg base CX0 3 a.a_z7 a.fd_z7 ["_law_row"] (spV K mg [true] f_z7) := by
  have S := sc_z7
  refine fn_ok (N := ["_law_row", "_law_given", "_law_k", "_law_many", "_law_count", "_law_turn", "_law_program_here", "_law_sides", "_law_index", "_law_a", "_law_way", "_law_found"]) (ps := ["_law_row"]) (body := b_z7) T.d_z7.fu S rfl fun cdv A outer s H E hr => ?_
  exact (vss_cons (vs_own 1 S.nd rfl (Or.inr rfl) (pf_lst pl_nil))
    (vss_cons (vs_for PassesOwn.never rfl (vi_range1 rfl T.b_range (pl_cons (pv_op op_addA g_addA pv_int (pc T.d_z10 (ok_z10 T) hr rfl (pas_io 0 (pas_val pv_int pas_nil)))) pl_nil)) (vg_name 2 S.nd rfl (Or.inl rfl)) (vss_cons (vs_set 3 S.nd rfl (Or.inl rfl) (pc T.d_z10 (ok_z10 T) hr rfl (pas_io 0 (pas_val pv_int pas_nil))))
    (vss_cons (vs_app 1 (pv_call1T call_tuple_of g_tupOf rfl T.b_tuple boot_tuple (PV.rd (PF.pv (pf_comp 1 rfl (N' := ["_law_row", "_law_given", "_law_k", "_law_many", "_law_count", "_law_turn", "_law_program_here", "_law_sides", "_law_index", "_law_a", "_law_way", "_law_found", "_law_j", "?acc12"]) ⟨rfl, by kernel_rfl⟩ rfl (vi_range1 rfl T.b_range (pl_cons (pv_var 3) pl_nil)) gName_x (hjs_of (by kernel_rfl)) (fun C s H ex => (vg_name 12 (ndk ["_law_row", "_law_given", "_law_k", "_law_many", "_law_count", "_law_turn", "_law_program_here", "_law_sides", "_law_index", "_law_a", "_law_way", "_law_found", "_law_j", "?acc12"]) rfl (Or.inl rfl))) (fun C s H ex => pts_nil) (fun C s H ex => (pv_ix (PF.pv (pf_lst (pl_cons pv_int (pl_cons pv_int (pl_cons pv_int (pl_cons pv_int (pl_cons pv_int (pl_cons pv_int (pl_cons pv_int (pl_cons pv_int pl_nil)))))))))) (pc T.d_z10 (ok_z10 T) hr rfl (pas_io 0 (pas_val pv_int pas_nil))))))))) (hpe := fun ho ha => pe_bm PySem.F.plainAttrs_list PySem.F.slot_list_append PySem.F.type_list_append mt_append ho ha))
    vss_nil)) gName_x)
    (vss_cons (vs_app 1 (pv_tup (pl_cons (pv_ix (PF.pv (pf_lst (pl_cons pv_int (pl_cons pv_int (pl_cons pv_int (pl_cons pv_int pl_nil)))))) (pc T.d_z10 (ok_z10 T) hr rfl (pas_io 0 (pas_val pv_int pas_nil)))) pl_nil)) (hpe := fun ho ha => pe_bm PySem.F.plainAttrs_list PySem.F.slot_list_append PySem.F.type_list_append mt_append ho ha))
    (vss_cons (vs_set 4 S.nd rfl (Or.inr rfl) (pv_call1B call_len_seq g_len rfl T.b_len PySem.boot_len (pr_var 1)))
    (vss_cons (vs_set 5 S.nd rfl (Or.inr rfl) (pc T.d_z10 (ok_z10 T) hr rfl (pas_io 0 (pas_val (pv_var 4) pas_nil))))
    (vss_cons (vs_ownC 1 6 S.nd rfl (Or.inl rfl) rfl (N' := ["_law_row", "_law_given", "?2", "_law_many", "_law_count", "_law_turn", "_law_program_here", "_law_sides", "_law_index", "_law_a", "_law_way", "_law_found", "_law_k", "?acc12"]) ⟨rfl, by kernel_rfl⟩ rfl (vi_range1 rfl T.b_range (pl_cons (pv_var 4) pl_nil)) gName_x (hjs_of (by kernel_rfl)) (fun C s H ex => (vg_name 12 (ndk ["_law_row", "_law_given", "?2", "_law_many", "_law_count", "_law_turn", "_law_program_here", "_law_sides", "_law_index", "_law_a", "_law_way", "_law_found", "_law_k", "?acc12"]) rfl (Or.inl rfl))) (fun C s H ex => pts_nil) (fun C s H ex => (pv_tup (pl_cons pv_str (pl_cons (pv_op op_mod g_mod (pv_op op_addA g_addA (pv_var 12) (pv_var 5)) (pv_var 4)) pl_nil)))))
    (vss_cons (vs_ownV 1 7 S.nd rfl (Or.inl rfl) rfl (N' := ["_law_row", "_law_given", "_law_k", "_law_many", "_law_count", "_law_turn", "_law_program_here", "_law_sides", "_law_index", "_law_a", "_law_way", "_law_found", "_law_line", "?acc12"]) ⟨rfl, by kernel_rfl⟩ rfl (vi_seq (pv_var 6)) gName_x (hjs_of (by kernel_rfl)) (fun C s H ex => (vg_name 12 (ndk ["_law_row", "_law_given", "_law_k", "_law_many", "_law_count", "_law_turn", "_law_program_here", "_law_sides", "_law_index", "_law_a", "_law_way", "_law_found", "_law_line", "?acc12"]) rfl (Or.inl rfl))) (fun C s H ex => pts_nil) (fun C s H ex => (pv_ix (pv_var 1) (pv_ix (pv_var 12) pv_int))))
    (vss_cons (vs_set 8 S.nd rfl (Or.inl rfl) (pv_op op_mod g_mod (pv_op op_sub g_sub (pv_op op_sub g_sub (pv_var 4) pv_int) (pv_var 5)) (pv_var 4)))
    (vss_cons (vs_for PassesOwn.never rfl (vi_range1 rfl T.b_range (pl_cons (pv_op op_addA g_addA pv_int (pc T.d_z10 (ok_z10 T) hr rfl (pas_io 0 (pas_val pv_int pas_nil)))) pl_nil)) (vg_name 2 S.nd rfl (Or.inl rfl)) (vss_cons (vs_set 9 S.nd rfl (Or.inl rfl) (pv_op op_sub g_sub (pv_op op_sub g_sub (pv_call1B call_len_seq g_len rfl T.b_len PySem.boot_len (pr_var 6)) pv_int) (pc T.d_z10 (ok_z10 T) hr rfl (pas_io 0 (pas_val (pv_call1B call_len_seq g_len rfl T.b_len PySem.boot_len (pr_var 6)) pas_nil)))))
    (vss_cons (vs_set 10 S.nd rfl (Or.inl rfl) (pc T.d_z10 (ok_z10 T) hr rfl (pas_io 0 (pas_val pv_int pas_nil))))
    (vss_cons (vs_if (pb_cmp op_lt g_lt (pv_var 10) pv_int (nomark _)) (vss_cons (vs_set 11 S.nd rfl (Or.inl rfl) (pc T.d_z12 (ok_z12 T) hr rfl (pas_io 0 (pas_val (pv_var 9) (pas_val (pv_ixO 7 (pv_var 9)) (pas_val (pv_var 10) pas_nil))))))
    vss_nil) (vss_cons (vs_if (PBW.pb (pb_and (pb_cmp op_lt g_lt (pv_var 10) pv_int (nomark _)) (pb_and1 (pb_cmp (op_neD hr.units) g_neD (pv_ixO 7 (pv_var 9)) (pv_tup pl_nil) (nomark _))))) (vss_cons (vs_set 11 S.nd rfl (Or.inl rfl) (pc T.d_z9 (ok_z9 T) hr rfl (pas_io 0 (pas_val (pv_var 9) (pas_val (pv_ixO 7 (pv_var 9)) (pas_val (pv_var 10) pas_nil))))))
    vss_nil) (vss_cons (vs_if (pb_cmp (op_eqD hr.units) g_eqD (pv_var 10) pv_int (nomark _)) (vss_cons (vs_set 11 S.nd rfl (Or.inl rfl) (pv_tup (pl_cons (pv_tup (pl_cons pv_str (pl_cons (pv_op op_mod g_mod (pv_var 9) (pv_var 4)) pl_nil))) (pl_cons (pv_ixO 1 (pv_op op_mod g_mod (pv_var 9) (pv_var 4))) pl_nil))))
    vss_nil) (vss_cons (vs_set 11 S.nd rfl (Or.inl rfl) (pc T.d_z6 (ok_z6 T) hr rfl (pas_io 0 (pas_val (pv_var 9) (pas_io 7 (pas_val (pv_var 10) (pas_val (pv_var 8) pas_nil)))))))
    vss_nil))
    vss_nil))
    vss_nil))
    (vss_cons (vs_if (PBW.pb (pb_or (pb_cmp op_gt g_gt (pc T.d_z2 (ok_z2 T) hr rfl (pas_val (pv_ix (pv_var 11) pv_int) pas_nil)) pv_int (nomark _)) (pb_or (pb_cmp op_gt g_gt (pv_call1B call_len_seq g_len rfl T.b_len PySem.boot_len (PV.rd (pv_ix (pv_var 11) pv_int))) pv_int (nomark _)) (pb_or1 (pb_cmp op_gt g_gt (pv_maxd rfl rfl T.b_max boot_max (pv_ix (pv_var 11) pv_int) pv_int) pv_int (nomark _)))))) (vss_cons (vs_set 11 S.nd rfl (Or.inl rfl) (pv_tup (pl_cons (pv_tup (pl_cons pv_str (pl_cons pv_str (pl_cons (pv_var 9) pl_nil)))) (pl_cons (pv_ixO 7 (pv_var 9)) pl_nil))))
    vss_nil) vss_nil)
    (vss_cons (vs_app 6 (pv_ix (pv_var 11) pv_int) (hpe := fun ho ha => pe_bm PySem.F.plainAttrs_list PySem.F.slot_list_append PySem.F.type_list_append mt_append ho ha))
    (vss_cons (vs_app 7 (pv_ix (pv_var 11) pv_int) (hpe := fun ho ha => pe_bm PySem.F.plainAttrs_list PySem.F.slot_list_append PySem.F.type_list_append mt_append ho ha))
    vss_nil)))))) gName_x)
    (vss_cons (vs_fz (i := 1) (vs_fz (i := 7) (vs_fz (i := 6) (vs_ret (pv_tup (pl_cons (pv_var 6) (pl_cons (pv_var 7) (pl_cons (pv_var 4) (pl_cons (pv_var 1) pl_nil)))))))))
    vss_nil))))))))))
theorem sc_z11 : FnScope ["_law_found", "_law_due", "_law_one"] ["_law_found", "_law_due"] (defScope (top 21)) := scs
include T in
theorem ok_z11 : FnOk P w K mg base CX0 1 a.a_z11 a.fd_z11 ["_law_found", "_law_due"] (spV K mg [false, false] f_z11) := by
  have S := sc_z11
  refine fn_ok (N := ["_law_found", "_law_due", "_law_one"]) (ps := ["_law_found", "_law_due"]) (body := b_z11) T.d_z11.fu S rfl fun cdv A outer s H E hr => ?_
  exact (vss_cons (vs_if (PBW.pb (pb_or (pb_not (pb_val (pv_isa "list" (by simp) rfl T.b_isinstance rfl T.b_list (by decide +kernel) (PV.rd (pv_var 0))))) (pb_or1 (pb_cmp (op_neD hr.units) g_neD (pv_call1B call_len_seq g_len rfl T.b_len PySem.boot_len (PV.rd (pv_var 0))) (pv_call1B call_len_seq g_len rfl T.b_len PySem.boot_len (PV.rd (pv_var 1))) (nomark _))))) (vss_cons (vs_ret pv_bl)
    vss_nil) vss_nil)
    (vss_cons (vs_for PassesOwn.never rfl (vi_seq (pv_var 0)) (vg_name 2 S.nd rfl (Or.inl rfl)) (vss_cons (vs_if (pb_not (pb_val (pv_isa "bool" (by simp) rfl T.b_isinstance rfl T.b_bool (by decide +kernel) (PV.rd (pv_var 2))))) (vss_cons (vs_ret pv_bl)
    vss_nil) vss_nil)
    vss_nil) gName_x)
    (vss_cons (vs_ret (pv_cmp (op_eqD hr.units) g_eqD (pv_var 0) (pv_var 1) (nomark _)))
    vss_nil)))
theorem sc_z17 : FnScope ["program", "sides", "number", "at"] ["program", "sides", "number", "at"] (defScope (top 8)) := scs
include T in
theorem ok_z17 : FnOk P w K mg base CX0 1 a.a_z17 a.fd_z17 ["program", "sides", "number", "at"] (spV K mg [false, false, false, false] f_z17) := by
  have S := sc_z17
  refine fn_ok (N := ["program", "sides", "number", "at"]) (ps := ["program", "sides", "number", "at"]) (body := b_z17) T.d_z17.fu S rfl fun cdv A outer s H E hr => ?_
  exact (vss_cons (vs_ret (pv_and (pv_cmp op_in_seq (g_in false) (pv_ix (pv_ix (pv_var 0) (pv_var 2)) pv_int) (pv_tup (pl_cons pv_str (pl_cons pv_str (pl_cons pv_str pl_nil)))) (by with_unfolding_all rfl)) (pv_one (pv_cmp (op_neD hr.units) g_neD (pv_ix (pv_var 1) (pv_var 2)) (pv_ix (pv_var 1) (pv_var 3)) (nomark _)))))
    vss_nil)
theorem sc_z0 : FnScope ["program", "sides", "at", "naming", "kind"] ["program", "sides", "at", "naming"] (defScope (top 7)) := scs
include T in
theorem ok_z0 : FnOk P w K mg base CX0 2 a.a_z0 a.fd_z0 ["program", "sides", "at", "naming"] (spV K mg [false, false, false, false] f_z0) := by
  have S := sc_z0
  refine fn_ok (N := ["program", "sides", "at", "naming", "kind"]) (ps := ["program", "sides", "at", "naming"]) (body := b_z0) T.d_z0.fu S rfl fun cdv A outer s H E hr => ?_
  exact (vss_cons (vs_set 4 S.nd rfl (Or.inl rfl) (pv_ix (pv_ix (pv_var 0) (pv_var 2)) pv_int))
    (vss_cons (vs_if (PBW.pb (pb_or (pb_cmp (op_eqD hr.units) g_eqD (pv_var 2) (pv_op op_sub g_sub (pv_call1B call_len_seq g_len rfl T.b_len PySem.boot_len (PV.rd (pv_var 0))) pv_int) (nomark _)) (pb_or1 (pb_cmp op_in_seq (g_in false) (pv_var 4) (pv_tup (pl_cons pv_str (pl_cons pv_str (pl_cons pv_str (pl_cons pv_str pl_nil))))) (by with_unfolding_all rfl))))) (vss_cons (vs_ret pv_bl)
    vss_nil) vss_nil)
    (vss_cons (vs_if (pb_val (pv_call1B (call_anyT rfl) (g_allB false) rfl T.b_any VS.boot_any (PV.rd (PF.pv (pf_comp 1 rfl (N' := ["program", "sides", "at", "naming", "kind", "number", "?acc5"]) ⟨rfl, by kernel_rfl⟩ rfl (vi_seq (pv_var 3)) gName_x (hjs_of (by kernel_rfl)) (fun C s H ex => (vg_name 5 (ndk ["program", "sides", "at", "naming", "kind", "number", "?acc5"]) rfl (Or.inl rfl))) (fun C s H ex => pts_nil) (fun C s H ex => (pv_cmp op_in_seq (g_in false) (pv_ix (pv_ix (pv_var 0) (pv_var 5)) pv_int) (pv_tup (pl_cons pv_str (pl_cons pv_str pl_nil))) (by with_unfolding_all rfl)))))))) (vss_cons (vs_ret pv_bl)
    vss_nil) vss_nil)
    (vss_cons (vs_if (pb_cmp (op_eqD hr.units) g_eqD (pv_var 4) pv_str (nomark _)) (vss_cons (vs_ret pv_bl)
    vss_nil) vss_nil)
    (vss_cons (vs_ret (pv_or (pv_cmp op_gt g_gt (pv_call1B call_len_seq g_len rfl T.b_len PySem.boot_len (PV.rd (pv_var 3))) pv_int (nomark _)) (pv_one (pv_call1B (call_anyT rfl) (g_allB false) rfl T.b_any VS.boot_any (PV.rd (PF.pv (pf_comp 1 rfl (N' := ["program", "sides", "at", "naming", "kind", "number", "?acc5"]) ⟨rfl, by kernel_rfl⟩ rfl (vi_seq (pv_var 3)) gName_x (hjs_of (by kernel_rfl)) (fun C s H ex => (vg_name 5 (ndk ["program", "sides", "at", "naming", "kind", "number", "?acc5"]) rfl (Or.inl rfl))) (fun C s H ex => pts_nil) (fun C s H ex => (pc T.d_z17 (ok_z17 T) hr rfl (pas_val (pv_var 0) (pas_val (pv_var 1) (pas_val (pv_var 5) (pas_val (pv_var 2) pas_nil)))))))))))))
    vss_nil)))))
theorem sc_z15 : FnScope ["line"] ["line"] (defScope (top 2)) := scs
include T in
theorem ok_z15 : FnOk P w K mg base CX0 1 a.a_z15 a.fd_z15 ["line"] (spV K mg [false] f_z15) := by
  have S := sc_z15
  refine fn_ok (N := ["line"]) (ps := ["line"]) (body := b_z15) T.d_z15.fu S rfl fun cdv A outer s H E hr => ?_
  exact (vss_cons (vs_ret (PF.pv (pf_comp 2 rfl (N' := ["line", "part", "value", "?acc1"]) ⟨rfl, by kernel_rfl⟩ rfl (vi_zip rfl T.b_zip (pl_cons (pv_tabT T.g_FORMS rfl (pv_ix (pv_var 0) pv_int)) (pl_cons (pv_sl (pv_var 0) (pp_some pv_int) pp_none) pl_nil))) gTup_x (hjs_of (by kernel_rfl)) (fun C s H ex => (vg_tup rfl (vgs_cons 1 (ndk ["line", "part", "value", "?acc1"]) rfl (Or.inl rfl) (vgs_cons 2 (ndk ["line", "part", "value", "?acc1"]) rfl (Or.inl rfl) vgs_nil)))) (fun C s H ex => (pts_one (pb_cmp (op_eqD hr.units) g_eqD (pv_var 1) pv_str (nomark _)))) (fun C s H ex => (pv_var 2)))))
    vss_nil)
theorem sc_z16 : FnScope ["program", "wanted", "at", "naming", "number", "line"] ["program", "wanted", "at"] (defScope (top 6)) := scs
include T in
theorem ok_z16 : FnOk P w K mg base CX0 2 a.a_z16 a.fd_z16 ["program", "wanted", "at"] (spV K mg [false, false, false] f_z16) := by
  have S := sc_z16
  refine fn_ok (N := ["program", "wanted", "at", "naming", "number", "line"]) (ps := ["program", "wanted", "at"]) (body := b_z16) T.d_z16.fu S rfl fun cdv A outer s H E hr => ?_
  exact (vss_cons (vs_own 3 S.nd rfl (Or.inl rfl) (pf_lst pl_nil))
    (vss_cons (vs_for PassesOwn.never rfl (vi_enum rfl T.b_enumerate (pl_cons (pv_var 0) pl_nil)) (vg_tup rfl (vgs_cons 4 S.nd rfl (Or.inr rfl) (vgs_cons 5 S.nd rfl (Or.inl rfl) vgs_nil))) (vss_cons (vs_if (pb_val (pv_ix (pv_var 1) (pv_var 4))) (vss_cons (vs_ext 3 (pf_comp 1 rfl (N' := ["program", "wanted", "at", "naming", "number", "line", "named", "?acc6"]) ⟨rfl, by kernel_rfl⟩ rfl (vi_seq (pc T.d_z15 (ok_z15 T) hr rfl (pas_val (pv_var 5) pas_nil))) gName_x (hjs_of (by kernel_rfl)) (fun C s H ex => (vg_name 6 (ndk ["program", "wanted", "at", "naming", "number", "line", "named", "?acc6"]) rfl (Or.inl rfl))) (fun C s H ex => (pts_one (pb_cmp (op_eqD hr.units) g_eqD (pv_var 6) (pv_var 2) (nomark _)))) (fun C s H ex => (pv_var 4))) (hpe := fun ho ha => pe_bm PySem.F.plainAttrs_list PySem.F.slot_list_extend PySem.F.type_list_extend mt_extend ho ha))
    vss_nil) vss_nil)
    vss_nil) gTup_x)
    (vss_cons (vs_fz (i := 3) (vs_ret (pv_var 3)))
    vss_nil)))
theorem sc_z18 : FnScope ["program", "wanted", "at", "named"] ["program"] (defScope (top 4)) := scs
include T in
theorem ok_z18 : FnOk P w K mg base CX0 2 a.a_z18 a.fd_z18 ["program"] (spV K mg [false] f_z18) := by
  have S := sc_z18
  refine fn_ok (N := ["program", "wanted", "at", "named"]) (ps := ["program"]) (body := b_z18) T.d_z18.fu S rfl fun cdv A outer s H E hr => ?_
  exact (vss_cons (vs_ownC 1 1 S.nd rfl (Or.inl rfl) rfl (N' := ["program", "wanted", "at", "named", "line", "?acc4"]) ⟨rfl, by kernel_rfl⟩ rfl (vi_seq (pv_var 0)) gName_x (hjs_of (by kernel_rfl)) (fun C s H ex => (vg_name 4 (ndk ["program", "wanted", "at", "named", "line", "?acc4"]) rfl (Or.inl rfl))) (fun C s H ex => pts_nil) (fun C s H ex => pv_bl))
    (vss_cons (vs_setIx 1 (pv_op op_sub g_sub (pv_call1B call_len_seq g_len rfl T.b_len PySem.boot_len (PV.rd (pv_var 0))) pv_int) pv_bl)
    (vss_cons (vs_for PassesOwn.never rfl (vi_down rfl T.b_range (pl_cons (pv_op op_sub g_sub (pv_call1B call_len_seq g_len rfl T.b_len PySem.boot_len (PV.rd (pv_var 0))) pv_int) (pl_cons (pv_un un_neg un_negG pv_int) (pl_cons (pv_un un_neg un_negG pv_int) pl_nil)))) (vg_name 2 S.nd rfl (Or.inl rfl)) (vss_cons (vs_if (pb_val (pv_ixO 1 (pv_var 2))) (vss_cons (vs_for PassesOwn.never rfl (vi_seq (pc T.d_z15 (ok_z15 T) hr rfl (pas_val (pv_ix (pv_var 0) (pv_var 2)) pas_nil))) (vg_name 3 S.nd rfl (Or.inl rfl)) (vss_cons (vs_setIx 1 (pv_var 3) pv_bl)
    vss_nil) gName_x)
    vss_nil) vss_nil)
    vss_nil) gName_x)
    (vss_cons (vs_fz (i := 1) (vs_ret (pv_var 1)))
    vss_nil))))
theorem sc_z1 : FnScope ["program", "sides", "wanted", "kept", "at", "line"] ["program", "sides"] (defScope (top 5)) := scs
include T in
theorem ok_z1 : FnOk P w K mg base CX0 3 a.a_z1 a.fd_z1 ["program", "sides"] (spVF K mg [false, false] f_z1) := by
  have S := sc_z1
  refine fn_okF (N := ["program", "sides", "wanted", "kept", "at", "line"]) (ps := ["program", "sides"]) (body := b_z1) T.d_z1.fu S rfl (VS.seqE_nx (VS.seqE_nx (VS.seqE_nx retO_nx))) fun cdv A outer s H E hr => ?_
  exact (vse_cons (vs_set 2 S.nd rfl (Or.inl rfl) (pc T.d_z18 (ok_z18 T) hr rfl (pas_val (pv_var 0) pas_nil)))
    (vse_cons (vs_own 3 S.nd rfl (Or.inl rfl) (pf_lst pl_nil))
    (vse_cons (vs_for PassesOwn.never rfl (vi_enum rfl T.b_enumerate (pl_cons (pv_var 0) pl_nil)) (vg_tup rfl (vgs_cons 4 S.nd rfl (Or.inl rfl) (vgs_cons 5 S.nd rfl (Or.inl rfl) vgs_nil))) (vss_cons (vs_app 3 (pv_and (pv_ix (pv_var 2) (pv_var 4)) (pv_one (pc T.d_z0 (ok_z0 T) hr rfl (pas_val (pv_var 0) (pas_val (pv_var 1) (pas_val (pv_var 4) (pas_val (pc T.d_z16 (ok_z16 T) hr rfl (pas_val (pv_var 0) (pas_val (pv_var 2) (pas_val (pv_var 4) pas_nil)))) pas_nil))))))) (hpe := fun ho ha => pe_bm PySem.F.plainAttrs_list PySem.F.slot_list_append PySem.F.type_list_append mt_append ho ha))
    vss_nil) gTup_x)
    (vse_last 3))))
theorem sc_law : FnScope ["_law_script", "_law_drawn", "_law_program_here", "_law_sides", "_law_wanted_here", "_law_due", "_law_found", "_law_kept_here"] ["_law_script"] (defScope (top 22)) := scs
include T in
theorem ok_law : FnOk P w K mg base CX0 4 a.a_law a.fd_law ["_law_script"] (spV K mg [false] f_law) := by
  have S := sc_law
  refine fn_ok (N := ["_law_script", "_law_drawn", "_law_program_here", "_law_sides", "_law_wanted_here", "_law_due", "_law_found", "_law_kept_here"]) (ps := ["_law_script"]) (body := b_law) T.d_law.fu S rfl fun cdv A outer s H E hr => ?_
  exact (vss_cons (vs_set 1 S.nd rfl (Or.inl rfl) (pv_callL (ok_z7 T) (hr.mono (by decide)) rfl T.d_z7.mg T.d_z7.fu.kp T.d_z7.bi pass0V (pf_lst (pl_cons (pv_var 0) (pl_cons pv_int pl_nil)))))
    (vss_cons (vs_set 2 S.nd rfl (Or.inl rfl) (PF.pv (pf_list rfl T.b_list boot_list (PV.rd (pv_ix (pv_var 1) pv_int)))))
    (vss_cons (vs_set 3 S.nd rfl (Or.inl rfl) (PF.pv (pf_list rfl T.b_list boot_list (PV.rd (pv_ix (pv_var 1) pv_int)))))
    (vss_cons (vs_set 4 S.nd rfl (Or.inr rfl) (pc T.d_z13 (ok_z13 T) hr rfl (pas_val (pv_var 2) pas_nil)))
    (vss_cons (vs_setC 1 5 S.nd rfl (Or.inl rfl) rfl (N' := ["_law_script", "_law_drawn", "_law_program_here", "_law_sides", "_law_wanted_here", "_law_due", "_law_found", "_law_kept_here", "_law_at", "?acc8"]) ⟨rfl, by kernel_rfl⟩ rfl (vi_range1 rfl T.b_range (pl_cons (pv_call1B call_len_seq g_len rfl T.b_len PySem.boot_len (PV.rd (pv_var 2))) pl_nil)) gName_x (hjs_of (by kernel_rfl)) (fun C s H ex => (vg_name 8 (ndk ["_law_script", "_law_drawn", "_law_program_here", "_law_sides", "_law_wanted_here", "_law_due", "_law_found", "_law_kept_here", "_law_at", "?acc8"]) rfl (Or.inl rfl))) (fun C s H ex => pts_nil) (fun C s H ex => (pv_cmp op_in_seq (g_in false) (pv_var 8) (pv_var 4) (by with_unfolding_all rfl))))
    (vss_cons (vs_if (pb_not (pb_val (pc T.d_z11 (ok_z11 T) hr rfl (pas_val (pc T.d_z18 (ok_z18 T) hr rfl (pas_val (pv_var 2) pas_nil)) (pas_val (pv_var 5) pas_nil))))) (vss_cons (vs_ret pv_bl)
    vss_nil) vss_nil)
    (vss_cons (vs_own 6 S.nd rfl (Or.inl rfl) (pf_call (ok_z1 T) (hr.mono (by decide)) rfl T.d_z1.mg T.d_z1.fu.kp T.d_z1.bi pass0V (pas_val (pv_var 2) (pas_val (pv_var 3) pas_nil))))
    (vss_cons (vs_set 7 S.nd rfl (Or.inl rfl) (pc T.d_z4 (ok_z4 T) hr rfl (pas_val (pv_var 2) (pas_val (pv_var 3) pas_nil))))
    (vss_cons (vs_if (PBW.pb (pb_or (pb_not (pb_val (pv_viewV (pc T.d_z11 (ok_z11 T) hr rfl (pas_val (pv_var 6) (pas_val (pv_var 7) pas_nil)))))) (pb_or (pb_cmp (op_neD hr.units) g_neD (pv_var 2) (pv_ix (pv_var 1) pv_int) (nomark _)) (pb_or1 (pb_cmp (op_neD hr.units) g_neD (pv_var 3) (pv_ix (pv_var 1) pv_int) (nomark _)))))) (vss_cons (vs_ret pv_bl)
    vss_nil) vss_nil)
    (vss_cons (vs_setIx 6 pv_int (pv_not (pv_ixO 6 pv_int)))
    (vss_cons (vs_ret (pv_and (pc T.d_z11 (ok_z11 T) hr rfl (pas_val (PF.pv (pf_call (ok_z1 T) (hr.mono (by decide)) rfl T.d_z1.mg T.d_z1.fu.kp T.d_z1.bi pass0V (pas_val (pv_var 2) (pas_val (pv_var 3) pas_nil)))) (pas_val (pv_var 7) pas_nil))) (pv_one (pc T.d_z11 (ok_z11 T) hr rfl (pas_val (pc T.d_z18 (ok_z18 T) hr rfl (pas_val (pv_var 2) pas_nil)) (pas_val (pv_var 5) pas_nil))))))
    vss_nil)))))))))))
end
end LW

end
section
set_option Elab.async false
set_option maxRecDepth 100000
set_option maxHeartbeats 4000000
namespace LW
open PySem PySem.Spec PyProof.Rows L2 VP VS
theorem txt_mk {w : World} {K : Frag} {mg : MG} {h : Heap} (X : K.In h) (G : h.Ns mainGlobals mg)
    {f_z8 f_z13 f_z4 f_z2 f_z3 f_z5 f_z10 f_z6 f_z9 f_z12 f_z7 f_z11 f_z17 f_z0 f_z15 f_z16 f_z18 f_z1 f_law : Addr}
    (h_z8 : DH K "_law_reads" (top 18) f_z8)
    (h_z13 : DH K "_law_wanted" (top 19) f_z13)
    (h_z4 : DH K "_law_kept" (top 20) f_z4)
    (h_z2 : DH K "_law_cells" (top 11) f_z2)
    (h_z3 : DH K "_law_changed" (top 13) f_z3)
    (h_z5 : DH K "_law_met" (top 12) f_z5)
    (h_z10 : DH K "_law_taken" (top 10) f_z10)
    (h_z6 : DH K "_law_more" (top 16) f_z6)
    (h_z9 : DH K "_law_sided" (top 15) f_z9)
    (h_z12 : DH K "_law_view" (top 14) f_z12)
    (h_z7 : DH K "_law_program" (top 17) f_z7)
    (h_z11 : DH K "_law_truths" (top 21) f_z11)
    (h_z17 : DH K "spreads" (top 8) f_z17)
    (h_z0 : DH K "is_kept" (top 7) f_z0)
    (h_z15 : DH K "named_by" (top 2) f_z15)
    (h_z16 : DH K "naming_lines" (top 6) f_z16)
    (h_z18 : DH K "wanted_lines" (top 4) f_z18)
    (h_z1 : DH K "kept_lines" (top 5) f_z1)
    (h_law : DH K "law" (top 22) f_law)
    {q_FORMS : Addr}
    {es_FORMS : Array DictEntry} {n_FORMS : Nat} (g_FORMS : PySem.W.nsIn K mainGlobals "FORMS" = some (some (.ref q_FORMS))) (o_FORMS : K.lookup q_FORMS = some ⟨.type "dict", none, .dict es_FORMS n_FORMS, #[]⟩) (h_FORMS : PySem.W.KeysLit w.params es_FORMS.toList)
    (sm_FORMS : (q_FORMS == sysModules) = false)
    {t_FORMS_0 : Addr} (e_FORMS_0 : PySem.W.nsIn K q_FORMS "given" = some (some (.ref t_FORMS_0)))
    {m_FORMS_0 : Nat} {w_FORMS_0_0 : Tok} (u_FORMS_0 : K.lookup t_FORMS_0 = some ⟨.type "tuple", none, .seq #[.str "number" w_FORMS_0_0] m_FORMS_0, #[]⟩)
    {t_FORMS_1 : Addr} (e_FORMS_1 : PySem.W.nsIn K q_FORMS "even" = some (some (.ref t_FORMS_1)))
    {m_FORMS_1 : Nat} {w_FORMS_1_0 : Tok} {w_FORMS_1_1 : Tok} (u_FORMS_1 : K.lookup t_FORMS_1 = some ⟨.type "tuple", none, .seq #[.str "numbers" w_FORMS_1_0, .str "number" w_FORMS_1_1] m_FORMS_1, #[]⟩)
    {t_FORMS_2 : Addr} (e_FORMS_2 : PySem.W.nsIn K q_FORMS "turn" = some (some (.ref t_FORMS_2)))
    {m_FORMS_2 : Nat} {w_FORMS_2_0 : Tok} {w_FORMS_2_1 : Tok} (u_FORMS_2 : K.lookup t_FORMS_2 = some ⟨.type "tuple", none, .seq #[.str "line" w_FORMS_2_0, .str "numbers" w_FORMS_2_1] m_FORMS_2, #[]⟩)
    {t_FORMS_3 : Addr} (e_FORMS_3 : PySem.W.nsIn K q_FORMS "cut" = some (some (.ref t_FORMS_3)))
    {m_FORMS_3 : Nat} {w_FORMS_3_0 : Tok} {w_FORMS_3_1 : Tok} {w_FORMS_3_2 : Tok} {w_FORMS_3_3 : Tok} {w_FORMS_3_4 : Tok} (u_FORMS_3 : K.lookup t_FORMS_3 = some ⟨.type "tuple", none, .seq #[.str "line" w_FORMS_3_0, .str "number" w_FORMS_3_1, .str "number" w_FORMS_3_2, .str "number" w_FORMS_3_3, .str "number" w_FORMS_3_4] m_FORMS_3, #[]⟩)
    {t_FORMS_4 : Addr} (e_FORMS_4 : PySem.W.nsIn K q_FORMS "drop" = some (some (.ref t_FORMS_4)))
    {m_FORMS_4 : Nat} {w_FORMS_4_0 : Tok} {w_FORMS_4_1 : Tok} {w_FORMS_4_2 : Tok} (u_FORMS_4 : K.lookup t_FORMS_4 = some ⟨.type "tuple", none, .seq #[.str "line" w_FORMS_4_0, .str "number" w_FORMS_4_1, .str "number" w_FORMS_4_2] m_FORMS_4, #[]⟩)
    {t_FORMS_5 : Addr} (e_FORMS_5 : PySem.W.nsIn K q_FORMS "wide" = some (some (.ref t_FORMS_5)))
    {m_FORMS_5 : Nat} {w_FORMS_5_0 : Tok} {w_FORMS_5_1 : Tok} (u_FORMS_5 : K.lookup t_FORMS_5 = some ⟨.type "tuple", none, .seq #[.str "line" w_FORMS_5_0, .str "number" w_FORMS_5_1] m_FORMS_5, #[]⟩)
    {t_FORMS_6 : Addr} (e_FORMS_6 : PySem.W.nsIn K q_FORMS "spread" = some (some (.ref t_FORMS_6)))
    {m_FORMS_6 : Nat} {w_FORMS_6_0 : Tok} {w_FORMS_6_1 : Tok} (u_FORMS_6 : K.lookup t_FORMS_6 = some ⟨.type "tuple", none, .seq #[.str "line" w_FORMS_6_0, .str "numbers" w_FORMS_6_1] m_FORMS_6, #[]⟩)
    {t_FORMS_7 : Addr} (e_FORMS_7 : PySem.W.nsIn K q_FORMS "shape" = some (some (.ref t_FORMS_7)))
    {m_FORMS_7 : Nat} {w_FORMS_7_0 : Tok} {w_FORMS_7_1 : Tok} (u_FORMS_7 : K.lookup t_FORMS_7 = some ⟨.type "tuple", none, .seq #[.str "line" w_FORMS_7_0, .str "numbers" w_FORMS_7_1] m_FORMS_7, #[]⟩)
    {t_FORMS_8 : Addr} (e_FORMS_8 : PySem.W.nsIn K q_FORMS "shift" = some (some (.ref t_FORMS_8)))
    {m_FORMS_8 : Nat} {w_FORMS_8_0 : Tok} {w_FORMS_8_1 : Tok} {w_FORMS_8_2 : Tok} {w_FORMS_8_3 : Tok} (u_FORMS_8 : K.lookup t_FORMS_8 = some ⟨.type "tuple", none, .seq #[.str "line" w_FORMS_8_0, .str "number" w_FORMS_8_1, .str "number" w_FORMS_8_2, .str "number" w_FORMS_8_3] m_FORMS_8, #[]⟩)
    {t_FORMS_9 : Addr} (e_FORMS_9 : PySem.W.nsIn K q_FORMS "one" = some (some (.ref t_FORMS_9)))
    {m_FORMS_9 : Nat} {w_FORMS_9_0 : Tok} {w_FORMS_9_1 : Tok} (u_FORMS_9 : K.lookup t_FORMS_9 = some ⟨.type "tuple", none, .seq #[.str "one" w_FORMS_9_0, .str "line" w_FORMS_9_1] m_FORMS_9, #[]⟩)
    {t_FORMS_10 : Addr} (e_FORMS_10 : PySem.W.nsIn K q_FORMS "both" = some (some (.ref t_FORMS_10)))
    {m_FORMS_10 : Nat} {w_FORMS_10_0 : Tok} {w_FORMS_10_1 : Tok} {w_FORMS_10_2 : Tok} (u_FORMS_10 : K.lookup t_FORMS_10 = some ⟨.type "tuple", none, .seq #[.str "both" w_FORMS_10_0, .str "line" w_FORMS_10_1, .str "line" w_FORMS_10_2] m_FORMS_10, #[]⟩)
    {t_FORMS_11 : Addr} (e_FORMS_11 : PySem.W.nsIn K q_FORMS "where" = some (some (.ref t_FORMS_11)))
    {m_FORMS_11 : Nat} {w_FORMS_11_0 : Tok} {w_FORMS_11_1 : Tok} {w_FORMS_11_2 : Tok} (u_FORMS_11 : K.lookup t_FORMS_11 = some ⟨.type "tuple", none, .seq #[.str "line" w_FORMS_11_0, .str "line" w_FORMS_11_1, .str "line" w_FORMS_11_2] m_FORMS_11, #[]⟩)
    {t_FORMS_12 : Addr} (e_FORMS_12 : PySem.W.nsIn K q_FORMS "fold" = some (some (.ref t_FORMS_12)))
    {m_FORMS_12 : Nat} {w_FORMS_12_0 : Tok} {w_FORMS_12_1 : Tok} {w_FORMS_12_2 : Tok} (u_FORMS_12 : K.lookup t_FORMS_12 = some ⟨.type "tuple", none, .seq #[.str "fold" w_FORMS_12_0, .str "line" w_FORMS_12_1, .str "number" w_FORMS_12_2] m_FORMS_12, #[]⟩)
    {t_FORMS_13 : Addr} (e_FORMS_13 : PySem.W.nsIn K q_FORMS "run" = some (some (.ref t_FORMS_13)))
    {m_FORMS_13 : Nat} {w_FORMS_13_0 : Tok} {w_FORMS_13_1 : Tok} {w_FORMS_13_2 : Tok} (u_FORMS_13 : K.lookup t_FORMS_13 = some ⟨.type "tuple", none, .seq #[.str "fold" w_FORMS_13_0, .str "line" w_FORMS_13_1, .str "number" w_FORMS_13_2] m_FORMS_13, #[]⟩)
    {t_FORMS_14 : Addr} (e_FORMS_14 : PySem.W.nsIn K q_FORMS "pick" = some (some (.ref t_FORMS_14)))
    {m_FORMS_14 : Nat} {w_FORMS_14_0 : Tok} {w_FORMS_14_1 : Tok} {w_FORMS_14_2 : Tok} (u_FORMS_14 : K.lookup t_FORMS_14 = some ⟨.type "tuple", none, .seq #[.str "line" w_FORMS_14_0, .str "number" w_FORMS_14_1, .str "line" w_FORMS_14_2] m_FORMS_14, #[]⟩)
    {t_FORMS_15 : Addr} (e_FORMS_15 : PySem.W.nsIn K q_FORMS "join" = some (some (.ref t_FORMS_15)))
    {m_FORMS_15 : Nat} {w_FORMS_15_0 : Tok} {w_FORMS_15_1 : Tok} {w_FORMS_15_2 : Tok} (u_FORMS_15 : K.lookup t_FORMS_15 = some ⟨.type "tuple", none, .seq #[.str "line" w_FORMS_15_0, .str "line" w_FORMS_15_1, .str "number" w_FORMS_15_2] m_FORMS_15, #[]⟩)
    (z_any : PySem.W.nsIn K mainGlobals "any" = some none)
    (z_bool : PySem.W.nsIn K mainGlobals "bool" = some none)
    (z_enumerate : PySem.W.nsIn K mainGlobals "enumerate" = some none)
    (z_int : PySem.W.nsIn K mainGlobals "int" = some none)
    (z_isinstance : PySem.W.nsIn K mainGlobals "isinstance" = some none)
    (z_len : PySem.W.nsIn K mainGlobals "len" = some none)
    (z_list : PySem.W.nsIn K mainGlobals "list" = some none)
    (z_max : PySem.W.nsIn K mainGlobals "max" = some none)
    (z_range : PySem.W.nsIn K mainGlobals "range" = some none)
    (z_reversed : PySem.W.nsIn K mainGlobals "reversed" = some none)
    (z_tuple : PySem.W.nsIn K mainGlobals "tuple" = some none)
    (z_zip : PySem.W.nsIn K mainGlobals "zip" = some none)
    : ∃ a : Adr, Txt w K mg a ∧ ∀ (s : Shared) (v : Value), BindsTo s a.fd_law ⟨[v], []⟩ [("_law_script", v)] := by
  obtain ⟨d_z8, D_z8⟩ := h_z8.is X G (ps := ["_law_line"]) bi1
  obtain ⟨d_z13, D_z13⟩ := h_z13.is X G (ps := ["_law_program_here"]) bi1
  obtain ⟨d_z4, D_z4⟩ := h_z4.is X G (ps := ["_law_program_here", "_law_sides"]) bi2
  obtain ⟨d_z2, D_z2⟩ := h_z2.is X G (ps := ["_law_sides"]) bi1
  obtain ⟨d_z3, D_z3⟩ := h_z3.is X G (ps := ["_law_sides", "_law_side", "_law_size"]) bi3
  obtain ⟨d_z5, D_z5⟩ := h_z5.is X G (ps := ["_law_one", "_law_other"]) bi2
  obtain ⟨d_z10, D_z10⟩ := h_z10.is X G (ps := ["_law_row", "_law_many"]) bi2
  obtain ⟨d_z6, D_z6⟩ := h_z6.is X G (ps := ["_law_row", "_law_a", "_law_sides", "_law_way", "_law_index"]) bi5
  obtain ⟨d_z9, D_z9⟩ := h_z9.is X G (ps := ["_law_row", "_law_a", "_law_own", "_law_way"]) bi4
  obtain ⟨d_z12, D_z12⟩ := h_z12.is X G (ps := ["_law_row", "_law_a", "_law_own", "_law_way"]) bi4
  obtain ⟨d_z7, D_z7⟩ := h_z7.is X G (ps := ["_law_row"]) bi1
  obtain ⟨d_z11, D_z11⟩ := h_z11.is X G (ps := ["_law_found", "_law_due"]) bi2
  obtain ⟨d_z17, D_z17⟩ := h_z17.is X G (ps := ["program", "sides", "number", "at"]) bi4
  obtain ⟨d_z0, D_z0⟩ := h_z0.is X G (ps := ["program", "sides", "at", "naming"]) bi4
  obtain ⟨d_z15, D_z15⟩ := h_z15.is X G (ps := ["line"]) bi1
  obtain ⟨d_z16, D_z16⟩ := h_z16.is X G (ps := ["program", "wanted", "at"]) bi3
  obtain ⟨d_z18, D_z18⟩ := h_z18.is X G (ps := ["program"]) bi1
  obtain ⟨d_z1, D_z1⟩ := h_z1.is X G (ps := ["program", "sides"]) bi2
  obtain ⟨d_law, D_law, B_law⟩ := h_law.law X G bi1 (fun _ _ _ _ _ _ _ _ => .of_eq rfl) (p := "_law_script")
  refine ⟨⟨f_z8, d_z8, f_z13, d_z13, f_z4, d_z4, f_z2, d_z2, f_z3, d_z3, f_z5, d_z5, f_z10, d_z10, f_z6, d_z6, f_z9, d_z9, f_z12, d_z12, f_z7, d_z7, f_z11, d_z11, f_z17, d_z17, f_z0, d_z0, f_z15, d_z15, f_z16, d_z16, f_z18, d_z18, f_z1, d_z1, f_law, d_law⟩, ⟨PySem.W.mg_none_of X G z_any, PySem.W.mg_none_of X G z_bool, PySem.W.mg_none_of X G z_enumerate, PySem.W.mg_none_of X G z_int, PySem.W.mg_none_of X G z_isinstance, PySem.W.mg_none_of X G z_len, PySem.W.mg_none_of X G z_list, PySem.W.mg_none_of X G z_max, PySem.W.mg_none_of X G z_range, PySem.W.mg_none_of X G z_reversed, PySem.W.mg_none_of X G z_tuple, PySem.W.mg_none_of X G z_zip, ⟨⟨_, _, _, PySem.W.mg_of X G g_FORMS, sm_FORMS, o_FORMS, h_FORMS, tabT_all (t := tab_FORMS) (List.forall_mem_cons.mpr ⟨⟨_, e_FORMS_0, (valT u_FORMS_0 (show (1 : Nat) ≤ sizeLine by decide) (.cons ⟨_, rfl⟩ .nil))⟩, (List.forall_mem_cons.mpr ⟨⟨_, e_FORMS_1, (valT u_FORMS_1 (show (2 : Nat) ≤ sizeLine by decide) (.cons ⟨_, rfl⟩ (.cons ⟨_, rfl⟩ .nil)))⟩, (List.forall_mem_cons.mpr ⟨⟨_, e_FORMS_2, (valT u_FORMS_2 (show (2 : Nat) ≤ sizeLine by decide) (.cons ⟨_, rfl⟩ (.cons ⟨_, rfl⟩ .nil)))⟩, (List.forall_mem_cons.mpr ⟨⟨_, e_FORMS_3, (valT u_FORMS_3 (show (5 : Nat) ≤ sizeLine by decide) (.cons ⟨_, rfl⟩ (.cons ⟨_, rfl⟩ (.cons ⟨_, rfl⟩ (.cons ⟨_, rfl⟩ (.cons ⟨_, rfl⟩ .nil))))))⟩, (List.forall_mem_cons.mpr ⟨⟨_, e_FORMS_4, (valT u_FORMS_4 (show (3 : Nat) ≤ sizeLine by decide) (.cons ⟨_, rfl⟩ (.cons ⟨_, rfl⟩ (.cons ⟨_, rfl⟩ .nil))))⟩, (List.forall_mem_cons.mpr ⟨⟨_, e_FORMS_5, (valT u_FORMS_5 (show (2 : Nat) ≤ sizeLine by decide) (.cons ⟨_, rfl⟩ (.cons ⟨_, rfl⟩ .nil)))⟩, (List.forall_mem_cons.mpr ⟨⟨_, e_FORMS_6, (valT u_FORMS_6 (show (2 : Nat) ≤ sizeLine by decide) (.cons ⟨_, rfl⟩ (.cons ⟨_, rfl⟩ .nil)))⟩, (List.forall_mem_cons.mpr ⟨⟨_, e_FORMS_7, (valT u_FORMS_7 (show (2 : Nat) ≤ sizeLine by decide) (.cons ⟨_, rfl⟩ (.cons ⟨_, rfl⟩ .nil)))⟩, (List.forall_mem_cons.mpr ⟨⟨_, e_FORMS_8, (valT u_FORMS_8 (show (4 : Nat) ≤ sizeLine by decide) (.cons ⟨_, rfl⟩ (.cons ⟨_, rfl⟩ (.cons ⟨_, rfl⟩ (.cons ⟨_, rfl⟩ .nil)))))⟩, (List.forall_mem_cons.mpr ⟨⟨_, e_FORMS_9, (valT u_FORMS_9 (show (2 : Nat) ≤ sizeLine by decide) (.cons ⟨_, rfl⟩ (.cons ⟨_, rfl⟩ .nil)))⟩, (List.forall_mem_cons.mpr ⟨⟨_, e_FORMS_10, (valT u_FORMS_10 (show (3 : Nat) ≤ sizeLine by decide) (.cons ⟨_, rfl⟩ (.cons ⟨_, rfl⟩ (.cons ⟨_, rfl⟩ .nil))))⟩, (List.forall_mem_cons.mpr ⟨⟨_, e_FORMS_11, (valT u_FORMS_11 (show (3 : Nat) ≤ sizeLine by decide) (.cons ⟨_, rfl⟩ (.cons ⟨_, rfl⟩ (.cons ⟨_, rfl⟩ .nil))))⟩, (List.forall_mem_cons.mpr ⟨⟨_, e_FORMS_12, (valT u_FORMS_12 (show (3 : Nat) ≤ sizeLine by decide) (.cons ⟨_, rfl⟩ (.cons ⟨_, rfl⟩ (.cons ⟨_, rfl⟩ .nil))))⟩, (List.forall_mem_cons.mpr ⟨⟨_, e_FORMS_13, (valT u_FORMS_13 (show (3 : Nat) ≤ sizeLine by decide) (.cons ⟨_, rfl⟩ (.cons ⟨_, rfl⟩ (.cons ⟨_, rfl⟩ .nil))))⟩, (List.forall_mem_cons.mpr ⟨⟨_, e_FORMS_14, (valT u_FORMS_14 (show (3 : Nat) ≤ sizeLine by decide) (.cons ⟨_, rfl⟩ (.cons ⟨_, rfl⟩ (.cons ⟨_, rfl⟩ .nil))))⟩, (List.forall_mem_cons.mpr ⟨⟨_, e_FORMS_15, (valT u_FORMS_15 (show (3 : Nat) ≤ sizeLine by decide) (.cons ⟨_, rfl⟩ (.cons ⟨_, rfl⟩ (.cons ⟨_, rfl⟩ .nil))))⟩, (List.forall_mem_nil _)⟩)⟩)⟩)⟩)⟩)⟩)⟩)⟩)⟩)⟩)⟩)⟩)⟩)⟩)⟩)⟩), (List.forall_mem_nil _)⟩⟩, D_z8, D_z13, D_z4, D_z2, D_z3, D_z5, D_z10, D_z6, D_z9, D_z12, D_z7, D_z11, D_z17, D_z0, D_z15, D_z16, D_z18, D_z1, D_law⟩, B_law⟩
def spL (K : Frag) : Sp := fun vs H Q _ => ∃ (a : Addr) (ns : List Int), vs = [.ref a] ∧ SqL K H a (ns.map V.int) ∧ ns.length ≤ 63 ∧ ∀ H', Q (.bl true) H'
theorem law_fn {P : Program} {w : World} {K : Frag} {mg : MG} {base : Heap} {a : Adr} (T : Txt w K mg a) : FnOk P w K mg base CX0 4 a.a_law a.fd_law ["_law_script"] (spL K) := (ok_law T).imp fun vs H Q E ⟨p, ns, e, hs, hl, q⟩ => by
  subst e
  refine ⟨rfl, H, [Z ns], Same.refl _, ⟨.lst hs (DenL.ints ns), trivial⟩, by simp [ioAd, ioAs], ?_⟩
  rw [law_at]
  exact fun F' H' v _ hv => by cases hv; exact q H'
theorem walk {l : PySem.W.OpenLaw} {q : Program} {loose : List Str} {XP : (Str → Option Value) → Heap → Prop} {YP : World → Heap → Prop} {d : DefRec} {K : Params → PySem.W.Frag} (hn : l.most = some 63) (hdf : d.params.defaults = [])
    (hY : ∀ (w : World) (h : Heap), YP w h → (K w.params).In h)
    (F : ∀ (w : World) (mg : Str → Option Value) (fa : Addr) (h : Heap), (K w.params).In h → h.Ns mainGlobals mg → mg d.name = some (.ref fa) →
      ∃ fd : FuncData, (∀ (s : Shared) (u : Value), BindsTo s fd ⟨[u], []⟩ [("_law_script", u)]) ∧ ∀ base : Heap, (K w.params).In base → base.Ns mainGlobals mg → FnOk l.prog w (K w.params) mg base CX0 4 fa fd ["_law_script"] (spL (K w.params))) :
    PySem.W.WalkO q loose XP YP l.row.toRowW d [] (fun f vs => PySem.call f vs) :=
  L2.walk_of (n := 63) (k := 4) (x := "_law_script") (CX := fun _ => CX0) (sp := fun w => spL (K w.params)) hn (by decide) hdf ⟨rfl, by decide, by decide⟩ hY F (fun _ _ a ns hl _ hS => ⟨a, ns, rfl, hS, hl, fun _ => rfl⟩) fun _ _ _ _ _ z => z
theorem all_mk {l : PySem.W.OpenLaw} {w : World} {K : Frag} {mg : MG} {h : Heap} {fa : Addr} (X : K.In h) (G : h.Ns mainGlobals mg) (hfa : mg "law" = some (.ref fa)) (E : ∃ a : Adr, Txt w K mg a ∧ ∀ (s : Shared) (v : Value), BindsTo s a.fd_law ⟨[v], []⟩ [("_law_script", v)]) :
    ∃ fd : FuncData, (∀ (s : Shared) (v : Value), BindsTo s fd ⟨[v], []⟩ [("_law_script", v)]) ∧ ∀ base : Heap, K.In base → base.Ns mainGlobals mg → FnOk l.prog w K mg base CX0 4 fa fd ["_law_script"] (spL K) := by
  obtain ⟨a, T, hb⟩ := E
  have e := hfa.symm.trans T.d_law.mg
  cases e
  exact ⟨_, hb, fun base _ _ => law_fn T⟩
end LW
def PySem.W.Fast.tw5141870922523302591 : Nat := 0
def PySem.W.Fast.tw11068510268119177492 : Nat := 0
def PySem.W.Fast.tw2239058664379351324 : Nat := 0
def PySem.W.Fast.tw3644583730599150197 : Nat := 0
def PySem.W.Fast.tw11951446820794705501 : Nat := 0
def PySem.W.Fast.tw8916619141188022533 : Nat := 0
def PySem.W.Fast.tw3352257265040773232 : Nat := 0
def PySem.W.Fast.tw8419952655441930403 : Nat := 0
def PySem.W.Fast.tw10423490328340292564 : Nat := 0
def PySem.W.Fast.tw7701915878353328980 : Nat := 0
def PySem.W.Fast.tw4277425796674875512 : Nat := 0
def PySem.W.Fast.tw9780294947569350372 : Nat := 0
def PySem.W.Fast.tw8506121676823893900 : Nat := 0
def PySem.W.Fast.tw16450802616976133238 : Nat := 0
def PySem.W.Fast.tw13070378629042393516 : Nat := 0
def PySem.W.Fast.tw2920202437803092533 : Nat := 0
def PySem.W.Fast.tw6165354863989037062 : Nat := 0
def PySem.W.Fast.tw8953252761765994477 : Nat := 0
def PySem.W.Fast.tw4301377624439735112 : Nat := 0
def PySem.W.Fast.tw4116090262734488887 : Nat := 0
def PySem.W.Fast.tw8193965914707742575 : Nat := 0
def PySem.W.Fast.tw14572199015935977709 : Nat := 0
def PySem.W.Fast.tw5118391137775259213 : Nat := 0
def PySem.W.Fast.tw14164019358840845093 : Nat := 0
def PySem.W.Fast.tw4314175495434584363 : Nat := 0
def PySem.W.Fast.tw1127211572009740179 : Nat := 0
def PySem.W.Fast.tw701823556656160229 : Nat := 0
def PySem.W.Fast.tw7438439127317234955 : Nat := 0
def PySem.W.Fast.tw2506030534016915579 : Nat := 0
def PySem.W.Fast.tw15978332695449473873 : Nat := 0
def PySem.W.Fast.tw10961381663642740654 : Nat := 0
def PySem.W.Fast.tw3723453383384990404 : Nat := 0
def PySem.W.Fast.tw11425086894656862907 : Nat := 0
def PySem.W.Fast.tw9424975157145676667 : Nat := 0
def PySem.W.Fast.tw2542886723866760564 : Nat := 0
def PySem.W.Fast.tw5158908060903320572 : Nat := 0
def PySem.W.Fast.tw9935990799933054022 : Nat := 0
def PySem.W.Fast.tw5036626027095770425 : Nat := 0
def PySem.W.Fast.tw14524185892168146122 : Nat := 0
def PySem.W.Fast.tw18445895487788597159 : Nat := 0
def PySem.W.Fast.tw3993073296597772366 : Nat := 0
def PySem.W.Fast.tw7603636081520422581 : Nat := 0
def PySem.W.Fast.tw8681823340871854407 : Nat := 0
def PySem.W.Fast.tw2575631878754980193 : Nat := 0
def PySem.W.Fast.tw17950293584916857004 : Nat := 0
def PySem.W.Fast.tw16240236825383769209 : Nat := 0
def PySem.W.Fast.tw12451950259188513492 : Nat := 0
def PySem.W.Fast.tw6022797057508482993 : Nat := 0
def PySem.W.Fast.tw4522687651432686564 : Nat := 0
def PySem.W.Fast.tw321633814581935893 : Nat := 0
def PySem.W.Fast.tw2123601901099621460 : Nat := 0
def PySem.W.Fast.tw3929285844340628403 : Nat := 0
def PySem.W.Fast.tw9502031048595972936 : Nat := 0
def PySem.W.Fast.tw16193595565993171951 : Nat := 0
def PySem.W.Fast.tw173044260154750695 : Nat := 0
open PySem PySem.W PyProof.Rows
set_option maxRecDepth 100000 in
set_option maxHeartbeats 0 in
theorem PySem.Challenge.cw_loomarrays_k16_wanted_and_kept_holds : PySem.Challenge.rw_loomarrays_k16_wanted_and_kept.Holds := by
  w_on; o_law; k_head; (case hw => w_witness2)
  k_fill
  refine LW.walk (l := PySem.Challenge.rw_loomarrays_k16_wanted_and_kept) rfl rfl (fun w h Y => PySem.W.kIn_of Y) ?F
  case F =>
    intro w mg fa h KX G hmg
    refine' LW.all_mk KX G hmg (LW.txt_mk KX G ..)
    any_goals (first | exact ⟨by k_is, ⟨⟨_, _, _, _, _, _, _, _, _, by k_is, by k_is⟩, by k_is⟩⟩ | exact ⟨⟨_, _, _, _, _, _, _, _, _, by k_is, by k_is⟩, by k_is⟩ | k_is | kit_is | k_keys | rfl)
    all_goals rfl

end
