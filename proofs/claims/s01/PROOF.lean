import PyProof.Rows.All
import Wide.All
import OpenK.AllK
import Wide.FinOn
import PyProof.EqAt
import PyProof.EqKinds
import PyProof.TupleCall
import KE.BitLaws
import Open.SpecLaws
import KE.OsHead
import KE.OsGo
import KE.KSortRegAny
import KE.KDictSum
import PySem.Challenge.RW_oftenest_s01_answers
set_option Elab.async false
set_option linter.all false
set_option maxRecDepth 100000
namespace L2
open PySem PySem.Spec PyProof.Rows

/-- a key: an int or a str -/
@[reducible] noncomputable def Key := Sum Int Str
noncomputable def keyIs : Key → Value → Bool
  | .inl k, v => Value.isInt k v
  | .inr x, v => Value.isStrOf x v
noncomputable def keyH (w : World) : Key → Int
  | .inl k => hashInt k
  | .inr x => hashStr w x
theorem keyIs_shape : ∀ {k : Key} {v : Value}, keyIs k v = true → (∃ i t, k = Sum.inl i ∧ v = Value.int i t) ∨ (∃ x t, k = Sum.inr x ∧ v = Value.str x t)
  | .inl i, v, h => by
    obtain ⟨t, e⟩ := Value.isInt_shape (k := i) (v := v) h
    exact .inl ⟨i, t, rfl, e⟩
  | .inr x, v, h => by
    obtain ⟨t, e⟩ := Value.isStrOf_shape (x := x) (v := v) h
    exact .inr ⟨x, t, rfl, e⟩
theorem keyIs_int (i : Int) (t : Tok) : keyIs (.inl i) (.int i t) = true := by simp [keyIs, Value.isInt]
theorem keyIs_str (x : Str) (t : Tok) : keyIs (.inr x) (.str x t) = true := by simp [keyIs, Value.isStrOf]
theorem key_ll (a b : Int) : decide ((Sum.inl a : Key) = Sum.inl b) = (a == b) := by
  by_cases e : a = b
  · subst e; simp
  · have h : ¬ (Sum.inl a : Key) = Sum.inl b := fun q => e (Sum.inl.inj q)
    rw [decide_eq_false h]
    exact (beq_eq_false_iff_ne.mpr e).symm
theorem key_rr (a b : Str) : decide ((Sum.inr a : Key) = Sum.inr b) = decide (a = b) := by
  by_cases e : a = b
  · subst e; simp
  · have h : ¬ (Sum.inr a : Key) = Sum.inr b := fun q => e (Sum.inr.inj q)
    rw [decide_eq_false h, decide_eq_false e]
theorem key_lr (a : Int) (b : Str) : decide ((Sum.inl a : Key) = Sum.inr b) = false := decide_eq_false (fun q => nomatch q)
theorem key_rl (a : Str) (b : Int) : decide ((Sum.inr a : Key) = Sum.inl b) = false := decide_eq_false (fun q => nomatch q)

noncomputable def mixKind (prog : Program) (w : World) : PySem.KeyKind prog w Key where
  is := keyIs
  hash := keyH w
  inj := fun v a b ha hb => by
    rcases keyIs_shape ha with ⟨i, t, rfl, rfl⟩ | ⟨x, t, rfl, rfl⟩
    · rcases keyIs_shape hb with ⟨j, u, rfl, e⟩ | ⟨y, u, rfl, e⟩
      · injection e with e1 _; rw [e1]
      · exact nomatch e
    · rcases keyIs_shape hb with ⟨j, u, rfl, e⟩ | ⟨y, u, rfl, e⟩
      · exact nomatch e
      · injection e with e1 _; rw [e1]
  byValue := fun k v h => by
    rcases keyIs_shape h with ⟨i, t, rfl, rfl⟩ | ⟨x, t, rfl, rfl⟩ <;> rfl
  pyHash := fun hv h => by
    rcases keyIs_shape hv with ⟨i, t, rfl, rfl⟩ | ⟨x, t, rfl, rfl⟩
    · exact wpAny_pyHash_int h
    · exact wpAny_pyHash_str h
  eqBool := fun hu hv h => by
    rcases keyIs_shape hu with ⟨i, t, rfl, rfl⟩ | ⟨x, t, rfl, rfl⟩
    · rcases keyIs_shape hv with ⟨j, u, rfl, rfl⟩ | ⟨y, u, rfl, rfl⟩
      · rw [key_ll] at h; exact wpAny_eqBool_int h
      · rw [key_lr] at h; exact SeqAt.EqAt.int_str i t y u _ _ _ _ h
    · rcases keyIs_shape hv with ⟨j, u, rfl, rfl⟩ | ⟨y, u, rfl, rfl⟩
      · rw [key_rl] at h; exact SeqAt.EqAt.str_int x t j u _ _ _ _ h
      · rw [key_rr] at h; exact wpAny_eqBool_str h
  «strs» := fun k x t v h => by
    rcases keyIs_shape h with ⟨i, u, rfl, e⟩ | ⟨y, u, rfl, e⟩
    · exact nomatch e
    · injection e with e1 _
      subst e1
      cases v <;> rfl

theorem mixKind_int (prog : Program) (w : World) (i : Int) (t : Tok) : (mixKind prog w).is (.inl i) (.int i t) = true := keyIs_int i t
theorem mixKind_str (prog : Program) (w : World) (x : Str) (t : Tok) : (mixKind prog w).is (.inr x) (.str x t) = true := keyIs_str x t
end L2

namespace L2
open PySem PySem.Spec PyProof.Rows

/-- a value, without the heap -/
inductive V where
  | non | bl (b : Bool) | int (i : Int) | str (x : Str) | byt (b : Array UInt8) | flt (b : UInt64) | ref (a : Addr) | ty (n : String)
  deriving DecidableEq

noncomputable def RelV : V → Value → Prop
  | .non, u => u = Value.none
  | .bl b, u => u = Value.bool b
  | .int i, u => ∃ t, u = Value.int i t
  | .str x, u => ∃ t, u = Value.str x t
  | .byt b, u => ∃ t, u = Value.bytes b t
  | .flt b, u => ∃ t, u = Value.float b t
  | .ref a, u => u = Value.ref a
  | .ty n, u => u = Value.type n

@[reducible] noncomputable def Vals : List V → List Value → Prop := Paired RelV
theorem Vals.length {xs : List V} {us : List Value} (r : Vals xs us) : xs.length = us.length := Paired.length r
theorem Vals.get : ∀ {xs : List V} {us : List Value} {i : Nat} {x : V}, Vals xs us → xs[i]? = some x → ∃ u, us[i]? = some u ∧ RelV x u
  | _, _, _, _, .nil, e => by simp at e
  | _, _, 0, _, .cons r _, e => by simp at e; subst e; exact ⟨_, rfl, r⟩
  | _, _, i + 1, x, .cons _ t, e => by
    obtain ⟨u, h1, h2⟩ := Vals.get (i := i) (x := x) t (by simpa using e)
    exact ⟨u, by simpa using h1, h2⟩
theorem Vals.set {x : V} {u : Value} (r : RelV x u) : ∀ {xs : List V} {us : List Value} (i : Nat), Vals xs us → Vals (xs.set i x) (us.set i u)
  | _, _, _, .nil => .nil
  | _, _, 0, .cons _ t => .cons r t
  | _, _, i + 1, .cons q t => .cons q (Vals.set r i t)
theorem Vals.append : ∀ {xs ys : List V} {us ws : List Value}, Vals xs us → Vals ys ws → Vals (xs ++ ys) (us ++ ws)
  | _, _, _, _, .nil, s => s
  | _, _, _, _, .cons r t, s => .cons r (Vals.append t s)
theorem Vals.take : ∀ {xs : List V} {us : List Value} (n : Nat), Vals xs us → Vals (xs.take n) (us.take n)
  | _, _, 0, _ => .nil
  | _, _, _ + 1, .nil => .nil
  | _, _, n + 1, .cons r t => .cons r (Vals.take n t)
theorem Vals.drop : ∀ {xs : List V} {us : List Value} (n : Nat), Vals xs us → Vals (xs.drop n) (us.drop n)
  | _, _, 0, r => r
  | _, _, _ + 1, .nil => .nil
  | _, _, n + 1, .cons _ t => Vals.drop n t
noncomputable def RelO : Option V → Option Value → Prop
  | some v, some u => RelV v u
  | none, none => True
  | _, _ => False
noncomputable def KV {κ : Type} : List (κ × V) → List (κ × Value) → Prop := Paired fun (p : κ × V) (q : κ × Value) => p.1 = q.1 ∧ RelV p.2 q.2

/-- a key of a dict (00_mix): an int or a text -/
noncomputable def kV : Key → V
  | .inl i => .int i
  | .inr x => .str x

/-- what stands at a tracked address -/
inductive HO where
  /-- a list -/
  | lst (xs : List V)
  /-- a tuple (never changes) -/
  | tup (xs : List V)
  /-- a dict whose keys are ints and texts; one whose keys are tuples of ints and texts (the empty one is both) -/
  | dK (kvs : List (Key × V)) | dT (kvs : List (List Key × V))
  /-- a set of ints: its members, its size -/
  | set (S : Int → Bool) (n : Nat)
  /-- an instance of the class at C, its dict at dx, its attributes -/
  | ins (C dx : Addr) (fs : List (Str × V))
  /-- the dict of the instance at x -/
  | own (x : Addr)
  /-- the dict of an exception -/
  | xd (fs : List (Str × V))
  /-- a bound method, f of x -/
  | met (f x : Addr)
  /-- a range object lo, lo + 1, .. below hi -/
  | rng (lo hi : Int)
  /-- a thing that is known to the object (the script; a dict while a loop walks it): read, never written while it is so -/
  | frz (o : Obj) (u : HO)
  /-- a code object's table -/
  | tbl (ps : Array Value)
  /-- any other thing, by what is true of its one object (a def of one's own: SetO a S n := HO.ext fun h => ..) -/
  | ext (φ : Heap → Prop)

@[reducible] noncomputable def Hp := Addr → Option HO
noncomputable def upd (H : Hp) (a : Addr) (o : HO) : Hp := fun b => if b = a then some o else H b
theorem upd_same {H : Hp} {a : Addr} {o : HO} : upd H a o a = some o := by unfold upd; rw [if_pos rfl]
theorem upd_ne {H : Hp} {a b : Addr} {o : HO} (h : b ≠ a) : upd H a o b = H b := by unfold upd; rw [if_neg h]
theorem upd_upd {H : Hp} {a : Addr} {o u : HO} : upd (upd H a o) a u = upd H a u := by
  funext b; unfold upd; split <;> rfl
/-- two objects of different content stand apart -/
theorem ne_of {H : Hp} {a b : Addr} {o u : HO} (h : H a = some o) (h' : H b = some u) (d : o ≠ u) : a ≠ b := by
  intro e; subst e; rw [h] at h'; exact d (Option.some.inj h')
theorem ne_of_none {H : Hp} {a b : Addr} {o : HO} (h : H a = some o) (h' : H b = none) : a ≠ b := by
  intro e; subst e; rw [h] at h'; cases h'

section
variable (P : Program) (w : World)
noncomputable def ObjOk (H : Hp) (h : Heap) (a : Addr) : HO → Prop
  | .lst xs => xs.length ≤ sizeLine ∧ ∃ (its : List Value) (n : Nat), Vals xs its ∧ h.get? a = some { cls := .type "list", data := .seq its.toArray n }
  | .tup xs => xs.length ≤ sizeLine ∧ ∃ its : List Value, Vals xs its ∧ IsTup h a its.toArray
  | .dK kvs => kvs.length ≤ sizeLine ∧ (a == sysModules) = false ∧ ∃ vs, KV kvs vs ∧ h.DictOf (mixKind P w) a vs
  | .dT kvs => kvs.length ≤ sizeLine ∧ (a == sysModules) = false ∧ ∃ xs : List (List Key × Addr × Value),
      Paired (fun (p : List Key × V) (q : List Key × Addr × Value) => p.1 = q.1 ∧ H q.2.1 = some (.tup (p.1.map kV)) ∧ RelV p.2 q.2.2) kvs xs ∧
      ∃ o es ep, h.get? a = some o ∧ o.ExactDict ∧ o.data = .dict es ep ∧ es.toList = xs.map (entryOfKey (tupleKind (mixKind P w))) ∧ (xs.map (·.1)).Nodup
  | .set S n => h.SetOf (intKind P w) a S n
  | .ins C dx fs => H dx = some (.own a) ∧ fs.length ≤ 1000 ∧ dx ≠ a ∧ h.get? a = some (PySem.W.instObj C dx) ∧
      ∃ mA, h.Ns1 dx mA ∧ (∀ f, RelO (fs.lookup f) (mA f)) ∧ PySem.Within mA (fs.map (·.1))
  | .own _ => ∃ o, h.get? a = some o
  | .xd fs => ∃ mA, h.Ns1 a mA ∧ ∀ f, RelO (fs.lookup f) (mA f)
  | .rng lo hi => ∃ t u v, h.get? a = some { cls := .type "range", data := .fields #[.int lo t, .int hi u, .int 1 v] }
  | .frz o u => h.get? a = some o ∧ ObjOk H h a u
  | .tbl ps => h.get? a = some { cls := .none, data := .fields ps }
  | .met f x => h.get? a = some (PySem.W.methodObj (.ref f) (.ref x))
  | .ext φ => φ h ∧ (∃ o, h.get? a = some o) ∧ ∀ h1 h2 : Heap, φ h1 → (∀ o, h1.get? a = some o → h2.get? a = some o) → φ h2
/-- the abstract heap is held -/
noncomputable def HOk (H : Hp) (h : Heap) : Prop := ∀ a o, H a = some o → ObjOk P w H h a o
end

section
variable {P : Program} {w : World} {H H' : Hp} {h h' : Heap} {a : Addr} {o : HO}
theorem ObjOk.lt (x : ObjOk P w H h a o) : a < h.objs.size := by
  cases o with
  | lst xs => obtain ⟨_, _, _, _, e⟩ := x; exact Heap.lt_size e
  | tup xs => obtain ⟨_, _, _, p⟩ := x; exact p.lt
  | dK kvs => obtain ⟨_, _, _, _, o, _, _, e, _⟩ := x; exact Heap.lt_size e
  | dT kvs => obtain ⟨_, _, _, _, o, _, _, e, _⟩ := x; exact Heap.lt_size e
  | set S n => obtain ⟨o, _, _, _, e, _⟩ := x; exact Heap.lt_size e
  | ins C dx fs => obtain ⟨_, _, _, e, _⟩ := x; exact Heap.lt_size e
  | own y => obtain ⟨_, e⟩ := x; exact Heap.lt_size e
  | xd fs => obtain ⟨_, ⟨_, _, _, e, _⟩, _⟩ := x; exact Heap.lt_size e
  | rng lo hi => obtain ⟨_, _, _, e⟩ := x; exact Heap.lt_size e
  | frz ob u => obtain ⟨e, _⟩ := x; exact Heap.lt_size e
  | tbl ps => exact Heap.lt_size (show h.get? a = some _ from x)
  | met f y => exact Heap.lt_size (show h.get? a = some _ from x)
  | ext φ => obtain ⟨_, ⟨_, e⟩, _⟩ := x; exact Heap.lt_size e
theorem Paired.mapP {α β : Type} {F G : α → β → Prop} : ∀ {l₁ : List α} {l₂ : List β}, Paired F l₁ l₂ → (∀ a b, F a b → G a b) → Paired G l₁ l₂
  | _, _, .nil, _ => .nil
  | _, _, .cons r t, f => .cons (f _ _ r) (Paired.mapP t f)
/-- what an object's description leans on: its own object, its own dict, the tuples -/
theorem ObjOk.stay (x : ObjOk P w H h a o) (k : ∀ b u, (b = a ∨ H b = some (.own a)) → h.get? b = some u → h'.get? b = some u)
    (ho : ∀ b, H b = some (.own a) → H' b = some (.own a)) (ht : ∀ b xs, H b = some (.tup xs) → H' b = some (.tup xs)) : ObjOk P w H' h' a o := by
  induction o with
  | lst xs => obtain ⟨z, its, n, r, e⟩ := x; exact ⟨z, its, n, r, k _ _ (.inl rfl) e⟩
  | tup xs => obtain ⟨z, its, r, ob, e, c⟩ := x; exact ⟨z, its, r, ob, k _ _ (.inl rfl) e, c⟩
  | dK kvs => obtain ⟨z, y, vs, r, ob, es, ep, e, c⟩ := x; exact ⟨z, y, vs, r, ob, es, ep, k _ _ (.inl rfl) e, c⟩
  | dT kvs =>
    obtain ⟨z, y, xs, r, ob, es, ep, e, c⟩ := x
    exact ⟨z, y, xs, Paired.mapP r fun p q z => ⟨z.1, ht _ _ z.2.1, z.2.2⟩, ob, es, ep, k _ _ (.inl rfl) e, c⟩
  | set S n => obtain ⟨ob, es, ep, t, e, c⟩ := x; exact ⟨ob, es, ep, t, k _ _ (.inl rfl) e, c⟩
  | ins C dx fs =>
    obtain ⟨d, z, ne, e, mA, ⟨od, es, ep, e2, c⟩, r⟩ := x
    exact ⟨ho _ d, z, ne, k _ _ (.inl rfl) e, mA, ⟨od, es, ep, k _ _ (.inr d) e2, c⟩, r⟩
  | own y => obtain ⟨ob, e⟩ := x; exact ⟨ob, k _ _ (.inl rfl) e⟩
  | xd fs => obtain ⟨mA, ⟨od, es, ep, e, c⟩, r⟩ := x; exact ⟨mA, ⟨od, es, ep, k _ _ (.inl rfl) e, c⟩, r⟩
  | rng lo hi => obtain ⟨t, u, v, e⟩ := x; exact ⟨t, u, v, k _ _ (.inl rfl) e⟩
  | frz ob u ih => obtain ⟨e, q⟩ := x; exact ⟨k _ _ (.inl rfl) e, ih q⟩
  | tbl ps =>
    have e : h.get? a = some { cls := .none, data := .fields ps } := x
    show h'.get? a = some { cls := .none, data := .fields ps }
    exact k a _ (.inl rfl) e
  | met f y =>
    have e : h.get? a = some (PySem.W.methodObj (.ref f) (.ref y)) := x
    show h'.get? a = some (PySem.W.methodObj (.ref f) (.ref y))
    exact k a _ (.inl rfl) e
  | ext φ => obtain ⟨p, ⟨o, e⟩, st⟩ := x; exact ⟨st _ _ p fun o q => k _ _ (.inl rfl) q, ⟨o, k _ _ (.inl rfl) e⟩, st⟩
theorem HOk.lt (x : HOk P w H h) (e : H a = some o) : a < h.objs.size := (x a o e).lt
theorem HOk.fresh (x : HOk P w H h) (e : h.objs.size ≤ a) : H a = none := by
  cases q : H a with
  | none => rfl
  | some u => exact absurd (Nat.lt_of_lt_of_le (x.lt q) e) (Nat.lt_irrefl _)
/-- every object of the heap is kept -/
theorem HOk.kept (x : HOk P w H h) (k : ∀ b u, h.get? b = some u → h'.get? b = some u) : HOk P w H h' := fun a o e =>
  (x a o e).stay (fun b u _ q => k b u q) (fun _ q => q) fun _ _ q => q
/-- a new object is laid and tracked -/
theorem HOk.laid (x : HOk P w H h) (k : ∀ b u, h.get? b = some u → h'.get? b = some u) (hp : h.objs.size ≤ a) (new : ObjOk P w (upd H a o) h' a o) : HOk P w (upd H a o) h' := fun b u e => by
  have hn := x.fresh hp
  by_cases hb : b = a
  · subst hb; rw [upd_same] at e; cases e; exact new
  · rw [upd_ne hb] at e
    exact (x b u e).stay (fun c v _ q => k c v q) (fun c q => by rw [upd_ne (ne_of_none q hn)]; exact q) fun c xs q => by rw [upd_ne (ne_of_none q hn)]; exact q
end

/-- what may be read as u: it is u, or a known u -/
noncomputable def Rd (H : Hp) (a : Addr) (u : HO) : Prop := H a = some u ∨ ∃ o, H a = some (.frz o u)
theorem Rd.ok {P : Program} {w : World} {H : Hp} {h : Heap} {a : Addr} {u : HO} (r : Rd H a u) (x : HOk P w H h) : ObjOk P w H h a u := by
  rcases r with r | ⟨o, r⟩
  · exact x a u r
  · obtain ⟨_, q⟩ := x a _ r
    exact q
/-- what may be written -/
noncomputable def Mut : Option HO → Prop
  | some (.lst _) => True
  | some (.dK _) => True
  | some (.dT _) => True
  | some (.set _ _) => True
  | some (.ins _ _ _) => True
  | some (.ext _) => True
  | _ => False
section
variable {P : Program} {w : World} {H : Hp} {h h' : Heap} {x e : Addr} {o' : HO}
/-- the object at e is changed: x itself, or the dict of the instance x -/
theorem HOk.write (ok : HOk P w H h) (mu : Mut (H x)) (he : e = x ∨ H e = some (.own x)) (k : ∀ b u, b ≠ e → h.get? b = some u → h'.get? b = some u) (heo : ∃ u, h'.get? e = some u)
    (new : ObjOk P w (upd H x o') h' x o') : HOk P w (upd H x o') h' := fun b u q => by
  have nown : ∀ c y, H c = some (.own y) → c ≠ x := fun c y r z => by subst z; rw [r] at mu; exact mu
  have ntup : ∀ c xs, H c = some (.tup xs) → c ≠ x := fun c xs r z => by subst z; rw [r] at mu; exact mu
  by_cases hb : b = x
  · subst hb; rw [upd_same] at q; cases q; exact new
  · rw [upd_ne hb] at q
    by_cases hbe : b = e
    · have q' : H b = some (.own x) := by
        rcases he with z | z
        · exact absurd (hbe.trans z) hb
        · rw [hbe]; exact z
      rw [q] at q'; cases q'
      obtain ⟨v, hv⟩ := heo
      exact ⟨v, by rw [hbe]; exact hv⟩
    · refine (ok b u q).stay (fun c v hc r => k c v ?_ r) (fun c r => by rw [upd_ne (nown c b r)]; exact r) fun c xs r => by rw [upd_ne (ntup c xs r)]; exact r
      rcases hc with rfl | hc
      · exact hbe
      · rintro rfl
        rcases he with z | z
        · exact nown c b hc z
        · rw [hc] at z; cases z; exact hb rfl
end

structure Un (fs ex : List Addr) (H H' : Hp) (h h' : Heap) : Prop where
  keep : ∀ b o, h.get? b = some o → H b = none → b ∉ fs → b ∉ ex → h'.get? b = some o
  slot : ∀ b o, h.get? b = some o → H b = none → b ∈ fs → b ∉ ex → ∃ sl, h'.get? b = some { o with slots := sl }
  free : ∀ b o, h.get? b = some o → H b = none → b ∉ ex → H' b = none
  there : ∀ b o, h.get? b = some o → b ∉ ex → ∃ o', h'.get? b = some o'
  tups : ∀ b xs, H b = some (.tup xs) → H' b = some (.tup xs)
  frzs : ∀ b o u, H b = some (.frz o u) → H' b = some (.frz o u)
  tbls : ∀ b ps, H b = some (.tbl ps) → ∃ more, H' b = some (.tbl (ps ++ more))
section
variable {fs fs' ex ex' : List Addr} {H H1 H2 : Hp} {h h1 h2 h' : Heap} {a x e : Addr} {o : HO}
theorem Un.any (u : Un fs ex H H1 h h1) {b : Addr} {ob : Obj} (q : h.get? b = some ob) (n : H b = none) (hx : b ∉ ex) : ∃ sl, h1.get? b = some { ob with slots := sl } := by
  by_cases hb : b ∈ fs
  · exact u.slot b ob q n hb hx
  · exact ⟨ob.slots, u.keep b ob q n hb hx⟩
theorem Un.kept (k : ∀ b u, h.get? b = some u → h'.get? b = some u) : Un fs ex H H h h' :=
  ⟨fun b ob q _ _ _ => k b ob q, fun b ob q _ _ _ => ⟨ob.slots, k b ob q⟩, fun _ _ _ n _ => n, fun b ob q _ => ⟨ob, k b ob q⟩, fun _ _ q => q, fun _ _ _ q => q, fun _ ps q => ⟨#[], by rw [q]; simp⟩⟩
theorem Un.refl : Un fs ex H H h h := Un.kept fun _ _ q => q
theorem Un.laid (k : ∀ b u, h.get? b = some u → h'.get? b = some u) (hp : h.objs.size ≤ a) (hn : H a = none) : Un fs ex H (upd H a o) h h' where
  keep := fun b u q _ _ _ => k b u q
  slot := fun b u q _ _ _ => ⟨u.slots, k b u q⟩
  free := fun b u q n _ => by rw [upd_ne (Nat.ne_of_lt (Nat.lt_of_lt_of_le (Heap.lt_size q) hp))]; exact n
  there := fun b u q _ => ⟨u, k b u q⟩
  tups := fun b xs q => by rw [upd_ne (ne_of_none q hn)]; exact q
  frzs := fun b u xs q => by rw [upd_ne (ne_of_none q hn)]; exact q
  tbls := fun b ps q => ⟨#[], by rw [upd_ne (ne_of_none q hn), q]; simp⟩
theorem Un.write (mu : Mut (H x)) (he : e = x ∨ H e = some (.own x)) (k : ∀ b u, b ≠ e → h.get? b = some u → h'.get? b = some u) (heo : ∃ u, h'.get? e = some u) : Un fs ex H (upd H x o) h h' := by
  have hx : ∀ b, H b = none → b ≠ x := fun b n z => by subst z; rw [n] at mu; exact mu
  have hb : ∀ b, H b = none → b ≠ e := fun b n z => by
    subst z
    rcases he with r | r
    · exact hx b n r
    · rw [n] at r; cases r
  have hm : ∀ b u, H b = some u → ¬ Mut (some u) → b ≠ x := fun b u q nm z => by subst z; rw [q] at mu; exact nm mu
  refine ⟨fun b u q n _ _ => k b u (hb b n) q, fun b u q n _ _ => ⟨u.slots, k b u (hb b n) q⟩, fun b u q n _ => by rw [upd_ne (hx b n)]; exact n, fun b u q _ => ?_,
    fun b xs q => by rw [upd_ne (hm b _ q fun z => z)]; exact q, fun b u xs q => by rw [upd_ne (hm b _ q fun z => z)]; exact q, fun b ps q => ⟨#[], by rw [upd_ne (hm b _ q fun z => z), q]; simp⟩⟩
  by_cases hbe : b = e
  · subst hbe; exact heo
  · exact ⟨u, k b u hbe q⟩
end

noncomputable def trk (h : Heap) (H : Hp) : List Addr := (List.range h.objs.size).filter fun a => (H a).isSome
noncomputable def hidT (h : Heap) (H : Hp) : Heap := PySem.W.hideAll h (trk h H)
theorem hidT_size (h : Heap) (H : Hp) : (hidT h H).objs.size = h.objs.size := PySem.W.hideAll_size _ _
theorem hidT_get {h : Heap} {H : Hp} {b : Addr} {o : Obj} (e : h.get? b = some o) (n : H b = none) : (hidT h H).get? b = some o :=
  PySem.W.hideAll_get _ e fun hm => by
    have q : (H b).isSome = true := (List.mem_filter.mp hm).2
    rw [n] at q; simp at q
theorem of_hidT {h : Heap} {H : Hp} {b : Addr} {o : Obj} (e : (hidT h H).get? b = some o) : h.get? b = some o ∧ H b = none := by
  have e' : h.get? b = some o := PySem.W.of_hideAll (trk h H) e
  refine ⟨e', ?_⟩
  cases q : H b with
  | none => rfl
  | some x =>
    have hm : b ∈ trk h H := List.mem_filter.mpr ⟨List.mem_range.mpr (Heap.lt_size e'), by simp [q]⟩
    have z : (hidT h H).get? b = none := PySem.W.hideAll_none (trk h H) hm
    rw [z] at e; cases e

end L2

namespace L2
open PySem PySem.Spec PyProof.Rows

/-- the module's facts, over the base: the heap at the law's entry without what is tracked there -/
structure Mod (K : PySem.W.Frag) (mg : Str → Option Value) (base : Heap) : Prop where
  kin : K.In base
  glob : base.Ns mainGlobals mg
  blt : ∃ mb, base.Ns builtinsNs mb ∧ ∀ x : Str, x ≠ "__name__" → mb x = bootBuiltins x
  nolimit : base.NoLimit

/-- the context: a def's body (or a comprehension's block) running. base: fixed through the whole law; s₀, H₀: the entry; outer: the frames whose slots others may change (a def's callers); stack: all frames that run;
   ex: iterators that were made ahead of the entry and are walked here (a comprehension's); fn: the names whose cells were made at the entry (a def: all; a comprehension's block: its own); calm: not within an except suite; pn: pins that every state bears; xe: what is wanted of an exception that leaves the code -/
structure Cx where
  prog : Program
  w : World
  K : PySem.W.Frag
  mg : Str → Option Value
  base : Heap
  A : Around
  N : List Str
  s_0 : Shared
  H_0 : Hp
  env : Env
  outer : List Env
  stack : List Env
  ex : List Addr
  fn : Str → Bool
  calm : Bool
  pn : List (Addr × Obj)
  xe : Value → Shared → Prop
/-- the callers' frames -/
noncomputable def frs (l : List Env) : List Addr := l.filterMap (·.frame)
@[reducible] noncomputable def Cx.fs (X : Cx) : List Addr := frs X.outer

noncomputable def Vis (sc : Scope) (x : Str) : Prop := sc.names.lookup x = some .local ∨ sc.names.lookup x = some .cell ∨ sc.names.lookup x = some .free
noncomputable def Loc (sc : Scope) (x : Str) : Prop := sc.names.lookup x = some .local ∨ sc.names.lookup x = some .cell
noncomputable def Look (env : Env) (h : Heap) (m : Str → Option Value) (x : Str) (u : Value) : Prop :=
  (env.kindOf x = some .local ∧ m x = some u) ∨ ((env.kindOf x = some .cell ∨ env.kindOf x = some .free) ∧ ∃ c, env.cells.lookup x = some c ∧ h.IsCell c (some u))

structure Cx.Ok (X : Cx) : Prop where
  mod : Mod X.K X.mg X.base
  kind : X.env.scope.kind = .function
  glob : X.env.globals = mainGlobals
  blt : X.env.builtins = builtinsNs
  above : X.s_0.heap.objs.size ≤ X.env.locals
  inj : ∀ x y c, X.env.cells.lookup x = some c → X.env.cells.lookup y = some c → x = y
  has : ∀ x, (X.env.kindOf x = some .cell ∨ X.env.kindOf x = some .free) → ∃ c, X.env.cells.lookup x = some c
  cab : ∀ x c, X.fn x = true → X.env.cells.lookup x = some c → X.s_0.heap.objs.size ≤ c
  hd : X.calm = true → X.A.handled = none
  frames : X.A.frames = some X.stack
  stk : X.stack = X.outer ∨ (X.stack = X.env :: X.outer ∧ X.env.frame = some X.env.locals)
  exf : ∀ b ∈ X.ex, b ≠ X.env.locals ∧ ∀ x c, X.env.cells.lookup x = some c → c ≠ b
  bs : ∀ b o, X.base.get? b = some o → X.s_0.heap.get? b = some o ∧ X.H_0 b = none
  bsz : X.base.objs.size ≤ X.s_0.heap.objs.size
  noex : ∀ b o, X.base.get? b = some o → b ∉ X.ex
  exfs : ∀ b ∈ X.ex, b ∉ X.fs
  funs : X.s_0.heap.FunFrames X.base X.outer
  frf : ∀ b ∈ X.fs, X.H_0 b = none

structure Inv (X : Cx) (pins : List (Addr × Obj)) (σ : List (Option V)) (H : Hp) (s : Shared) : Prop where
  ok : X.Ok
  os : s.os = X.s_0.os
  bare : AllBare s.gens
  base : Un X.fs X.ex X.H_0 H X.s_0.heap s.heap
  loc : ∃ m, s.heap.Ns X.env.locals m ∧ ∀ (i : Nat) (x : Str) (v : V), X.N[i]? = some x → σ[i]? = some (some v) → Vis X.env.scope x → ∃ u, RelV v u ∧ Look X.env s.heap m x u
  cell : ∀ x c, X.env.cells.lookup x = some c → ∃ v, s.heap.IsCell c v
  free : H X.env.locals = none
  freeC : ∀ x c, X.env.cells.lookup x = some c → H c = none
  pin : ∀ p ∈ X.pn ++ pins, s.heap.get? p.1 = some p.2 ∧ H p.1 = none ∧ p.1 ≠ X.env.locals ∧ p.1 ∉ X.fs ∧ ∀ v, p.2.data ≠ .cell v
  hok : HOk X.prog X.w H s.heap
  len : σ.length = X.N.length

section
variable {X : Cx} {pins : List (Addr × Obj)} {σ : List (Option V)} {H H' : Hp} {s : Shared} {h' : Heap}

theorem Cx.Ok.nofr (ok : X.Ok) {b : Addr} {o : Obj} (e : X.base.get? b = some o) : b ∉ X.fs := fun hb => by
  have := (ok.funs.mem hb).1
  rw [e] at this; cases this
theorem Inv.bs (I : Inv X pins σ H s) : ∀ b o, X.base.get? b = some o → s.heap.get? b = some o ∧ H b = none := fun b o e =>
  ⟨I.base.keep b o (I.ok.bs b o e).1 (I.ok.bs b o e).2 (I.ok.nofr e) (I.ok.noex b o e), I.base.free b o (I.ok.bs b o e).1 (I.ok.bs b o e).2 (I.ok.noex b o e)⟩
theorem Inv.bk (I : Inv X pins σ H s) : ∀ b o, X.base.get? b = some o → s.heap.get? b = some o := fun b o e => (I.bs b o e).1
theorem Inv.mod (I : Inv X pins σ H s) : Mod X.K X.mg X.base := I.ok.mod
theorem Inv.kIn (I : Inv X pins σ H s) : X.K.In s.heap := I.ok.mod.kin.keeps I.bk
theorem Inv.lt (I : Inv X pins σ H s) : X.env.locals < s.heap.objs.size := let ⟨_, hn, _⟩ := I.loc; hn.lt
theorem Inv.sz (I : Inv X pins σ H s) : X.s_0.heap.objs.size ≤ s.heap.objs.size := Nat.le_trans I.ok.above (Nat.le_of_lt I.lt)
theorem Inv.nofs (I : Inv X pins σ H s) {a : Addr} (h : s.heap.objs.size ≤ a) : a ∉ X.fs := fun hb => by
  obtain ⟨_, o, ho, _⟩ := I.ok.funs.mem hb
  exact absurd (Nat.lt_of_lt_of_le (Heap.lt_size ho) (Nat.le_trans I.sz h)) (Nat.lt_irrefl _)
theorem Inv.cne (I : Inv X pins σ H s) : ∀ x c, X.env.cells.lookup x = some c → c ≠ X.env.locals := fun x c e z => by
  obtain ⟨v, o, ho, hd⟩ := I.cell x c e
  obtain ⟨m, ⟨o', es, ep, ho', hd', _⟩, _⟩ := I.loc
  rw [z, ho'] at ho; cases ho; rw [hd'] at hd; cases hd
theorem Inv.funs (I : Inv X pins σ H s) : s.heap.FunFrames X.base X.outer := by
  have all : ∀ (l : List Env), (∀ b ∈ frs l, b ∈ X.fs) → X.s_0.heap.FunFrames X.base l → s.heap.FunFrames X.base l := by
    intro l
    induction l with
    | nil => intro _ _; trivial
    | cons env r ih =>
      intro hs hl
      obtain ⟨hk, ⟨L, o, hf, hn, ho, hd⟩, hr⟩ := hl
      have hL : L ∈ X.fs := hs L (by unfold frs; rw [List.filterMap_cons, hf]; exact List.mem_cons_self)
      obtain ⟨sl, e⟩ := I.base.slot L o ho (I.ok.frf L hL) hL fun z => I.ok.exfs L z hL
      exact ⟨hk, ⟨L, _, hf, hn, e, hd⟩, ih (fun b hb => hs b (by unfold frs; rw [List.filterMap_cons, hf]; exact List.mem_cons_of_mem _ hb)) hr⟩
  exact all X.outer (fun _ hb => hb) I.ok.funs

/-- the frames that run, for a call -/
theorem Inv.stack (I : Inv X pins σ H s) : s.heap.FunFrames X.base X.stack := by
  rcases I.ok.stk with e | ⟨e, hf⟩
  · rw [e]; exact I.funs
  · rw [e]
    obtain ⟨m, hn, _⟩ := I.loc
    refine .cons (by rw [I.ok.kind]; decide) hf hn ?_ I.funs
    exact Heap.get?_none_of_le (Nat.le_trans I.ok.bsz I.ok.above)
theorem Inv.stkSub (I : Inv X pins σ H s) : ∀ b ∈ frs X.stack, b ∈ X.env.locals :: X.fs := fun b hb => by
  rcases I.ok.stk with e | ⟨e, hf⟩
  · rw [e] at hb; exact List.mem_cons_of_mem _ hb
  · rw [e] at hb
    unfold frs at hb
    rw [List.filterMap_cons, hf] at hb
    exact hb
theorem Inv.stkFree (I : Inv X pins σ H s) : ∀ b ∈ frs X.stack, H b = none := fun b hb => by
  rcases List.mem_cons.mp (I.stkSub b hb) with e | hb
  · rw [e]; exact I.free
  · obtain ⟨_, o, ho, _⟩ := I.ok.funs.mem hb
    exact I.base.free b o ho (I.ok.frf b hb) fun z => I.ok.exfs b z hb

/-- THE STEP: the untracked objects but the frame and the records at ch are kept (the callers' frames up to slots), the frame's map is kept, the new abstract heap is held -/
theorem Inv.step {g' : Array GenState} {t' : Nat} {d' : Drawn} {ch : List Addr} (I : Inv X pins σ H s)
    (hch : ∀ b ∈ ch, (b ∈ X.ex ∨ X.s_0.heap.objs.size ≤ b) ∧ b ≠ X.env.locals ∧ (∀ x c, X.env.cells.lookup x = some c → c ≠ b) ∧ ∀ p ∈ X.pn ++ pins, p.1 ≠ b)
    (keep : ∀ b o, b ≠ X.env.locals → b ∉ X.fs → b ∉ ch → s.heap.get? b = some o → H b = none → h'.get? b = some o)
    (slot : ∀ b o, b ≠ X.env.locals → b ∈ X.fs → b ∉ ch → s.heap.get? b = some o → H b = none → ∃ sl, h'.get? b = some { o with slots := sl }) (free : ∀ b o, b ∉ ch → s.heap.get? b = some o → H b = none → H' b = none)
    (there : ∀ b o, b ∉ ch → s.heap.get? b = some o → ∃ o', h'.get? b = some o')
    (tups : ∀ b xs, H b = some (.tup xs) → H' b = some (.tup xs)) (frzs : ∀ b o u, H b = some (.frz o u) → H' b = some (.frz o u)) (tbls : ∀ b ps, H b = some (.tbl ps) → ∃ more, H' b = some (.tbl (ps ++ more)))
    (ns : ∀ m, s.heap.Ns X.env.locals m → h'.Ns X.env.locals m) (hok : HOk X.prog X.w H' h') (hg : AllBare g') :
    Inv X pins σ H' { s with heap := h', gens := g', drawn := d', toks := t' } := by
  have neL : ∀ b o, X.s_0.heap.get? b = some o → b ≠ X.env.locals := fun b o e => Nat.ne_of_lt (Nat.lt_of_lt_of_le (Heap.lt_size e) I.ok.above)
  have neC : ∀ b o, X.s_0.heap.get? b = some o → b ∉ X.ex → b ∉ ch := fun b o e hx hb => by
    rcases (hch b hb).1 with z | z
    · exact hx z
    · exact absurd (Nat.lt_of_lt_of_le (Heap.lt_size e) z) (Nat.lt_irrefl _)
  have cellK : ∀ x c, X.env.cells.lookup x = some c → ∀ v, s.heap.IsCell c v → h'.IsCell c v := fun x c e v ⟨o, ho, hd⟩ => by
    have nch : c ∉ ch := fun z => (hch c z).2.2.1 x c e rfl
    by_cases hc : c ∈ X.fs
    · obtain ⟨sl, q⟩ := slot c o (I.cne x c e) hc nch ho (I.freeC x c e)
      exact ⟨_, q, hd⟩
    · exact ⟨o, keep c o (I.cne x c e) hc nch ho (I.freeC x c e), hd⟩
  refine ⟨I.ok, I.os, hg, ⟨fun b o e n hb hx => ?_, fun b o e n hb hx => ?_, fun b o e n hx => ?_, fun b o e hx => ?_, fun b xs e => tups b xs (I.base.tups b xs e), fun b o xs e => frzs b o xs (I.base.frzs b o xs e), fun b ps e => ?_⟩, ?_, fun x c e => ?_, ?_, fun x c e => ?_, fun p hp => ?_, hok, I.len⟩
  · exact keep b o (neL b o e) hb (neC b o e hx) (I.base.keep b o e n hb hx) (I.base.free b o e n hx)
  · obtain ⟨sl, e1⟩ := I.base.slot b o e n hb hx
    obtain ⟨sl', e2⟩ := slot b _ (neL b o e) hb (neC b o e hx) e1 (I.base.free b o e n hx)
    exact ⟨sl', e2⟩
  · obtain ⟨o', e1⟩ := I.base.there b o e hx
    exact free b o' (neC b o e hx) e1 (I.base.free b o e n hx)
  · obtain ⟨o', e1⟩ := I.base.there b o e hx
    exact there b o' (neC b o e hx) e1
  · obtain ⟨m1, e1⟩ := I.base.tbls b ps e
    obtain ⟨m2, e2⟩ := tbls b _ e1
    exact ⟨m1 ++ m2, by rw [e2, Array.append_assoc]⟩
  · obtain ⟨m, hn, hl⟩ := I.loc
    refine ⟨m, ns m hn, fun i x v e1 e2 e3 => ?_⟩
    obtain ⟨u, r, l⟩ := hl i x v e1 e2 e3
    refine ⟨u, r, ?_⟩
    rcases l with l | ⟨k, c, e, z⟩
    · exact .inl l
    · exact .inr ⟨k, c, e, cellK x c e _ z⟩
  · obtain ⟨v, z⟩ := I.cell x c e
    exact ⟨v, cellK x c e v z⟩
  · obtain ⟨m, ⟨o, _, _, ho, _⟩, _⟩ := I.loc
    exact free _ o (fun z => (hch _ z).2.1 rfl) ho I.free
  · obtain ⟨v, o, ho, hd⟩ := I.cell x c e
    exact free c o (fun z => (hch c z).2.2.1 x c e rfl) ho (I.freeC x c e)
  · obtain ⟨e, n, ne, nf, d⟩ := I.pin p hp
    have nch : p.1 ∉ ch := fun z => (hch p.1 z).2.2.2 p hp rfl
    exact ⟨keep p.1 p.2 ne nf nch e n, free p.1 p.2 nch e n, ne, nf, d⟩
/-- .. where the frame's own object is kept too -/
theorem Inv.un {t' : Nat} (I : Inv X pins σ H s) (u : Un X.fs [] H H' s.heap h') (hok : HOk X.prog X.w H' h') : Inv X pins σ H' { s with heap := h', toks := t' } := by
  obtain ⟨m, ⟨o, es, ep, ho, r⟩, _⟩ := id I.loc
  obtain ⟨sl, hL⟩ := u.any ho I.free (by simp)
  exact I.step (g' := s.gens) (d' := s.drawn) (ch := []) (fun _ z => nomatch z) (fun b o _ hb _ e n => u.keep b o e n hb (by simp)) (fun b o _ hb _ e n => u.slot b o e n hb (by simp)) (fun b o _ e n => u.free b o e n (by simp)) (fun b o _ e => u.there b o e (by simp)) u.tups u.frzs u.tbls (fun m' hm => by
    obtain ⟨o', es', ep', ho', r'⟩ := hm
    rw [ho] at ho'; cases ho'
    exact ⟨_, es', ep', hL, r'⟩) hok I.bare
/-- behind a call (or a comprehension's block): the slots of this frame may have changed too, the records at ch may have turned -/
theorem Inv.call {g' : Array GenState} {t' : Nat} {d' : Drawn} {ch : List Addr} (I : Inv X pins σ H s) (u : Un (frs X.stack) ch H H' s.heap h') (hok : HOk X.prog X.w H' h') (hg : AllBare g')
    (hch : ∀ b ∈ ch, (b ∈ X.ex ∨ X.s_0.heap.objs.size ≤ b) ∧ b ≠ X.env.locals ∧ (∀ x c, X.env.cells.lookup x = some c → c ≠ b) ∧ ∀ p ∈ X.pn ++ pins, p.1 ≠ b) :
    Inv X pins σ H' { s with heap := h', gens := g', drawn := d', toks := t' } := by
  obtain ⟨m, ⟨o, es, ep, ho, r⟩, _⟩ := id I.loc
  obtain ⟨sl, hL⟩ := u.any ho I.free fun z => (hch _ z).2.1 rfl
  exact I.step (ch := ch) hch (fun b o hL hb hc e n => u.keep b o e n (fun z => (List.mem_cons.mp (I.stkSub b z)).elim hL hb) hc) (fun b o _ _ hc e n => u.any e n hc) (fun b o hc e n => u.free b o e n hc) (fun b o hc e => u.there b o e hc) u.tups u.frzs u.tbls (fun m' hm => by
    obtain ⟨o', es', ep', ho', r'⟩ := hm
    rw [ho] at ho'; cases ho'
    exact ⟨_, es', ep', hL, r'⟩) hok hg
/-- an untracked record of ours (an iterator) has turned -/
theorem Inv.turned {t' : Nat} {it : Addr} (I : Inv X pins σ H s) (k : ∀ b o, b ≠ it → s.heap.get? b = some o → h'.get? b = some o) (hn : H it = none) (hL : it ≠ X.env.locals)
    (h1 : it ∈ X.ex ∨ X.s_0.heap.objs.size ≤ it) (h2 : ∀ x c, X.env.cells.lookup x = some c → c ≠ it) (h3 : ∀ p ∈ X.pn ++ pins, p.1 ≠ it) : Inv X pins σ H { s with heap := h', toks := t' } := by
  have nit : ∀ b u, H b = some u → b ≠ it := fun b u e z => by rw [z, hn] at e; cases e
  refine I.step (g' := s.gens) (d' := s.drawn) (ch := [it]) (fun b hb => ?_) (fun b o _ _ hc e _ => k b o (fun z => hc (by simp [z])) e) (fun b o _ _ hc e _ => ⟨o.slots, k b o (fun z => hc (by simp [z])) e⟩) (fun _ _ _ _ n => n)
    (fun b o hc e => ⟨o, k b o (fun z => hc (by simp [z])) e⟩) (fun _ _ e => e) (fun _ _ _ e => e) (fun b ps e => ⟨#[], by rw [e]; simp⟩) (fun m hm => ?_) (fun b u e => ?_) I.bare
  · have e : b = it := by simpa using hb
    subst e
    exact ⟨h1, hL, h2, h3⟩
  · obtain ⟨o, es, ep, ho, r⟩ := hm
    exact ⟨o, es, ep, k _ o (Ne.symm hL) ho, r⟩
  · refine (I.hok b u e).stay (fun c v hc q => k c v ?_ q) (fun _ q => q) fun _ _ q => q
    rcases hc with z | z
    · rw [z]; exact nit b u e
    · exact nit c _ z
theorem Inv.tok (I : Inv X pins σ H s) (t : Nat) : Inv X pins σ H { s with toks := t } := I.un (h' := s.heap) (t' := t) Un.refl I.hok
/-- all objects kept -/
theorem Inv.kept {t' : Nat} (I : Inv X pins σ H s) (k : ∀ b u, s.heap.get? b = some u → h'.get? b = some u) : Inv X pins σ H { s with heap := h', toks := t' } := I.un (Un.kept k) (I.hok.kept k)
/-- a new object laid and tracked -/
theorem Inv.laid {a : Addr} {o : HO} {t' : Nat} (I : Inv X pins σ H s) (k : ∀ b u, s.heap.get? b = some u → h'.get? b = some u) (hp : s.heap.objs.size ≤ a) (new : ObjOk X.prog X.w (upd H a o) h' a o) :
    Inv X pins σ (upd H a o) { s with heap := h', toks := t' } := I.un (Un.laid k hp (I.hok.fresh hp)) (I.hok.laid k hp new)
/-- an object written -/
theorem Inv.write {x e : Addr} {o : HO} {t' : Nat} (I : Inv X pins σ H s) (mu : Mut (H x)) (he : e = x ∨ H e = some (.own x)) (k : ∀ b u, b ≠ e → s.heap.get? b = some u → h'.get? b = some u) (heo : ∃ u, h'.get? e = some u)
    (new : ObjOk X.prog X.w (upd H x o) h' x o) : Inv X pins σ (upd H x o) { s with heap := h', toks := t' } := I.un (Un.write mu he k heo) (I.hok.write mu he k heo new)
/-- forgetting slots, pins -/
theorem Inv.weak {σ' : List (Option V)} (I : Inv X pins σ H s) (hl : σ'.length = σ.length) (w : ∀ (i : Nat) v, σ'[i]? = some (some v) → σ[i]? = some (some v)) : Inv X pins σ' H s :=
  ⟨I.ok, I.os, I.bare, I.base, let ⟨m, hn, hl'⟩ := I.loc; ⟨m, hn, fun i x v e1 e2 e3 => hl' i x v e1 (w i v e2) e3⟩, I.cell, I.free, I.freeC, I.pin, I.hok, hl.trans I.len⟩
theorem Inv.pins_of {pins' : List (Addr × Obj)} (I : Inv X pins σ H s) (h : ∀ p ∈ pins', s.heap.get? p.1 = some p.2 ∧ H p.1 = none ∧ p.1 ≠ X.env.locals ∧ p.1 ∉ X.fs ∧ ∀ v, p.2.data ≠ .cell v) : Inv X pins' σ H s :=
  ⟨I.ok, I.os, I.bare, I.base, I.loc, I.cell, I.free, I.freeC, fun p hp => (List.mem_append.mp hp).elim (fun z => I.pin p (List.mem_append_left _ z)) (h p), I.hok, I.len⟩

theorem nodup_ix {N : List Str} (hN : N.Nodup) {i j : Nat} {x : Str} (a : N[i]? = some x) (b : N[j]? = some x) : i = j := by
  obtain ⟨h1, e1⟩ := List.getElem?_eq_some_iff.mp a
  obtain ⟨h2, e2⟩ := List.getElem?_eq_some_iff.mp b
  exact (List.getElem_inj hN).mp (e1.trans e2.symm)

/-- a name is stored; what changed -/
theorem store_ok2 {M : Model} {A : Around} {E : Value → Shared → Prop} {i : Nat} {x : Str} {v : V} {u : Value} {Q : Unit → Shared → Prop} (I : Inv X pins σ H s) (hN : X.N.Nodup) (hi : X.N[i]? = some x) (hx : Loc X.env.scope x) (r : RelV v u)
    (h : ∀ s', Inv X pins (σ.set i (some v)) H s' → (∃ a, Heap.SameBut a s.heap s'.heap ∧ (a = X.env.locals ∨ X.env.cells.lookup x = some a)) → Q () s') (hf : X.fn x = true ∨ X.env.scope.names.lookup x = some .local := by first | exact .inl rfl | exact .inr rfl | assumption) : wpAny M A (storeName X.env x u) Q E s := by
  obtain ⟨m, hn, hl⟩ := id I.loc
  have hcls : (X.env.scope.kind == .class || (X.env.scope.kind == .module && X.env.locals != X.env.globals)) = false := by rw [I.ok.kind]; rfl
  have hiσ : i < σ.length := by rw [I.len]; exact (List.getElem?_eq_some_iff.mp hi).1
  have cne := I.cne
  have tracked : ∀ {a : Addr} {h' : Heap}, (∃ o, s.heap.get? a = some o ∧ H a = none) → Heap.SameBut a s.heap h' → HOk X.prog X.w H h' := fun {a h'} ha hs b ob e => by
    obtain ⟨_, _, hfree⟩ := ha
    refine (I.hok b ob e).stay (fun c w' hc q => (hs.2 c ?_).trans q) (fun _ q => q) fun _ _ q => q
    rintro rfl
    rcases hc with rfl | hc
    · rw [hfree] at e; cases e
    · rw [hfree] at hc; cases hc
  rcases hx with hk | hk
  · refine wpAny_storeName_local hk hn (fun h' hn' hs => ?_) hcls
    obtain ⟨oL, _, _, hoL, _⟩ := id hn
    refine h _ ⟨I.ok, I.os, I.bare, ⟨fun b o e n hb hx => ?_, fun b o e n hb hx => ?_, I.base.free, fun b o e hx => ?_, I.base.tups, I.base.frzs, I.base.tbls⟩, ⟨_, hn', fun j y v' e1 e2 e3 => ?_⟩, fun y c e => ?_, I.free, I.freeC, fun p hp => ?_, tracked ⟨oL, hoL, I.free⟩ hs, by simpa using I.len⟩ ⟨_, hs, .inl rfl⟩
    · exact (hs.2 b (Nat.ne_of_lt (Nat.lt_of_lt_of_le (Heap.lt_size e) I.ok.above))).trans (I.base.keep b o e n hb hx)
    · obtain ⟨sl, e1⟩ := I.base.slot b o e n hb hx
      exact ⟨sl, (hs.2 b (Nat.ne_of_lt (Nat.lt_of_lt_of_le (Heap.lt_size e) I.ok.above))).trans e1⟩
    · obtain ⟨o', e1⟩ := I.base.there b o e hx
      exact ⟨o', (hs.2 b (Nat.ne_of_lt (Nat.lt_of_lt_of_le (Heap.lt_size e) I.ok.above))).trans e1⟩
    · by_cases hj : j = i
      · subst hj
        rw [hi] at e1; cases e1
        rw [List.getElem?_set_self hiσ] at e2
        cases e2
        exact ⟨u, r, .inl ⟨hk, by simp⟩⟩
      · rw [List.getElem?_set_ne (Ne.symm hj)] at e2
        obtain ⟨u', r', q⟩ := hl j y v' e1 e2 e3
        refine ⟨u', r', ?_⟩
        rcases q with ⟨k, e⟩ | ⟨k, c, e, z⟩
        · refine .inl ⟨k, ?_⟩
          have : y ≠ x := fun e => hj (nodup_ix hN e1 (e ▸ hi))
          simp [this, e]
        · exact .inr ⟨k, c, e, z.sameBut hs (cne y c e)⟩
    · obtain ⟨w', z⟩ := I.cell y c e
      exact ⟨w', z.sameBut hs (cne y c e)⟩
    · obtain ⟨e, n, ne, nf, d⟩ := I.pin p hp
      exact ⟨(hs.2 p.1 ne).trans e, n, ne, nf, d⟩
  · have hfn : X.fn x = true := by
      rcases hf with z | z
      · exact z
      · rw [z] at hk; cases hk
    obtain ⟨c, hc⟩ := I.ok.has x (.inl hk)
    obtain ⟨w', z⟩ := I.cell x c hc
    refine wpAny_storeName_cell I.ok.kind hk hc z (fun h' hc' hs => ?_)
    obtain ⟨oc, hoc, hocd⟩ := id z
    refine h { s with heap := h' } ⟨I.ok, I.os, I.bare, ⟨fun b o e n hb hx => ?_, fun b o e n hb hx => ?_, I.base.free, fun b o e hx => ?_, I.base.tups, I.base.frzs, I.base.tbls⟩, ⟨m, hn.sameBut hs (Ne.symm (cne x c hc)), fun j y v' e1 e2 e3 => ?_⟩, fun y c' e => ?_, I.free, I.freeC, fun p hp => ?_, tracked ⟨oc, hoc, I.freeC x c hc⟩ hs, by simpa using I.len⟩ ⟨c, hs, .inr hc⟩
    · exact (hs.2 b (Nat.ne_of_lt (Nat.lt_of_lt_of_le (Heap.lt_size e) (I.ok.cab x c hfn hc)))).trans (I.base.keep b o e n hb hx)
    · obtain ⟨sl, e1⟩ := I.base.slot b o e n hb hx
      exact ⟨sl, (hs.2 b (Nat.ne_of_lt (Nat.lt_of_lt_of_le (Heap.lt_size e) (I.ok.cab x c hfn hc)))).trans e1⟩
    · obtain ⟨o', e1⟩ := I.base.there b o e hx
      exact ⟨o', (hs.2 b (Nat.ne_of_lt (Nat.lt_of_lt_of_le (Heap.lt_size e) (I.ok.cab x c hfn hc)))).trans e1⟩
    · by_cases hj : j = i
      · subst hj
        rw [hi] at e1; cases e1
        rw [List.getElem?_set_self hiσ] at e2
        cases e2
        exact ⟨u, r, .inr ⟨.inl hk, c, hc, hc'⟩⟩
      · rw [List.getElem?_set_ne (Ne.symm hj)] at e2
        obtain ⟨u', r', q⟩ := hl j y v' e1 e2 e3
        refine ⟨u', r', ?_⟩
        rcases q with q | ⟨k, c', e, z'⟩
        · exact .inl q
        · refine .inr ⟨k, c', e, z'.sameBut hs ?_⟩
          rintro rfl
          exact hj (nodup_ix hN e1 (I.ok.inj _ _ _ e hc ▸ hi))
    · by_cases hcc : c' = c
      · subst hcc; exact ⟨_, hc'⟩
      · obtain ⟨w2, z2⟩ := I.cell y c' e
        exact ⟨w2, z2.sameBut hs hcc⟩
    · obtain ⟨e, n, ne, nf, d⟩ := I.pin p hp
      refine ⟨(hs.2 p.1 ?_).trans e, n, ne, nf, d⟩
      intro q
      rw [q, hoc] at e
      have q' : oc = p.2 := Option.some.inj e
      exact d w' (by rw [← q']; exact hocd)
theorem store_ok {M : Model} {A : Around} {E : Value → Shared → Prop} {i : Nat} {x : Str} {v : V} {u : Value} {Q : Unit → Shared → Prop} (I : Inv X pins σ H s) (hN : X.N.Nodup) (hi : X.N[i]? = some x) (hx : Loc X.env.scope x) (r : RelV v u)
    (h : ∀ s', Inv X pins (σ.set i (some v)) H s' → Q () s') (hf : X.fn x = true ∨ X.env.scope.names.lookup x = some .local := by first | exact .inl rfl | exact .inr rfl | assumption) : wpAny M A (storeName X.env x u) Q E s :=
  store_ok2 I hN hi hx r (fun s' I' _ => h s' I') hf
/-- behind a call or a block, the state as it is -/
theorem Inv.call' {s' : Shared} {ch : List Addr} (I : Inv X pins σ H s) (ho : s'.os = s.os) (u : Un (frs X.stack) ch H H' s.heap s'.heap) (hok : HOk X.prog X.w H' s'.heap) (hg : AllBare s'.gens)
    (hch : ∀ b ∈ ch, (b ∈ X.ex ∨ X.s_0.heap.objs.size ≤ b) ∧ b ≠ X.env.locals ∧ (∀ x c, X.env.cells.lookup x = some c → c ≠ b) ∧ ∀ p ∈ X.pn ++ pins, p.1 ≠ b) : Inv X pins σ H' s' := by
  obtain ⟨h', g', d', t', o'⟩ := s'
  have e : o' = s.os := ho
  subst e
  exact I.call (g' := g') (t' := t') (d' := d') u hok hg hch
end

/-- an exception: its class, its own dict's address (where it has one), the abstract heap behind it -/
@[reducible] noncomputable def XK := Value → Option Addr → Hp → Prop
@[reducible] noncomputable def St := List (Option V)
@[reducible] noncomputable def VK := V → Hp → Prop
/-- an expression's reading; a test's; an argument list's -/
@[reducible] noncomputable def TE := St → Hp → VK → Prop
@[reducible] noncomputable def TT := St → Hp → (Bool → Hp → Prop) → Prop
@[reducible] noncomputable def TA := St → Hp → (List V → Hp → Prop) → Prop
/-- what is wanted behind a statement -/
structure Ends where
  nx : St → Hp → Prop
  rt : VK
  bk : St → Hp → Prop := fun _ _ => False
  ct : St → Hp → Prop := fun _ _ => False
@[reducible] noncomputable def TS := Ends → St → Hp → Prop

noncomputable def EP (X : Cx) (pins : List (Addr × Obj)) (σ : St) (Q : VK) (u : Value) (s' : Shared) : Prop := ∃ v H', Inv X pins σ H' s' ∧ RelV v u ∧ Q v H'
noncomputable def TP (X : Cx) (pins : List (Addr × Obj)) (σ : St) (Q : Bool → Hp → Prop) (b : Bool) (s' : Shared) : Prop := ∃ H', Inv X pins σ H' s' ∧ Q b H'
noncomputable def AP (X : Cx) (pins : List (Addr × Obj)) (σ : St) (Q : List V → Hp → Prop) (us : List Value) (s' : Shared) : Prop := ∃ vs H', Inv X pins σ H' s' ∧ Vals vs us ∧ Q vs H'
noncomputable def SP (X : Cx) (pins : List (Addr × Obj)) (D : Ends) (f : Flow) (s' : Shared) : Prop :=
  match f with
  | .next => ∃ σ' H', Inv X pins σ' H' s' ∧ D.nx σ' H'
  | .brk => ∃ σ' H', Inv X pins σ' H' s' ∧ D.bk σ' H'
  | .cont => ∃ σ' H', Inv X pins σ' H' s' ∧ D.ct σ' H'
  | .ret u => ∃ v σ' H', Inv X pins σ' H' s' ∧ RelV v u ∧ D.rt v H'

noncomputable def PE (X : Cx) (e : Expr) (t : TE) : Prop :=
  ∀ (pins : List (Addr × Obj)) (s : Shared) (σ : St) (H : Hp) (Q : VK), Inv X pins σ H s → t σ H Q → wpAny (model X.prog X.w) X.A (eval e X.env) (EP X pins σ Q) X.xe s
noncomputable def PT (X : Cx) (e : Expr) (t : TT) : Prop :=
  ∀ (pins : List (Addr × Obj)) (s : Shared) (σ : St) (H : Hp) (Q : Bool → Hp → Prop), Inv X pins σ H s → t σ H Q → wpAny (model X.prog X.w) X.A (isTrue e X.env (eval e X.env)) (TP X pins σ Q) X.xe s
/-- a test whatever its 'whole' is (and, or) -/
noncomputable def PW (X : Cx) (e : Expr) (t : TT) : Prop :=
  ∀ (whole : Sem Value) (pins : List (Addr × Obj)) (s : Shared) (σ : St) (H : Hp) (Q : Bool → Hp → Prop), Inv X pins σ H s → t σ H Q → wpAny (model X.prog X.w) X.A (isTrue e X.env whole) (TP X pins σ Q) X.xe s
theorem PW.pt {X : Cx} {e : Expr} {t : TT} (h : PW X e t) : PT X e t := h _
/-- an argument list (no star), from the left -/
noncomputable def PA (X : Cx) (es : List Expr) (t : TA) : Prop :=
  ∀ (pos : Pos) (pins : List (Addr × Obj)) (s : Shared) (σ : St) (H : Hp) (Q : List V → Hp → Prop), Inv X pins σ H s → t σ H Q → wpAny (model X.prog X.w) X.A (spliced (backTo pos (starEach es X.env))) (AP X pins σ Q) X.xe s
noncomputable def PS (X : Cx) (st : Stmt) (t : TS) : Prop :=
  ∀ (pins : List (Addr × Obj)) (s : Shared) (σ : St) (H : Hp) (D : Ends), Inv X pins σ H s → t D σ H → wpAny (model X.prog X.w) X.A (exec st X.env) (SP X pins D) X.xe s
noncomputable def PSs (X : Cx) (st : List Stmt) (t : TS) : Prop :=
  ∀ (pins : List (Addr × Obj)) (s : Shared) (σ : St) (H : Hp) (D : Ends), Inv X pins σ H s → t D σ H → wpAny (model X.prog X.w) X.A (execs st X.env) (SP X pins D) X.xe s
/-- weaken the end -/
theorem thn {α : Type} {t : Sem α} {Q Q' : α → Shared → Prop} {M : Model} {A : Around} {E : Value → Shared → Prop} {s : Shared} (h : wpAny M A t Q E s) (hQ : ∀ a s, Q a s → Q' a s) : wpAny M A t Q' E s := wpAny_mono h hQ fun _ _ x => x
end L2

namespace L2
open PySem PySem.Spec PyProof.Rows
section
variable {X : Cx}

noncomputable def tVar (i : Nat) : TE := fun σ H Q => ∃ v, σ[i]? = some (some v) ∧ Q v H
noncomputable def tC (v : V) : TE := fun _ H Q => Q v H
theorem pe_var {i : Nat} {x : Str} {pos : Pos} (hN : X.N[i]? = some x) (hv : Vis X.env.scope x) (hd : (x == ("__debug__" : Str)) = false := by decide) (hcd : (x == ("__classdict__" : Str)) = false := by decide) : PE X (.Name x pos) (tVar i) := by
  intro pins s σ H Q I h
  obtain ⟨v, e, h⟩ := h
  obtain ⟨m, hn, hl⟩ := I.loc
  obtain ⟨u, r, l⟩ := hl i x v hN e hv
  have fin : EP X pins σ Q u s := ⟨v, H, I, r, h⟩
  rcases l with ⟨hk, hm⟩ | ⟨hk, c, hc, hcell⟩
  · exact wpAny_Name (wpAny_loadName_local I.ok.kind hk hn hm fin) hd
  · rcases hk with hk | hk
    · exact wpAny_Name (wpAny_loadName_cell I.ok.kind hk hc hcell fin) hd
    · exact wpAny_Name (wpAny_loadName_free I.ok.kind hk hc hcell fin hcd) hd
theorem pe_int {i j pos} : PE X (.Constant (.int i) j pos) (tC (.int i)) := fun _ _ _ H _ I h => wpAny_Constant_int ⟨.int i, H, I.tok _, ⟨_, rfl⟩, h⟩
theorem pe_bl {b j pos} : PE X (.Constant (.bool b) j pos) (tC (.bl b)) := fun _ _ _ H _ I h => Constant_bool ⟨.bl b, H, I, rfl, h⟩
theorem pe_non {j pos} : PE X (.Constant .none j pos) (tC .non) := fun _ _ _ H _ I h => Constant_none ⟨.non, H, I, rfl, h⟩
/-- a global name of the def -/
noncomputable def Gl (X : Cx) (x : Str) : Prop := X.env.kindOf x = some .globalImplicit
theorem ld_glob {E : Value → Shared → Prop} {pins : List (Addr × Obj)} {s : Shared} {σ : St} {H : Hp} {x : Str} {u : Value} {pos : Pos} {Q : Value → Shared → Prop} (I : Inv X pins σ H s) (hg : Gl X x) (hm : X.mg x = some u) (h : Q u s)
    (hd : (x == ("__debug__" : Str)) = false := by decide) : wpAny (model X.prog X.w) X.A (eval (.Name x pos) X.env) Q E s :=
  Calls.Name_function_global I.ok.kind hg (Calls.loadGlobal_global (by rw [I.ok.glob]; exact I.mod.glob.keeps I.bk) hm h) hd
theorem ld_blt {E : Value → Shared → Prop} {pins : List (Addr × Obj)} {s : Shared} {σ : St} {H : Hp} {x : Str} {u : Value} {pos : Pos} {Q : Value → Shared → Prop} (I : Inv X pins σ H s) (hg : Gl X x) (hm : X.mg x = none) (hv : bootBuiltins x = some u) (h : Q u s)
    (hn : x ≠ "__name__" := by decide) (hd : (x == ("__debug__" : Str)) = false := by decide) : wpAny (model X.prog X.w) X.A (eval (.Name x pos) X.env) Q E s := by
  obtain ⟨mb, h1, h2⟩ := I.mod.blt
  exact Calls.Name_function_global I.ok.kind hg (Calls.loadGlobal_builtin (by rw [I.ok.glob]; exact I.mod.glob.keeps I.bk) hm (by rw [I.ok.blt]; exact h1.keeps I.bk) ((h2 x hn).trans hv) h) hd
/-- a module's constant, a class, a function, as a value -/
theorem pe_glob {x : Str} {v : V} {u : Value} {pos : Pos} (hg : Gl X x) (hm : X.mg x = some u) (r : RelV v u) (hd : (x == ("__debug__" : Str)) = false := by decide) : PE X (.Name x pos) (tC v) :=
  fun _ _ _ H _ I h => ld_glob I hg hm ⟨v, H, I, r, h⟩ hd
variable {a b : Expr} {ta tb : TE} {pos : Pos}
noncomputable def PC (X : Cx) (op : CmpOp) (a b : Expr) (t : TE) : Prop :=
  ∀ (pins : List (Addr × Obj)) (s : Shared) (σ : St) (H : Hp) (Q : VK), Inv X pins σ H s → t σ H Q →
    wpAny (model X.prog X.w) X.A (eval a X.env) (fun v s₁ => wpAny (model X.prog X.w) X.A (eval b X.env) (fun u s₂ => wpAny (model X.prog X.w) X.A (compareOp op v u) (EP X pins σ Q) X.xe s₂) X.xe s₁) X.xe s
/-- a comparison as a value, as a test -/
noncomputable def tB (t : TE) : TT := fun σ H Q => t σ H fun x H1 => ∃ c, x = .bl c ∧ Q c H1
theorem pt_cmp {op : CmpOp} {t : TE} (h : PC X op a b t) (h1 : behindInMarks op b = false := by first | exact nobehind _ (by decide) (by decide) | rfl) : PT X (.Compare a [op] [b] pos) (tB t) := by
  intro pins s σ H Q I hw
  refine wpAny_isTrue_Compare1 (thn (h pins s σ H _ I hw) fun v s1 h1 => thn h1 fun u s2 h2 => thn h2 fun c s3 ⟨x, H1, I1, r1, q1⟩ => ?_) h1
  obtain ⟨d, rfl, q⟩ := q1
  cases r1
  exact wpAny_truthy_bool ⟨H1, I1, q⟩
/-- an expression whose value is a bool, as a test -/
theorem pt_val {e : Expr} {t : TE} (h : PE X e t) (he : ∀ whole, isTrue e X.env whole = (do let v ← whole; standAt e.pos; holding [v] (truthy v)) := by intro _; rfl) : PT X e (tB t) := by
  intro pins s σ H Q I hw
  refine isTrue_plain (thn (h pins s σ H _ I hw) fun v s1 ⟨x, H1, I1, r1, q1⟩ => ?_) (he _)
  obtain ⟨d, rfl, q⟩ := q1
  cases r1
  exact wpAny_truthy_bool ⟨H1, I1, q⟩

variable {tA tB' : TT} {rest : List Expr}
noncomputable def tOr (t u : TT) : TT := fun σ H Q => t σ H fun c H1 => if c = true then Q true H1 else u σ H1 Q
noncomputable def tNot (t : TT) : TT := fun σ H Q => t σ H fun c H1 => Q (!c) H1
theorem pw_or1 (ha : PT X a tA) : PW X (.BoolOp .Or [a] pos) tA := by
  intro wh pins s σ H Q I h
  refine isTrue_or (thn (ha pins s σ H Q I h) fun c s1 e => ?_)
  cases c with
  | false => exact isTrue_or_nil e
  | true => exact e
theorem pw_or (ha : PT X a tA) (hb : PW X (.BoolOp .Or (b :: rest) pos) tB') : PW X (.BoolOp .Or (a :: b :: rest) pos) (tOr tA tB') := by
  intro wh pins s σ H Q I h
  refine isTrue_or (thn (ha pins s σ H _ I h) fun c s1 ⟨H1, I1, q1⟩ => ?_)
  cases c with
  | true => exact ⟨H1, I1, q1⟩
  | false => exact hb wh pins s1 σ H1 Q I1 q1
theorem pt_not (ha : PT X a tA) : PT X (.UnaryOp .Not a pos) (tNot tA) := by
  intro pins s σ H Q I h
  exact isTrue_not (ha pins s σ H (fun c H1 => Q (!c) H1) I h)
/-- .. as values (bools) -/
noncomputable def tAndV (ta tb : TE) : TE := fun σ H Q => ta σ H fun x H1 => ∃ c, x = .bl c ∧ if c = true then tb σ H1 Q else Q (.bl false) H1
noncomputable def tNotV (ta : TE) : TE := fun σ H Q => ta σ H fun x H1 => ∃ c, x = .bl c ∧ Q (.bl (!c)) H1
theorem pe_one {op} {t : TE} (h : PE X a t) : PE X (.BoolOp op [a] pos) t := fun pins s σ H Q I hw => BoolOp_one (h pins s σ H Q I hw)
theorem pe_and (ha : PE X a ta) (hb : PE X (.BoolOp .And (b :: rest) pos) tb) : PE X (.BoolOp .And (a :: b :: rest) pos) (tAndV ta tb) := by
  intro pins s σ H Q I h
  refine BoolOp_and (thn (ha pins s σ H _ I h) fun v s1 ⟨x, H1, I1, r1, q1⟩ => ?_)
  obtain ⟨c, rfl, q1⟩ := q1
  cases r1
  refine wpAny_truthy_bool ?_
  cases c with
  | true => exact hb pins s1 σ H1 Q I1 q1
  | false => exact ⟨.bl false, H1, I1, rfl, q1⟩
theorem pe_not (ha : PE X a ta) : PE X (.UnaryOp .Not a pos) (tNotV ta) := by
  intro pins s σ H Q I h
  refine UnaryOp_ (thn (ha pins s σ H _ I h) fun v s1 ⟨x, H1, I1, r1, q1⟩ => ?_)
  obtain ⟨c, rfl, q1⟩ := q1
  cases r1
  exact not_of (wpAny_truthy_bool ⟨.bl (!c), H1, I1, rfl, q1⟩)
/-- a if t else b -/
noncomputable def tIf (t : TT) (ta tb : TE) : TE := fun σ H Q => t σ H fun c H1 => if c = true then ta σ H1 Q else tb σ H1 Q
theorem pe_ifExp {c : Expr} (hc : PT X c tA) (ha : PE X a ta) (hb : PE X b tb) : PE X (.IfExp c a b pos) (tIf tA ta tb) := by
  intro pins s σ H Q I h
  refine wpAny_IfExp (thn (hc pins s σ H _ I h) fun d s1 ⟨H1, I1, q1⟩ => ?_)
  cases d with
  | true => exact ha pins s1 σ H1 Q I1 q1
  | false => exact hb pins s1 σ H1 Q I1 q1
end
end L2

namespace L2
open PySem PySem.Spec PyProof.Rows

noncomputable def SqL (K : PySem.W.Frag) (H : Hp) (a : Addr) (xs : List V) : Prop :=
  Rd H a (.lst xs) ∨
    ∃ (o : Obj) (its : Array Value) (n : Nat), K.lookup a = some o ∧ o.cls = .type "list" ∧ o.dict = none ∧ o.data = .seq its n ∧ its.size ≤ sizeLine ∧ Vals xs its.toList
noncomputable def SqT (K : PySem.W.Frag) (H : Hp) (a : Addr) (xs : List V) : Prop :=
  Rd H a (.tup xs) ∨
    ∃ (o : Obj) (its : Array Value) (n : Nat), K.lookup a = some o ∧ o.cls = .type "tuple" ∧ o.data = .seq its n ∧ its.size ≤ sizeLine ∧ Vals xs its.toList
noncomputable def absV : Value → Option V
  | .none => some .non
  | .bool b => some (.bl b)
  | .int i _ => some (.int i)
  | .str x _ => some (.str x)
  | .bytes b _ => some (.byt b)
  | .float b _ => some (.flt b)
  | .ref a => some (.ref a)
  | .type n => some (.ty n)
  | _ => none
theorem RelV.abs {x : V} {u : Value} (r : RelV x u) : absV u = some x := by
  cases x with
  | non => cases r; rfl
  | bl _ => cases r; rfl
  | int _ => obtain ⟨t, rfl⟩ := r; rfl
  | str _ => obtain ⟨t, rfl⟩ := r; rfl
  | byt _ => obtain ⟨t, rfl⟩ := r; rfl
  | flt _ => obtain ⟨t, rfl⟩ := r; rfl
  | ref _ => cases r; rfl
  | ty _ => cases r; rfl
theorem RelV.inj {x y : V} {u : Value} (r : RelV x u) (q : RelV y u) : x = y := Option.some.inj (r.abs.symm.trans q.abs)
theorem Vals.inj : ∀ {xs ys : List V} {us : List Value}, Vals xs us → Vals ys us → xs = ys
  | _, _, _, .nil, .nil => rfl
  | _, _, _, .cons r t, .cons r' t' => by rw [r.inj r', Vals.inj t t']
section
variable {X : Cx} {pins : List (Addr × Obj)} {σ : St} {H : Hp} {s : Shared} {a : Addr} {xs ys : List V}
theorem SqL.of {K : PySem.W.Frag} (h : H a = some (.lst xs)) : SqL K H a xs := .inl (.inl h)
theorem SqT.of {K : PySem.W.Frag} (h : H a = some (.tup xs)) : SqT K H a xs := .inl (.inl h)
theorem Inv.list (I : Inv X pins σ H s) (h : SqL X.K H a xs) : ∃ its : List Value, Vals xs its ∧ PlainL s.heap a its.toArray ∧ xs.length ≤ sizeLine := by
  rcases h with h | ⟨o, its, n, hk, hc, hd, hs, hz, r⟩
  · obtain ⟨z, its, n, r, e⟩ := h.ok I.hok
    exact ⟨its, r, ⟨_, n, e, rfl, rfl, rfl⟩, z⟩
  · refine ⟨its.toList, r, ⟨o, n, I.kIn a o hk, hc, hd, by simpa using hs⟩, ?_⟩
    have e := r.length
    simp only [Array.length_toList] at e
    omega
theorem Inv.tuple (I : Inv X pins σ H s) (h : SqT X.K H a xs) : ∃ its : List Value, Vals xs its ∧ IsTup s.heap a its.toArray ∧ xs.length ≤ sizeLine := by
  rcases h with h | ⟨o, its, n, hk, hc, hs, hz, r⟩
  · obtain ⟨z, its, r, p⟩ := h.ok I.hok
    exact ⟨its, r, p, z⟩
  · refine ⟨its.toList, r, ⟨o, I.kIn a o hk, hc, n, by simpa using hs⟩, ?_⟩
    have e := r.length
    simp only [Array.length_toList] at e
    omega
theorem Inv.list_inj (I : Inv X pins σ H s) (h : SqL X.K H a xs) (h' : SqL X.K H a ys) : xs = ys := by
  obtain ⟨its, r, ⟨o, n, e, _, _, d⟩, _⟩ := I.list h
  obtain ⟨its', r', ⟨o', n', e', _, _, d'⟩, _⟩ := I.list h'
  rw [e] at e'; cases e'
  rw [d] at d'
  injection d' with d1 _
  have : its = its' := by simpa using congrArg Array.toList d1
  subst this
  exact r.inj r'
end

@[reducible] noncomputable def Cx.wish (X : Cx) (E : Value → Shared → Prop) : Cx := { X with xe := E }
/-- no exception leaves -/
@[reducible] noncomputable def Cx.nox (X : Cx) : Cx := X.wish fun _ _ => False
theorem Cx.Ok.wish {X : Cx} (ok : X.Ok) (E : Value → Shared → Prop) : (X.wish E).Ok :=
  ⟨ok.mod, ok.kind, ok.glob, ok.blt, ok.above, ok.inj, ok.has, ok.cab, ok.hd, ok.frames, ok.stk, ok.exf, ok.bs, ok.bsz, ok.noex, ok.exfs, ok.funs, ok.frf⟩
theorem Cx.Ok.unwish {X : Cx} {E : Value → Shared → Prop} (ok : (X.wish E).Ok) : X.Ok :=
  ⟨ok.mod, ok.kind, ok.glob, ok.blt, ok.above, ok.inj, ok.has, ok.cab, ok.hd, ok.frames, ok.stk, ok.exf, ok.bs, ok.bsz, ok.noex, ok.exfs, ok.funs, ok.frf⟩
section
variable {X : Cx} {pins : List (Addr × Obj)} {σ : St} {H : Hp} {s : Shared} {E : Value → Shared → Prop}
theorem Inv.wish (I : Inv X pins σ H s) (E : Value → Shared → Prop) : Inv (X.wish E) pins σ H s := ⟨I.ok.wish E, I.os, I.bare, I.base, I.loc, I.cell, I.free, I.freeC, I.pin, I.hok, I.len⟩
theorem Inv.unwish (I : Inv (X.wish E) pins σ H s) : Inv X pins σ H s := ⟨I.ok.unwish, I.os, I.bare, I.base, I.loc, I.cell, I.free, I.freeC, I.pin, I.hok, I.len⟩
theorem SP.unwish {D : Ends} {f : Flow} {s' : Shared} (h : SP (X.wish E) pins D f s') : SP X pins D f s' := by
  cases f with
  | next => obtain ⟨σ', H', I, q⟩ := h; exact ⟨σ', H', I.unwish, q⟩
  | brk => obtain ⟨σ', H', I, q⟩ := h; exact ⟨σ', H', I.unwish, q⟩
  | cont => obtain ⟨σ', H', I, q⟩ := h; exact ⟨σ', H', I.unwish, q⟩
  | ret u => obtain ⟨v, σ', H', I, r, q⟩ := h; exact ⟨v, σ', H', I.unwish, r, q⟩
theorem PSs.nox {st : List Stmt} {t : TS} (h : PSs X.nox st t) : PSs X st t := fun pins s σ H D I hw =>
  wpAny_mono (h pins s σ H D (I.wish _) hw) (fun _ _ q => q.unwish) fun _ _ z => False.elim z
end

section
variable {X : Cx} {st : Stmt} {rest : List Stmt} {t u : TS} {e : Expr} {te : TE} {pos : Pos}
noncomputable def tNext : TS := fun D σ H => D.nx σ H
noncomputable def tSeq (t u : TS) : TS := fun D σ H => t { D with nx := u D } σ H
theorem pss_nil : PSs X [] tNext := fun _ _ σ H _ I h => wpAny_execs_nil ⟨σ, H, I, h⟩
theorem pss_cons (h1 : PS X st t) (h2 : PSs X rest u) : PSs X (st :: rest) (tSeq t u) := by
  intro pins s σ H D I h
  refine wpAny_execs_cons (thn (h1 pins s σ H { D with nx := u D } I h) fun f s1 q => ?_)
  cases f with
  | next =>
    obtain ⟨σ', H', I', q⟩ := q
    exact h2 pins s1 σ' H' D I' q
  | ret v => exact q
  | brk => exact q
  | cont => exact q
theorem pss_one (h1 : PS X st t) : PSs X [st] t := by
  intro pins s σ H D I h
  refine wpAny_execs_cons (thn (h1 pins s σ H D I h) fun f s1 q => ?_)
  cases f with
  | next => exact wpAny_execs_nil q
  | ret v => exact q
  | brk => exact q
  | cont => exact q
/-- in a def's body nothing is shown -/
theorem Inv.quiet {pins : List (Addr × Obj)} {σ : St} {H : Hp} {s : Shared} (I : Inv X pins σ H s) : interactive X.env = false := by simp [interactive, I.ok.kind]
/-- an expression whose value is dropped -/
noncomputable def tDrop (te : TE) : TS := fun D σ H => te σ H fun _ H1 => D.nx σ H1
theorem ps_expr (he : PE X e te) (hs : swapsWith e none pos.line X.env = pure false := by rfl) : PS X (.Expr e pos) (tDrop te) := by
  intro pins s σ H D I h
  exact wpAny_Expr_any (thn (he pins s σ H _ I h) fun v s1 ⟨x, H1, I1, r1, q1⟩ => ⟨σ, H1, I1, q1⟩) I.quiet hs
noncomputable def tRet (te : TE) : TS := fun D σ H => te σ H D.rt
theorem ps_ret (he : PE X e te) : PS X (.Return (some e) pos) (tRet te) := by
  intro pins s σ H D I h
  exact wpAny_Return_some (thn (he pins s σ H _ I h) fun v s1 ⟨x, H1, I1, r1, q1⟩ => ⟨x, σ, H1, I1, r1, q1⟩)
noncomputable def tIfS (c : TT) (t u : TS) : TS := fun D σ H => c σ H fun b H1 => if b = true then t D σ H1 else u D σ H1
theorem ps_if {c : Expr} {a b : List Stmt} {tc : TT} (hc : PT X c tc) (ha : PSs X a t) (hb : PSs X b u) : PS X (.If c a b pos) (tIfS tc t u) := by
  intro pins s σ H D I h
  refine wpAny_If (thn (hc pins s σ H _ I h) fun d s1 ⟨H1, I1, q1⟩ => ?_)
  cases d with
  | true => exact ha pins s1 σ H1 D I1 q1
  | false => exact hb pins s1 σ H1 D I1 q1
end

@[reducible] noncomputable def TG := V → St → Hp → (St → Hp → Prop) → Prop
@[reducible] noncomputable def TGs := List V → St → Hp → (St → Hp → Prop) → Prop
noncomputable def PG (X : Cx) (target : Expr) (t : TG) : Prop :=
  ∀ (pins : List (Addr × Obj)) (s : Shared) (σ : St) (H : Hp) (v : V) (u : Value) (Q : St → Hp → Prop), Inv X pins σ H s → RelV v u → t v σ H Q →
    wpAny (model X.prog X.w) X.A (assign target X.env u) (fun _ s' => ∃ σ' H', Inv X pins σ' H' s' ∧ Q σ' H') X.xe s
/-- several targets, one after another -/
noncomputable def PGs (X : Cx) (ts : List Expr) (t : TGs) : Prop :=
  ∀ (pins : List (Addr × Obj)) (s : Shared) (σ : St) (H : Hp) (vs : List V) (us : List Value) (Q : St → Hp → Prop), Inv X pins σ H s → Vals vs us → t vs σ H Q →
    wpAny (model X.prog X.w) X.A (assignInOrder ((assignEach ts X.env).map (·.2)) us) (fun _ s' => ∃ σ' H', Inv X pins σ' H' s' ∧ Q σ' H') X.xe s
/-- o[i] = v, by values -/
@[reducible] noncomputable def TSet := V → V → V → Hp → (Hp → Prop) → Prop
noncomputable def PSet (X : Cx) (t : TSet) : Prop :=
  ∀ (pins : List (Addr × Obj)) (s : Shared) (σ : St) (H : Hp) (o i v : V) (ov iv u : Value) (Q : Hp → Prop), Inv X pins σ H s → RelV o ov → RelV i iv → RelV v u → t o i v H Q →
    wpAny (model X.prog X.w) X.A (setItem ov iv u) (fun _ s' => ∃ H', Inv X pins σ H' s' ∧ Q H') X.xe s
section
variable {X : Cx} {pos : Pos}
noncomputable def gName (i : Nat) : TG := fun v σ H Q => Q (σ.set i (some v)) H
theorem pg_name {i : Nat} {x : Str} (hN : X.N.Nodup) (hi : X.N[i]? = some x) (hx : Loc X.env.scope x) (hf : X.fn x = true ∨ X.env.scope.names.lookup x = some .local := by first | exact .inl rfl | exact .inr rfl | assumption) : PG X (.Name x pos) (gName i) := by
  intro pins s σ H v u Q I r h
  exact wpAny_assign_Name (store_ok I hN hi hx r (fun s' I' => ⟨_, H, I', h⟩) hf)
noncomputable def gNil : TGs := fun vs σ H Q => vs = [] ∧ Q σ H
noncomputable def gCons (t : TG) (u : TGs) : TGs := fun vs σ H Q => ∃ v r, vs = v :: r ∧ t v σ H fun σ' H' => u r σ' H' Q
theorem pgs_nil : PGs X [] gNil := by
  intro pins s σ H vs us Q I r h
  obtain ⟨e, h⟩ := h
  subst e
  cases r
  exact assignInOrder_nil ⟨σ, H, I, h⟩
theorem pgs_cons {e : Expr} {es : List Expr} {t : TG} {u : TGs} (h1 : PG X e t) (h2 : PGs X es u)
    (hs : (assignEach (e :: es) X.env).map (·.2) = assign e X.env :: (assignEach es X.env).map (·.2) := by rfl) : PGs X (e :: es) (gCons t u) := by
  intro pins s σ H vs us Q I r h
  obtain ⟨v, vr, e1, h⟩ := h
  subst e1
  cases r with
  | cons r rr =>
    rw [hs]
    refine assignInOrder_cons (thn (h1 pins s σ H _ _ _ I r h) fun _ s1 ⟨σ1, H1, I1, q1⟩ => ?_)
    exact h2 pins s1 σ1 H1 _ _ Q I1 rr q1
/-- (a, b, ..) = a tuple of that length -/
noncomputable def gTup (K : PySem.W.Frag) (n : Nat) (t : TGs) : TG := fun v σ H Q => ∃ a xs, v = .ref a ∧ SqT K H a xs ∧ xs.length = n ∧ t xs σ H Q
theorem pg_tup {es : List Expr} {k : Nat} {t : TGs} {n : Nat} (hc : X.calm = true) (h : PGs X es t)
    (hn : (assignEach es X.env).length = n := by rfl) (hst : (assignEach es X.env).findIdx? (·.1) = none := by rfl) : PG X (.Tuple es k pos) (gTup X.K n t) := by
  intro pins s σ H v u Q I r hw
  obtain ⟨a, xs, e1, hq, hl, hw⟩ := hw
  subst e1
  cases r
  obtain ⟨its, rv, ht, hz⟩ := I.tuple hq
  refine assign_Tuple_tuple (I.ok.hd hc) ht (by simp [hn, ← hl, rv.length]) hst fun h' hx => ?_
  have I1 : Inv X pins σ H { s with heap := h' } := I.kept (t' := s.toks) fun b o e => hx b o (Nat.ne_of_lt (Heap.lt_size e)) e
  exact h pins _ σ H xs _ Q I1 (by simpa using rv) hw
/-- o[i] = .. -/
noncomputable def gSub (to ti : TE) (t : TSet) : TG := fun v σ H Q => to σ H fun o H1 => ti σ H1 fun i H2 => t o i v H2 fun H3 => Q σ H3
theorem pg_sub {o i : Expr} {to ti : TE} {t : TSet} (ho : PE X o to) (hi : PE X i ti) (hs : PSet X t)
    (ha : ∀ v, assign (.Subscript o i pos) X.env v = (do
      let ov ← holding [v] (eval o X.env)
      let iv ← holding [v, ov] (eval i X.env)
      standAt pos
      holding [v, ov, iv] (setItem ov iv v)
      release [v, ov, iv] []) := by intro _; rfl) : PG X (.Subscript o i pos) (gSub to ti t) := by
  intro pins s σ H v u Q I r h
  rw [ha]
  refine wpAny_bind (wpAny_holding (thn (ho pins s σ H _ I h) fun ov s1 ⟨x, H1, I1, r1, q1⟩ => ?_))
  refine wpAny_bind (wpAny_holding (thn (hi pins s1 σ H1 _ I1 q1) fun iv s2 ⟨y, H2, I2, r2, q2⟩ => ?_))
  refine wpAny_bind (wpAny_standAt (wpAny_bind (wpAny_holding (thn (hs pins s2 σ H2 x y v ov iv u _ I2 r1 r2 r q2) fun _ s3 ⟨H3, I3, q3⟩ => ?_))))
  exact wpAny_release ⟨σ, H3, I3, q3⟩
/-- target = value -/
noncomputable def tAsg (te : TE) (g : TG) : TS := fun D σ H => te σ H fun x H1 => g x σ H1 D.nx
theorem ps_asg {tg e : Expr} {te : TE} {g : TG} (he : PE X e te) (hg : PG X tg g) (hs : swapsWithSole [tg] e pos.line X.env = pure false := by rfl) (hw : swappedStores [tg] e X.env = pure none := by rfl)
    (h1 : (assignEach [tg] X.env).map (·.2) = [assign tg X.env] := by rfl) : PS X (.Assign [tg] e pos) (tAsg te g) := by
  intro pins s σ H D I h
  refine wpAny_Assign_stores (thn (he pins s σ H _ I h) fun v s1 ⟨x, H1, I1, r1, q1⟩ => ?_) hs hw
  rw [h1]
  exact thn (hg pins s1 σ H1 x v _ I1 r1 q1) fun _ s2 q => q
/-- name = value -/
theorem ps_set {i : Nat} {x : Str} {e : Expr} {te : TE} {pos' : Pos} (hN : X.N.Nodup) (hi : X.N[i]? = some x) (hx : Loc X.env.scope x) (he : PE X e te) (hs : swapsWith e (some (.Name x pos')) pos.line X.env = pure false := by rfl) (hf : X.fn x = true ∨ X.env.scope.names.lookup x = some .local := by first | exact .inl rfl | exact .inr rfl | assumption) :
    PS X (.Assign [.Name x pos'] e pos) (tAsg te (gName i)) := by
  intro pins s σ H D I h
  refine wpAny_Assign_Name (thn (he pins s σ H _ I h) fun v s1 ⟨y, H1, I1, r1, q1⟩ => ?_) hs
  exact store_ok I1 hN hi hx r1 (fun s2 I2 => ⟨_, H1, I2, q1⟩) hf
end

section
variable {X : Cx} {pos : Pos}
/-- the invariant W with its measure -/
noncomputable def tWhile (c : TT) (tb : TS) : TS := fun D σ H => ∃ W : Nat → St → Hp → Prop, (∃ m, W m σ H) ∧ ∀ m σ H, W m σ H →
  c σ H fun b H1 => if b = true then ∃ N : St → Hp → Prop, (∀ σ' H', N σ' H' → ∃ m', m' < m ∧ W m' σ' H') ∧ tb { D with nx := N, ct := N, bk := D.nx } σ H1 else D.nx σ H1
theorem ps_while {c : Expr} {body : List Stmt} {tc : TT} {tb : TS} (hp : PassesOwn (model X.prog X.w) X.A X.env X.xe) (hc : PT X c tc) (hb : PSs X body tb) : PS X (.While c body [] pos) (tWhile tc tb) := by
  intro pins s σ H D I h
  obtain ⟨W, ⟨m0, w0⟩, turn⟩ := h
  refine wpAny_While (codeAny_whileLoop (fun n s' => ∃ σ' H', Inv X pins σ' H' s' ∧ W n σ' H') ?_ m0 ⟨σ, H, I, w0⟩)
  rintro n s1 ⟨σ1, H1, I1, w1⟩
  refine wpAny_passesOwn hp (thn (hc pins s1 σ1 H1 _ I1 (turn n σ1 H1 w1)) fun b s2 ⟨H2, I2, q2⟩ => ?_)
  cases b with
  | true =>
    obtain ⟨N, hN, q2⟩ := q2
    rw [if_pos rfl]
    refine wpAny_passesOwn hp (thn (hb pins s2 σ1 H2 _ I2 q2) fun f s3 q3 => ?_)
    cases f with
    | next =>
      obtain ⟨σ3, H3, I3, n3⟩ := q3
      obtain ⟨m', hm, w3⟩ := hN σ3 H3 n3
      exact ⟨m', hm, σ3, H3, I3, w3⟩
    | cont =>
      obtain ⟨σ3, H3, I3, n3⟩ := q3
      obtain ⟨m', hm, w3⟩ := hN σ3 H3 n3
      exact ⟨m', hm, σ3, H3, I3, w3⟩
    | brk => exact q3
    | ret v => exact q3
  | false =>
    rw [if_neg Bool.false_ne_true]
    exact wpAny_execs_nil ⟨σ1, H2, I2, q2⟩
end

/-- at turn i: it yields x (the heap may grow), or it stops -/
structure It where
  go : Nat → Hp → Prop
  yld : Nat → Hp → V → Hp → Prop
  stop : Nat → Hp → Prop
/-- the iterator's own objects may turn: they are not the frame's, not pinned, younger than the entry (or a comprehension's own) -/
noncomputable def FpOk (X : Cx) (pins : List (Addr × Obj)) (H : Hp) (b : Addr) : Prop :=
  H b = none ∧ b ≠ X.env.locals ∧ b ∉ X.fs ∧ (b ∈ X.ex ∨ X.s_0.heap.objs.size ≤ b) ∧ (∀ x c, X.env.cells.lookup x = some c → c ≠ b) ∧ ∀ p ∈ X.pn ++ pins, p.1 ≠ b
theorem Inv.fpOk {X : Cx} {pins : List (Addr × Obj)} {σ : St} {H H' : Hp} {s : Shared} {b : Addr} (I : Inv X pins σ H s) (hb : s.heap.objs.size ≤ b) (hn : H' b = none) : FpOk X pins H' b := by
  refine ⟨hn, Nat.ne_of_gt (Nat.lt_of_lt_of_le I.lt hb), I.nofs hb, .inr (Nat.le_trans I.sz hb), fun x c e z => ?_, fun p hp z => ?_⟩
  · obtain ⟨v, q⟩ := I.cell x c e
    exact absurd (Nat.lt_of_lt_of_le q.lt (by rw [z]; exact hb)) (Nat.lt_irrefl _)
  · exact absurd (Nat.lt_of_lt_of_le (Heap.lt_size (I.pin p hp).1) (by rw [z]; exact hb)) (Nat.lt_irrefl _)
structure Turn (P : Program) (w : World) (K : PySem.W.Frag) (tg : Expr) (J : It) (fp : List Addr) (it : Addr) (tn : Nat → Heap → Prop) : Prop where
  mem : it ∈ fp
  obj : ∀ i h, tn i h → ∀ b ∈ fp, ∃ o, h.get? b = some o ∧ ∀ v, o.data ≠ .cell v
  keep : ∀ i h h', tn i h → (∀ b ∈ fp, ∀ o, h.get? b = some o → h'.get? b = some o) → tn i h'
  item : ∀ (X : Cx), X.prog = P → X.w = w → X.K = K → X.calm = true → ∀ (i : Nat) (pins : List (Addr × Obj)) (s : Shared) (σ : St) (H : Hp) (E : Value → Shared → Prop), Inv X pins σ H s → (∀ b ∈ fp, FpOk X pins H b) → tn i s.heap → J.go i H →
    wpAny (model P w) X.A (pyNext (.ref it)) (fun r s1 => ∃ u, r = some u ∧
      wpAny (model P w) X.A (letOwnedTupleGo tg (.ref it) u) (fun _ s2 => ∃ x H', Inv X pins σ H' s2 ∧ RelV x u ∧ J.yld i H x H' ∧ tn (i + 1) s2.heap ∧ ∀ b ∈ fp, H' b = none) E s1) E s
  done : ∀ (X : Cx), X.prog = P → X.w = w → X.K = K → X.calm = true → ∀ (i : Nat) (pins : List (Addr × Obj)) (s : Shared) (σ : St) (H : Hp) (E : Value → Shared → Prop), Inv X pins σ H s → (∀ b ∈ fp, FpOk X pins H b) → tn i s.heap → J.stop i H →
    wpAny (model P w) X.A (pyNext (.ref it)) (fun r s1 => r = none ∧ Inv X pins σ H s1) E s
  self : ∀ (A : Around) (i : Nat) (s : Shared) (Q : Value → Shared → Prop) (E : Value → Shared → Prop), tn i s.heap → Q (.ref it) s → wpAny (model P w) A (pyIter (.ref it)) Q E s
@[reducible] noncomputable def TI := St → Hp → (It → Hp → Prop) → Prop
/-- an iterator has come -/
noncomputable def PIE (X : Cx) (pins : List (Addr × Obj)) (σ : St) (tg : Expr) (R : It → Hp → Prop) (itv : Value) (s2 : Shared) : Prop :=
  ∃ (it : Addr) (fp : List Addr) (tn : Nat → Heap → Prop) (J : It) (H' : Hp), itv = .ref it ∧ Inv X pins σ H' s2 ∧ Turn X.prog X.w X.K tg J fp it tn ∧ tn 0 s2.heap ∧ (∀ b ∈ fp, FpOk X pins H' b) ∧ R J H'
noncomputable def PI (X : Cx) (tg iter : Expr) (wi : TI) : Prop :=
  ∀ (pins : List (Addr × Obj)) (s : Shared) (σ : St) (H : Hp) (R : It → Hp → Prop), Inv X pins σ H s → wi σ H R →
    wpAny (model X.prog X.w) X.A (eval iter X.env) (fun v s1 => wpAny (model X.prog X.w) X.A (pyIter v) (PIE X pins σ tg R) X.xe s1) X.xe s

/-- the step ahead of the store is nothing for an iterator that keeps no tuple -/
theorem go_of {M : Model} {A : Around} {E : Value → Shared → Prop} {s : Shared} {tg : Expr} {it : Addr} {u : Value} {o : Obj} {n : String} {vs : Array Value} {Q : Unit → Shared → Prop} (ho : s.heap.get? it = some o) (hc : o.cls = .type n) (hd : o.data = .fields vs)
    (hn : ["enumerate", "zip", "dict_itemiterator", "dict_reverseitemiterator", "odict_iterator", "itertools.zip_longest", "itertools.pairwise"].contains n = false) (hQ : Q () s) : wpAny M A (letOwnedTupleGo tg (.ref it) u) Q E s := by
  unfold letOwnedTupleGo
  cases tg <;> first
    | exact wpAny_pure hQ
    | (cases u <;> first
        | exact wpAny_pure hQ
        | (refine wpAny_bind (wpAny_load ho ?_)
           rw [hc, hd]
           show wpAny M A (if (["enumerate", "zip", "dict_itemiterator", "dict_reverseitemiterator", "odict_iterator", "itertools.zip_longest", "itertools.pairwise"].contains n && vs[0]? == some (rawInt _)) = true then _ else _) Q E s
           rw [if_neg (by intro h; rw [hn, Bool.false_and] at h; cases h)]
           exact wpAny_pure hQ))

/-- the list at a, as it stands at each turn (a loop may append to it) -/
noncomputable def Itl (K : PySem.W.Frag) (a : Addr) : It :=
  ⟨fun i H => ∃ xs x, SqL K H a xs ∧ xs[i]? = some x, fun i H x H' => H' = H ∧ ∀ xs, SqL K H a xs → xs[i]? = some x, fun i H => ∃ xs, SqL K H a xs ∧ xs.length ≤ i⟩
/-- lo, lo + 1, .. (n of them) -/
noncomputable def Itr (lo : Int) (n : Nat) : It := ⟨fun i _ => i < n, fun i H x H' => H' = H ∧ x = .int (lo + i), fun i _ => n ≤ i⟩
theorem turn_list {P : Program} {w : World} {K : PySem.W.Frag} {tg : Expr} (a it : Addr) : Turn P w K tg (Itl K a) [it] it (fun i h => h.IsListIter it a i) where
  mem := by simp
  obj := fun i h st b hb => by
    have e : b = it := by simpa using hb
    subst e
    obtain ⟨o, e, c, d⟩ := st
    exact ⟨o, e, fun v z => by rw [d] at z; cases z⟩
  keep := fun i h h' st k => st.at fun o e => k it (by simp) o e
  item := by
    intro X hP hw hK hc i pins s σ H E I hf st hg
    subst hP hw hK
    obtain ⟨xs, x, hq, hx⟩ := hg
    obtain ⟨its, rv, p, hz⟩ := I.list hq
    obtain ⟨u, hu, ru⟩ := rv.get hx
    obtain ⟨f0, f1, f2, f3, f4, f5⟩ := hf it (by simp)
    refine wpAny_pyNext_list_item st p.isList (x := u) (by simpa using hu) fun h' st' sb => ?_
    have I1 : Inv X pins σ H { s with heap := h' } := I.turned (t' := s.toks) (fun b o hb e => (sb.2 b hb).trans e) f0 f1 f3 f4 f5
    obtain ⟨o, e, c, d⟩ := id st'
    exact ⟨u, rfl, go_of (s := { s with heap := h' }) e c d (by decide) ⟨x, H, I1, ru, ⟨rfl, fun ys hy => by rw [I.list_inj hy hq]; exact hx⟩, st', fun b hb => (hf b hb).1⟩⟩
  done := by
    intro X hP hw hK hc i pins s σ H E I hf st hg
    subst hP hw hK
    obtain ⟨xs, hq, hx⟩ := hg
    obtain ⟨its, rv, p, hz⟩ := I.list hq
    obtain ⟨f0, f1, f2, f3, f4, f5⟩ := hf it (by simp)
    have hl := rv.length
    exact wpAny_pyNext_list_end (I.ok.hd hc) st p.isList (by simp; omega) fun h' eb => ⟨rfl, I.turned (t' := s.toks) (fun b o hb e => eb b o hb e) f0 f1 f3 f4 f5⟩
  self := fun _ _ _ _ _ st h => wpAny_pyIter_listiter st h
theorem turn_range {P : Program} {w : World} {K : PySem.W.Frag} {tg : Expr} (it : Addr) (lo : Int) (n : Nat) : Turn P w K tg (Itr lo n) [it] it (fun i h => IsRangeIter h it (lo + (i : Nat) * 1) ((n : Int) - (i : Nat)) 1) where
  mem := by simp
  obj := fun i h st b hb => by
    have e : b = it := by simpa using hb
    subst e
    exact ⟨_, st, fun v z => by
      have z' : Data.fields _ = Data.cell v := z
      cases z'⟩
  keep := fun i h h' st k => k it (by simp) _ st
  item := by
    intro X hP hw hK hc i pins s σ H E I hf st hg
    subst hP hw hK
    obtain ⟨f0, f1, f2, f3, f4, f5⟩ := hf it (by simp)
    have W := Walks.range (prog := X.prog) (w := X.w) (I.ok.hd hc) it lo 1 n
    refine W.item i s _ _ hg st fun v h' tk hv st' kk => ?_
    obtain ⟨t, rfl⟩ := hv
    have I1 : Inv X pins σ H { s with heap := h', toks := tk } := I.turned (fun b o hb e => kk b o (by simpa using hb) e) f0 f1 f3 f4 f5
    refine ⟨_, rfl, go_of (s := { s with heap := h', toks := tk }) (n := "range_iterator") st' rfl rfl (by decide) ⟨.int (lo + i), H, I1, ⟨t, ?_⟩, ⟨rfl, rfl⟩, st', fun b hb => (hf b hb).1⟩⟩
    rw [Int.mul_one]
  done := by
    intro X hP hw hK hc i pins s σ H E I hf st hg
    subst hP hw hK
    obtain ⟨f0, f1, f2, f3, f4, f5⟩ := hf it (by simp)
    exact wpAny_pyNext_range_end (I.ok.hd hc) st (by have : n ≤ i := hg; omega) fun h' eb => ⟨rfl, I.turned (t' := s.toks) (fun b o hb e => eb b o hb e) f0 f1 f3 f4 f5⟩
  self := fun _ _ _ _ _ st h => wpAny_pyIter_rangeiter st h
end L2

namespace L2
open PySem PySem.Spec PyProof.Rows
section
variable {X : Cx} {tg : Expr}
noncomputable def iList (K : PySem.W.Frag) (tl : TE) : TI := fun σ H R => tl σ H fun x H1 => ∃ a, x = .ref a ∧ (∃ xs, SqL K H1 a xs) ∧ R (Itl K a) H1
theorem pi_list {l : Expr} {tl : TE} (hl : PE X l tl) : PI X tg l (iList X.K tl) := by
  intro pins s σ H R I h
  refine thn (hl pins s σ H _ I h) fun v s1 ⟨x, H1, I1, r1, q1⟩ => ?_
  obtain ⟨a, e, ⟨xs, hq⟩, q⟩ := q1
  subst e
  cases r1
  obtain ⟨its, rv, p, hz⟩ := I1.list hq
  refine wpAny_pyIter_list p.isList ?_
  refine ⟨s1.heap.objs.size, [s1.heap.objs.size], _, _, H1, rfl, I1.kept (t' := s1.toks) fun b o e => Heap.get?_push_of_some _ e, turn_list a _, ⟨_, Heap.get?_push_size _ rfl, rfl, rfl⟩, fun b hb => ?_, q⟩
  have e : b = s1.heap.objs.size := by simpa using hb
  subst e
  exact I1.fpOk (Nat.le_refl _) (I1.hok.fresh (Nat.le_refl _))
/-- a range object just made, walked -/
theorem range_it {pins : List (Addr × Obj)} {σ : St} {H : Hp} {s : Shared} {R : It → Hp → Prop} {E : Value → Shared → Prop} {lo hi : Int} {t u v : Tok} {tk : Nat} (I : Inv X pins σ H s) (h1 : -(2 ^ 62) ≤ lo) (h2 : lo < 2 ^ 62) (h3 : -(2 ^ 62) ≤ hi) (h4 : hi < 2 ^ 62)
    (q : R (Itr lo (hi - lo).toNat) H) : wpAny (model X.prog X.w) X.A (pyIter (.ref s.heap.objs.size)) (PIE X pins σ tg R) E { s with heap := s.heap.push { cls := .type "range", data := .fields #[.int lo t, .int hi u, .int 1 v] }, toks := tk } := by
  refine wpAny_pyIter_range (IsRange.new ..) (small_one h1 h2 h3 h4) ?_
  have I1 : Inv X pins σ H { s with heap := s.heap.push { cls := .type "range", data := .fields #[.int lo t, .int hi u, .int 1 v] }, toks := tk } := I.kept fun b o e => Heap.get?_push_of_some _ e
  refine ⟨(s.heap.push { cls := .type "range", data := .fields #[.int lo t, .int hi u, .int 1 v] }).objs.size, [(s.heap.push { cls := .type "range", data := .fields #[.int lo t, .int hi u, .int 1 v] }).objs.size], _, _, H, rfl,
    I1.kept (t' := tk) fun b o e => Heap.get?_push_of_some _ e, turn_range _ lo (hi - lo).toNat, ?_, fun b hb => ?_, q⟩
  · have e1 : lo + ((0 : Nat) : Int) * 1 = lo := by simp
    have e2 : (((hi - lo).toNat : Nat) : Int) - ((0 : Nat) : Int) = Builtin.Range.rangeSize lo hi 1 := by rw [rangeSize_one]; split <;> omega
    show IsRangeIter _ _ (lo + ((0 : Nat) : Int) * 1) ((((hi - lo).toNat : Nat) : Int) - ((0 : Nat) : Int)) 1
    rw [e1, e2]
    exact Heap.get?_push_size _ rfl
  · have e : b = (s.heap.push { cls := .type "range", data := .fields #[.int lo t, .int hi u, .int 1 v] }).objs.size := by simpa using hb
    subst e
    exact I1.fpOk (Nat.le_refl _) (I1.hok.fresh (Nat.le_refl _))
noncomputable def iRng1 (ta : TA) : TI := fun σ H R => ta σ H fun vs H1 => ∃ j : Int, vs = [.int j] ∧ -(2 ^ 62) ≤ j ∧ j < 2 ^ 62 ∧ R (Itr 0 j.toNat) H1
theorem pi_range1 {a : Expr} {ta : TA} {p pos : Pos} (hg : Gl X "range") (hm : X.mg "range" = none) (ha : PA X [a] ta) (hs : starEach [a] X.env = [(false, eval a X.env)] := by rfl) : PI X tg (.Call (.Name "range" p) [a] [] pos) (iRng1 ta) := by
  intro pins s σ H R I h
  refine Call_ (ld_blt I hg hm boot_range (PyProof.Rows.callWith_type1 (thn (ha pos pins s σ H _ I h) fun us s1 ⟨vs, H1, I1, r1, q1⟩ => ?_) hs rfl))
  obtain ⟨j, e, q1, q2, q⟩ := q1
  subst e
  cases r1 with
  | cons r rr =>
    cases rr
    obtain ⟨t, rfl⟩ := r
    exact call_range_1 (range_it I1 (by omega) (by omega) q1 q2 (by simpa using q))
/-- W: the invariant by the turn and a measure; N: what the body is to reach -/
noncomputable def tFor (wi : TI) (g : TG) (tb : TS) : TS := fun D σ H => wi σ H fun J H1 => ∃ W : Nat → Nat → St → Hp → Prop, (∃ m, W 0 m σ H1) ∧ ∀ i m σ H, W i m σ H →
  (J.stop i H ∧ D.nx σ H) ∨ (J.go i H ∧ ∃ N : St → Hp → Prop, (∀ σ' H', N σ' H' → ∃ m', m' < m ∧ W (i + 1) m' σ' H') ∧ ∀ x H', J.yld i H x H' → g x σ H' fun σ2 H2 => tb { D with nx := N, ct := N, bk := D.nx } σ2 H2)
/-- the records at fp as they stand -/
noncomputable def pinsAt (fp : List Addr) (h : Heap) : List (Addr × Obj) := fp.filterMap fun b => (h.get? b).map fun o => (b, o)
theorem mem_pinsAt {fp : List Addr} {h : Heap} {b : Addr} {o : Obj} (hb : b ∈ fp) (e : h.get? b = some o) : (b, o) ∈ pinsAt fp h := List.mem_filterMap.mpr ⟨b, hb, by rw [e]; rfl⟩
theorem of_pinsAt {fp : List Addr} {h : Heap} {p : Addr × Obj} (hp : p ∈ pinsAt fp h) : p.1 ∈ fp ∧ h.get? p.1 = some p.2 := by
  obtain ⟨b, hb, e⟩ := List.mem_filterMap.mp hp
  cases q : h.get? b with
  | none => rw [q] at e; cases e
  | some o =>
    rw [q] at e
    have e' : (b, o) = p := Option.some.inj e
    subst e'
    exact ⟨hb, q⟩
theorem Inv.pinned {pins : List (Addr × Obj)} {σ : St} {H : Hp} {s : Shared} {fp : List Addr} (I : Inv X pins σ H s) (hf : ∀ b ∈ fp, FpOk X pins H b) (ho : ∀ b ∈ fp, ∃ o, s.heap.get? b = some o ∧ ∀ v, o.data ≠ .cell v) : Inv X (pins ++ pinsAt fp s.heap) σ H s :=
  I.pins_of fun p hp => (List.mem_append.mp hp).elim (fun z => I.pin p (List.mem_append_right _ z)) fun z => by
    obtain ⟨hb, e⟩ := of_pinsAt z
    obtain ⟨f0, f1, f2, _⟩ := hf p.1 hb
    obtain ⟨o, e', d⟩ := ho p.1 hb
    rw [e] at e'; cases e'
    exact ⟨e, f0, f1, f2, d⟩
theorem Inv.unpinned {pins pl : List (Addr × Obj)} {σ : St} {H : Hp} {s : Shared} (I : Inv X (pins ++ pl) σ H s) : Inv X pins σ H s := I.pins_of fun p hp => I.pin p (List.mem_append_right _ (List.mem_append_left _ hp))
theorem ps_for {iter : Expr} {body : List Stmt} {wi : TI} {g : TG} {tb : TS} {pos : Pos} (hp : PassesOwn (model X.prog X.w) X.A X.env X.xe) (hc : X.calm = true) (hi : PI X tg iter wi) (hg : PG X tg g) (hb : PSs X body tb)
    (hs : ∀ x, foldedSetIterable iter X.env x = pure x := by intro _; rfl) : PS X (.For tg iter body [] pos) (tFor wi g tb) := by
  intro pins s σ H D I h
  refine wpAny_For (thn (hi pins s σ H _ I h) fun v s1 h1 => thn h1 fun itv s2 h2 => ?_) hs
  obtain ⟨it, fp, tn, J, H2, e, I2, T, st2, f2, W, ⟨m0, w0⟩, turn⟩ := h2
  subst e
  -- what stays true of the iterator's objects through the loop
  have stat : ∀ {H' : Hp}, (∀ b ∈ fp, H' b = none) → ∀ b ∈ fp, FpOk X pins H' b := fun hn b hb => ⟨hn b hb, (f2 b hb).2⟩
  refine codeAny_forLoop_any (fun n s' => ∃ i σ' H', Inv X pins σ' H' s' ∧ tn i s'.heap ∧ (∀ b ∈ fp, H' b = none) ∧ W i n σ' H') ?_ m0 ⟨0, σ, H2, I2, st2, fun b hb => (f2 b hb).1, w0⟩
  rintro n s3 ⟨i, σ3, H3, I3, st3, fr3, w3⟩
  rcases turn i n σ3 H3 w3 with ⟨stop, qn⟩ | ⟨go, N, hN, step⟩
  · refine wpAny_passesOwn hp (thn (T.done X rfl rfl rfl hc i pins s3 σ3 H3 X.xe I3 (stat fr3) st3 stop) fun r s4 ⟨hr, I4⟩ => ?_)
    subst hr
    exact wpAny_execs_nil ⟨σ3, H3, I4, qn⟩
  · refine wpAny_passesOwn hp (thn (T.item X rfl rfl rfl hc i pins s3 σ3 H3 X.xe I3 (stat fr3) st3 go) fun r s4 ⟨u, hr, h4⟩ => ?_)
    subst hr
    refine wpAny_passesOwn hp (thn h4 fun _ s5 ⟨x, H5, I5, r5, y5, st5, fr5⟩ => ?_)
    have I5' := I5.pinned (stat fr5) (T.obj _ _ st5)
    refine wpAny_passesOwn hp (thn (hg _ s5 σ3 H5 x u _ I5' r5 (step x H5 y5)) fun _ s6 ⟨σ6, H6, I6, q6⟩ => ?_)
    refine wpAny_passesOwn hp (thn (hb _ s6 σ6 H6 _ I6 q6) fun f s7 q7 => ?_)
    have again : ∀ {σ7 : St} {H7 : Hp}, Inv X (pins ++ pinsAt fp s5.heap) σ7 H7 s7 → N σ7 H7 → ∃ m, m < n ∧ ∃ i σ' H', Inv X pins σ' H' s7 ∧ tn i s7.heap ∧ (∀ b ∈ fp, H' b = none) ∧ W i m σ' H' := fun {σ7 H7} I7 n7 => by
      obtain ⟨m', hm, w7⟩ := hN σ7 H7 n7
      refine ⟨m', hm, i + 1, σ7, H7, I7.unpinned, T.keep _ _ _ st5 fun b hb o e => (I7.pin (b, o) (List.mem_append_right _ (List.mem_append_right _ (mem_pinsAt hb e)))).1, fun b hb => ?_, w7⟩
      obtain ⟨o, e, d⟩ := T.obj _ _ st5 b hb
      exact (I7.pin (b, o) (List.mem_append_right _ (List.mem_append_right _ (mem_pinsAt hb e)))).2.1
    cases f with
    | next => obtain ⟨σ7, H7, I7, n7⟩ := q7; exact again I7 n7
    | cont => obtain ⟨σ7, H7, I7, n7⟩ := q7; exact again I7 n7
    | brk => obtain ⟨σ7, H7, I7, q7⟩ := q7; exact ⟨σ7, H7, I7.unpinned, q7⟩
    | ret v => obtain ⟨x7, σ7, H7, I7, r7, q7⟩ := q7; exact ⟨x7, σ7, H7, I7.unpinned, r7, q7⟩
end

/-- over a list that the body leaves as it is -/
theorem for_list {K : PySem.W.Frag} {a : Addr} {xs : List V} {g : TG} {tb : TS} {D : Ends} {σ : St} {H : Hp} (Pv : Nat → St → Hp → Prop) (h0 : Pv 0 σ H) (hl : ∀ i σ H, i ≤ xs.length → Pv i σ H → SqL K H a xs)
    (hs : ∀ i x σ H, xs[i]? = some x → Pv i σ H → g x σ H fun σ2 H2 => tb { D with nx := Pv (i + 1), ct := Pv (i + 1), bk := D.nx } σ2 H2) (hd : ∀ σ H, Pv xs.length σ H → D.nx σ H) :
    ∃ W : Nat → Nat → St → Hp → Prop, (∃ m, W 0 m σ H) ∧ ∀ i m σ H, W i m σ H →
      ((Itl K a).stop i H ∧ D.nx σ H) ∨ ((Itl K a).go i H ∧ ∃ N : St → Hp → Prop, (∀ σ' H', N σ' H' → ∃ m', m' < m ∧ W (i + 1) m' σ' H') ∧ ∀ x H', (Itl K a).yld i H x H' → g x σ H' fun σ2 H2 => tb { D with nx := N, ct := N, bk := D.nx } σ2 H2) := by
  refine ⟨fun i m σ H => m = xs.length - i ∧ i ≤ xs.length ∧ Pv i σ H, ⟨xs.length, by simp, Nat.zero_le _, h0⟩, ?_⟩
  rintro i m σ H ⟨rfl, hi, p⟩
  have q := hl i σ H hi p
  by_cases hlt : i < xs.length
  · refine .inr ⟨⟨xs, xs[i], q, by simp [hlt]⟩, Pv (i + 1), fun σ' H' p' => ⟨xs.length - (i + 1), by omega, rfl, hlt, p'⟩, fun x H' y => ?_⟩
    obtain ⟨e, y⟩ := y
    subst e
    exact hs i x σ _ (y xs q) p
  · have e : i = xs.length := by omega
    subst e
    exact .inl ⟨⟨xs, q, Nat.le_refl _⟩, hd σ H p⟩
theorem for_range {lo : Int} {n : Nat} {g : TG} {tb : TS} {D : Ends} {σ : St} {H : Hp} (Pv : Nat → St → Hp → Prop) (h0 : Pv 0 σ H)
    (hs : ∀ i σ H, i < n → Pv i σ H → g (.int (lo + i)) σ H fun σ2 H2 => tb { D with nx := Pv (i + 1), ct := Pv (i + 1), bk := D.nx } σ2 H2) (hd : ∀ σ H, Pv n σ H → D.nx σ H) :
    ∃ W : Nat → Nat → St → Hp → Prop, (∃ m, W 0 m σ H) ∧ ∀ i m σ H, W i m σ H →
      ((Itr lo n).stop i H ∧ D.nx σ H) ∨ ((Itr lo n).go i H ∧ ∃ N : St → Hp → Prop, (∀ σ' H', N σ' H' → ∃ m', m' < m ∧ W (i + 1) m' σ' H') ∧ ∀ x H', (Itr lo n).yld i H x H' → g x σ H' fun σ2 H2 => tb { D with nx := N, ct := N, bk := D.nx } σ2 H2) := by
  refine ⟨fun i m σ H => m = n - i ∧ i ≤ n ∧ Pv i σ H, ⟨n, by simp, Nat.zero_le _, h0⟩, ?_⟩
  rintro i m σ H ⟨rfl, hi, p⟩
  by_cases hlt : i < n
  · refine .inr ⟨hlt, Pv (i + 1), fun σ' H' p' => ⟨n - (i + 1), by omega, rfl, hlt, p'⟩, fun x H' y => ?_⟩
    obtain ⟨e, y⟩ := y
    subst e y
    exact hs i σ _ hlt p
  · have e : i = n := by omega
    subst e
    exact .inl ⟨Nat.le_refl _, hd σ H p⟩
/-- while, by a word and a measure of the state -/
theorem while_by {c : TT} {tb : TS} {D : Ends} {σ : St} {H : Hp} (Pv : St → Hp → Prop) (μ : St → Hp → Nat) (h0 : Pv σ H)
    (hs : ∀ σ H, Pv σ H → c σ H fun b H1 => if b = true then tb { D with nx := fun σ' H' => Pv σ' H' ∧ μ σ' H' < μ σ H, ct := fun σ' H' => Pv σ' H' ∧ μ σ' H' < μ σ H, bk := D.nx } σ H1 else D.nx σ H1)
    (mono : ∀ σ H Q Q', (∀ b H1, Q b H1 → Q' b H1) → c σ H Q → c σ H Q') : tWhile c tb D σ H := by
  refine ⟨fun m σ H => m = μ σ H ∧ Pv σ H, ⟨_, rfl, h0⟩, ?_⟩
  rintro m σ H ⟨rfl, p⟩
  refine mono σ H _ _ (fun b H1 q => ?_) (hs σ H p)
  cases b with
  | true => exact ⟨_, fun σ' H' ⟨p', l⟩ => ⟨_, l, rfl, p'⟩, q⟩
  | false => exact q
end L2

namespace L2
open PySem PySem.Spec PyProof.Rows

@[reducible] noncomputable def R2 := V → V → Hp → VK → Prop
/-- a two-place operation on values: f is binaryOp op, inplaceOp op or compareOp op -/
noncomputable def OpR (X : Cx) (f : Value → Value → Sem Value) (r : R2) : Prop :=
  ∀ (pins : List (Addr × Obj)) (s : Shared) (σ : St) (H : Hp) (x y : V) (v u : Value) (Q : VK), Inv X pins σ H s → RelV x v → RelV y u → r x y H Q →
    wpAny (model X.prog X.w) X.A (f v u) (EP X pins σ Q) X.xe s
/-- a call of a value that is known (a builtin, a type) with values -/
noncomputable def CallR (X : Cx) (f : Value) (r : List V → Hp → VK → Prop) : Prop :=
  ∀ (pins : List (Addr × Obj)) (s : Shared) (σ : St) (H : Hp) (xs : List V) (us : List Value) (Q : VK), Inv X pins σ H s → Vals xs us → r xs H Q →
    wpAny (model X.prog X.w) X.A (call f us) (EP X pins σ Q) X.xe s
noncomputable def tOp (r : R2) (ta tb : TE) : TE := fun σ H Q => ta σ H fun x H1 => tb σ H1 fun y H2 => r x y H2 Q
/-- ints in, under C, and a value out -/
noncomputable def rI (C : Int → Int → Prop) (g : Int → Int → V) : R2 := fun x y H Q => ∃ i j, x = .int i ∧ y = .int j ∧ C i j ∧ Q (g i j) H
noncomputable def rI0 (g : Int → Int → V) : R2 := fun x y H Q => ∃ i j, x = .int i ∧ y = .int j ∧ Q (g i j) H
section
variable {X : Cx} {a b c : Expr} {ta tb tc : TE} {pos : Pos}

theorem binT (ha : PE X a ta) (hb : PE X b tb) {pins : List (Addr × Obj)} {s : Shared} {σ : St} {H : Hp} {R : V → V → Hp → Prop} (I : Inv X pins σ H s)
    (h : ta σ H fun x H1 => tb σ H1 fun y H2 => R x y H2) {Q : Value → Shared → Prop} {f : Value → Value → Sem Value}
    (hf : ∀ v u s2 x y H2, Inv X pins σ H2 s2 → RelV x v → RelV y u → R x y H2 → wpAny (model X.prog X.w) X.A (f v u) Q X.xe s2) :
    wpAny (model X.prog X.w) X.A (eval a X.env) (fun v s₁ => wpAny (model X.prog X.w) X.A (eval b X.env) (fun u s₂ => wpAny (model X.prog X.w) X.A (f v u) Q X.xe s₂) X.xe s₁) X.xe s := by
  refine thn (ha pins s σ H _ I h) fun v s1 ⟨x, H1, I1, r1, q1⟩ => ?_
  refine thn (hb pins s1 σ H1 _ I1 q1) fun u s2 ⟨y, H2, I2, r2, q2⟩ => ?_
  exact hf v u s2 x y H2 I2 r1 r2 q2

theorem pe_op {op : Operator} {r : R2} (ho : OpR X (binaryOp op) r) (ha : PE X a ta) (hb : PE X b tb) : PE X (.BinOp a op b pos) (tOp r ta tb) := by
  intro pins s σ H Q I h
  exact wpAny_BinOp (binT ha hb I h fun v u s2 x y H2 I2 rx ry q => ho pins s2 σ H2 x y v u Q I2 rx ry q)
theorem opI {f : Value → Value → Sem Value} {C : Int → Int → Prop} {g : Int → Int → Int}
    (rule : ∀ (i j : Int) (t u : Tok) (s : Shared) (Q : Value → Shared → Prop) (E : Value → Shared → Prop), C i j → Q (.int (g i j) s.toks) { s with toks := s.toks + 1 } → wpAny (model X.prog X.w) X.A (f (.int i t) (.int j u)) Q E s) :
    OpR X f (rI C fun i j => .int (g i j)) := by
  intro pins s σ H x y v u Q I rx ry h
  obtain ⟨i, j, rfl, rfl, hc, q⟩ := h
  obtain ⟨t, rfl⟩ := rx
  obtain ⟨t', rfl⟩ := ry
  exact rule i j t t' s _ _ hc ⟨.int (g i j), H, I.tok _, ⟨_, rfl⟩, q⟩
theorem opI0 {f : Value → Value → Sem Value} {g : Int → Int → Int}
    (rule : ∀ (i j : Int) (t u : Tok) (s : Shared) (Q : Value → Shared → Prop) (E : Value → Shared → Prop), Q (.int (g i j) s.toks) { s with toks := s.toks + 1 } → wpAny (model X.prog X.w) X.A (f (.int i t) (.int j u)) Q E s) :
    OpR X f (rI0 fun i j => .int (g i j)) := by
  intro pins s σ H x y v u Q I rx ry h
  obtain ⟨i, j, rfl, rfl, q⟩ := h
  obtain ⟨t, rfl⟩ := rx
  obtain ⟨t', rfl⟩ := ry
  exact rule i j t t' s _ _ ⟨.int (g i j), H, I.tok _, ⟨_, rfl⟩, q⟩
theorem opB0 {f : Value → Value → Sem Value} {g : Int → Int → Bool}
    (rule : ∀ (i j : Int) (t u : Tok) (s : Shared) (Q : Value → Shared → Prop) (E : Value → Shared → Prop), Q (.bool (g i j)) s → wpAny (model X.prog X.w) X.A (f (.int i t) (.int j u)) Q E s) :
    OpR X f (rI0 fun i j => .bl (g i j)) := by
  intro pins s σ H x y v u Q I rx ry h
  obtain ⟨i, j, rfl, rfl, q⟩ := h
  obtain ⟨t, rfl⟩ := rx
  obtain ⟨t', rfl⟩ := ry
  exact rule i j t t' s _ _ ⟨.bl (g i j), H, I, rfl, q⟩

noncomputable def CPow (i j : Int) : Prop := 0 ≤ j ∧ j ≤ 1000000 ∧ i.natAbs < 2 ^ 64
noncomputable def CMul (i j : Int) : Prop := (-(2 ^ 64) < i ∧ i < 2 ^ 64) ∨ (-(2 ^ 64) < j ∧ j < 2 ^ 64)
theorem CMul.ok {i j : Int} (h : CMul i j) : IntMulOk i j := by
  rcases h with ⟨h1, h2⟩ | ⟨h1, h2⟩
  · exact .of_left (intBits_le_64 h1 h2)
  · exact .of_right (intBits_le_64 h1 h2)
theorem two_pow_nn (k : Nat) : (0 : Int) ≤ 2 ^ k := by
  rw [two_pow_cast]
  exact Int.natCast_nonneg _

theorem op_add : OpR X (binaryOp .Add) (rI0 fun i j => .int (i + j)) := opI0 fun _ _ _ _ _ _ _ q => add_int q
theorem op_sub : OpR X (binaryOp .Sub) (rI0 fun i j => .int (i - j)) := opI0 fun _ _ _ _ _ _ _ q => sub_int q
theorem op_mul : OpR X (binaryOp .Mult) (rI CMul fun i j => .int (i * j)) := opI fun _ _ _ _ _ _ _ hc q => mul_int q hc.ok
theorem op_shl : OpR X (binaryOp .LShift) (rI CPow fun i j => .int (i * 2 ^ j.toNat)) := opI fun _ _ _ _ _ _ _ hc q => lshift_int_small hc.1 hc.2.1 hc.2.2 q
theorem op_shr : OpR X (binaryOp .RShift) (rI (fun _ j => 0 ≤ j) fun i j => .int (i / 2 ^ j.toNat)) := opI fun i j _ _ _ _ _ hc q =>
  rshift_int hc (by rw [Int.fdiv_eq_ediv_of_nonneg i (two_pow_nn _)]; exact q)
theorem op_and : OpR X (binaryOp .BitAnd) (rI0 fun i j => .int (Builtin.bitAnd i j)) := opI0 fun _ _ _ _ _ _ _ q => and_int q
theorem op_xor : OpR X (binaryOp .BitXor) (rI0 fun i j => .int (Builtin.bitXor i j)) := opI0 fun _ _ _ _ _ _ _ q => xor_int q

end

section
variable {X : Cx} {a b c : Expr} {ta tb tc : TE} {pos : Pos}
theorem op_lt : OpR X (compareOp .Lt) (rI0 fun i j => .bl (decide (i < j))) := opB0 fun _ _ _ _ _ _ _ q => lt_int q
theorem op_le : OpR X (compareOp .LtE) (rI0 fun i j => .bl (decide (i ≤ j))) := opB0 fun _ _ _ _ _ _ _ q => le_int q
theorem op_gt : OpR X (compareOp .Gt) (rI0 fun i j => .bl (decide (j < i))) := opB0 fun _ _ _ _ _ _ _ q => gt_int q
theorem op_ge : OpR X (compareOp .GtE) (rI0 fun i j => .bl (decide (j ≤ i))) := opB0 fun _ _ _ _ _ _ _ q => ge_int q
theorem nomark (b : Expr) {op : CmpOp} (h : op ≠ .In := by decide) (h2 : op ≠ .NotIn := by decide) : behindInMarks op b = false := by
  have e1 : (op == CmpOp.In) = false := by cases op <;> first | rfl | exact absurd rfl h
  have e2 : (op == CmpOp.NotIn) = false := by cases op <;> first | rfl | exact absurd rfl h2
  cases b <;> simp [behindInMarks, e1, e2]
/-- a comparison as a value; hm: nomark b, or (for in, not in) by with_unfolding_all rfl -/
theorem pe_cmpR {op : CmpOp} {r : R2} (ho : OpR X (compareOp op) r) (ha : PE X a ta) (hb : PE X b tb) (hm : behindInMarks op b = false) : PE X (.Compare a [op] [b] pos) (tOp r ta tb) := by
  intro pins s σ H Q I h
  exact wpAny_Compare1 (binT ha hb I h fun v u s2 x y H2 I2 rx ry q => ho pins s2 σ H2 x y v u Q I2 rx ry q) hm
/-- a reading of a value as a test -/
noncomputable def tTest (t : TE) : TT := fun σ H Q => t σ H fun x H' => ∃ k, x = .bl k ∧ Q k H'
theorem pt_cmpR {op : CmpOp} {r : R2} (ho : OpR X (compareOp op) r) (ha : PE X a ta) (hb : PE X b tb) (hm : behindInMarks op b = false) : PT X (.Compare a [op] [b] pos) (tTest (tOp r ta tb)) := by
  intro pins s σ H Q I h
  refine wpAny_isTrue_Compare1 (thn (ha pins s σ H _ I h) fun v s1 ⟨x, H1, I1, r1, q1⟩ => thn (hb pins s1 σ H1 _ I1 q1) fun u s2 ⟨y, H2, I2, r2, q2⟩ =>
    thn (ho pins s2 σ H2 x y v u _ I2 r1 r2 q2) fun c s3 ⟨z, H3, I3, r3, k, e, q3⟩ => ?_) hm
  subst e
  cases r3
  exact wpAny_truthy_bool ⟨H3, I3, q3⟩
theorem line63 : (sizeLine : Nat) < 2 ^ 63 := by rw [sizeLine_eq]; decide
theorem vals1 {x : V} {us : List Value} (r : Vals [x] us) : ∃ u, us = [u] ∧ RelV x u := by
  cases r with
  | cons r1 r2 => cases r2; exact ⟨_, rfl, r1⟩
theorem vals2 {x y : V} {us : List Value} (r : Vals [x, y] us) : ∃ u w', us = [u, w'] ∧ RelV x u ∧ RelV y w' := by
  cases r with
  | cons r1 r2 =>
    cases r2 with
    | cons r3 r4 => cases r4; exact ⟨_, _, rfl, r1, r3⟩
end
end L2

namespace L2
open PySem PySem.Spec PyProof.Rows

structure ObjM (h : Heap) (x dx C : Addr) (mA : Str → Option Value) : Prop where
  obj : h.get? x = some (PySem.W.instObj C dx)
  ns : h.Ns1 dx mA
  ne : dx ≠ x

theorem lookIn_ns {h : Heap} {dx : Addr} {mA : Str → Option Value} (n : h.Ns1 dx mA) : ∃ od, h.get? dx = some od ∧ ∀ name, PySem.W.lookIn name od = some (mA name) := by
  obtain ⟨o, es, ep, ho, hd, hk, _, hm⟩ := n
  refine ⟨o, ho, fun name => ?_⟩
  have e := hm name
  unfold nsFind findBy at e
  rw [← Array.find?_toList] at e
  unfold PySem.W.lookIn
  rw [hd]
  dsimp only
  split
  · rename_i y q
    rw [q] at e
    exact congrArg some e
  · rename_i q
    rw [q] at e
    have a : es.toList.any (·.refKey) = false := by
      rw [List.any_eq_false]
      intro y hy
      obtain ⟨z, t, hkey⟩ := hk y (Array.mem_toList_iff.mp hy)
      simp [DictEntry.refKey, hkey]
    have a' : ¬ es.toList.any (·.refKey) = true := by rw [a]; exact Bool.false_ne_true
    rw [if_neg a']
    exact congrArg some e

theorem ObjM.look {h : Heap} {x dx C : Addr} {mA : Str → Option Value} (I : ObjM h x dx C mA) : ∃ od, PySem.W.InstAt h x (PySem.W.instObj C dx) C (some od) ∧ ∀ name, PySem.W.lookIn name od = some (mA name) :=
  let ⟨od, ho, hl⟩ := lookIn_ns I.ns
  ⟨od, ⟨I.obj, rfl, rfl, ho⟩, hl⟩

section
variable {prog : Program} {w : World} {A : Around} {E : Value → Shared → Prop} {s : Shared} {K : PySem.W.Frag} {x dx C f : Addr} {mA : Str → Option Value} {name : Str} {v : Value}

theorem get_map {expr : Bool} {Q : Value → Shared → Prop} (X : K.In s.heap) (I : ObjM s.heap x dx C mA) (hg : PySem.W.plainGet K C name = true) (hh : PySem.W.hasDictIn K C = true)
    (ha : PySem.W.findIn K (.ref C) name = some none) (hv : mA name = some v) (hv' : PySem.W.handedIn v = true) (h : Q v { s with toks := s.toks + 1 }) :
    wpAny (model prog w) A (getAttr (.ref x) name expr) Q E s := by
  obtain ⟨od, J, hl⟩ := I.look
  exact PySem.W.get_value X J (PySem.W.plainGet_of hg).1 (PySem.W.findObj_own hh ha rfl (by rw [hl, hv])) hv' h

theorem get_meth {pl : Sem Bool} {Q : Value × List Value → Shared → Prop} (X : K.In s.heap) (I : ObjM s.heap x dx C mA) (hg : PySem.W.plainGet K C name = true)
    (hf : PySem.W.findIn K (.ref C) name = some (some (.ref f))) (ht : PySem.W.isFn K (.ref f) = true) (hv : mA name = none) (h : Q (.ref f, [.ref x]) s) :
    wpAny (model prog w) A (getMethod (.ref x) name pl) Q E s := by
  obtain ⟨od, J, hl⟩ := I.look
  exact PySem.W.method_fn X J (PySem.W.plainGet_of hg).1 (PySem.W.plainGet_of hg).2 hf (beq_iff_eq.mp ht) (by show (PySem.W.lookIn name od).map (·.isSome) = some false; rw [hl, hv]; rfl) h

theorem set_map {ns : List Str} {Q : Unit → Shared → Prop} (X : K.In s.heap) (I : ObjM s.heap x dx C mA)
    (hs : PySem.W.findIn K (.ref C) "__setattr__" = some (some (.builtin "object.__setattr__"))) (hp : PySem.W.plainOver K C = true) (ht : PySem.W.takerIn K C name = some none) (hh : PySem.W.hasDictIn K C = true)
    (hw : PySem.Within mA ns) (hsz : ns.length ≤ sizeLine)
    (h : ∀ h', ObjM h' x dx C (fun y => if y = name then some v else mA y) → Heap.SameBut dx s.heap h' → Q () { s with heap := h', toks := s.toks + 2 }) :
    wpAny (model prog w) A (setAttr (.ref x) name v) Q E s := by
  obtain ⟨od, J, hl⟩ := I.look
  refine PySem.W.set_plain X J hs (PySem.W.osa_open (s := { s with toks := s.toks + 1 }) (r := none) X J hp ht fun b => ?_)
  obtain ⟨cd, hc, hd'⟩ := PySem.W.any_some hh
  have hx : s.heap.get? x = some ⟨.ref C, some dx, .plain, #[]⟩ := I.obj
  refine wpAny_bind (wpAny_pure (wpAny_bind (wpAny_bind (wpAny_loadPart hx (wpAny_bind (PySem.W.Looks.here (s := { s with toks := s.toks + 1 }) (PySem.W.looks_clsIn X hc) ?_))))))
  rw [hd']
  refine wpAny_pure (a := some dx) (wpAny_bind (wpAny_pure (wpAny_bind ?_)))
  refine wpAny_nsSet1 (s := { s with toks := s.toks + 1 }) I.ns fun h' hn2 hs2 => ?_
  obtain ⟨oD, esD, epD, hoD, hdD, hcD⟩ := hn2.count (PySem.Within.cons name v hw)
  refine wpAny_bind (wpAny_lookBehind hoD (by rw [hdD]; exact pastItsLine_dict (Nat.le_trans hcD (by rw [List.length_cons]; omega))) ?_)
  exact wpAny_pure (h _ ⟨(hs2.2 _ (Ne.symm I.ne)).trans I.obj, hn2, I.ne⟩ hs2)

/-- C(..): the dict at the heap's end, the instance behind it; then its __init__ -/
theorem make_map {R : Result → Shared → Prop} {vs : List Value} {kw : List (Str × Value)} (X : K.In s.heap) (hm : PySem.W.makesIn K C = true)
    (hi : PySem.W.findIn K (.ref C) "__init__" = some (some (.ref f))) (hf : PySem.W.typeIn K (.ref f) = some (.type "function"))
    (h : codeAny (model prog w) (A.under (.builtin "type.__call__" ⟨.ref C :: vs, kw⟩)) (.call (.ref f) ⟨.ref (s.heap.objs.size + 1) :: vs, kw⟩) (PySem.W.InitBack (s.heap.objs.size + 1) R)
      { s with heap := (s.heap.push PySem.W.emptyDict).push (PySem.W.instObj C s.heap.objs.size) }) :
    codeAny (model prog w) A (.call (.ref C) ⟨vs, kw⟩) R s := by
  obtain ⟨hh, g, d, t, os⟩ := s
  exact PySem.W.make_core (PySem.W.makes_of X hm) (PySem.W.looks_findIn X hi) (fun self => PySem.W.bind_fn X self hf) (.inl rfl) h
end

noncomputable def putF (f : Str) (v : V) : List (Str × V) → List (Str × V)
  | [] => [(f, v)]
  | (g, x) :: r => if g = f then (g, v) :: r else (g, x) :: putF f v r
theorem lookup_putF (f g : Str) (v : V) : ∀ fs : List (Str × V), (putF f v fs).lookup g = if g = f then some v else fs.lookup g
  | [] => by
    show List.lookup g [(f, v)] = _
    by_cases h : g = f
    · have hb : (g == f) = true := beq_iff_eq.mpr h
      simp only [List.lookup, hb, if_pos h]
    · have hb : (g == f) = false := beq_eq_false_iff_ne.mpr h
      simp only [List.lookup, hb, if_neg h]
  | (k, x) :: r => by
    have ih := lookup_putF f g v r
    rw [show putF f v ((k, x) :: r) = (if k = f then (k, v) :: r else (k, x) :: putF f v r) from rfl]
    by_cases hk : k = f
    · rw [if_pos hk]
      by_cases h : g = k
      · have hb : (g == k) = true := beq_iff_eq.mpr h
        simp only [List.lookup, hb, if_pos (h.trans hk)]
      · have hb : (g == k) = false := beq_eq_false_iff_ne.mpr h
        simp only [List.lookup, hb, if_neg (fun e : g = f => h (e.trans hk.symm))]
    · rw [if_neg hk]
      by_cases h : g = k
      · have hb : (g == k) = true := beq_iff_eq.mpr h
        simp only [List.lookup, hb, if_neg (fun e : g = f => hk (h.symm.trans e))]
      · have hb : (g == k) = false := beq_eq_false_iff_ne.mpr h
        simp only [List.lookup, hb]
        exact ih
theorem keys_putF (f : Str) (v : V) : ∀ fs : List (Str × V), f ∈ (putF f v fs).map (·.1) ∧ ∀ g, g ∈ fs.map (·.1) → g ∈ (putF f v fs).map (·.1)
  | [] => ⟨by simp [putF], fun g h => by simp at h⟩
  | (k, x) :: r => by
    obtain ⟨i1, i2⟩ := keys_putF f v r
    rw [show putF f v ((k, x) :: r) = (if k = f then (k, v) :: r else (k, x) :: putF f v r) from rfl]
    by_cases hk : k = f
    · rw [if_pos hk]
      subst hk
      exact ⟨by simp, fun g h => by simpa using h⟩
    · rw [if_neg hk]
      refine ⟨?_, fun g h => ?_⟩
      · rw [List.map_cons]
        exact List.mem_cons_of_mem _ i1
      · rw [List.map_cons] at h ⊢
        rcases List.mem_cons.mp h with e | e
        · exact List.mem_cons.mpr (.inl e)
        · exact List.mem_cons_of_mem _ (i2 g e)
theorem length_putF (f : Str) (v : V) : ∀ fs : List (Str × V), (putF f v fs).length ≤ fs.length + 1
  | [] => by simp [putF]
  | (k, x) :: r => by
    have ih := length_putF f v r
    rw [show putF f v ((k, x) :: r) = (if k = f then (k, v) :: r else (k, x) :: putF f v r) from rfl]
    by_cases hk : k = f
    · rw [if_pos hk, List.length_cons, List.length_cons]; omega
    · rw [if_neg hk, List.length_cons, List.length_cons]; omega

theorem RelO.some_of {v : V} {o : Option Value} (r : RelO (some v) o) : ∃ u, o = some u ∧ RelV v u := by
  cases o with
  | none => exact (show False from r).elim
  | some u => exact ⟨u, rfl, r⟩
theorem RelO.none_of {o : Option Value} (r : RelO none o) : o = none := by
  cases o with
  | none => rfl
  | some u => exact (show False from r).elim
theorem handed_of {v : V} {u : Value} (r : RelV v u) : PySem.W.handedIn u = true := by
  cases v with
  | non => cases (show u = Value.none from r); rfl
  | bl b => cases (show u = Value.bool b from r); rfl
  | int i => obtain ⟨t, e⟩ := (show ∃ t, u = Value.int i t from r); cases e; rfl
  | str x => obtain ⟨t, e⟩ := (show ∃ t, u = Value.str x t from r); cases e; rfl
  | byt b => obtain ⟨t, e⟩ := (show ∃ t, u = Value.bytes b t from r); cases e; rfl
  | flt b => obtain ⟨t, e⟩ := (show ∃ t, u = Value.float b t from r); cases e; rfl
  | ref a => cases (show u = Value.ref a from r); rfl
  | ty n => cases (show u = Value.type n from r); rfl

section
variable {P : Program} {w : World} {H H' : Hp} {h h' : Heap} {a C dx : Addr} {fs fs' : List (Str × V)}
theorem ins_get (hok : HOk P w H h) (e : H a = some (.ins C dx fs)) : ∃ mA, ObjM h a dx C mA ∧ (∀ f, RelO (fs.lookup f) (mA f)) ∧ PySem.Within mA (fs.map (·.1)) ∧ fs.length ≤ 1000 ∧ H dx = some (.own a) := by
  obtain ⟨d, z, ne, ob, mA, n, r, q⟩ := (show ObjOk P w H h a (.ins C dx fs) from hok a _ e)
  exact ⟨mA, ⟨ob, n, ne⟩, r, q, z, d⟩
end

structure Cls (K : PySem.W.Frag) (C : Addr) : Prop where
  pg : PySem.W.plainGet K C Str.empty = true
  hd : PySem.W.hasDictIn K C = true
  po : PySem.W.plainOver K C = true
  sa : PySem.W.findIn K (.ref C) "__setattr__" = some (some (.builtin "object.__setattr__"))
theorem Cls.get {K : PySem.W.Frag} {C : Addr} (c : Cls K C) (f : Str) : PySem.W.plainGet K C f = true := c.pg
/-- no class of it has the name -/
noncomputable def NoAttr (K : PySem.W.Frag) (C : Addr) (f : Str) : Prop := PySem.W.findIn K (.ref C) f = some none
theorem NoAttr.taker {K : PySem.W.Frag} {C : Addr} {f : Str} (n : NoAttr K C f) : PySem.W.takerIn K C f = some none := by
  unfold PySem.W.takerIn
  rw [show PySem.W.findIn K (.ref C) f = some none from n]
  rfl
/-- a method: a plain def of the class or of one above it -/
structure Meth (K : PySem.W.Frag) (C : Addr) (m : Str) (f : Addr) : Prop where
  at_ : PySem.W.findIn K (.ref C) m = some (some (.ref f))
  fn : PySem.W.isFn K (.ref f) = true
  kp : PySem.W.keepIn K (.ref f) = true

section
variable {X : Cx} {pins : List (Addr × Obj)} {σ : St} {H : Hp} {s : Shared} {a C dx : Addr} {fs : List (Str × V)} {f : Str} {v : V} {A : Around} {E : Value → Shared → Prop}

theorem getattr_ok {b : Bool} {Q : Value → Shared → Prop} (I : Inv X pins σ H s) (e : H a = some (.ins C dx fs)) (c : Cls X.K C) (n : NoAttr X.K C f) (l : fs.lookup f = some v)
    (h : ∀ u s', Inv X pins σ H s' → RelV v u → Q u s') : wpAny (model X.prog X.w) A (getAttr (.ref a) f b) Q E s := by
  obtain ⟨mA, O, r, _, _, _⟩ := ins_get I.hok e
  obtain ⟨u, hu, ru⟩ := RelO.some_of (v := v) (o := mA f) (by rw [← l]; exact r f)
  exact get_map I.kIn O (c.get f) c.hd n hu (handed_of ru) (h u _ (I.tok _) ru)

theorem getmeth_ok {m : Str} {g : Addr} {pl : Sem Bool} {Q : Value × List Value → Shared → Prop} (I : Inv X pins σ H s) (e : H a = some (.ins C dx fs)) (c : Cls X.K C) (k : Meth X.K C m g) (l : fs.lookup m = none)
    (h : Q (.ref g, [.ref a]) s) : wpAny (model X.prog X.w) A (getMethod (.ref a) m pl) Q E s := by
  obtain ⟨mA, O, r, _, _, _⟩ := ins_get I.hok e
  have hn : mA m = none := RelO.none_of (by rw [← l]; exact r m)
  exact get_meth I.kIn O (c.get m) k.at_ k.fn hn h

theorem setattr_ok {y : V} {u : Value} {Q : Unit → Shared → Prop} (I : Inv X pins σ H s) (e : H a = some (.ins C dx fs)) (c : Cls X.K C) (n : NoAttr X.K C f) (hl : fs.length < 1000) (ry : RelV y u)
    (h : ∀ s', Inv X pins σ (upd H a (.ins C dx (putF f y fs))) s' → Q () s') : wpAny (model X.prog X.w) A (setAttr (.ref a) f u) Q E s := by
  obtain ⟨mA, O, r, wi, _, ho⟩ := ins_get I.hok e
  have hz : (fs.map (·.1)).length ≤ sizeLine := by rw [List.length_map, sizeLine_eq]; omega
  refine set_map I.kIn O c.sa c.po n.taker c.hd wi hz fun h' O' sb => h _ ?_
  have hd : ∃ o, h'.get? dx = some o := let ⟨o, _, _, e', _⟩ := O'.ns; ⟨o, e'⟩
  refine I.write (x := a) (e := dx) (by rw [e]; exact True.intro) (.inr ho) (fun b q hb z => (sb.2 b hb).trans z) hd ?_
  refine ⟨by rw [upd_ne O.ne]; exact ho, ?_, O.ne, O'.obj, _, O'.ns, fun g => ?_, fun g hg => ?_⟩
  · have := length_putF f y fs; omega
  · show RelO ((putF f y fs).lookup g) (if g = f then some u else mA g)
    rw [lookup_putF]
    by_cases q : g = f
    · rw [if_pos q, if_pos q]; exact ry
    · rw [if_neg q, if_neg q]; exact r g
  · by_cases q : g = f
    · rw [q]; exact (keys_putF f y fs).1
    · refine (keys_putF f y fs).2 g (wi g fun z => hg ?_)
      show (if g = f then some u else mA g) = none
      rw [if_neg q]; exact z

/-- a new instance, tracked, without attributes -/
theorem Inv.made (I : Inv X pins σ H s) : Inv X pins σ (upd (upd H s.heap.objs.size (.own (s.heap.objs.size + 1))) (s.heap.objs.size + 1) (.ins C s.heap.objs.size []))
    { s with heap := (s.heap.push PySem.W.emptyDict).push (PySem.W.instObj C s.heap.objs.size) } := by
  have e1 : (s.heap.push PySem.W.emptyDict).get? s.heap.objs.size = some PySem.W.emptyDict := Heap.get?_push_size s.heap rfl
  have e2 : ((s.heap.push PySem.W.emptyDict).push (PySem.W.instObj C s.heap.objs.size)).get? (s.heap.objs.size + 1) = some (PySem.W.instObj C s.heap.objs.size) := by
    have := Heap.get?_push_size (s.heap.push PySem.W.emptyDict) (o := PySem.W.instObj C s.heap.objs.size) rfl
    rwa [Heap.size_push] at this
  have e3 : (s.heap.push PySem.W.emptyDict).Ns s.heap.objs.size (fun _ => none) := ⟨PySem.W.emptyDict, #[], _, e1, rfl, (fun e he => absurd he (by simp)), fun _ => rfl⟩
  have I1 := I.laid (a := s.heap.objs.size) (o := .own (s.heap.objs.size + 1)) (h' := s.heap.push PySem.W.emptyDict) (t' := s.toks) (fun b u q => Heap.get?_push_of_some _ q) (Nat.le_refl _) ⟨_, e1⟩
  refine I1.laid (a := s.heap.objs.size + 1) (o := .ins C s.heap.objs.size []) (t' := s.toks) (fun b u q => Heap.get?_push_of_some _ q) (Nat.le_of_eq (Heap.size_push _ _)) ?_
  have ne : s.heap.objs.size ≠ s.heap.objs.size + 1 := Nat.ne_of_lt (Nat.lt_succ_self _)
  refine ⟨by rw [upd_ne ne, upd_same], Nat.zero_le _, ne, e2, fun _ => none, (Heap.Ns1.of_empty e3).at fun o q => Heap.get?_push_of_some _ q, fun _ => True.intro, fun y hy => absurd rfl hy⟩

/-- e.f where nothing but the object is asked: through attributeBase (super) and the last hold -/
theorem attr_of {prog : Program} {w : World} {env : Env} {e : Expr} {f : Str} {pos : Pos} {s : Shared} {Q : Value → Shared → Prop} (hb : attributeBase e f env (eval e env) = eval e env)
    (h : wpAny (model prog w) A (eval e env) (fun o s₁ => wpAny (model prog w) A (getAttr o f true) Q E s₁) E s) : wpAny (model prog w) A (eval (.Attribute e f pos) env) Q E s :=
  Attribute_any_ h (by rw [arm_eval_Attribute, hb])
end

/-- e.f, an attribute of the instance -/
noncomputable def tFld (K : PySem.W.Frag) (ta : TE) (f : Str) : TE := fun σ H Q => ta σ H fun x H1 => ∃ a C dx fs v, x = .ref a ∧ H1 a = some (.ins C dx fs) ∧ Cls K C ∧ NoAttr K C f ∧ fs.lookup f = some v ∧ Q v H1
/-- e.f = value -/
noncomputable def sFld (K : PySem.W.Frag) (ta tv : TE) (f : Str) : TS := fun D σ H => tv σ H fun y H1 => ta σ H1 fun x H2 => ∃ a C dx fs, x = .ref a ∧ H2 a = some (.ins C dx fs) ∧ Cls K C ∧ NoAttr K C f ∧ fs.length < 1000 ∧
  D.nx σ (upd H2 a (.ins C dx (putF f y fs)))
section
variable {X : Cx} {o e value : Expr} {f : Str} {pos pos' tpos : Pos} {ta tv : TE}
theorem pe_fld (he : PE X e ta) (hb : attributeBase e f X.env (eval e X.env) = eval e X.env) : PE X (.Attribute e f pos) (tFld X.K ta f) := by
  intro pins s σ H Q I h
  refine attr_of hb (thn (he pins s σ H _ I h) fun u s1 ⟨x, H1, I1, rx, a, C, dx, fs, v, ex, ea, c, n, l, q⟩ => ?_)
  subst ex
  obtain rfl : u = Value.ref a := rx
  exact getattr_ok I1 ea c n l fun u' s2 I2 ru => ⟨v, H1, I2, ru, q⟩
theorem ps_fld (ha : PE X o ta) (hv : PE X value tv) (hs : swapsWith value (some (.Attribute o f pos')) pos.line X.env = pure false) : PS X (.Assign [.Attribute o f pos'] value pos) (sFld X.K ta tv f) := by
  intro pins s σ H D I h
  refine plainObj_wpAny_Assign_Attribute (thn (hv pins s σ H _ I h) fun u s1 ⟨y, H1, I1, ry, q⟩ => thn (ha pins s1 σ H1 _ I1 q) fun ov s2 ⟨x, H2, I2, rx, a, C, dx, fs, ex, ea, c, n, l, q2⟩ => ?_) hs
  subst ex
  obtain rfl : ov = Value.ref a := rx
  exact setattr_ok I2 ea c n l ry fun s3 I3 => ⟨σ, _, I3, q2⟩
end

section
variable {X : Cx} {pins : List (Addr × Obj)} {σ : St} {H : Hp} {s : Shared} {A : Around} {E : Value → Shared → Prop} {Q : Value → Shared → Prop} {c : Value} {b : Bool}
end
end L2

namespace L2
open PySem PySem.Spec PyProof.Rows

structure Room (k : Nat) (A : Around) : Prop where
  hd : A.handled = none
  dp : A.depth + 3 * k + 5 < recursionLimit
  un : A.units + 16 * k + 200 < cLine
theorem Room.mono {j k : Nat} {A : Around} (r : Room k A) (h : j ≤ k) : Room j A := ⟨r.hd, by have := r.dp; omega, by have := r.un; omega⟩
theorem Room.deeper {k : Nat} {A : Around} (r : Room (k + 1) A) (env : Env) : Room k (A.deeper env) :=
  ⟨r.hd, by have := r.dp; show A.depth + 1 + 3 * k + 5 < _; omega, by have := r.un; show A.units + 3 + 16 * k + 200 < _; omega⟩
theorem make_depth {A : Around} {C : Addr} {us : List Value} {kw : List (Str × Value)} : (A.under (.builtin "type.__call__" ⟨.ref C :: us, kw⟩)).depth = A.depth + 1 := by
  first | rfl | simp [Around.under, Code.weight, Code.isCreation, Code.isGuard, Code.isCaller, Code.frames, Code.isFrame, guardIds]
theorem make_units {A : Around} {C : Addr} {us : List Value} {kw : List (Str × Value)} : (A.under (.builtin "type.__call__" ⟨.ref C :: us, kw⟩)).units = A.units + 1 := by
  first | rfl | simp [Around.under, Code.cUnits, Code.frames, Code.isFrame]
theorem Room.make {k : Nat} {A : Around} (r : Room (k + 1) A) (C : Addr) (us : List Value) (kw : List (Str × Value)) : Room k (A.under (.builtin "type.__call__" ⟨.ref C :: us, kw⟩)) :=
  ⟨r.hd, by have := r.dp; rw [make_depth]; omega, by have := r.un; rw [make_units]; omega⟩
theorem Room.depth {k : Nat} {A : Around} (r : Room k A) : A.depth < recursionLimit := by have := r.dp; omega
theorem Room.units {k : Nat} {A : Around} (r : Room k A) : A.units + 64 < cLine := by have := r.un; omega
noncomputable def tNil : TA := fun _ H Q => Q [] H
noncomputable def tCons (ta : TE) (tr : TA) : TA := fun σ H Q => ta σ H fun x H1 => tr σ H1 fun xs H2 => Q (x :: xs) H2
section
variable {X : Cx} {e : Expr} {es : List Expr} {te : TE} {t : TA} {pos : Pos}
theorem pa_nil : PA X [] tNil := fun _ _ _ _ H Q I h => Calls.spliced_nil ⟨[], H, I, .nil, h⟩
theorem pa_cons (ha : PE X e te) (hr : PA X es t) (hs : starEach (e :: es) X.env = (false, eval e X.env) :: starEach es X.env := by rfl) : PA X (e :: es) (tCons te t) := by
  intro pos pins s σ H Q I h
  rw [hs]
  show wpAny _ _ (spliced ((false, eval e X.env) :: backTo pos (starEach es X.env))) _ _ s
  refine Calls.spliced_cons (thn (ha pins s σ H _ I h) fun u s1 ⟨x, H1, I1, r1, q1⟩ => ?_)
  exact thn (hr pos pins s1 σ H1 _ I1 q1) fun us s2 ⟨xs, H2, I2, r2, q2⟩ => ⟨x :: xs, H2, I2, .cons r1 r2, q2⟩

/-- a tuple, a list of written items -/
noncomputable def tTup (t : TA) : TE := fun σ H Q => t σ H fun xs H1 => xs.length ≤ sizeLine ∧ ∀ p, H1 p = none → Q (.ref p) (upd H1 p (.tup xs))
noncomputable def tLst (t : TA) : TE := fun σ H Q => t σ H fun xs H1 => xs.length ≤ sizeLine ∧ ∀ p, H1 p = none → Q (.ref p) (upd H1 p (.lst xs))
theorem pe_tup {x1} (h : PA X es t) : PE X (.Tuple es x1 pos) (tTup t) := by
  intro pins s σ H Q I hq
  refine wpAny_Tuple_spliced (thn (h pos pins s σ H _ I hq) fun us s1 ⟨xs, H1, I1, r, z, q⟩ => ⟨by rw [← r.length]; exact z, ?_⟩)
  have hf : H1 s1.heap.objs.size = none := I1.hok.fresh (Nat.le_refl _)
  refine ⟨.ref s1.heap.objs.size, upd H1 s1.heap.objs.size (.tup xs), I1.laid (t' := s1.toks) (fun b u e => Heap.get?_push_of_some _ e) (Nat.le_refl _) ?_, rfl, q _ hf⟩
  exact ⟨z, us, r, ⟨_, Heap.get?_push_size _ rfl, rfl, _, rfl⟩⟩
theorem pe_lst (h : PA X es t) : PE X (.List es pos) (tLst t) := by
  intro pins s σ H Q I hq
  refine wpAny_List_spliced (thn (h pos pins s σ H _ I hq) fun us s1 ⟨xs, H1, I1, r, z, q⟩ => ⟨by rw [← r.length]; exact z, ?_⟩)
  have hf : H1 s1.heap.objs.size = none := I1.hok.fresh (Nat.le_refl _)
  refine ⟨.ref s1.heap.objs.size, upd H1 s1.heap.objs.size (.lst xs), I1.laid (t' := s1.toks) (fun b u e => Heap.get?_push_of_some _ e) (Nat.le_refl _) ?_, rfl, q _ hf⟩
  exact ⟨z, us, 0, r, Heap.get?_push_size _ rfl⟩
end

/-- a def's promise: the bound arguments in the parameters' order, the heap, the wanted end, the wanted exception -/
@[reducible] noncomputable def Sp := List V → Hp → VK → XK → Prop
/-- how an exception lies behind a call (file 08 gives it): the callers' frames, abstract heap and state ahead of the call, the wish, the exception, the state -/
@[reducible] noncomputable def CXT := List Env → Hp → Shared → XK → Value → Shared → Prop

/-- the state at a call -/
structure Env0 (P : Program) (w : World) (K : PySem.W.Frag) (mg : Str → Option Value) (base : Heap) (A : Around) (outer : List Env) (s : Shared) (H : Hp) : Prop where
  frames : A.frames = some outer
  mod : Mod K mg base
  bs : ∀ b o, base.get? b = some o → s.heap.get? b = some o ∧ H b = none
  bsz : base.objs.size ≤ s.heap.objs.size
  funs : s.heap.FunFrames base outer
  frf : ∀ b ∈ frs outer, H b = none
  hok : HOk P w H s.heap
  bare : AllBare s.gens
/-- a call's end -/
noncomputable def CE (outer : List Env) (P : Program) (w : World) (H : Hp) (s : Shared) (Q : VK) (u : Value) (s' : Shared) : Prop :=
  ∃ v H', s'.os = s.os ∧ AllBare s'.gens ∧ Un (frs outer) [] H H' s.heap s'.heap ∧ HOk P w H' s'.heap ∧ RelV v u ∧ Q v H'
noncomputable def CR (CX : CXT) (outer : List Env) (P : Program) (w : World) (H : Hp) (s : Shared) (Q : VK) (E : XK) (r : Result) (s' : Shared) : Prop :=
  match r with
  | .ok (.ret u) => CE outer P w H s Q u s'
  | .ok _ => False
  | .error e => CX outer H s E e s'
structure FnOk (P : Program) (w : World) (K : PySem.W.Frag) (mg : Str → Option Value) (base : Heap) (CX : CXT) (k : Nat) (f : Addr) (fd : FuncData) (ps : List Str) (sp : Sp) : Prop where
  len : ∀ vs H Q E, sp vs H Q E → vs.length = ps.length
  run : ∀ (A : Around) (outer : List Env) (s : Shared) (H : Hp) (args : Args) (us : List Value) (vs : List V) (Q : VK) (E : XK), Room k A → Env0 P w K mg base A outer s H → BindsTo s fd args (ps.zip us) → Vals vs us → sp vs H Q E →
    codeAny (model P w) A (.call (.ref f) args) (CR CX outer P w H s Q E) s
theorem Env0.make {P : Program} {w : World} {K : PySem.W.Frag} {mg : Str → Option Value} {base : Heap} {A : Around} {outer : List Env} {s : Shared} {H : Hp} (e : Env0 P w K mg base A outer s H) (C : Addr) (us : List Value) (kw : List (Str × Value)) :
    Env0 P w K mg base (A.under (.builtin "type.__call__" ⟨.ref C :: us, kw⟩)) outer s H := ⟨by first | exact e.frames | (simpa [Around.under, Code.envs, Code.isFrame, pushEnvs] using e.frames), e.mod, e.bs, e.bsz, e.funs, e.frf, e.hok, e.bare⟩
section
variable {X : Cx} {pins : List (Addr × Obj)} {σ : St} {H : Hp} {s s' : Shared}
/-- from a body: what a callee wants -/
theorem Inv.env0 (I : Inv X pins σ H s) : Env0 X.prog X.w X.K X.mg X.base X.A X.stack s H :=
  ⟨I.ok.frames, I.ok.mod, I.bs, Nat.le_trans I.ok.bsz I.sz, I.stack, I.stkFree, I.hok, I.bare⟩
/-- behind a call -/
theorem Inv.after {Q : VK} {u : Value} (I : Inv X pins σ H s) (h : CE X.stack X.prog X.w H s Q u s') : EP X pins σ Q u s' := by
  obtain ⟨v, H', os, bare, un, hok, r, q⟩ := h
  obtain ⟨hh, g, d, t, os'⟩ := s'
  obtain rfl : os' = s.os := os
  exact ⟨v, H', I.call (h' := hh) (g' := g) (d' := d) (t' := t) (ch := []) un hok bare (fun b z => absurd z (by simp)), r, q⟩
end

/-- f(..): the written arguments, then the defaults dvs; E: what is wanted of an exception -/
noncomputable def tCall (sp : Sp) (dvs : List V) (E : XK) (t : TA) : TE := fun σ H Q => t σ H fun vs H1 => sp (vs ++ dvs) H1 Q E
/-- o.m(..) of an instance of the class at C -/
noncomputable def tMeth (C : Addr) (m : Str) (sp : Sp) (dvs : List V) (E : XK) (ta : TE) (t : TA) : TE := fun σ H Q => ta σ H fun x H1 => ∃ a dx fs, x = .ref a ∧ H1 a = some (.ins C dx fs) ∧ fs.lookup m = none ∧
  t σ H1 fun vs H2 => sp (x :: (vs ++ dvs)) H2 Q E
/-- C(..): a new instance and its dict, then __init__ -/
noncomputable def tMake (C : Addr) (sp : Sp) (dvs : List V) (E : XK) (t : TA) : TE := fun σ H Q => t σ H fun vs H1 => ∀ x dx, H1 x = none → H1 dx = none → dx ≠ x →
  sp (.ref x :: (vs ++ dvs)) (upd (upd H1 dx (.own x)) x (.ins C dx [])) (fun v H2 => v = .non ∧ Q (.ref x) H2) E

/-- how the parameters are bound: us the positional arguments, kw the keywords' values by name, ds the defaults that fill up -/
noncomputable def Binds (K : PySem.W.Frag) (fd : FuncData) (ps : List Str) (ds : List Value) : Prop :=
  ∀ (s : Shared) (us : List Value), K.In s.heap → (us ++ ds).length = ps.length → BindsTo s fd ⟨us, []⟩ (ps.zip (us ++ ds))
/-- every parameter is given -/
theorem Binds.all {K : PySem.W.Frag} {fd : FuncData} {ps : List Str} (h : ∀ us : List Value, us.length = ps.length → bindArgs fd ⟨us, []⟩ = pure (ps.zip us)) : Binds K fd ps [] := fun s us _ hl => by
  rw [List.append_nil] at hl ⊢
  exact .of_eq (h us hl)

/-- an exception of a callee reaches what this body wants of exceptions -/
noncomputable def Passes (CX : CXT) (X : Cx) (E : XK) : Prop := ∀ (pins : List (Addr × Obj)) (σ : St) (H : Hp) (s : Shared) (e : Value) (s' : Shared), Inv X pins σ H s → CX X.stack H s E e s' → X.xe e s'

section
variable {X : Cx} {CX : CXT} {k : Nat} {f C : Addr} {fd : FuncData} {ps : List Str} {sp : Sp} {dvs : List V} {ds : List Value} {E : XK} {x m : Str} {p pos apos : Pos} {e o : Expr} {es : List Expr} {ta : TE} {t : TA}

/-- the callee runs -/
theorem run_fn {pins : List (Addr × Obj)} {σ : St} {H : Hp} {s : Shared} {Q : VK} {us : List Value} {vs : List V} (F : FnOk X.prog X.w X.K X.mg X.base CX k f fd ps sp) (hr : Room k X.A) (hb : Binds X.K fd ps ds) (hd : Vals dvs ds) (hx : Passes CX X E)
    (I : Inv X pins σ H s) (r : Vals vs us) (h : sp (vs ++ dvs) H Q E) : wpAny (model X.prog X.w) X.A (call (.ref f) us) (EP X pins σ Q) X.xe s := by
  have r2 : Vals (vs ++ dvs) (us ++ ds) := r.append hd
  have hl : (us ++ ds).length = ps.length := by rw [← r2.length]; exact F.len _ _ _ _ h
  refine wpAny_call (codeAny_mono (F.run X.A X.stack s H ⟨us, []⟩ (us ++ ds) (vs ++ dvs) Q E hr I.env0 (hb s us I.kIn hl) r2 h) fun r s' hq => ?_)
  cases r with
  | error e => exact hx pins σ H s e s' I hq
  | ok fl =>
    cases fl with
    | ret u => exact I.after hq
    | next => exact False.elim hq
    | brk => exact False.elim hq
    | cont => exact False.elim hq

theorem pe_call (F : FnOk X.prog X.w X.K X.mg X.base CX k f fd ps sp) (hr : Room k X.A) (hg : Gl X x) (hm : X.mg x = some (.ref f)) (hk : PySem.W.keepIn X.K (.ref f) = true) (hb : Binds X.K fd ps ds) (hd : Vals dvs ds) (hx : Passes CX X E)
    (ha : PA X (e :: es) t) (hdb : (x == ("__debug__" : Str)) = false := by decide) (he : starEach (e :: es) X.env = (false, eval e X.env) :: starEach es X.env := by rfl) (hpl : (backTo pos (starEach es X.env)).any (·.1) = false := by rfl) :
    PE X (.Call (.Name x p) (e :: es) [] pos) (tCall sp dvs E t) := by
  intro pins s σ H Q I h
  refine wpAny_Call_Name_kw (ld_glob I hg hm ?_ hdb)
  refine PySem.W.callWith_K (h₀ := X.base) I.ok.mod.kin hk (thn (ha pos pins s σ H _ I h) fun us s1 ⟨vs, H1, I1, r, q⟩ => ⟨I1.kIn, ?_⟩) he hpl
  exact run_fn F hr hb hd hx I1 r q
/-- o.m(e, ..) -/
theorem pe_meth {pl : Sem Bool} (he : PE X o ta) (c : Cls X.K C) (hm : Meth X.K C m f) (F : FnOk X.prog X.w X.K X.mg X.base CX k f fd ps sp) (hr : Room k X.A) (hb : Binds X.K fd ps ds) (hd : Vals dvs ds) (hx : Passes CX X E) (ha : PA X (e :: es) t)
    (hst : starEach (e :: es) X.env = (false, eval e X.env) :: starEach es X.env := by rfl) (hpl : (backTo pos (starEach es X.env)).any (·.1) = false := by rfl)
    (ht : eval (.Call (.Attribute o m apos) (e :: es) [] pos) X.env = (do
      let ov ← eval o X.env
      standAt apos.atName
      let (f, first) ← holding [ov] (getMethod ov m pl)
      callWith pos f first (backTo pos (starEach (e :: es) X.env)) (backToKw pos (keywordEach [] X.env))) := by rfl) :
    PE X (.Call (.Attribute o m apos) (e :: es) [] pos) (tMeth C m sp dvs E ta t) := by
  intro pins s σ H Q I h
  refine PySem.W.methodCall_KW (pl := pl) (thn (he pins s σ H _ I h) fun u s1 ⟨x, H1, I1, rx, a, dx, fs, ex, ea, l, q⟩ => ?_) ht
  subst ex
  obtain rfl : u = Value.ref a := rx
  refine getmeth_ok I1 ea c hm l ?_
  refine PySem.W.callWith_K (first := [.ref a]) (h₀ := X.base) I.ok.mod.kin hm.kp (thn (ha pos pins s1 σ H1 _ I1 q) fun us s2 ⟨vs, H2, I2, r, q2⟩ => ⟨I2.kIn, ?_⟩) hst hpl
  exact run_fn (us := .ref a :: us) (vs := .ref a :: vs) F hr hb hd hx I2 (.cons rfl r) q2
/-- o.m() -/
theorem pe_meth0 {pl : Sem Bool} (he : PE X o ta) (c : Cls X.K C) (hm : Meth X.K C m f) (F : FnOk X.prog X.w X.K X.mg X.base CX k f fd ps sp) (hr : Room k X.A) (hb : Binds X.K fd ps ds) (hd : Vals dvs ds) (hx : Passes CX X E)
    (ht : eval (.Call (.Attribute o m apos) [] [] pos) X.env = (do
      let ov ← eval o X.env
      standAt apos.atName
      let (f, first) ← holding [ov] (getMethod ov m pl)
      callWith pos f first (backTo pos (starEach [] X.env)) (backToKw pos (keywordEach [] X.env))) := by rfl) :
    PE X (.Call (.Attribute o m apos) [] [] pos) (tMeth C m sp dvs E ta tNil) := by
  intro pins s σ H Q I h
  refine PySem.W.methodCall_KW (pl := pl) (thn (he pins s σ H _ I h) fun u s1 ⟨x, H1, I1, rx, a, dx, fs, ex, ea, l, q⟩ => ?_) ht
  subst ex
  obtain rfl : u = Value.ref a := rx
  refine getmeth_ok I1 ea c hm l ?_
  exact PySem.W.callWith_K0 (first := [.ref a]) I1.kIn hm.kp (run_fn (us := [.ref a]) (vs := [.ref a]) F hr hb hd hx I1 (.cons rfl .nil) q)

/-- what a class must have to be made -/
structure Mk (K : PySem.W.Frag) (C f : Addr) : Prop where
  makes : PySem.W.makesIn K C = true
  init : PySem.W.findIn K (.ref C) "__init__" = some (some (.ref f))
  fn : PySem.W.isFn K (.ref f) = true
  kp : PySem.W.keepIn K (.ref C) = true

theorem run_make {pins : List (Addr × Obj)} {σ : St} {H : Hp} {s : Shared} {Q : VK} {us : List Value} {vs : List V} (M : Mk X.K C f) (F : FnOk X.prog X.w X.K X.mg X.base CX k f fd ps sp) (hr : Room (k + 1) X.A) (hb : Binds X.K fd ps ds) (hd : Vals dvs ds)
    (hx : Passes CX X E) (I : Inv X pins σ H s) (r : Vals vs us)
    (h : ∀ x dx, H x = none → H dx = none → dx ≠ x → sp (.ref x :: (vs ++ dvs)) (upd (upd H dx (.own x)) x (.ins C dx [])) (fun v H2 => v = .non ∧ Q (.ref x) H2) E) :
    wpAny (model X.prog X.w) X.A (call (.ref C) us) (EP X pins σ Q) X.xe s := by
  have hq := h (s.heap.objs.size + 1) s.heap.objs.size (I.hok.fresh (Nat.le_succ _)) (I.hok.fresh (Nat.le_refl _)) (Nat.ne_of_lt (Nat.lt_succ_self _))
  have I2 := Inv.made (C := C) I
  have r2 : Vals (V.ref (s.heap.objs.size + 1) :: (vs ++ dvs)) (Value.ref (s.heap.objs.size + 1) :: (us ++ ds)) := .cons rfl (r.append hd)
  have hl : (Value.ref (s.heap.objs.size + 1) :: us ++ ds).length = ps.length := by
    have e := r2.length
    rw [F.len _ _ _ _ hq] at e
    exact e.symm
  refine wpAny_call (make_map (f := f) I.kIn M.makes M.init (beq_iff_eq.mp M.fn) (codeAny_mono (F.run _ X.stack _ _ ⟨Value.ref (s.heap.objs.size + 1) :: us, []⟩ (Value.ref (s.heap.objs.size + 1) :: (us ++ ds)) _ _ E (hr.make C us [])
    (I2.env0.make C us []) (hb _ (Value.ref (s.heap.objs.size + 1) :: us) I2.kIn hl) r2 hq) fun r s' hq' => ?_))
  cases r with
  | error e => exact hx pins σ _ _ e s' I2 hq'
  | ok fl =>
    cases fl with
    | ret u =>
      obtain ⟨v, H', I3, rv, ev, q3⟩ := I2.after hq'
      subst ev
      exact ⟨rv, ⟨V.ref (s.heap.objs.size + 1), H', I3, rfl, q3⟩⟩
    | next => exact False.elim hq'
    | brk => exact False.elim hq'
    | cont => exact False.elim hq'
theorem pe_make (M : Mk X.K C f) (F : FnOk X.prog X.w X.K X.mg X.base CX k f fd ps sp) (hr : Room (k + 1) X.A) (hg : Gl X x) (hm : X.mg x = some (.ref C)) (hb : Binds X.K fd ps ds) (hd : Vals dvs ds) (hx : Passes CX X E)
    (ha : PA X (e :: es) t) (hdb : (x == ("__debug__" : Str)) = false := by decide) (he : starEach (e :: es) X.env = (false, eval e X.env) :: starEach es X.env := by rfl) (hpl : (backTo pos (starEach es X.env)).any (·.1) = false := by rfl) :
    PE X (.Call (.Name x p) (e :: es) [] pos) (tMake C sp dvs E t) := by
  intro pins s σ H Q I h
  refine wpAny_Call_Name_kw (ld_glob I hg hm ?_ hdb)
  refine PySem.W.callWith_K (h₀ := X.base) I.ok.mod.kin M.kp (thn (ha pos pins s σ H _ I h) fun us s1 ⟨vs, H1, I1, r, q⟩ => ⟨I1.kIn, ?_⟩) he hpl
  exact run_make M F hr hb hd hx I1 r q
theorem pe_make0 (M : Mk X.K C f) (F : FnOk X.prog X.w X.K X.mg X.base CX k f fd ps sp) (hr : Room (k + 1) X.A) (hg : Gl X x) (hm : X.mg x = some (.ref C)) (hb : Binds X.K fd ps ds) (hd : Vals dvs ds) (hx : Passes CX X E)
    (hdb : (x == ("__debug__" : Str)) = false := by decide) : PE X (.Call (.Name x p) [] [] pos) (tMake C sp dvs E tNil) := by
  intro pins s σ H Q I h
  refine wpAny_Call_Name_kw (ld_glob I hg hm ?_ hdb)
  exact PySem.W.callWith_K0 I.kIn M.kp (run_make (us := []) M F hr hb hd hx I .nil h)
end

section
variable {X : Cx} {CX : CXT} {k : Nat} {f C : Addr} {fd : FuncData} {ps ks : List Str} {sp : Sp} {E : XK} {x m : Str} {p pos apos kpos : Pos} {e o : Expr} {es : List Expr} {kws : List Keyword} {te ta : TE} {t tk : TA} {nm : Option Str}
variable {g : List Value → List Value → List Value} {gV : List V → List V → List V}
end

/-- names: the parameters first -/
structure FnScope (N P : List Str) (sc : Scope) : Prop where
  kind : sc.kind = .function
  co : sc.isCoroutine = false
  gen : sc.isGenerator = false
  nd : N.Nodup
  pre : N.take P.length = P
  par : ∀ x ∈ P, sc.names.lookup x = some .local ∨ sc.names.lookup x = some .cell
  nofree : ∀ y ∈ sc.names, y.2 ≠ .free

theorem bindL_out {kindOf : Str → Option NameKind} {x : Str} : ∀ {binds : List (Str × Value)} {m : Str → Option Value}, (∀ v, (x, v) ∉ binds) → bindL kindOf binds m x = m x
  | [], _, _ => rfl
  | (n, v) :: r, m, h => by
    unfold bindL
    rw [bindL_out fun w hw => h w (List.mem_cons_of_mem _ hw)]
    split
    · have : x ≠ n := by rintro rfl; exact h v List.mem_cons_self
      simp [this]
    · rfl
theorem bindC_out {kindOf : Str → Option NameKind} {x : Str} : ∀ {binds : List (Str × Value)} {m : Str → Option Value}, (∀ v, (x, v) ∉ binds) → bindC kindOf binds m x = m x
  | [], _, _ => rfl
  | (n, v) :: r, m, h => by
    unfold bindC
    rw [bindC_out fun w hw => h w (List.mem_cons_of_mem _ hw)]
    split
    · rfl
    · have : x ≠ n := by rintro rfl; exact h v List.mem_cons_self
      simp [this]
theorem bindL_get {kindOf : Str → Option NameKind} {x : Str} {v : Value} : ∀ {P : List Str} {vs : List Value} {i : Nat} {m : Str → Option Value}, P.Nodup → P[i]? = some x → vs[i]? = some v → kindOf x = some .local →
    bindL kindOf (P.zip vs) m x = some v
  | [], _, _, _, _, h, _, _ => by simp at h
  | _ :: _, [], _, _, _, _, h, _ => by simp at h
  | p :: P, w :: vs, 0, m, nd, h1, h2, hk => by
    simp at h1 h2; subst h1; subst h2
    show bindL kindOf ((p, w) :: P.zip vs) m p = _
    unfold bindL
    rw [bindL_out fun v hv => (List.nodup_cons.mp nd).1 (List.of_mem_zip hv).1, if_pos hk]
    simp
  | p :: P, w :: vs, i + 1, m, nd, h1, h2, hk => by
    show bindL kindOf ((p, w) :: P.zip vs) m x = _
    unfold bindL
    exact bindL_get (i := i) (List.nodup_cons.mp nd).2 (by simpa using h1) (by simpa using h2) hk
theorem bindC_get {kindOf : Str → Option NameKind} {x : Str} {v : Value} : ∀ {P : List Str} {vs : List Value} {i : Nat} {m : Str → Option Value}, P.Nodup → P[i]? = some x → vs[i]? = some v → kindOf x ≠ some .local →
    bindC kindOf (P.zip vs) m x = some v
  | [], _, _, _, _, h, _, _ => by simp at h
  | _ :: _, [], _, _, _, _, h, _ => by simp at h
  | p :: P, w :: vs, 0, m, nd, h1, h2, hk => by
    simp at h1 h2; subst h1; subst h2
    show bindC kindOf ((p, w) :: P.zip vs) m p = _
    unfold bindC
    rw [bindC_out fun v hv => (List.nodup_cons.mp nd).1 (List.of_mem_zip hv).1, if_neg hk]
    simp
  | p :: P, w :: vs, i + 1, m, nd, h1, h2, hk => by
    show bindC kindOf ((p, w) :: P.zip vs) m x = _
    unfold bindC
    exact bindC_get (i := i) (List.nodup_cons.mp nd).2 (by simpa using h1) (by simpa using h2) hk

/-- the names' values at the entry -/
noncomputable def start (N : List Str) (vs : List V) : St := vs.map some ++ List.replicate (N.length - vs.length) none

/-- the context of a def's body, at its entry; an exception leaves the frame, then lies as CX says -/
noncomputable def cxOf (CX : CXT) (P : Program) (w : World) (K : PySem.W.Frag) (mg : Str → Option Value) (base : Heap) (N : List Str) (qual : Str) (scope : Scope) (f : Addr) (cd : Value) (A : Around) (outer : List Env) (s : Shared) (H : Hp) (E : XK) : Cx where
  prog := P
  w := w
  K := K
  mg := mg
  base := base
  A := A.deeper (envOfC qual scope s.heap.objs.size f cd)
  N := N
  s_0 := s
  H_0 := H
  env := envOfC qual scope s.heap.objs.size f cd
  outer := outer
  stack := envOfC qual scope s.heap.objs.size f cd :: outer
  ex := []
  calm := true
  fn := fun _ => true
  pn := []
  xe := fun e s' => wpAny (model P w) (A.deeper (envOfC qual scope s.heap.objs.size f cd)) (leaving (envOfC qual scope s.heap.objs.size f cd) e) (fun _ s'' => CX outer H s E e s'') (fun e' s'' => CX outer H s E e' s'') s'

theorem cell_has {sc : Scope} {n : Nat} {x : Str} (h : sc.names.lookup x = some .cell) : ∃ c, (cellsFrom n sc.names []).lookup x = some c := by
  have q := PySem.W.cellsFrom_some sc.names n [] (.inl h)
  exact Option.isSome_iff_exists.mp q

theorem inv_start {CX : CXT} {P : Program} {w : World} {K : PySem.W.Frag} {mg : Str → Option Value} {base : Heap} {N ps : List Str} {qual : Str} {scope : Scope} {f : Addr} {cd : Value} {A : Around} {outer : List Env} {s s1 : Shared} {H : Hp} {E : XK} {us : List Value} {vs : List V}
    (S : FnScope N ps scope) (hd : A.handled = none) (e0 : Env0 P w K mg base A outer s H) (hl : vs.length = ps.length) (r : Vals vs us)
    (x : InCallC s s.heap.objs.size (bindL (envOfC qual scope s.heap.objs.size f cd).kindOf (ps.zip us) fun _ => none) (cellsFrom (s.heap.objs.size + 1) scope.names []) (bindC (envOfC qual scope s.heap.objs.size f cd).kindOf (ps.zip us) fun _ => none) s1) :
    Inv (cxOf CX P w K mg base N qual scope f cd A outer s H E) [] (start N vs) H s1 := by
  have hpl : ps.length ≤ N.length := by have := congrArg List.length S.pre; rw [List.length_take] at this; omega
  obtain ⟨h1, tk, rfl, hk⟩ := x.done
  have noA : ∀ b : Addr, b ∉ (cxOf CX P w K mg base N qual scope f cd A outer s H E).ex := fun b z => absurd (show b ∈ ([] : List Addr) from z) (by simp)
  refine ⟨⟨e0.mod, S.kind, rfl, rfl, Nat.le_refl _, fun y z c h1 h2 => ?_, fun y hy => ?_, fun y c _ h => ?_, fun _ => hd, Around.frames_deeper e0.frames, .inr ⟨rfl, rfl⟩, fun b z => absurd z (noA b), e0.bs, e0.bsz, fun b _ _ => noA b, fun b z => absurd z (noA b), e0.funs, e0.frf⟩,
    rfl, e0.bare, Un.kept hk, ⟨_, x.toInCall.ns, fun i y v h1 h2 h3 => ?_⟩, fun y c h => ⟨_, x.cell y c h⟩, e0.hok.fresh (Nat.le_refl _), fun y c h => ?_, fun p hp => absurd (show p ∈ ([] : List (Addr × Obj)) from hp) (by simp), e0.hok.kept hk, ?_⟩
  · exact name_of_addr x.apart (PySem.mem_of_lookup h1) (PySem.mem_of_lookup h2)
  · have hy : scope.names.lookup y = some .cell ∨ scope.names.lookup y = some .free := hy
    rcases hy with hy | hy
    · exact cell_has hy
    · exact absurd rfl (S.nofree _ (PySem.mem_of_lookup hy))
  · exact Nat.le_of_lt (x.above y c (PySem.mem_of_lookup h))
  · have hi : i < vs.length := by
      unfold start at h2
      by_cases hi : i < vs.length
      · exact hi
      · rw [List.getElem?_append_right (by simpa using hi)] at h2
        rw [List.getElem?_replicate] at h2
        split at h2 <;> cases h2
    have ha : vs[i]? = some v := by
      unfold start at h2
      rw [List.getElem?_append_left (by simpa using hi), List.getElem?_map] at h2
      cases e : vs[i]? with
      | none => rw [e] at h2; cases h2
      | some a => rw [e] at h2; cases h2; rfl
    obtain ⟨u, hu, rv⟩ := r.get ha
    have hp : ps[i]? = some y := by
      rw [← S.pre, List.getElem?_take_of_lt (by omega)]; exact h1
    have ndP : ps.Nodup := by rw [← S.pre]; exact S.nd.sublist (List.take_sublist _ _)
    refine ⟨u, rv, ?_⟩
    rcases S.par y (List.mem_of_getElem? hp) with k | k
    · exact .inl ⟨k, bindL_get ndP hp hu k⟩
    · obtain ⟨c, e⟩ := cell_has (n := s.heap.objs.size + 1) k
      refine .inr ⟨.inl k, c, e, ?_⟩
      have q := x.cell y c e
      rw [bindC_get ndP hp hu (by show scope.names.lookup y ≠ _; rw [k]; decide)] at q
      exact q
  · exact e0.hok.fresh (Nat.le_of_lt (x.above y c (PySem.mem_of_lookup h)))
  · unfold start
    show _ = N.length
    rw [List.length_append, List.length_map, List.length_replicate]
    omega

/-- THE RULE: a def (or a method) of the text, by its body. The body's reading t is chosen for each entry; it is run at the parameters' values -/
theorem fn_of {CX : CXT} {P : Program} {w : World} {K : PySem.W.Frag} {mg : Str → Option Value} {base : Heap} {k : Nat} {f : Addr} {name qual : Str} {params : Arguments} {body : List Stmt} {scope : Scope} {dV kV doc pm cdv ct oc : Value} {an od : Option Addr}
    {osl : Array (Option Value)} {N ps : List Str} {sp : Sp} (lk : K.lookup f = some ⟨oc, od, .func (PySem.W.fnOf name qual params body scope dV kV doc pm an cdv ct), osl⟩) (hcd : PySem.W.codeIn K cdv qual = true) (S : FnScope N ps scope)
    (len : ∀ vs H Q E, sp vs H Q E → vs.length = ps.length)
    (hbody : ∀ (A : Around) (outer : List Env) (s : Shared) (H : Hp) (vs : List V) (Q : VK) (E : XK), Room k (A.deeper (envOfC qual scope s.heap.objs.size f cdv)) → sp vs H Q E →
      ∃ t, PSs (cxOf CX P w K mg base N qual scope f cdv A outer s H E) body t ∧ t { nx := fun _ H' => Q .non H', rt := Q } (start N vs) H) :
    FnOk P w K mg base CX (k + 1) f (PySem.W.fnOf name qual params body scope dV kV doc pm an cdv ct) ps sp := by
  refine ⟨len, fun A outer s H args us vs Q E hr e0 hb r hsp => ?_⟩
  have hl := len _ _ _ _ hsp
  have KX : K.In s.heap := e0.mod.kin.keeps fun b o e => (e0.bs b o e).1
  have lim : s.heap.NoLimit := e0.mod.nolimit.keeps fun b o e => (e0.bs b o e).1
  have hkind : ∀ y ∈ ps.zip us, scope.names.lookup y.1 = some .local ∨ (scope.names.lookup y.1 = some .cell ∧ ((cellsFrom (s.heap.objs.size + 1) scope.names []).lookup y.1).isSome = true) := fun ⟨n, v⟩ hy => by
    rcases S.par n (List.of_mem_zip hy).1 with q | q
    · exact .inl q
    · exact .inr ⟨q, PySem.W.cellsFrom_some _ _ _ (.inl q)⟩
  refine codeAny_call_function hr.depth (KX _ _ lk) rfl S.co S.gen rfl (PySem.W.codeRec_of KX hcd) (hb _ _ _ _ ?_)
  refine wpAny_newFunctionEnv_cells S.kind hkind fun env he s1 x => ?_
  subst he
  refine ⟨lim.keeps x.toInCall.keep, codeAny_func ?_⟩
  obtain ⟨t, ht, hq⟩ := hbody A outer s H vs Q E (hr.deeper _) hsp
  have I : Inv (cxOf CX P w K mg base N qual scope f cdv A outer s H E) [] (start N vs) H s1 := inv_start S hr.hd e0 hl r x
  refine wpAny_mono (ht [] s1 (start N vs) H _ I hq) (fun fl s' hs => ?_) fun e s' hs => hs
  have fin : ∀ {σ' : St} {H' : Hp} {v : V} {u : Value}, Inv (cxOf CX P w K mg base N qual scope f cdv A outer s H E) [] σ' H' s' → RelV v u → Q v H' → CE outer P w H s Q u s' :=
    fun {σ' H' v u} J rv q => ⟨v, H', J.os, J.bare, J.base, J.hok, rv, q⟩
  cases fl with
  | ret u =>
    obtain ⟨v, σ', H', J, rv, q⟩ := hs
    exact fin J rv q
  | next =>
    obtain ⟨σ', H', J, q⟩ := hs
    exact fin (v := V.non) (u := Value.none) J rfl q
  | brk =>
    obtain ⟨_, _, _, q⟩ := hs
    exact False.elim q
  | cont =>
    obtain ⟨_, _, _, q⟩ := hs
    exact False.elim q
end L2

namespace L2
open PySem PySem.Spec PyProof.Rows
section
variable {X : Cx} {x : Str} {p pos : Pos} {e : Expr} {es : List Expr} {t : TA} {id T : String} {r : List V → Hp → VK → Prop}

noncomputable def tCB (r : List V → Hp → VK → Prop) (t : TA) : TE := fun σ H Q => t σ H fun vs H1 => r vs H1 Q
/-- f(e, ..), f a built-in function -/
theorem pe_callB (hc : CallR X (.builtin id) r) (hg : Gl X x) (hm : X.mg x = none) (hv : bootBuiltins x = some (.builtin id)) (ha : PA X (e :: es) t) (hn : x ≠ "__name__" := by decide) (hdb : (x == ("__debug__" : Str)) = false := by decide)
    (he : starEach (e :: es) X.env = (false, eval e X.env) :: starEach es X.env := by rfl) (hpl : (backTo pos (starEach es X.env)).any (·.1) = false := by rfl) : PE X (.Call (.Name x p) (e :: es) [] pos) (tCB r t) := by
  intro pins s σ H Q I h
  refine wpAny_Call_Name_kw (ld_blt I hg hm hv ?_ hn hdb)
  exact PyProof.Rows.callWith_builtin1 (thn (ha pos pins s σ H _ I h) fun us s1 ⟨vs, H1, I1, r1, q1⟩ => hc pins s1 σ H1 vs us Q I1 r1 q1) he hpl
/-- T(e, ..), T a built-in type -/
theorem pe_callTy (hc : CallR X (.type T) r) (hg : Gl X x) (hm : X.mg x = none) (hv : bootBuiltins x = some (.type T)) (ha : PA X (e :: es) t) (hn : x ≠ "__name__" := by decide) (hdb : (x == ("__debug__" : Str)) = false := by decide)
    (he : starEach (e :: es) X.env = (false, eval e X.env) :: starEach es X.env := by rfl) (hpl : (backTo pos (starEach es X.env)).any (·.1) = false := by rfl) : PE X (.Call (.Name x p) (e :: es) [] pos) (tCB r t) := by
  intro pins s σ H Q I h
  refine wpAny_Call_Name_kw (ld_blt I hg hm hv ?_ hn hdb)
  exact PyProof.Rows.callWith_type1 (thn (ha pos pins s σ H _ I h) fun us s1 ⟨vs, H1, I1, r1, q1⟩ => hc pins s1 σ H1 vs us Q I1 r1 q1) he hpl
end
end L2

namespace HT
open PySem PyProof.Rows

section
open PySem.SeqAt
open PySem.AutoSeq1 (wpAny_loadPart')
open PySem.MeetsSeq PySem.MeetsSeq2 PySem.MeetsSeq3

end

section
variable {prog : Program} {w : World} {A : Around} {E : Value → Shared → Prop} {s : Shared}

/-- a slice's bound as a place among n (d where it is left out) -/
noncomputable def sIx (n d : Nat) : Option Int → Nat
  | none => d
  | some v => if v < 0 then (v + (n : Int)).toNat else min v.toNat n
theorem sIx_none (n d : Nat) : sIx n d none = d := rfl
theorem sIx_nat (n d k : Nat) : sIx n d (some (k : Int)) = min k n := by
  show (if (k : Int) < 0 then ((k : Int) + (n : Int)).toNat else min (k : Int).toNat n) = min k n
  rw [if_neg (by omega), Int.toNat_natCast]
end
end HT

namespace L2
open PySem PySem.Spec PyProof.Rows

@[reducible] noncomputable def TO := St → Hp → (Option Int → Hp → Prop) → Prop
/-- a slice's part (left out, or an int) -/
noncomputable def PO (X : Cx) (e : Option Expr) (t : TO) : Prop :=
  ∀ (pins : List (Addr × Obj)) (s : Shared) (σ : St) (H : Hp) (Q : Option Int → Hp → Prop), Inv X pins σ H s → t σ H Q →
    wpAny (model X.prog X.w) X.A (evalPart e X.env) (fun u s' => ∃ o H', Inv X pins σ H' s' ∧ IsPart u o ∧ Q o H') X.xe s
noncomputable def tNoPart : TO := fun _ H Q => Q none H
noncomputable def tPart (t : TE) : TO := fun σ H Q => t σ H fun x H1 => ∃ i, x = .int i ∧ Q (some i) H1

section
variable {X : Cx} {e : Expr} {te : TE} {lo hi : Option Expr} {tl th : TO} {pos p2 : Pos}

theorem po_none : PO X none tNoPart := by
  intro pins s σ H Q I h
  rw [evalPart_none]
  exact wpAny_pure ⟨none, H, I, .none, h⟩
theorem po_some (h : PE X e te) : PO X (some e) (tPart te) := by
  intro pins s σ H Q I hw
  rw [evalPart_some]
  refine thn (h pins s σ H _ I hw) fun u s1 ⟨x, H1, I1, r1, q1⟩ => ?_
  obtain ⟨i, rfl, q⟩ := q1
  obtain ⟨t, rfl⟩ := r1
  exact ⟨some i, H1, I1, .int i t, q⟩

/-- what a slice of a value is, by values: the slice object stands at sl -/
noncomputable def SlR (X : Cx) (r : V → Option Int → Option Int → Hp → VK → Prop) : Prop :=
  ∀ (pins : List (Addr × Obj)) (s : Shared) (σ : St) (H : Hp) (x : V) (v vl vu : Value) (lo hi : Option Int) (sl : Addr) (Q : VK), Inv X pins σ H s → RelV x v → s.heap.IsSliceOf sl vl vu .none → IsPart vl lo → IsPart vu hi → r x lo hi H Q →
    ∃ T id, typeLookup (.type T) "__getitem__" = pure (some (.builtin id)) ∧ s.TypeIs v T ∧ wpAny (model X.prog X.w) X.A (getItem v (.ref sl)) (EP X pins σ Q) X.xe s
noncomputable def tSl (r : V → Option Int → Option Int → Hp → VK → Prop) (te : TE) (tl th : TO) : TE := fun σ H Q => te σ H fun x H1 => tl σ H1 fun l H2 => th σ H2 fun u H3 => r x l u H3 Q
/-- a[lo:hi], any a -/
theorem pe_slice {r : V → Option Int → Option Int → Hp → VK → Prop} (hr : SlR X r) (he : PE X e te) (hl : PO X lo tl) (hu : PO X hi th) : PE X (.Subscript e (.Slice lo hi none p2) pos) (tSl r te tl th) := by
  intro pins s σ H Q I h
  refine Subscript_ (thn (he pins s σ H _ I h) fun v s1 ⟨x, H1, I1, r1, q1⟩ => ?_)
  refine wpAny_Slice (thn (hl pins s1 σ H1 _ I1 q1) fun vl s2 ⟨l, H2, I2, pl, q2⟩ => thn (hu pins s2 σ H2 _ I2 q2) fun vu s3 ⟨u, H3, I3, pu, q3⟩ => ?_)
  rw [evalPart_none]
  refine wpAny_pure ?_
  have I4 : Inv X pins σ H3 { s3 with heap := s3.heap.push { cls := .type "slice", data := .fields #[vl, vu, .none] } } := I3.kept (t' := s3.toks) fun b ob q => Heap.get?_push_of_some _ q
  obtain ⟨T, id, hT, ht, hg⟩ := hr pins { s3 with heap := s3.heap.push { cls := .type "slice", data := .fields #[vl, vu, .none] } } σ H3 x v vl vu l u s3.heap.objs.size Q I4 r1 (Heap.IsSliceOf.new ..) pl pu q3
  show wpAny (model X.prog X.w) X.A (subscriptTail e (.Slice lo hi none p2) v (.ref s3.heap.objs.size)) (EP X pins σ Q) X.xe { s3 with heap := s3.heap.push { cls := .type "slice", data := .fields #[vl, vu, .none] } }
  exact tail_any (ops := [.ref s3.heap.objs.size, v]) ht hT hg (by with_unfolding_all rfl)

/-- the items of xs[lo:hi] -/
noncomputable def cutV (xs : List V) (lo hi : Option Int) : List V := (xs.drop (HT.sIx xs.length 0 lo)).take (HT.sIx xs.length xs.length hi - HT.sIx xs.length 0 lo)
theorem cutV_length (xs : List V) (lo hi : Option Int) : (cutV xs lo hi).length ≤ xs.length := by
  unfold cutV
  rw [List.length_take, List.length_drop]
  omega
end
end L2

namespace L2
open PySem PySem.Spec PyProof.Rows

/-- the place that an index of any sign means -/
noncomputable def ixN (n : Nat) (i : Int) : Option Nat := if 0 ≤ i then (if i < n then some i.toNat else none) else if -(n : Int) ≤ i then some (i + n).toNat else none
noncomputable def atI {α : Type} (xs : List α) (i : Int) : Option α := (ixN xs.length i).bind fun j => xs[j]?
theorem ixN_seq {n : Nat} {i : Int} {j : Nat} (h : ixN n i = some j) : seqIndex? i n = some j ∧ j < n ∧ -(n : Int) ≤ i ∧ i < n := by
  unfold ixN at h
  by_cases h0 : 0 ≤ i
  · rw [if_pos h0] at h
    by_cases h1 : i < n
    · rw [if_pos h1] at h
      have e : i.toNat = j := Option.some.inj h
      exact ⟨by rw [seqIndex_of h0 h1, e], by omega, by omega, h1⟩
    · rw [if_neg h1] at h; cases h
  · rw [if_neg h0] at h
    by_cases h1 : -(n : Int) ≤ i
    · rw [if_pos h1] at h
      have e : (i + n).toNat = j := Option.some.inj h
      exact ⟨by rw [seqIndex_neg (by omega) h1, e], by omega, h1, by omega⟩
    · rw [if_neg h1] at h; cases h
theorem atI_get {α : Type} {xs : List α} {i : Int} {v : α} (h : atI xs i = some v) : ∃ j, seqIndex? i xs.length = some j ∧ xs[j]? = some v ∧ j < xs.length ∧ -(xs.length : Int) ≤ i ∧ i < xs.length := by
  unfold atI at h
  cases e : ixN xs.length i with
  | none => rw [e] at h; cases h
  | some j =>
    rw [e] at h
    obtain ⟨h1, h2, h3, h4⟩ := ixN_seq e
    exact ⟨j, h1, h, h2, h3, h4⟩
theorem atI_nat {α : Type} {xs : List α} {j : Nat} {v : α} (h : xs[j]? = some v) : atI xs (j : Int) = some v := by
  have hj : j < xs.length := (List.getElem?_eq_some_iff.mp h).1
  have e : ixN xs.length (j : Int) = some j := by
    unfold ixN
    rw [if_pos (by omega), if_pos (by omega)]; simp
  unfold atI; rw [e]; exact h
/-- what stands as an index of a plain subscript -/
noncomputable def PlainIx (b : Expr) : Prop := ∀ o i, subscripted b false o i = operate [o, i] (getItem o i)
/-- a subscript by values -/
noncomputable def IxR (X : Cx) (r : R2) : Prop :=
  ∀ (value slice : Expr) (pins : List (Addr × Obj)) (s : Shared) (σ : St) (H : Hp) (x y : V) (v u : Value) (Q : VK), Inv X pins σ H s → RelV x v → RelV y u → r x y H Q →
    subscripted slice false v u = operate [v, u] (getItem v u) → wpAny (model X.prog X.w) X.A (subscriptTail value slice v u) (EP X pins σ Q) X.xe s
/-- a call of a builtin's method by values: the receiver, the arguments -/
noncomputable def MtR (X : Cx) (id : String) (r : V → List V → Hp → VK → Prop) : Prop :=
  ∀ (pins : List (Addr × Obj)) (s : Shared) (σ : St) (H : Hp) (x : V) (xs : List V) (v : Value) (us : List Value) (Q : VK), Inv X pins σ H s → RelV x v → Vals xs us → r x xs H Q →
    wpAny (model X.prog X.w) X.A (call (.builtin id) (v :: us)) (EP X pins σ Q) X.xe s
section
variable {X : Cx} {a b : Expr} {ta tb : TE} {pos : Pos}
/-- a[b] -/
theorem pe_ix {r : R2} (hr : IxR X r) (ha : PE X a ta) (hb : PE X b tb) (hs : PlainIx b) : PE X (.Subscript a b pos) (tOp r ta tb) := by
  intro pins s σ H Q I h
  exact Subscript_ (binT ha hb I h fun v u s2 x y H2 I2 rx ry q => hr a b pins s2 σ H2 x y v u Q I2 rx ry q (hs _ _))

noncomputable def rIxL (K : PySem.W.Frag) : R2 := fun x y H Q => ∃ p xs i v, x = .ref p ∧ y = .int i ∧ SqL K H p xs ∧ atI xs i = some v ∧ Q v H
noncomputable def rIxT (K : PySem.W.Frag) : R2 := fun x y H Q => ∃ p xs i v, x = .ref p ∧ y = .int i ∧ SqT K H p xs ∧ atI xs i = some v ∧ Q v H
theorem ix_list : IxR X (rIxL X.K) := by
  intro value slice pins s σ H x y v u Q I rx ry h hs
  obtain ⟨p, xs, i, z, rfl, rfl, hq, he, q⟩ := h
  cases rx
  obtain ⟨t, rfl⟩ := ry
  obtain ⟨its, r, pl, hz⟩ := I.list hq
  obtain ⟨j, h1, h2, h3, h4, h5⟩ := atI_get he
  obtain ⟨w, ew, rw'⟩ := r.get h2
  have hl := r.length
  have hn := line63
  have fin : EP X pins σ Q w s := ⟨z, H, I, rw', q⟩
  by_cases h0 : 0 ≤ i
  · have hj : i.toNat = j := by
      rw [seqIndex_of h0 h5] at h1
      exact Option.some.inj h1
    exact item_listR pl.isList h0 (by omega) (by rw [hj]; simpa using ew) fin hs
  · have hj : (i + (its.toArray.size : Int)).toNat = j := by
      rw [seqIndex_neg (by omega) h4] at h1
      rw [List.size_toArray, ← hl]
      exact Option.some.inj h1
    exact subscriptTail_builtinR (x := w) pl.isList.typeIs slot_list_getitem.lookup
      (wpAny_getItem_list_neg (Q := fun r s' => r = w ∧ EP X pins σ Q r s') pl.isList (by omega) (by rw [List.size_toArray] <;> omega) (by omega) (by rw [hj]; simpa using ew) ⟨rfl, fin⟩) hs
theorem ix_tup : IxR X (rIxT X.K) := by
  intro value slice pins s σ H x y v u Q I rx ry h hs
  obtain ⟨p, xs, i, z, rfl, rfl, hq, he, q⟩ := h
  cases rx
  obtain ⟨t, rfl⟩ := ry
  obtain ⟨its, r, pl, hz⟩ := I.tuple hq
  obtain ⟨j, h1, h2, h3, h4, h5⟩ := atI_get he
  obtain ⟨w, ew, rw'⟩ := r.get h2
  have hl := r.length
  have hn := line63
  have fin : EP X pins σ Q w s := ⟨z, H, I, rw', q⟩
  exact subscriptTail_builtinR (x := w) pl.typeIs slot_tuple_getitem.lookup
    (getItem_tuple (j := j) (Q := fun r s' => r = w ∧ EP X pins σ Q r s') pl (by omega) (by omega) (by rw [List.size_toArray, ← hl]; exact h1) (by simpa using ew) ⟨rfl, fin⟩) hs
/-- the list's object behind a store -/
theorem mapSeq_set (its : List Value) (n j : Nat) (u : Value) : Obj.mapSeq (·.setIfInBounds j u) { cls := .type "list", data := .seq its.toArray n } = { cls := .type "list", data := .seq (its.set j u).toArray n } := by
  simp [Obj.mapSeq]
theorem Inv.lst {pins : List (Addr × Obj)} {σ : St} {H : Hp} {s : Shared} {p : Addr} {xs : List V} (I : Inv X pins σ H s) (h : H p = some (.lst xs)) :
    ∃ (its : List Value) (n : Nat), Vals xs its ∧ s.heap.get? p = some { cls := .type "list", data := .seq its.toArray n } ∧ xs.length ≤ sizeLine := by
  obtain ⟨z, its, n, r, e⟩ := I.hok p _ h
  exact ⟨its, n, r, e, z⟩
/-- the list at p is written by an update of its object -/
theorem Inv.lstUpd {pins : List (Addr × Obj)} {σ : St} {H : Hp} {s : Shared} {p : Addr} {xs ys : List V} {its its' : List Value} {n n' : Nat} {f : Obj → Obj} (I : Inv X pins σ H s) (h : H p = some (.lst xs))
    (ho : s.heap.get? p = some { cls := .type "list", data := .seq its.toArray n }) (hf : f { cls := .type "list", data := .seq its.toArray n } = { cls := .type "list", data := .seq its'.toArray n' }) (r : Vals ys its') (hz : ys.length ≤ sizeLine) (t : Nat) :
    Inv X pins σ (upd H p (.lst ys)) { s with heap := s.heap.update p f, toks := t } := by
  have e : (s.heap.update p f).get? p = some { cls := .type "list", data := .seq its'.toArray n' } := by
    rw [Heap.get?_update_self f ho (by rw [hf] <;> rfl), hf]
  refine I.write (x := p) (e := p) (by rw [h]; trivial) (.inl rfl) (fun b u hb q => (Heap.get?_update_other _ _ (Ne.symm hb)).trans q) ⟨_, e⟩ ?_
  exact ⟨hz, its', n', r, e⟩
noncomputable def rSetL : V → V → V → Hp → (Hp → Prop) → Prop := fun o i v H Q => ∃ p xs k j, o = .ref p ∧ i = .int k ∧ H p = some (.lst xs) ∧ ixN xs.length k = some j ∧ Q (upd H p (.lst (xs.set j v)))
theorem set_list : PSet X rSetL := by
  intro pins s σ H o i v ov iv u Q I ro ri rv h
  obtain ⟨p, xs, k, j, rfl, rfl, hp, hj, q⟩ := h
  cases ro
  obtain ⟨t, rfl⟩ := ri
  obtain ⟨its, n, r, ho, hz⟩ := I.lst hp
  obtain ⟨h1, h2, h3, h4⟩ := ixN_seq hj
  have hl := r.length
  have hn := line63
  have I' : Inv X pins σ (upd H p (.lst (xs.set j v))) { s with heap := s.heap.update p (Obj.mapSeq (·.setIfInBounds j u)) } :=
    I.lstUpd hp ho (mapSeq_set its n j u) (r.set rv j) (by rw [List.length_set]; exact hz) s.toks
  by_cases h0 : 0 ≤ k
  · have hk : k.toNat = j := by
      rw [seqIndex_of h0 h4] at h1
      exact Option.some.inj h1
    exact PySem.W.ki_setAt ho h0 (by omega) (by rw [List.size_toArray, ← hl]; exact h4) (by rw [hk]; exact ⟨_, I', q⟩)
  · have hk : (k + (its.toArray.size : Int)).toNat = j := by
      rw [seqIndex_neg (by omega) h3] at h1
      rw [List.size_toArray, ← hl]
      exact Option.some.inj h1
    exact PySem.W.ki_setBack ho (by omega) (by rw [List.size_toArray, ← hl]; exact h3) (by omega) (by rw [hk]; exact ⟨_, I', q⟩)

theorem slice_bounds (lo hi : Option Int) (n : Nat) : (sliceBounds lo hi none n).1 = ((HT.sIx n 0 lo : Nat) : Int) ∧ (sliceBounds lo hi none n).2.1 = ((HT.sIx n n hi : Nat) : Int) ∧ (sliceBounds lo hi none n).2.2 = 1 := by
  refine ⟨?_, ?_, rfl⟩
  · cases lo with
    | none => simp [sliceBounds, HT.sIx]
    | some i =>
      simp only [sliceBounds, HT.sIx, Option.getD_none, show (1 : Int) > 0 by decide, if_true]
      by_cases h : i < 0
      · simp only [h, if_true] <;> omega
      · simp only [h, if_false] <;> omega
  · cases hi with
    | none => simp [sliceBounds, HT.sIx]
    | some i =>
      simp only [sliceBounds, HT.sIx, Option.getD_none, show (1 : Int) > 0 by decide, if_true]
      by_cases h : i < 0
      · simp only [h, if_true] <;> omega
      · simp only [h, if_false] <;> omega
theorem slicePick_cut (its : List Value) (lo hi : Option Int) : slicePick its.toArray lo hi none = ((its.drop (HT.sIx its.length 0 lo)).take (HT.sIx its.length its.length hi - HT.sIx its.length 0 lo)).toArray := by
  obtain ⟨h1, h2, h3⟩ := slice_bounds lo hi its.toArray.size
  unfold slicePick
  rw [h1, h2, h3]
  simp only [sliceRange_one, pick_run, List.size_toArray] <;> rfl
/-- xs[lo:hi] of a list: a new list -/
noncomputable def rSlL (K : PySem.W.Frag) : V → Option Int → Option Int → Hp → VK → Prop := fun x lo hi H Q => ∃ a xs, x = .ref a ∧ SqL K H a xs ∧ ∀ p, H p = none → Q (.ref p) (upd H p (.lst (cutV xs lo hi)))
theorem sl_list : SlR X (rSlL X.K) := by
  intro pins s σ H x v vl vu lo hi sl Q I rx hs pl pu h
  obtain ⟨a, xs, rfl, hx, q⟩ := h
  cases rx
  obtain ⟨its, r, ht, hz⟩ := I.list hx
  have hlen := r.length
  refine ⟨"list", _, slot_list_getitem.lookup, ht.isList.typeIs, ?_⟩
  refine wpAny_getItem_list_slice ht.isList hs pl pu .none (by simp) ?_ (by rw [List.size_toArray] <;> omega)
  rw [slicePick_cut, ← hlen]
  refine ⟨.ref s.heap.objs.size, _, I.laid (t' := s.toks) (o := .lst (cutV xs lo hi)) (fun b ob q => Heap.get?_push_of_some _ q) (Nat.le_refl _) ?_, rfl, q _ (I.hok.fresh (Nat.le_refl _))⟩
  exact ⟨Nat.le_trans (cutV_length xs lo hi) hz, _, 0, (r.drop (HT.sIx xs.length 0 lo)).take (HT.sIx xs.length xs.length hi - HT.sIx xs.length 0 lo), Heap.get?_push_size _ rfl⟩

theorem call_len_seq : CallR X (.builtin "len") (fun xs H Q => ∃ p ys, xs = [.ref p] ∧ (SqL X.K H p ys ∨ SqT X.K H p ys) ∧ Q (.int ys.length) H) := by
  intro pins s σ H xs us Q I r h
  obtain ⟨p, ys, rfl, hq, q⟩ := h
  obtain ⟨u, rfl, rx⟩ := vals1 r
  cases rx
  have hn := line63
  rcases hq with hq | hq
  · obtain ⟨its, r', pl, hz⟩ := I.list hq
    have hlen := r'.length
    exact Calls.call_len_list pl.isList (by simp only [List.size_toArray] <;> omega) ⟨.int ys.length, H, I.tok _, ⟨s.toks + 1, by rw [List.size_toArray, hlen]⟩, q⟩
  · obtain ⟨its, r', pl, hz⟩ := I.tuple hq
    have hlen := r'.length
    exact len_tuple pl (by simp only [List.size_toArray] <;> omega) ⟨.int ys.length, H, I.tok _, ⟨s.toks + 1, by rw [List.size_toArray, hlen]⟩, q⟩
/-- the value is of that builtin type -/
noncomputable def tyV (K : PySem.W.Frag) (T : String) (x : V) (H : Hp) : Prop := match x with
  | .str _ => T = "str"
  | .int _ => T = "int"
  | .ref p => (T = "list" ∧ ∃ xs, SqL K H p xs) ∨ (T = "tuple" ∧ ∃ o, K.lookup p = some o ∧ o.cls = .type "tuple" ∧ o.dict = none) ∨
      (T = "dict" ∧ ((∃ kvs, H p = some (.dK kvs)) ∨ ∃ kvs, H p = some (.dT kvs))) ∨ (T = "set" ∧ ∃ S n, H p = some (.set S n))
  | _ => False
theorem tyV_is {pins : List (Addr × Obj)} {σ : St} {H : Hp} {s : Shared} {T : String} {x : V} {v : Value} (I : Inv X pins σ H s) (r : RelV x v) (ty : tyV X.K T x H) :
    s.TypeIs v T ∧ ∀ a, v = .ref a → ∃ ob, s.heap.get? a = some ob ∧ ob.dict = none := by
  cases x with
  | str z =>
    obtain ⟨t, rfl⟩ := r
    cases (show T = "str" from ty)
    exact ⟨typeIs_str s z t, fun _ e => nomatch e⟩
  | int i =>
    obtain ⟨t, rfl⟩ := r
    cases (show T = "int" from ty)
    exact ⟨typeIs_int s i t, fun _ e => nomatch e⟩
  | ref p =>
    cases r
    rcases ty with ⟨rfl, xs, hq⟩ | ⟨rfl, o, hk, hc, hd⟩ | ⟨rfl, hk⟩ | ⟨rfl, S, n, hk⟩
    · obtain ⟨its, _, pl, _⟩ := I.list hq
      refine ⟨pl.isList.typeIs, fun a e => ?_⟩
      cases e
      obtain ⟨o, n, e, c, hd, _⟩ := pl
      exact ⟨o, e, hd⟩
    · refine ⟨⟨o, I.kIn p o hk, hc⟩, fun a e => ?_⟩
      cases e
      exact ⟨o, I.kIn _ o hk, hd⟩
    · have z : ∃ o, s.heap.get? p = some o ∧ o.ExactDict := by
        rcases hk with ⟨kvs, hk⟩ | ⟨kvs, hk⟩
        · obtain ⟨_, _, _, _, o, _, _, e, ex, _⟩ := I.hok p _ hk
          exact ⟨o, e, ex⟩
        · obtain ⟨_, _, _, _, o, _, _, e, ex, _⟩ := I.hok p _ hk
          exact ⟨o, e, ex⟩
      obtain ⟨o, e, ex⟩ := z
      refine ⟨⟨o, e, ex.1⟩, fun a e2 => ?_⟩
      cases e2
      exact ⟨o, e, ex.2.1⟩
    · obtain ⟨o, _, _, _, e, ex, _⟩ := I.hok p _ hk
      refine ⟨⟨o, e, ex.1⟩, fun a e2 => ?_⟩
      cases e2
      exact ⟨o, e, ex.2.1⟩
  | _ => exact False.elim ty
noncomputable def tBM (K : PySem.W.Frag) (T : String) (r : V → List V → Hp → VK → Prop) (to : TE) (t : TA) : TE := fun σ H Q => to σ H fun x H1 => tyV K T x H1 ∧ t σ H1 fun xs H2 => r x xs H2 Q
variable {o e : Expr} {es : List Expr} {to : TE} {t : TA} {name : Str} {apos cpos : Pos} {T id : String} {r : V → List V → Hp → VK → Prop}
theorem pe_bm (pa : PlainAttrs T) (slot : Slot T name id) (hty : typeOf (.builtin id) = pure (.type "method_descriptor")) (hm : MtR X id r) (ho : PE X o to) (ha : PA X (e :: es) t)
    (hbase : attributeBase o name X.env (eval o X.env) = eval o X.env := by rfl)
    (hfew : ((backTo cpos (starEach (e :: es) X.env)).all (fun x => !x.1) && (backToKw cpos (keywordEach [] X.env)).all (fun x => x.1.isSome)
      && decide ((e :: es).length + ([] : List Keyword).length + (if ([] : List Keyword).isEmpty then 0 else 1) < 30)) = true := by rfl)
    (hline : (apos.endLine == cpos.line) = true := by rfl) (hs : starEach (e :: es) X.env = (false, eval e X.env) :: starEach es X.env := by rfl) (hplain : (backTo cpos (starEach es X.env)).any (·.1) = false := by rfl) :
    PE X (.Call (.Attribute o name apos) (e :: es) [] cpos) (tBM X.K T r to t) := by
  intro pins s σ H Q I h
  refine wpAny_Call_method_late hbase hfew hline rfl (thn (ho pins s σ H _ I h) fun v s1 ⟨x, H1, I1, r1, ty, q1⟩ => ?_)
  obtain ⟨h1, h2⟩ := tyV_is I1 r1 ty
  refine ⟨T, id, pa, slot, hty, h1, h2, ?_⟩
  have hA := ha cpos pins s1 σ H1 _ I1 q1
  rw [hs] at hA ⊢
  refine Calls.callWith_builtin (by show (false || (backTo cpos (starEach es X.env)).any (·.1)) = false; rw [hplain] <;> rfl) (Calls.evalArgs_plain ?_)
  exact thn hA fun us s2 ⟨vs, H2, I2, r2, q2⟩ => hm pins s2 σ H2 x vs v us Q I2 r1 r2 q2
end
end L2

namespace L2
open PySem PySem.Spec PyProof.Rows

noncomputable def MtM (X : Cx) (id : String) (r : V → List V → Hp → VK → Prop) : Prop :=
  ∀ (pins : List (Addr × Obj)) (s : Shared) (σ : St) (H : Hp) (x : V) (xs : List V) (v : Value) (us : List Value) (Q : VK), Inv X pins σ H s → RelV x v → Vals xs us → r x xs H Q →
    wpAny (model X.prog X.w) X.A (call (.builtin id) (v :: us)) (EP X pins σ Q) X.xe s

theorem Vals.one : ∀ {x : V} {us : List Value}, Vals [x] us → ∃ u, us = [u] ∧ RelV x u
  | _, _, .cons r .nil => ⟨_, rfl, r⟩
theorem Vals.rep {xs : List V} {us : List Value} (h : Vals xs us) : ∀ k : Nat, Vals (List.replicate k xs).flatten (List.replicate k us).flatten
  | 0 => .nil
  | k + 1 => by
    rw [List.replicate_succ, List.replicate_succ, List.flatten_cons, List.flatten_cons]
    exact Vals.append h (Vals.rep h k)
theorem foldl_rep (its : List Value) : ∀ (k : Nat) (acc : List Value),
    List.foldl (fun x1 x2 => x1 ++ x2) acc.toArray (List.replicate k its.toArray) = (acc ++ (List.replicate k its).flatten).toArray
  | 0, acc => by simp
  | k + 1, acc => by
    have e : acc.toArray ++ its.toArray = (acc ++ its).toArray := by simp
    have e2 : (acc ++ its) ++ (List.replicate k its).flatten = acc ++ (List.replicate (k + 1) its).flatten := by
      rw [List.replicate_succ, List.flatten_cons, List.append_assoc]
    rw [← e2, ← foldl_rep its k (acc ++ its), ← e, List.replicate_succ, List.foldl_cons]

section
variable {X : Cx} {pins : List (Addr × Obj)} {σ : St} {H : Hp} {s : Shared} {l b : Addr} {xs ys zs : List V}

theorem Inv.lset {its its' : List Value} {n : Nat} {f : Array Value → Array Value} {t' : Nat} (I : Inv X pins σ H s) (hH : H l = some (.lst xs))
    (e : s.heap.get? l = some { cls := .type "list", data := .seq its.toArray n }) (hf : f its.toArray = its'.toArray) (hv : Vals ys its') (hz : ys.length ≤ sizeLine) :
    Inv X pins σ (upd H l (.lst ys)) { s with heap := s.heap.update l (Obj.mapSeq f), toks := t' } := by
  have q := PySem.IsL.update e f
  rw [hf] at q
  refine I.write (x := l) (e := l) (by rw [hH]; exact trivial) (.inl rfl) (fun b' u hb hu => (Heap.get?_update_other s.heap (Obj.mapSeq f) (Ne.symm hb)).trans hu) ⟨_, q⟩ ?_
  exact ⟨hz, its', _, hv, q⟩
theorem Inv.lnew {its : List Value} {t' : Nat} (I : Inv X pins σ H s) (hv : Vals ys its) (hz : ys.length ≤ sizeLine) :
    Inv X pins σ (upd H s.heap.objs.size (.lst ys)) { s with heap := s.heap.push { cls := .type "list", data := .seq its.toArray }, toks := t' } :=
  I.laid (fun _ _ q => Heap.get?_push_of_some _ q) (Nat.le_refl _) ⟨hz, its, 0, hv, Heap.get?_push_size _ rfl⟩
theorem Inv.fresh (I : Inv X pins σ H s) : H s.heap.objs.size = none := I.hok.fresh (Nat.le_refl _)
theorem Inv.lstM (I : Inv X pins σ H s) (hH : H l = some (.lst xs)) : xs.length ≤ sizeLine ∧ ∃ (its : List Value) (n : Nat), Vals xs its ∧ xs.length = its.length ∧ s.heap.get? l = some { cls := .type "list", data := .seq its.toArray n } := by
  obtain ⟨z, its, n, r, e⟩ := I.hok l _ hH
  exact ⟨z, its, n, r, r.length, e⟩

theorem notLongL {n : Nat} (h : n ≤ sizeLine) : Builtin.List.listTooLong n = false := by
  unfold Builtin.List.listTooLong
  exact decide_eq_false (by omega)
end

section
variable {X : Cx}

noncomputable def rAppend : V → List V → Hp → VK → Prop := fun x vs H Q => ∃ l xs y, x = .ref l ∧ vs = [y] ∧ H l = some (.lst xs) ∧ xs.length < sizeLine ∧ Q .non (upd H l (.lst (xs ++ [y])))
theorem mt_append : MtM X "list.append" rAppend := by
  intro pins s σ H x vs v us Q I rx rv h
  obtain ⟨l, xs, y, rfl, rfl, hH, hz, q⟩ := h
  cases rx
  obtain ⟨u, rfl, ru⟩ := rv.one
  obtain ⟨z, its, n, r, hl, e⟩ := I.lstM hH
  refine call_meets F.slot_list_append ⟨_, e, rfl⟩ F.entry_list_append (F.args_list_append_2 _ _) (PySem.list_append l its.toArray n u (by rw [List.size_toArray]; omega)) ⟨e, ?_⟩
  refine ⟨.non, _, I.lset (its' := its ++ [u]) hH e (by simp) (r.append (.cons ru .nil)) ?_, rfl, q⟩
  rw [List.length_append, List.length_singleton]
  omega

noncomputable def rExtend : V → List V → Hp → VK → Prop := fun x vs H Q => ∃ l b xs zs, x = .ref l ∧ vs = [.ref b] ∧ H l = some (.lst xs) ∧ H b = some (.lst zs) ∧ xs.length + zs.length ≤ sizeLine ∧ Q .non (upd H l (.lst (xs ++ zs)))
theorem mt_extend : MtM X "list.extend" rExtend := by
  intro pins s σ H x vs v us Q I rx rv h
  obtain ⟨l, b, xs, zs, rfl, rfl, hH, hB, hz, q⟩ := h
  cases rx
  obtain ⟨u, rfl, ru⟩ := rv.one
  cases ru
  obtain ⟨z, its, n, r, hl, e⟩ := I.lstM hH
  obtain ⟨z2, its2, n2, r2, hl2, e2⟩ := I.lstM hB
  have hsz : its.toArray.size + its2.toArray.size ≤ sizeLine := by rw [List.size_toArray, List.size_toArray]; omega
  have hlong : ¬ (!its.toArray.isEmpty && Builtin.List.listTooLong (its.toArray.size + its2.toArray.size)) = true := by
    rw [notLongL hsz, Bool.and_false]
    exact Bool.false_ne_true
  refine call_meets F.slot_list_extend ⟨_, e, rfl⟩ F.entry_list_extend (F.args_list_extend_2 _ _)
    (AutoSeq1.list_extend_list_list_0 l its.toArray n b its2.toArray n2 hlong (by rw [List.size_toArray]; omega) (by omega)) ⟨e, e2, ?_⟩
  refine ⟨.non, _, I.lset (its' := its ++ its2) hH e (by simp) (r.append r2) ?_, rfl, q⟩
  rw [List.length_append]
  omega

noncomputable def rCat : R2 := fun x y H Q => ∃ l b xs zs, x = .ref l ∧ y = .ref b ∧ H l = some (.lst xs) ∧ H b = some (.lst zs) ∧ xs.length + zs.length ≤ sizeLine ∧ ∀ p, H p = none → Q (.ref p) (upd H p (.lst (xs ++ zs)))
theorem op_cat : OpR X (binaryOp .Add) rCat := by
  intro pins s σ H x y v u Q I rx ry h
  obtain ⟨l, b, xs, zs, rfl, rfl, hH, hB, hz, q⟩ := h
  cases rx
  cases ry
  obtain ⟨z, its, n, r, hl, e⟩ := I.lstM hH
  obtain ⟨z2, its2, n2, r2, hl2, e2⟩ := I.lstM hB
  refine PySem.P.add_list e e2 ?_ (by rw [List.size_toArray, List.size_toArray]; omega)
  have ea : its.toArray ++ its2.toArray = (its ++ its2).toArray := by simp
  rw [ea]
  exact ⟨.ref _, _, I.lnew (t' := s.toks) (r.append r2) (by rw [List.length_append]; omega), rfl, q _ I.fresh⟩
/-- a list times an int (a negative one is nothing) -/
noncomputable def rRep : R2 := fun x y H Q => ∃ l k xs, x = .ref l ∧ y = .int k ∧ H l = some (.lst xs) ∧ -(2 ^ 63) ≤ k ∧ k < 2 ^ 63 ∧ xs.length * k.toNat ≤ sizeLine ∧
  ∀ p, H p = none → Q (.ref p) (upd H p (.lst (List.replicate k.toNat xs).flatten))
theorem len_rep {α : Type} (xs : List α) (k : Nat) : (List.replicate k xs).flatten.length = k * xs.length := by
  induction k with
  | zero => simp
  | succ k ih => rw [List.replicate_succ, List.flatten_cons, List.length_append, ih, Nat.succ_mul, Nat.add_comm]
theorem op_rep : OpR X (binaryOp .Mult) rRep := by
  intro pins s σ H x y v u Q I rx ry h
  obtain ⟨l, k, xs, rfl, rfl, hH, h1, h2, hz, q⟩ := h
  cases rx
  obtain ⟨t, rfl⟩ := ry
  obtain ⟨z, its, n, r, hl, e⟩ := I.lstM hH
  have hlen : its.toArray.size * k.toNat ≤ sizeLine := by rw [List.size_toArray, ← hl]; exact hz
  have hcap : ¬ its.toArray.size * k.toNat > (2 ^ 63 - 1) / 8 := by
    have : (sizeLine : Nat) ≤ (2 ^ 63 - 1) / 8 := by decide
    omega
  have hfit : ¬ (!Builtin.List.listFitsIndex k) = true := by
    rw [fitsIndex_both h1 h2]
    exact Bool.false_ne_true
  have hlong : ¬ Builtin.List.listTooLong (its.toArray.size * k.toNat) = true := by
    rw [notLongL hlen]
    exact Bool.false_ne_true
  have hnew : List.foldl (fun x1 x2 => x1 ++ x2) #[] (List.replicate (if its.toArray.isEmpty = true then 0 else k.toNat) its.toArray) = (List.replicate k.toNat its).flatten.toArray := by
    have f0 : ∀ m : Nat, List.foldl (fun x1 x2 => x1 ++ x2) #[] (List.replicate m its.toArray) = (List.replicate m its).flatten.toArray := fun m => by
      have := foldl_rep its m []
      rw [List.nil_append] at this
      exact this
    rw [f0]
    cases its with
    | nil => simp
    | cons a r' => rw [if_neg (by simp)]
  refine wpAny_binaryOp_repeat_ref (T := "list") (U := "int") (by decide) ⟨_, e, rfl⟩ (fun s' => typeIs_int s' k t) noFill_list_mul F.fills_int_mul F.slot_int_rmul repeat_list F.slot_int_index.lookup
    (call_meets F.slot_int_rmul (typeIs_int s k t) F.entry_int_rmul (F.args_int_rmul_2 _ _) (int___rmul___int_list k t l its.toArray n)
      ⟨e, rfl, ⟨_, e, rfl⟩, call_meets F.slot_list_mul ⟨_, e, rfl⟩ F.entry_list_mul (F.args_list_mul_2 _ _) (AutoListH.list___mul___list_int_3 l its.toArray n k t hfit hcap hlong) ⟨e, ?_⟩⟩)
  rw [hnew]
  exact ⟨.ref _, _, I.lnew (t' := s.toks) (r.rep k.toNat) (by rw [len_rep, Nat.mul_comm]; exact hz), rfl, q _ I.fresh⟩

end

section
variable {prog : Program} {w : World} {A : Around} {E : Value → Shared → Prop} {s : Shared}
end

section
variable {X : Cx}
end
end L2

namespace L2
open PySem PySem.Spec PyProof.Rows

theorem Vals.ints : ∀ {ns : List Int} {us : List Value}, Vals (ns.map V.int) us → IntsAre us ns
  | [], us, h => by
    rw [List.map_nil] at h
    cases h
    exact IntsAre.nil
  | n :: ns, us, h => by
    rw [List.map_cons] at h
    cases h with
    | cons r t =>
      obtain ⟨k, rfl⟩ := r
      exact IntsAre.cons n k (Vals.ints t)
theorem vals_of_ints : ∀ {us : List Value} {ns : List Int}, IntsAre us ns → Vals (ns.map V.int) us
  | _, _, .nil => by rw [List.map_nil]; exact Paired.nil
  | _, _, .cons n t h => by rw [List.map_cons]; exact Paired.cons (show RelV (V.int n) (Value.int n t) from ⟨t, rfl⟩) (vals_of_ints h)
theorem Vals.ref1 {a : Addr} {us : List Value} (r : Vals [V.ref a] us) : us = [Value.ref a] := by
  cases r with
  | cons r t =>
    cases t
    cases r
    rfl
section
variable {prog : Program} {w : World} {A : Around} {E : Value → Shared → Prop} {s : Shared} {l : Addr} {its : List Value} {ns : List Int} {Q : Value → Shared → Prop}
theorem sum_raw (hh : A.handled = none) (hl : s.heap.IsList l its.toArray) (hi : IntsAre its ns)
    (h : ∀ h' tk t', (∀ b o, s.heap.get? b = some o → h'.get? b = some o) → Q (.int ns.sum t') { s with heap := h', toks := tk }) : wpAny (model prog w) A (call (.builtin "sum") [.ref l]) Q E s := by
  obtain ⟨xs, e⟩ := hi.allInts.items
  have hn : numsOf (intItems xs).toList = ns := by rw [← e]; exact hi.numsOf
  rw [nums_intItems] at hn
  rw [e] at hl
  refine PySem.sum_intListG hh hl fun h' tk t' hk => ?_
  have := h h' tk t' hk
  rw [preSum_eq, List.take_of_length_le (by simp), hn]; exact this
end

section
variable {X : Cx}
/-- sum(xs) of a list of ints -/
noncomputable def rSum (K : PySem.W.Frag) : List V → Hp → VK → Prop := fun vs H Q => ∃ (a : Addr) (ns : List Int), vs = [V.ref a] ∧ SqL K H a (ns.map V.int) ∧ Q (.int ns.sum) H
theorem cr_sum (hc : X.calm = true) : CallR X (.builtin "sum") (rSum X.K) := by
  intro pins s σ H vs us Q I r h
  obtain ⟨a, ns, rfl, hs, q⟩ := h
  obtain ⟨its, rv, hl, _⟩ := I.list hs
  rw [Vals.ref1 r]
  exact sum_raw (I.ok.hd hc) hl.isList rv.ints fun h' tk t' hk => ⟨.int _, H, I.kept hk, ⟨_, rfl⟩, q⟩
end

section
variable {X : Cx}
end

section
variable {X : Cx}
end

theorem iter_any {prog : Program} {w : World} {A : Around} {E : Value → Shared → Prop} {s : Shared} {l : Addr} {items : Array Value} {Q : Value → Shared → Prop} (hl : s.heap.IsList l items)
    (h : ∀ s₂ : Shared, s₂ = { s with heap := s.heap.push { cls := .type "list_iterator", data := .fields #[.ref l, .int 0 0] } } →
      (s₂.heap.IsListIter s.heap.objs.size l 0 ∧ s₂.heap.IsList l items) → l ≠ s.heap.objs.size → Q (.ref s.heap.objs.size) s₂) : wpAny (model prog w) A (pyIter (.ref l)) Q E s := by
  have hlt : l < s.heap.objs.size := by obtain ⟨_, e, _⟩ := hl; exact Heap.lt_size e
  exact wpAny_pyIter_list hl (h _ rfl ⟨⟨_, Heap.get?_push_size _ rfl, rfl, rfl⟩, hl.push _⟩ (Nat.ne_of_lt hlt))
theorem any_range : ∀ bs : List Bool, (List.range bs.length).any (fun i => bs.getD i false) = bs.any id
  | [] => rfl
  | b :: bs => by
    rw [List.length_cons, List.range_succ_eq_map, List.any_cons, List.any_map, List.any_cons, ← any_range bs]
    all_goals rfl
section
variable {X : Cx}
end

section
variable {X : Cx} {pins : List (Addr × Obj)} {σ : St} {H : Hp} {s : Shared}
end
section
variable {X : Cx}
end
end L2

namespace L2
open PySem PySem.Spec PyProof.Rows
@[reducible] noncomputable def CellAt (h : Heap) (c : Addr) (v : Option Value) : Prop := h.IsCell c v
noncomputable def relS (scope sc : Scope) : Scope :=
  { scope with names := scope.names.map fun (n, k) => if (k == .free && sc.kind == .function && sc.names.lookup n == some .cell) then (n, .cell) else (n, k) }

noncomputable def cloFrom (cells : List (Str × Addr)) : List (Str × NameKind) → List (Str × Addr) → List (Str × Addr)
  | [], acc => acc
  | (n, k) :: r, acc => if k == .free then cloFrom cells r ((n, (cells.lookup n).getD 0) :: acc) else cloFrom cells r acc

theorem closure_loop (env : Env) (f : Str × NameKind → List (Str × Addr) → Sem (ForInStep (List (Str × Addr))))
    (hf : ∀ n k c, f (n, k) c = if k == .free then (do let a ← cellOf env n; pure (.yield ((n, a) :: c))) else pure (.yield c)) :
    ∀ (names : List (Str × NameKind)) (acc : List (Str × Addr)), (∀ y ∈ names, y.2 = .free → ∃ c, env.cells.lookup y.1 = some c) → forIn names acc f = pure (cloFrom env.cells names acc)
  | [], acc, _ => by rw [List.forIn_nil]; rfl
  | (n, k) :: r, acc, h => by
    rw [List.forIn_cons, hf]
    have ih := fun acc => closure_loop env f hf r acc fun y hy => h y (List.mem_cons_of_mem _ hy)
    unfold cloFrom
    by_cases hk : (k == NameKind.free) = true
    · rw [if_pos hk, if_pos hk]
      obtain ⟨c, hc⟩ := h (n, k) List.mem_cons_self (by simpa using hk)
      have e : cellOf env n = pure c := by unfold cellOf; rw [hc]
      rw [e]
      have e2 : (env.cells.lookup n).getD 0 = c := by rw [hc]; rfl
      rw [e2]
      exact ih _
    · rw [if_neg hk, if_neg hk]
      exact ih _
theorem closure_ok {scope : Scope} {env : Env} (h : ∀ y ∈ scope.names, y.2 = .free → ∃ c, env.cells.lookup y.1 = some c) : closureFor scope env = pure (cloFrom env.cells scope.names []) := by
  simp only [closureFor]
  rw [closure_loop env _ (fun n k c => rfl) scope.names [] h]
  rfl

theorem mem_lookup {α : Type} : ∀ {l : List (Str × α)} {n : Str} {c : α}, (n, c) ∈ l → ∃ c', l.lookup n = some c'
  | (k, v) :: r, n, c, h => by
    rw [List.lookup_cons]
    cases hb : n == k with
    | true => exact ⟨_, rfl⟩
    | false =>
      rcases List.mem_cons.mp h with e | h
      · cases e; simp at hb
      · exact mem_lookup h

theorem cloFrom_mem {cells : List (Str × Addr)} : ∀ {names : List (Str × NameKind)} {acc : List (Str × Addr)} {n : Str} {c : Addr}, (n, c) ∈ cloFrom cells names acc → (n, c) ∈ acc ∨ ((n, .free) ∈ names ∧ c = (cells.lookup n).getD 0)
  | [], _, _, _, h => .inl h
  | (m, k) :: r, acc, n, c, h => by
    unfold cloFrom at h
    split at h
    · rename_i hk
      have hk : k = .free := by simpa using hk
      rcases cloFrom_mem h with h | ⟨h1, h2⟩
      · rcases List.mem_cons.mp h with e | h
        · cases e; exact .inr ⟨hk ▸ List.mem_cons_self, rfl⟩
        · exact .inl h
      · exact .inr ⟨List.mem_cons_of_mem _ h1, h2⟩
    · rcases cloFrom_mem h with h | ⟨h1, h2⟩
      · exact .inl h
      · exact .inr ⟨List.mem_cons_of_mem _ h1, h2⟩
theorem cloFrom_acc {cells : List (Str × Addr)} : ∀ {names : List (Str × NameKind)} {acc : List (Str × Addr)} {p : Str × Addr}, p ∈ acc → p ∈ cloFrom cells names acc
  | [], _, _, h => h
  | (m, k) :: r, acc, p, h => by
    unfold cloFrom
    split
    · exact cloFrom_acc (List.mem_cons_of_mem _ h)
    · exact cloFrom_acc h
theorem cloFrom_has {cells : List (Str × Addr)} : ∀ {names : List (Str × NameKind)} {acc : List (Str × Addr)} {n : Str}, (n, .free) ∈ names → (n, (cells.lookup n).getD 0) ∈ cloFrom cells names acc
  | (m, k) :: r, acc, n, h => by
    unfold cloFrom
    rcases List.mem_cons.mp h with e | h
    · cases e
      exact cloFrom_acc List.mem_cons_self
    · split
      · exact cloFrom_has h
      · exact cloFrom_has h

theorem cells_mem : ∀ {names : List (Str × NameKind)} {h : Heap} {acc : List (Str × Addr)} {x : Str} {c : Addr}, (x, c) ∈ cellsFrom h.objs.size names acc →
    (x, c) ∈ acc ∨ ((x, .cell) ∈ names ∧ h.objs.size ≤ c ∧ CellAt (pushCells h names) c none)
  | [], _, _, _, _, h => .inl h
  | (n, k) :: r, h, acc, x, c, hm => by
    unfold cellsFrom at hm
    unfold pushCells
    split at hm
    · rename_i hk
      rw [if_pos hk]
      have hk : k = .cell := by simpa using hk
      rw [← Heap.size_push h { cls := .type "cell", data := .cell none }] at hm
      rcases cells_mem hm with hm | ⟨h1, h2, h3⟩
      · rcases List.mem_cons.mp hm with e | hm
        · cases e
          exact .inr ⟨hk ▸ List.mem_cons_self, Nat.le_refl _, _, pushCells_keeps r _ _ _ (Heap.get?_push_size _ rfl), rfl⟩
        · exact .inl hm
      · rw [Heap.size_push] at h2
        exact .inr ⟨List.mem_cons_of_mem _ h1, Nat.le_of_succ_le h2, h3⟩
    · rename_i hk
      rw [if_neg hk]
      rcases cells_mem hm with hm | ⟨h1, h2, h3⟩
      · exact .inl hm
      · exact .inr ⟨List.mem_cons_of_mem _ h1, h2, h3⟩
theorem cells_acc : ∀ {names : List (Str × NameKind)} {n : Nat} {acc : List (Str × Addr)} {p : Str × Addr}, p ∈ acc → p ∈ cellsFrom n names acc
  | [], _, _, _, h => h
  | (m, k) :: r, n, acc, p, h => by
    unfold cellsFrom
    split
    · exact cells_acc (List.mem_cons_of_mem _ h)
    · exact cells_acc h
theorem cells_has : ∀ {names : List (Str × NameKind)} {n : Nat} {acc : List (Str × Addr)} {x : Str}, (x, .cell) ∈ names → ∃ c, (x, c) ∈ cellsFrom n names acc
  | (m, k) :: r, n, acc, x, h => by
    unfold cellsFrom
    rcases List.mem_cons.mp h with e | h
    · cases e
      exact ⟨n, cells_acc List.mem_cons_self⟩
    · split
      · exact cells_has h
      · exact cells_has h
theorem cells_inj : ∀ {names : List (Str × NameKind)} {h : Heap} {acc : List (Str × Addr)} {x y : Str} {c : Addr}, (∀ p ∈ acc, p.2 < h.objs.size) → (∀ x y c, (x, c) ∈ acc → (y, c) ∈ acc → x = y) →
    (x, c) ∈ cellsFrom h.objs.size names acc → (y, c) ∈ cellsFrom h.objs.size names acc → x = y
  | [], _, _, _, _, _, _, hi, h1, h2 => hi _ _ _ h1 h2
  | (n, k) :: r, h, acc, x, y, c, hl, hi, h1, h2 => by
    unfold cellsFrom at h1 h2
    split at h1
    · rename_i hk
      rw [if_pos hk] at h2
      rw [← Heap.size_push h { cls := .type "cell", data := .cell none }] at h1 h2
      refine cells_inj (h := h.push _) (fun p hp => ?_) (fun x y c a b => ?_) h1 h2
      · rw [Heap.size_push]
        rcases List.mem_cons.mp hp with rfl | hp
        · exact Nat.lt_succ_self _
        · exact Nat.lt_succ_of_lt (hl p hp)
      · rcases List.mem_cons.mp a with e | a <;> rcases List.mem_cons.mp b with e' | b
        · cases e; cases e'; rfl
        · cases e; exact absurd (hl _ b) (Nat.lt_irrefl _)
        · cases e'; exact absurd (hl _ a) (Nat.lt_irrefl _)
        · exact hi _ _ _ a b
    · rename_i hk
      rw [if_neg hk] at h2
      exact cells_inj hl hi h1 h2

theorem newEnv_comp {M : Model} {A : Around} {E : Value → Shared → Prop} {s : Shared} {scope : Scope} {globals : Addr} {closure : List (Str × Addr)} {qual : Str} {func : Option Addr} {code : Value} {around : Env} {builtins : Addr} {Q : Env → Shared → Prop}
    (h : Q (newEnv scope s.heap.objs.size globals (cellsFrom (s.heap.objs.size + 1) scope.names closure) qual func code (some around) builtins)
      { s with heap := pushCells (s.heap.push { cls := .type "dict", data := .dict #[] }) scope.names }) :
    wpAny M A (newFunctionEnv scope globals closure [] qual func code (some around) builtins) Q E s := by
  simp only [newFunctionEnv, Option.isSome_some, if_true]
  refine wpAny_bind (wpAny_alloc ?_)
  refine wpAny_bind (wpAny_layCells _ (fun n k c => rfl) scope.names closure _ _ ?_)
  rw [show ({ s with heap := s.heap.push { cls := .type "dict", data := .dict #[] } } : Shared).heap.objs.size = s.heap.objs.size + 1 from Heap.size_push ..]
  rw [List.forIn_nil]
  exact wpAny_bind (wpAny_pure (wpAny_pure h))

/-- every name of the written scope, in the scope that runs -/
theorem lookup_relS {sc : Scope} : ∀ {names : List (Str × NameKind)} {x : Str} {k : NameKind},
    (names.map fun (n, k) => if (k == NameKind.free && sc.kind == .function && sc.names.lookup n == some .cell) then (n, NameKind.cell) else (n, k)).lookup x = some k →
    ∃ k', names.lookup x = some k' ∧ (k = k' ∨ (k' = .free ∧ k = .cell))
  | [], _, _, h => by simp at h
  | (n, k₀) :: r, x, k, h => by
    have ih := @lookup_relS sc r x k
    have h' : List.lookup x ((if (k₀ == NameKind.free && sc.kind == .function && sc.names.lookup n == some .cell) = true then (n, NameKind.cell) else (n, k₀)) :: (r.map _)) = some k := h
    cases hx : x == n with
    | true =>
      simp only [List.lookup_cons, hx]
      by_cases hc : (k₀ == NameKind.free && sc.kind == .function && sc.names.lookup n == some .cell) = true
      · rw [if_pos hc] at h'
        simp only [List.lookup_cons, hx] at h'
        cases h'
        simp only [Bool.and_eq_true, beq_iff_eq] at hc
        exact ⟨k₀, rfl, .inr ⟨hc.1.1, rfl⟩⟩
      · rw [if_neg hc] at h'
        simp only [List.lookup_cons, hx] at h'
        cases h'
        exact ⟨_, rfl, .inl rfl⟩
    | false =>
      simp only [List.lookup_cons, hx]
      by_cases hc : (k₀ == NameKind.free && sc.kind == .function && sc.names.lookup n == some .cell) = true
      · rw [if_pos hc] at h'
        simp only [List.lookup_cons, hx] at h'
        exact ih h'
      · rw [if_neg hc] at h'
        simp only [List.lookup_cons, hx] at h'
        exact ih h'
/-- the names of a comprehension's block: its own (with their places in N), or captured -/
structure BlkOk (N : List Str) (sc scope : Scope) (own : List (Str × Nat)) : Prop where
  kind : scope.kind = .function
  uniq : ∀ y ∈ scope.names, scope.names.lookup y.1 = some y.2
  ix : ∀ p ∈ own, N[p.2]? = some p.1
  free : ∀ y ∈ scope.names, y.2 = .free → sc.names.lookup y.1 = some .cell ∨ sc.names.lookup y.1 = some .free
  own : ∀ y ∈ scope.names, y.2 = .local ∨ y.2 = .cell → y.1 ∈ own.map (·.1) ∨ y.1 ∉ N
/-- the slots of the block's own names forgotten -/
noncomputable def wipe (σ : St) : List Nat → St
  | [] => σ
  | v :: vs => (wipe σ vs).set v none
theorem wipe_length (σ : St) : ∀ vs : List Nat, (wipe σ vs).length = σ.length
  | [] => rfl
  | v :: vs => by unfold wipe; rw [List.length_set, wipe_length σ vs]
theorem wipe_some {σ : St} {i : Nat} {x : V} : ∀ {vs : List Nat}, (wipe σ vs)[i]? = some (some x) → σ[i]? = some (some x) ∧ i ∉ vs
  | [], h => ⟨h, by simp⟩
  | v :: vs, h => by
    unfold wipe at h
    by_cases hi : v = i
    · subst hi
      by_cases hv : v < (wipe σ vs).length
      · rw [List.getElem?_set_self hv] at h; cases h
      · rw [List.getElem?_eq_none (by simpa using hv)] at h; cases h
    · rw [List.getElem?_set_ne hi] at h
      obtain ⟨h1, h2⟩ := wipe_some h
      exact ⟨h1, by simp only [List.mem_cons, not_or]; exact ⟨fun e => hi e.symm, h2⟩⟩

/-- the context of a block that starts at s, its iterator's objects at fp -/
@[reducible] noncomputable def Cx.blk (X : Cx) (s : Shared) (H : Hp) (scope : Scope) (cenv : Env) (fp : List Addr) : Cx := { X with s_0 := s, H_0 := H, env := cenv, outer := X.stack, ex := fp, fn := fun x => scope.names.lookup x == some .cell, pn := [], xe := fun _ _ => False }
section
variable {X : Cx} {pins : List (Addr × Obj)} {σ : St} {H : Hp} {s : Shared}
theorem block_start {scope : Scope} {own : List (Str × Nat)} {fp : List Addr} (I : Inv X pins σ H s) (ok : BlkOk X.N X.env.scope scope own) (hN : X.N.Nodup) (hfp : ∀ b ∈ fp, FpOk X pins H b ∧ b < s.heap.objs.size) :
    Inv (X.blk s H scope (compEnvC scope (cellsFrom (s.heap.objs.size + 1) scope.names (cloFrom X.env.cells scope.names [])) s.heap.objs.size X.env) fp) [] (wipe σ (own.map (·.2))) H { s with heap := pushCells (s.heap.push { cls := .type "dict", data := .dict #[] }) scope.names } := by
  have hfree : ∀ y ∈ scope.names, y.2 = .free → ∃ c, X.env.cells.lookup y.1 = some c := fun y hy e => by
    rcases ok.free y hy e with k | k
    · exact I.ok.has _ (.inl k)
    · exact I.ok.has _ (.inr k)
  generalize hcenv : compEnvC scope (cellsFrom (s.heap.objs.size + 1) scope.names (cloFrom X.env.cells scope.names [])) s.heap.objs.size X.env = cenv
  have kp : ∀ b o, s.heap.get? b = some o → (pushCells (s.heap.push { cls := .type "dict", data := .dict #[] }) scope.names).get? b = some o := fun b o e => pushCells_keeps _ _ _ _ (Heap.get?_push_of_some _ e)
  have hL : cenv.locals = s.heap.objs.size := by rw [← hcenv]; rfl
  have hcl : cenv.cells = cellsFrom (s.heap.objs.size + 1) scope.names (cloFrom X.env.cells scope.names []) := by rw [← hcenv]; rfl
  have hsc : cenv.scope = relS scope X.env.scope := by rw [← hcenv]; rfl
  rw [← Heap.size_push s.heap { cls := .type "dict", data := .dict #[] }] at hcl
  have cm : ∀ {y c}, (y, c) ∈ cloFrom X.env.cells scope.names [] → X.env.cells.lookup y = some c ∧ c < s.heap.objs.size := fun {y c} hm => by
    rcases cloFrom_mem hm with hm | ⟨h1, rfl⟩
    · cases hm
    · obtain ⟨c, hc⟩ := hfree _ h1 rfl
      rw [hc]
      obtain ⟨w, z⟩ := I.cell _ _ hc
      exact ⟨rfl, z.lt⟩
  have mem : ∀ {y c}, cenv.cells.lookup y = some c → (X.env.cells.lookup y = some c ∧ c < s.heap.objs.size) ∨ (s.heap.objs.size + 1 ≤ c ∧ CellAt (pushCells (s.heap.push { cls := .type "dict", data := .dict #[] }) scope.names) c none) := fun {y c} e => by
    rw [hcl] at e
    rcases cells_mem (PySem.mem_of_lookup e) with hm | ⟨_, h2, h3⟩
    · exact .inl (cm hm)
    · rw [Heap.size_push] at h2; exact .inr ⟨h2, h3⟩
  have look : ∀ {y}, scope.names.lookup y = some .free → ∃ c, cenv.cells.lookup y = some c ∧ X.env.cells.lookup y = some c := fun {y} hl => by
    have hy : (y, NameKind.free) ∈ scope.names := PySem.mem_of_lookup hl
    obtain ⟨c', e'⟩ := mem_lookup (cells_acc (names := scope.names) (n := (s.heap.push { cls := .type "dict", data := .dict #[] }).objs.size) (cloFrom_has (cells := X.env.cells) (acc := []) hy))
    rw [← hcl] at e'
    refine ⟨c', e', ?_⟩
    rw [hcl] at e'
    rcases cells_mem (PySem.mem_of_lookup e') with hm | ⟨h1, _, _⟩
    · exact (cm hm).1
    · have := ok.uniq _ h1
      rw [hl] at this; cases this
  have okB : (X.blk s H scope cenv fp).Ok := by
    refine ⟨I.ok.mod, by show cenv.scope.kind = _; rw [hsc]; exact ok.kind, by show cenv.globals = _; rw [← hcenv]; exact I.ok.glob, by show cenv.builtins = _; rw [← hcenv]; exact I.ok.blt, by show s.heap.objs.size ≤ cenv.locals; rw [hL]; exact Nat.le_refl _,
      fun y z c e1 e2 => ?_, fun y hy => ?_, fun y c z e => ?_, I.ok.hd, I.ok.frames, .inl rfl, fun b hb => ⟨?_, fun y c e z => ?_⟩, I.bs, Nat.le_trans I.ok.bsz I.sz, fun b o e hb => ?_, fun b hb z => ?_, I.stack, I.stkFree⟩
    · have e1 : cenv.cells.lookup y = some c := e1
      have e2 : cenv.cells.lookup z = some c := e2
      rw [hcl] at e1 e2
      refine cells_inj (fun p hp => ?_) (fun y z c a b => I.ok.inj y z c (cm a).1 (cm b).1) (PySem.mem_of_lookup e1) (PySem.mem_of_lookup e2)
      rw [Heap.size_push]
      exact Nat.lt_succ_of_lt (cm (y := p.1) (c := p.2) hp).2
    · show ∃ c, cenv.cells.lookup y = some c
      have key : ∀ k, cenv.kindOf y = some k → (k = .cell ∨ k = .free) → ∃ c, cenv.cells.lookup y = some c := fun k hk hk' => by
        unfold Env.kindOf at hk
        rw [hsc] at hk
        obtain ⟨k', e, r⟩ := lookup_relS hk
        have : k' = .cell ∨ k' = .free := by
          rcases r with rfl | ⟨rfl, _⟩
          · exact hk'
          · exact .inr rfl
        rcases this with rfl | rfl
        · obtain ⟨c, hm⟩ := cells_has (n := (s.heap.push { cls := .type "dict", data := .dict #[] }).objs.size) (acc := cloFrom X.env.cells scope.names []) (PySem.mem_of_lookup e)
          obtain ⟨c', e'⟩ := mem_lookup hm
          exact ⟨c', by rw [hcl]; exact e'⟩
        · obtain ⟨c, h1, _⟩ := look e
          exact ⟨c, h1⟩
      rcases hy with hy | hy
      · exact key _ hy (.inl rfl)
      · exact key _ hy (.inr rfl)
    · have z : (scope.names.lookup y == some NameKind.cell) = true := z
      have z : scope.names.lookup y = some .cell := by simpa using z
      have e : cenv.cells.lookup y = some c := e
      rw [hcl] at e
      rcases cells_mem (PySem.mem_of_lookup e) with hm | ⟨_, h2, _⟩
      · rcases cloFrom_mem hm with hm | ⟨h1, _⟩
        · cases hm
        · have q := ok.uniq _ h1
          rw [z] at q; cases q
      · rw [Heap.size_push] at h2
        exact Nat.le_of_succ_le h2
    · show b ≠ cenv.locals
      rw [hL]; exact Nat.ne_of_lt (hfp b hb).2
    · have e : cenv.cells.lookup y = some c := e
      rcases mem e with ⟨h1, _⟩ | ⟨h1, _⟩
      · exact (hfp b hb).1.2.2.2.2.1 y c h1 z
      · have h2 : s.heap.objs.size + 1 ≤ b := by rw [← z]; exact h1
        exact absurd (Nat.lt_of_lt_of_le (hfp b hb).2 (Nat.le_of_succ_le h2)) (Nat.lt_irrefl _)
    · rcases (hfp b hb).1.2.2.2.1 with z | z
      · exact I.ok.noex b o e z
      · exact absurd (Nat.lt_of_lt_of_le (Heap.lt_size e) (Nat.le_trans I.ok.bsz z)) (Nat.lt_irrefl _)
    · rcases List.mem_cons.mp (I.stkSub b z) with z | z
      · exact (hfp b hb).1.2.1 z
      · exact (hfp b hb).1.2.2.1 z
  refine ⟨okB, rfl, I.bare, Un.kept kp, ⟨fun _ => none, ?_, fun i y av e1 e2 e3 => ?_⟩, fun y c e => ?_, ?_, fun y c e => ?_, fun p hp => ?_, I.hok.kept kp, by rw [wipe_length]; exact I.len⟩
  · show Heap.Ns _ cenv.locals _
    rw [hL]
    exact Heap.Ns.keeps (Heap.Ns.new ..) fun b o e => pushCells_keeps _ _ _ _ e
  · obtain ⟨e2, hne⟩ := wipe_some e2
    have hfr : scope.names.lookup y = some .free ∧ (cenv.kindOf y = some .cell ∨ cenv.kindOf y = some .free) := by
      have key : ∀ k, cenv.scope.names.lookup y = some k → k = .local ∨ k = .cell ∨ k = .free → scope.names.lookup y = some .free ∧ (cenv.kindOf y = some .cell ∨ cenv.kindOf y = some .free) := fun k hk hk' => by
        have hk0 := hk
        rw [hsc] at hk
        obtain ⟨k', e, r⟩ := lookup_relS hk
        have no : ¬ (k' = .local ∨ k' = .cell) := fun hh => by
          rcases ok.own _ (PySem.mem_of_lookup e) hh with e' | e'
          · obtain ⟨p, hp, hpy⟩ := List.mem_map.mp e'
            have e3 := ok.ix p hp
            have : p.1 = y := hpy
            rw [this] at e3
            exact hne (List.mem_map.mpr ⟨p, hp, nodup_ix hN e3 e1⟩)
          · exact e' (List.mem_of_getElem? e1)
        rcases r with rfl | ⟨rfl, rfl⟩
        · rcases hk' with rfl | rfl | rfl
          · exact absurd (.inl rfl) no
          · exact absurd (.inr rfl) no
          · exact ⟨e, .inr hk0⟩
        · exact ⟨e, .inl hk0⟩
      have e3 : Vis cenv.scope y := e3
      rcases e3 with e3 | e3 | e3
      · exact key _ e3 (.inl rfl)
      · exact key _ e3 (.inr (.inl rfl))
      · exact key _ e3 (.inr (.inr rfl))
    obtain ⟨m, hn, hl⟩ := I.loc
    have hvis : Vis X.env.scope y := (ok.free _ (PySem.mem_of_lookup hfr.1) rfl).elim (fun k => .inr (.inl k)) (fun k => .inr (.inr k))
    obtain ⟨w, r, q⟩ := hl i y av e1 e2 hvis
    refine ⟨w, r, .inr ⟨hfr.2, ?_⟩⟩
    obtain ⟨c, h1, h2⟩ := look hfr.1
    rcases q with ⟨k, _⟩ | ⟨_, c', e', z⟩
    · have k : X.env.scope.names.lookup y = some .local := k
      rcases ok.free _ (PySem.mem_of_lookup hfr.1) rfl with k' | k' <;> rw [show X.env.scope.names.lookup y = _ from k'] at k <;> cases k
    · rw [h2] at e'; cases e'
      exact ⟨c, h1, z.keeps kp⟩
  · have e : cenv.cells.lookup y = some c := e
    rcases mem e with ⟨h1, _⟩ | ⟨_, z⟩
    · obtain ⟨w, z⟩ := I.cell y c h1
      exact ⟨w, z.keeps kp⟩
    · exact ⟨_, z⟩
  · show H cenv.locals = none
    rw [hL]; exact I.hok.fresh (Nat.le_refl _)
  · have e : cenv.cells.lookup y = some c := e
    rcases mem e with ⟨h1, _⟩ | ⟨h1, _⟩
    · exact I.freeC y c h1
    · exact I.hok.fresh (Nat.le_of_succ_le h1)
  · exact absurd (show p ∈ ([] : List (Addr × Obj)) ++ [] from hp) (by simp)

/-- an item appended to a tracked list -/
theorem app_ok {E : Value → Shared → Prop} {D : Addr} {xs : List V} {y : V} {v : Value} {Q : Value → Shared → Prop} (I : Inv X pins σ H s) (hD : H D = some (.lst xs)) (hz : xs.length < sizeLine) (r : RelV y v)
    (h : ∀ s', Inv X pins σ (upd H D (.lst (xs ++ [y]))) s' → Q .none s') : wpAny (model X.prog X.w) X.A (call (.builtin "list.append") [.ref D, v]) Q E s := by
  obtain ⟨hz', its, n, ri, e⟩ := I.hok D _ hD
  have hl := ri.length
  refine append_at (hsz := by rw [List.size_toArray]; omega) e fun h' sb ho' => ?_
  refine h { s with heap := h' } (I.write (t' := s.toks) (by rw [hD]; trivial) (.inl rfl) (fun b u hb q => (sb.2 b hb).trans q) ⟨_, ho'⟩ ⟨by rw [List.length_append]; exact hz, its ++ [v], n + 1, ri.append (.cons r .nil), ?_⟩)
  rw [ho']
  simp

/-- a clause's tests -/
noncomputable def PTs (X : Cx) (ifs : List Expr) (t : TT) : Prop :=
  ∀ (pins : List (Addr × Obj)) (s : Shared) (σ : St) (H : Hp) (Q : Bool → Hp → Prop), Inv X pins σ H s → t σ H Q →
    wpAny (model X.prog X.w) X.A (forIn ifs true fun c r => if r = true then do let ok ← isTrue c X.env (eval c X.env); pure (ForInStep.yield ok) else pure (ForInStep.yield r)) (TP X pins σ Q) X.xe s
noncomputable def tYes : TT := fun _ H Q => Q true H
theorem pts_nil : PTs X [] tYes := fun _ _ _ H _ I h => wpAny_tests_nil ⟨H, I, h⟩
theorem pts_one {c : Expr} {t : TT} (h : PT X c t) : PTs X [c] t := fun pins s σ H Q I hw => wpAny_tests_one (h pins s σ H Q I hw)
end

theorem thnF {α : Type} {t : Sem α} {Q Q' : α → Shared → Prop} {M : Model} {A : Around} {E : Value → Shared → Prop} {s : Shared} (h : wpAny M A t Q (fun _ _ => False) s) (hQ : ∀ a s, Q a s → Q' a s) : wpAny M A t Q' E s := wpAny_mono h hQ fun _ _ z => False.elim z

/-- the loop of a list comprehension's block, the target of any form (codeAny_compLoop_tests asks a target that no tuple goes to; statement and proof follow it, PyProof/CompMap.lean:41-61, with the step letOwnedTupleGo kept) -/
theorem compLoop_any {prog : Program} {w : World} {A : Around} {R : Result → Shared → Prop} {s : Shared} {elt target iter : Expr} {ifs : List Expr} {scope : Scope} {pos : Pos} {it acc : Value} {env : Env} (I : Nat → Shared → Prop)
    (turn : ∀ n s, I n s → wpAny (model prog w) A (pyNext it) (fun r s₁ => match r with
      | none => R (.ok .next) s₁
      | some v => wpAny (model prog w) A (letOwnedTupleGo target it v) (fun _ s₁' => wpAny (model prog w) A (assign target env v) (fun _ s₂ =>
          wpAny (model prog w) A (forIn ifs true fun c r => if r = true then do let ok ← isTrue c env (eval c env); pure (ForInStep.yield ok) else pure (ForInStep.yield r)) (fun ok s₃ =>
            if ok = true then wpAny (model prog w) A (eval elt env) (fun x s₄ =>
              wpAny (model prog w) A (call (.builtin "list.append") [acc, x]) (fun _ s₅ => ∃ m, m < n ∧ I m s₅) (notedBy (model prog w) A env fun e s' => R (.error e) s') s₄) (notedBy (model prog w) A env fun e s' => R (.error e) s') s₃
            else ∃ m, m < n ∧ I m s₃) (notedBy (model prog w) A env fun e s' => R (.error e) s') s₂) (notedBy (model prog w) A env fun e s' => R (.error e) s') s₁') (notedBy (model prog w) A env fun e s' => R (.error e) s') s₁) (notedBy (model prog w) A env fun e s' => R (.error e) s') s)
    (n : Nat) (h : I n s) :
    codeAny (model prog w) A (.compLoop (.ListComp elt [⟨target, iter, ifs, 0⟩] scope pos) 0 it acc env) R s := by
  refine codeAny_loop rfl I (fun n s hI => ?_) n h
  show wpAny _ A ((compTurn (.ListComp elt [⟨target, iter, ifs, 0⟩] scope pos) 0 it acc env).onRaise (fun x => do noteFrame x env; theTreesLotGoes x)) _ _ s
  refine wpAny_noted ?_
  rw [compTurn_list]
  refine wpAny_bind (wpAny_standAt (wpAny_bind (wpAny_mono (turn n s hI) (fun r s₁ h₁ => ?_) fun _ _ h' => h')))
  cases r with
  | none => exact wpAny_pure h₁
  | some v =>
    refine wpAny_bind (wpAny_mono h₁ (fun _ s₁' h₁' => ?_) fun _ _ h' => h')
    refine wpAny_bind (wpAny_mono h₁' (fun _ s₂ h₂ => wpAny_bind (wpAny_mono h₂ (fun ok s₃ h₃ => ?_) fun _ _ h' => h')) fun _ _ h' => h')
    cases ok with
    | false => exact wpAny_pure ⟨rfl, h₃⟩
    | true =>
      exact wpAny_bind (wpAny_bind (wpAny_mono h₃ (fun x s₄ h₄ => wpAny_bind (wpAny_mono h₄ (fun _ s₅ h₅ => wpAny_pure (wpAny_pure ⟨rfl, h₅⟩)) fun _ _ h' => h')) fun _ _ h' => h'))

section
variable {X : Cx}
/-- [elt for target in iter if ..]: D the new list; W by the turn and a measure, Nx what a turn is to reach -/
noncomputable def tLc (wi : TI) (g : TG) (tt : TT) (te : TE) (vs : List Nat) : TE := fun σ H Q => wi σ H fun J H1 => ∀ D, H1 D = none → ∃ W : Nat → Nat → Hp → Prop, (∃ m, W 0 m (upd H1 D (.lst []))) ∧ ∀ i m H, W i m H →
  (J.stop i H ∧ Q (.ref D) H) ∨ (J.go i H ∧ ∃ Nx : Hp → Prop, (∀ H', Nx H' → ∃ m', m' < m ∧ W (i + 1) m' H') ∧ ∀ x H', J.yld i H x H' → g x (wipe σ vs) H' fun σ2 H2 => wipe σ2 vs = wipe σ vs ∧ tt σ2 H2 fun b H3 =>
    if b = true then te σ2 H3 fun y H4 => ∃ acc, H4 D = some (.lst acc) ∧ acc.length < sizeLine ∧ Nx (upd H4 D (.lst (acc ++ [y]))) else Nx H3)
theorem lc_core {pins : List (Addr × Obj)} {s : Shared} {σ : St} {H : Hp} {Q : VK} {elt tg iter : Expr} {ifs : List Expr} {scope : Scope} {own : List (Str × Nat)} {pos pos' : Pos} {wi : TI} {g : TG} {tt : TT} {te : TE} {use : Option (Value → Sem Unit)} {Qf : Value → Shared → Prop}
    (hc : X.calm = true) (hN : X.N.Nodup) (I : Inv X pins σ H s) (hi : PI X tg iter wi) (ok : BlkOk X.N X.env.scope scope own)
    (hg : ∀ (s : Shared) (H : Hp) (C : Addr) (cl : List (Str × Addr)) (fp : List Addr), PG (X.blk s H scope (compEnvC scope cl C X.env) fp) tg g) (ht : ∀ (s : Shared) (H : Hp) (C : Addr) (cl : List (Str × Addr)) (fp : List Addr), PTs (X.blk s H scope (compEnvC scope cl C X.env) fp) ifs tt)
    (he : ∀ (s : Shared) (H : Hp) (C : Addr) (cl : List (Str × Addr)) (fp : List Addr), PE (X.blk s H scope (compEnvC scope cl C X.env) fp) elt te) (hs : ∀ x, foldedSetIterable iter X.env x = pure x)
    (h : tLc wi g tt te (own.map (·.2)) σ H Q)
    (hRR : ∀ D C s' m H', Inv X pins σ H' s' → Q (.ref D) H' → s'.heap.Ns C m → FpOk X pins H' C → compPost (model X.prog X.w) X.A X.xe use Qf (.ref D) C (.ok .next) s') :
    wpAny (model X.prog X.w) X.A (comprehension (.ListComp elt [⟨tg, iter, ifs, 0⟩] scope pos) scope X.env pos' (newList []) false (eval iter X.env) use) Qf X.xe s := by
  have hfree : ∀ y ∈ scope.names, y.2 = .free → ∃ c, X.env.cells.lookup y.1 = some c := fun y hy e => by
    rcases ok.free y hy e with k | k
    · exact I.ok.has _ (.inl k)
    · exact I.ok.has _ (.inr k)
  refine wpAny_comprehension_free (use := use) rfl hs (closure_ok hfree) ok.kind (fun y hy e => by rw [ok.uniq y hy, e])
    (thn (hi pins s σ H _ I h) fun xv s1 hx => thn hx fun itv s2 h2 => ?_)
  obtain ⟨it, fp, tn, J, H2, e, I2, T, st2, f2, q⟩ := h2
  subst e
  refine wpAny_newObj_type (newEnv_comp ?_) (by show 0 ≤ sizeLine; decide)
  generalize hD : s2.heap.objs.size = D
  have hDn : H2 D = none := I2.hok.fresh (Nat.le_of_eq hD)
  obtain ⟨W, ⟨m0, w0⟩, turn⟩ := q D hDn
  -- the new list
  generalize hs3 : ({ s2 with heap := s2.heap.push { cls := .type "list", data := .seq ([] : List Value).toArray } } : Shared) = s3
  have I3 : Inv X pins σ (upd H2 D (.lst [])) s3 := by
    rw [← hs3]
    refine I2.laid (t' := s2.toks) (fun b o e => Heap.get?_push_of_some _ e) (Nat.le_of_eq hD) ⟨Nat.zero_le _, [], 0, .nil, ?_⟩
    rw [← hD]
    exact Heap.get?_push_size _ rfl
  have h3 : s3.heap = s2.heap.push { cls := .type "list", data := .seq ([] : List Value).toArray } := by rw [← hs3]
  have sz : ∀ b ∈ fp, b < s2.heap.objs.size := fun b hb => by
    obtain ⟨o, e, _⟩ := T.obj _ _ st2 b hb
    exact Heap.lt_size e
  have f3 : ∀ b ∈ fp, FpOk X pins (upd H2 D (.lst [])) b ∧ b < s3.heap.objs.size := fun b hb => by
    have hlt := sz b hb
    refine ⟨⟨?_, (f2 b hb).2⟩, by rw [h3, Heap.size_push]; exact Nat.lt_succ_of_lt hlt⟩
    rw [upd_ne (by rw [← hD]; exact Nat.ne_of_lt hlt)]
    exact (f2 b hb).1
  have st3 : tn 0 s3.heap := T.keep _ _ _ st2 fun b _ o e => by rw [h3]; exact Heap.get?_push_of_some _ e
  have I4 := block_start I3 ok hN f3
  have pg := hg s3 (upd H2 D (.lst [])) s3.heap.objs.size (cellsFrom (s3.heap.objs.size + 1) scope.names (cloFrom X.env.cells scope.names [])) fp
  have pt := ht s3 (upd H2 D (.lst [])) s3.heap.objs.size (cellsFrom (s3.heap.objs.size + 1) scope.names (cloFrom X.env.cells scope.names [])) fp
  have pe := he s3 (upd H2 D (.lst [])) s3.heap.objs.size (cellsFrom (s3.heap.objs.size + 1) scope.names (cloFrom X.env.cells scope.names [])) fp
  show codeAny _ _ (.compStart (.ListComp elt [⟨tg, iter, ifs, 0⟩] scope pos) 0 (.ref it) (.ref D) (compEnvC scope (cellsFrom (s3.heap.objs.size + 1) scope.names (cloFrom X.env.cells scope.names [])) s3.heap.objs.size X.env)) (compPost (model X.prog X.w) X.A X.xe use Qf (.ref D) s3.heap.objs.size) { s3 with heap := pushCells (s3.heap.push { cls := .type "dict", data := .dict #[] }) scope.names }
  have nfp : ∀ b ∈ fp, (upd H2 D (.lst [])) b = none := fun b hb => (f3 b hb).1.1
  generalize hce : compEnvC scope (cellsFrom (s3.heap.objs.size + 1) scope.names (cloFrom X.env.cells scope.names [])) s3.heap.objs.size X.env = ce at I4 pg pt pe ⊢
  have cL : ce.locals = s3.heap.objs.size := by subst hce; rfl
  generalize hH3 : upd H2 D (.lst []) = H3 at I3 I4 pg pt pe w0 nfp f3
  generalize hs4 : ({ s3 with heap := pushCells (s3.heap.push { cls := .type "dict", data := .dict #[] }) scope.names } : Shared) = s4 at I4 ⊢
  have st4 : tn 0 s4.heap := T.keep _ _ _ st3 fun b _ o e => by rw [← hs4]; exact pushCells_keeps _ _ _ _ (Heap.get?_push_of_some _ e)
  have stat : ∀ {σ' : St} {H' : Hp} {s' : Shared}, Inv (X.blk s3 H3 scope ce fp) [] σ' H' s' → (∀ b ∈ fp, H' b = none) → ∀ b ∈ fp, FpOk (X.blk s3 H3 scope ce fp) [] H' b := fun {σ' H' s'} I' hn b hb =>
    ⟨hn b hb, (I'.ok.exf b hb).1, I'.ok.exfs b hb, .inl hb, fun x c e => (I'.ok.exf b hb).2 x c e, fun p hp => absurd (show p ∈ ([] : List (Addr × Obj)) ++ [] from hp) (by simp)⟩
  have loop : codeAny (model X.prog X.w) X.A (.compLoop (.ListComp elt [⟨tg, iter, ifs, 0⟩] scope pos) 0 (.ref it) (.ref D) ce) (compPost (model X.prog X.w) X.A X.xe use Qf (.ref D) s3.heap.objs.size) s4 := by
    refine compLoop_any (fun n s' => ∃ i H', Inv (X.blk s3 H3 scope ce fp) [] (wipe σ (own.map (·.2))) H' s' ∧ tn i s'.heap ∧ (∀ b ∈ fp, H' b = none) ∧ W i n H') ?_ m0 ⟨0, H3, I4, st4, nfp, w0⟩
    rintro n s5 ⟨i, H5, I5, st5, n5, w5⟩
    rcases turn i n H5 w5 with ⟨stop, qq⟩ | ⟨go, Nx, hNx, step⟩
    · have td := T.done (X.blk s3 H3 scope ce fp) rfl rfl rfl hc i [] s5 _ H5 (fun _ _ => False) I5 (stat I5 n5) st5 stop
      refine thnF td fun r s6 ⟨hr, I6⟩ => ?_
      subst hr
      -- back in the def's context
      have I7 : Inv X pins σ H5 s6 := I3.call' (ch := fp) I6.os I6.base I6.hok I6.bare fun b hb => ⟨(f3 b hb).1.2.2.2.1, (f3 b hb).1.2.1, (f3 b hb).1.2.2.2.2.1, (f3 b hb).1.2.2.2.2.2⟩
      have nC : H5 s3.heap.objs.size = none := by
        have z : H5 ce.locals = none := I6.free
        rw [cL] at z
        exact z
      obtain ⟨m, hn, _⟩ := I6.loc
      have hn : s6.heap.Ns ce.locals m := hn
      rw [cL] at hn
      exact hRR D s3.heap.objs.size s6 m H5 I7 qq hn (I3.fpOk (Nat.le_refl _) nC)
    · have ti := T.item (X.blk s3 H3 scope ce fp) rfl rfl rfl hc i [] s5 _ H5 (fun _ _ => False) I5 (stat I5 n5) st5 go
      refine thnF ti fun r s6 ⟨u, hr, h6⟩ => ?_
      subst hr
      refine thnF h6 fun _ s7 ⟨x, H7, I7, r7, y7, st7, n7⟩ => ?_
      have I7' := I7.pinned (stat I7 n7) (T.obj _ _ st7)
      refine thnF (pg _ s7 _ H7 x u _ I7' r7 (step x H7 y7)) fun _ s8 ⟨σ8, H8, I8, hw8, q8⟩ => ?_
      refine thnF (pt _ s8 σ8 H8 _ I8 q8) fun b s9 ⟨H9, I9, q9⟩ => ?_
      -- the turn's end
      have fin : ∀ {s' : Shared} {H' : Hp}, Inv (X.blk s3 H3 scope ce fp) ([] ++ pinsAt fp s7.heap) σ8 H' s' → Nx H' → ∃ m, m < n ∧ ∃ i H', Inv (X.blk s3 H3 scope ce fp) [] (wipe σ (own.map (·.2))) H' s' ∧ tn i s'.heap ∧ (∀ b ∈ fp, H' b = none) ∧ W i m H' := fun {s' H'} I' nx => by
        obtain ⟨m', hm, w'⟩ := hNx H' nx
        have pin' : ∀ b ∈ fp, ∀ o, s7.heap.get? b = some o → s'.heap.get? b = some o ∧ H' b = none := fun b hb o e =>
          let z := I'.pin (b, o) (List.mem_append_right _ (List.mem_append_right _ (mem_pinsAt hb e)))
          ⟨z.1, z.2.1⟩
        have hl : (wipe σ (own.map (·.2))).length = σ8.length := by rw [← hw8, wipe_length]
        refine ⟨m', hm, i + 1, H', (I'.unpinned (pins := [])).weak hl (fun j v e => ?_), T.keep _ _ _ st7 fun b hb o e => (pin' b hb o e).1, fun b hb => ?_, w'⟩
        · rw [← hw8] at e
          exact (wipe_some e).1
        · obtain ⟨o, e, _⟩ := T.obj _ _ st7 b hb
          exact (pin' b hb o e).2
      cases b with
      | false =>
        simp only [Bool.false_eq_true, if_false] at q9 ⊢
        exact fin I9 q9
      | true =>
        simp only [if_true] at q9 ⊢
        refine thnF (pe _ s9 σ8 H9 _ I9 q9) fun z s10 ⟨yv, H10, I10, r10, acc, hD10, hz10, nx⟩ => ?_
        exact app_ok (X := X.blk s3 H3 scope ce fp) I10 hD10 hz10 r10 fun s11 I11 => fin I11 nx
  exact codeAny_compStart_list loop (T.self X.A 0 _ _ _ st4 loop)
/-- as a value -/
theorem pe_lc {elt tg iter : Expr} {ifs : List Expr} {scope : Scope} {own : List (Str × Nat)} {pos : Pos} {wi : TI} {g : TG} {tt : TT} {te : TE} (hc : X.calm = true) (hN : X.N.Nodup) (hi : PI X tg iter wi) (ok : BlkOk X.N X.env.scope scope own)
    (hg : ∀ (s : Shared) (H : Hp) (C : Addr) (cl : List (Str × Addr)) (fp : List Addr), PG (X.blk s H scope (compEnvC scope cl C X.env) fp) tg g) (ht : ∀ (s : Shared) (H : Hp) (C : Addr) (cl : List (Str × Addr)) (fp : List Addr), PTs (X.blk s H scope (compEnvC scope cl C X.env) fp) ifs tt)
    (he : ∀ (s : Shared) (H : Hp) (C : Addr) (cl : List (Str × Addr)) (fp : List Addr), PE (X.blk s H scope (compEnvC scope cl C X.env) fp) elt te) (hs : ∀ x, foldedSetIterable iter X.env x = pure x := by intro _; rfl) :
    PE X (.ListComp elt [⟨tg, iter, ifs, 0⟩] scope pos) (tLc wi g tt te (own.map (·.2))) := by
  intro pins s σ H Q I h
  rw [eval_ListComp]
  refine lc_core hc hN I hi ok hg ht he hs h fun D C s' m H' I' q hn f => ⟨m, hn, fun h'' sb => ?_⟩
  obtain ⟨f0, f1, f2, f3, f4, f5⟩ := f
  exact ⟨.ref D, H', I'.turned (t' := s'.toks) (fun b o hb e => (sb.2 b hb).trans e) f0 f1 f3 f4 f5, rfl, q⟩
end

/-- over a range: Pv by the turn and the heap (the new list at D within) -/
theorem lc_range {lo : Int} {n : Nat} {g : TG} {tt : TT} {te : TE} {vs : List Nat} {σ : St} {H1 : Hp} {D : Addr} {Qd : Hp → Prop} (Pv : Nat → Hp → Prop) (h0 : Pv 0 (upd H1 D (.lst [])))
    (hs : ∀ i H, i < n → Pv i H → g (.int (lo + i)) (wipe σ vs) H fun σ2 H2 => wipe σ2 vs = wipe σ vs ∧ tt σ2 H2 fun b H3 =>
      if b = true then te σ2 H3 fun y H4 => ∃ acc, H4 D = some (.lst acc) ∧ acc.length < sizeLine ∧ Pv (i + 1) (upd H4 D (.lst (acc ++ [y]))) else Pv (i + 1) H3) (hd : ∀ H, Pv n H → Qd H) :
    ∃ W : Nat → Nat → Hp → Prop, (∃ m, W 0 m (upd H1 D (.lst []))) ∧ ∀ i m H, W i m H →
      ((Itr lo n).stop i H ∧ Qd H) ∨ ((Itr lo n).go i H ∧ ∃ Nx : Hp → Prop, (∀ H', Nx H' → ∃ m', m' < m ∧ W (i + 1) m' H') ∧ ∀ x H', (Itr lo n).yld i H x H' → g x (wipe σ vs) H' fun σ2 H2 => wipe σ2 vs = wipe σ vs ∧ tt σ2 H2 fun b H3 =>
        if b = true then te σ2 H3 fun y H4 => ∃ acc, H4 D = some (.lst acc) ∧ acc.length < sizeLine ∧ Nx (upd H4 D (.lst (acc ++ [y]))) else Nx H3) := by
  refine ⟨fun i m H => m = n - i ∧ i ≤ n ∧ Pv i H, ⟨n, by simp, Nat.zero_le _, h0⟩, ?_⟩
  rintro i m H ⟨rfl, hi, p⟩
  by_cases hlt : i < n
  · refine .inr ⟨hlt, Pv (i + 1), fun H' p' => ⟨n - (i + 1), by omega, rfl, hlt, p'⟩, fun x H' y => ?_⟩
    obtain ⟨e, y⟩ := y
    subst e y
    exact hs i _ hlt p
  · have e : i = n := by omega
    subst e
    exact .inl ⟨Nat.le_refl _, hd H p⟩
/-- over a list that the block leaves as it is -/
theorem lc_list {K : PySem.W.Frag} {a : Addr} {xs : List V} {g : TG} {tt : TT} {te : TE} {vs : List Nat} {σ : St} {H1 : Hp} {D : Addr} {Qd : Hp → Prop} (Pv : Nat → Hp → Prop) (h0 : Pv 0 (upd H1 D (.lst []))) (hl : ∀ i H, i ≤ xs.length → Pv i H → SqL K H a xs)
    (hs : ∀ i x H, xs[i]? = some x → Pv i H → g x (wipe σ vs) H fun σ2 H2 => wipe σ2 vs = wipe σ vs ∧ tt σ2 H2 fun b H3 =>
      if b = true then te σ2 H3 fun y H4 => ∃ acc, H4 D = some (.lst acc) ∧ acc.length < sizeLine ∧ Pv (i + 1) (upd H4 D (.lst (acc ++ [y]))) else Pv (i + 1) H3) (hd : ∀ H, Pv xs.length H → Qd H) :
    ∃ W : Nat → Nat → Hp → Prop, (∃ m, W 0 m (upd H1 D (.lst []))) ∧ ∀ i m H, W i m H →
      ((Itl K a).stop i H ∧ Qd H) ∨ ((Itl K a).go i H ∧ ∃ Nx : Hp → Prop, (∀ H', Nx H' → ∃ m', m' < m ∧ W (i + 1) m' H') ∧ ∀ x H', (Itl K a).yld i H x H' → g x (wipe σ vs) H' fun σ2 H2 => wipe σ2 vs = wipe σ vs ∧ tt σ2 H2 fun b H3 =>
        if b = true then te σ2 H3 fun y H4 => ∃ acc, H4 D = some (.lst acc) ∧ acc.length < sizeLine ∧ Nx (upd H4 D (.lst (acc ++ [y]))) else Nx H3) := by
  refine ⟨fun i m H => m = xs.length - i ∧ i ≤ xs.length ∧ Pv i H, ⟨xs.length, by simp, Nat.zero_le _, h0⟩, ?_⟩
  rintro i m H ⟨rfl, hi, p⟩
  have q := hl i H hi p
  by_cases hlt : i < xs.length
  · refine .inr ⟨⟨xs, xs[i], q, by simp [hlt]⟩, Pv (i + 1), fun H' p' => ⟨xs.length - (i + 1), by omega, rfl, hlt, p'⟩, fun x H' y => ?_⟩
    obtain ⟨e, y⟩ := y
    subst e
    exact hs i x _ (y xs q) p
  · have e : i = xs.length := by omega
    subst e
    exact .inl ⟨⟨xs, q, Nat.le_refl _⟩, hd H p⟩
noncomputable def blkC (N : List Str) (sc scope : Scope) (own : List (Str × Nat)) : Bool :=
  (match scope.kind with | .function => true | _ => false) && (scope.names.all fun y => decide (scope.names.lookup y.1 = some y.2)) && (own.all fun p => decide (N[p.2]? = some p.1)) &&
    (scope.names.all fun y => match y.2 with
      | .free => (match sc.names.lookup y.1 with | some .cell => true | some .free => true | _ => false)
      | .local => decide (y.1 ∈ own.map (·.1)) || decide (y.1 ∉ N)
      | .cell => decide (y.1 ∈ own.map (·.1)) || decide (y.1 ∉ N)
      | _ => true)
theorem blkOk_by {N : List Str} {sc scope : Scope} {own : List (Str × Nat)} (h : blkC N sc scope own = true) : BlkOk N sc scope own := by
  unfold blkC at h
  simp only [Bool.and_eq_true, List.all_eq_true, decide_eq_true_eq] at h
  obtain ⟨⟨⟨h1, h2⟩, h3⟩, h4⟩ := h
  refine ⟨?_, h2, h3, fun y hy e => ?_, fun y hy e => ?_⟩
  · split at h1
    · assumption
    · cases h1
  · have q := h4 y hy
    simp only [e] at q
    split at q <;> first | exact .inl (by assumption) | exact .inr (by assumption) | cases q
  · have q := h4 y hy
    rcases e with e | e <;> (simp only [e, Bool.or_eq_true, decide_eq_true_eq] at q; exact q)
end L2

namespace L2
open PySem PySem.Spec PyProof.Rows

section
variable {prog : Program} {w : World} {A : Around} {R : Result → Shared → Prop} {s : Shared} {elt t0 i0 t1 i1 : Expr} {ifs0 ifs1 : List Expr} {scope : Scope} {pos : Pos} {it acc : Value} {env : Env}
end

section
variable {X : Cx}
end
end L2

namespace L2
open PySem PySem.Spec PyProof.Rows

section
variable {κ : Type} [DecidableEq κ]
noncomputable def valV (kvs : List (κ × V)) (k : κ) : Option V := (kvs.find? fun kv => decide (kv.1 = k)).map (·.2)
/-- in its place, or at the end -/
noncomputable def putK (kvs : List (κ × V)) (k : κ) (v : V) : List (κ × V) :=
  if (kvs.any fun kv => decide (kv.1 = k)) = true then kvs.map (fun kv => if kv.1 = k then (kv.1, v) else kv) else kvs ++ [(k, v)]
theorem valV_pos {p : κ × V} {r : List (κ × V)} {k : κ} (e : p.1 = k) : valV (p :: r) k = some p.2 := by simp [valV, List.find?_cons, e]
theorem valV_neg {p : κ × V} {r : List (κ × V)} {k : κ} (e : ¬ p.1 = k) : valV (p :: r) k = valV r k := by simp [valV, List.find?_cons, e]
theorem valV_any (k : κ) : ∀ kvs : List (κ × V), (kvs.any fun kv => decide (kv.1 = k)) = (valV kvs k).isSome
  | [] => rfl
  | p :: r => by
    rw [List.any_cons]
    by_cases e : p.1 = k
    · simp only [valV_pos e, decide_eq_true e, Bool.true_or, Option.isSome_some]
    · rw [valV_neg e, decide_eq_false e, Bool.false_or]; exact valV_any k r
theorem length_putK (kvs : List (κ × V)) (k : κ) (v : V) : (putK kvs k v).length ≤ kvs.length + 1 := by
  unfold putK
  split
  · rw [List.length_map]; omega
  · rw [List.length_append, List.length_cons, List.length_nil]; omega
theorem RelO.isSome_eq {o : Option V} {u : Option Value} (r : RelO o u) : o.isSome = u.isSome := by
  cases o with
  | none => cases u with
    | none => rfl
    | some _ => exact (show False from r).elim
  | some _ => cases u with
    | none => exact (show False from r).elim
    | some _ => rfl
theorem RelO.getD {o : Option V} {u : Option Value} {d : V} {d' : Value} (r : RelO o u) (rd : RelV d d') : RelV (o.getD d) (u.getD d') := by
  cases o with
  | none => cases u with
    | none => exact rd
    | some _ => exact (show False from r).elim
  | some _ => cases u with
    | none => exact (show False from r).elim
    | some _ => exact r

/-- raw tables of the same keys -/
theorem KV.val {kvs : List (κ × V)} {vs : List (κ × Value)} (r : KV kvs vs) (k : κ) : RelO (valV kvs k) (valueAt vs k) := by
  unfold KV at r
  induction r with
  | nil => exact True.intro
  | @cons p q ps qs h t ih =>
    obtain ⟨h1, h2⟩ := h
    by_cases e : p.1 = k
    · have e' : q.1 = k := h1.symm.trans e
      have b : valueAt (q :: qs) k = some q.2 := by simp [valueAt, List.find?_cons, e']
      rw [valV_pos e, b]; exact h2
    · have e' : ¬ q.1 = k := fun z => e (h1.trans z)
      have b : valueAt (q :: qs) k = valueAt qs k := by simp [valueAt, List.find?_cons, e']
      rw [valV_neg e, b]; exact ih
theorem KV.any {kvs : List (κ × V)} {vs : List (κ × Value)} (r : KV kvs vs) (k : κ) : (kvs.any fun kv => decide (kv.1 = k)) = vs.any fun kv => decide (kv.1 = k) := by
  unfold KV at r
  induction r with
  | nil => rfl
  | cons h t ih => rw [List.any_cons, List.any_cons, ih, h.1]
theorem KV.repl {kvs : List (κ × V)} {vs : List (κ × Value)} (r : KV kvs vs) (k : κ) {y : V} {u : Value} (ry : RelV y u) :
    KV (kvs.map fun kv => if kv.1 = k then (kv.1, y) else kv) (vs.map fun kv => if kv.1 = k then (kv.1, u) else kv) := by
  unfold KV at r ⊢
  induction r with
  | nil => exact .nil
  | @cons p q ps qs h t ih =>
    rw [List.map_cons, List.map_cons]
    refine .cons ?_ ih
    obtain ⟨h1, h2⟩ := h
    by_cases e : p.1 = k
    · rw [if_pos e, if_pos (h1.symm.trans e)]; exact ⟨h1, ry⟩
    · rw [if_neg e, if_neg (fun z => e (h1.trans z))]; exact ⟨h1, h2⟩
theorem KV.put {kvs : List (κ × V)} {vs : List (κ × Value)} (r : KV kvs vs) (k : κ) {y : V} {u : Value} (ry : RelV y u) : KV (putK kvs k y) (stored vs k u) := by
  unfold putK stored
  rw [r.any k]
  by_cases e : (vs.any fun kv => decide (kv.1 = k)) = true
  · rw [if_pos e, if_pos e]; exact r.repl k ry
  · rw [if_neg e, if_neg e]; exact Paired.snoc r ⟨rfl, ry⟩
theorem KV.keys {kvs : List (κ × V)} {vs : List (κ × Value)} (r : KV kvs vs) : kvs.map (·.1) = vs.map (·.1) := by
  unfold KV at r
  induction r with
  | nil => rfl
  | cons h t ih => rw [List.map_cons, List.map_cons, ih, h.1]
theorem KV.length {kvs : List (κ × V)} {vs : List (κ × Value)} (r : KV kvs vs) : kvs.length = vs.length := Paired.length r
end


theorem kV_is {P : Program} {w : World} {k : Key} {u : Value} (r : RelV (kV k) u) : (mixKind P w).is k u = true := by
  cases k with
  | inl i => obtain ⟨t, e⟩ := (show ∃ t, u = Value.int i t from r); subst e; exact mixKind_int P w i t
  | inr x => obtain ⟨t, e⟩ := (show ∃ t, u = Value.str x t from r); subst e; exact mixKind_str P w x t
theorem items_are {P : Program} {w : World} : ∀ {ks : List Key} {us : List Value}, Vals (ks.map kV) us → ItemsAre (mixKind P w) ks us
  | [], _, r => by rw [List.map_nil] at r; cases r; exact .nil
  | k :: ks, _, r => by
    rw [List.map_cons] at r
    cases r with
    | cons h t => exact .cons (kV_is h) (items_are t)

/-- raw entries of a dict with tuple keys -/
@[reducible] noncomputable def KT (H : Hp) : List (List Key × V) → List (List Key × Addr × Value) → Prop := Paired fun p q => p.1 = q.1 ∧ H q.2.1 = some (.tup (p.1.map kV)) ∧ RelV p.2 q.2.2
theorem KT.val {H : Hp} {kvs : List (List Key × V)} {xs : List (List Key × Addr × Value)} (r : KT H kvs xs) (k : List Key) : RelO (valV kvs k) ((atKey xs k).map (·.2)) := by
  induction r with
  | nil => exact True.intro
  | @cons p q ps qs h t ih =>
    obtain ⟨h1, _, h2⟩ := h
    by_cases e : p.1 = k
    · have e' : q.1 = k := h1.symm.trans e
      have b : atKey (q :: qs) k = some q.2 := by simp [atKey, List.find?_cons, e']
      rw [valV_pos e, b]; exact h2
    · have e' : ¬ q.1 = k := fun z => e (h1.trans z)
      have b : atKey (q :: qs) k = atKey qs k := by simp [atKey, List.find?_cons, e']
      rw [valV_neg e, b]; exact ih
theorem KT.repl {H : Hp} {kvs : List (List Key × V)} {xs : List (List Key × Addr × Value)} (r : KT H kvs xs) (k : List Key) {y : V} {u : Value} (ry : RelV y u) :
    KT H (kvs.map fun kv => if kv.1 = k then (kv.1, y) else kv) (xs.map (putAt k u)) := by
  induction r with
  | nil => exact .nil
  | @cons p q ps qs h t ih =>
    rw [List.map_cons, List.map_cons]
    refine .cons ?_ ih
    obtain ⟨h1, h2, h3⟩ := h
    unfold putAt
    by_cases e : p.1 = k
    · rw [if_pos e, if_pos (h1.symm.trans e)]; exact ⟨h1, h2, ry⟩
    · rw [if_neg e, if_neg (fun z => e (h1.trans z))]; exact ⟨h1, h2, h3⟩
theorem KT.put {H : Hp} {kvs : List (List Key × V)} {xs : List (List Key × Addr × Value)} (r : KT H kvs xs) (k : List Key) {b : Addr} {y : V} {u : Value} (hb : H b = some (.tup (k.map kV))) (ry : RelV y u) :
    KT H (putK kvs k y) (storedH xs k b u) := by
  have e : (kvs.any fun kv => decide (kv.1 = k)) = (atKey xs k).isSome := by
    rw [valV_any, (r.val k).isSome_eq, Option.isSome_map]
  unfold putK storedH
  rw [e]
  by_cases q : (atKey xs k).isSome = true
  · rw [if_pos q, if_pos q]; exact r.repl k ry
  · rw [if_neg q, if_neg q]; exact Paired.snoc r ⟨rfl, hb, ry⟩
theorem KT.keeps {H H' : Hp} {kvs : List (List Key × V)} {xs : List (List Key × Addr × Value)} (r : KT H kvs xs) (ht : ∀ b ys, H b = some (.tup ys) → H' b = some (.tup ys)) : KT H' kvs xs :=
  Paired.mapP r fun _ _ z => ⟨z.1, ht _ _ z.2.1, z.2.2⟩

section
variable {P : Program} {w : World} {H : Hp} {h : Heap} {a : Addr}
theorem rd_of {u : HO} (ok : HOk P w H h) (e : Rd H a u) : ObjOk P w H h a u := e.ok ok
theorem dk_rd {kvs : List (Key × V)} (ok : HOk P w H h) (e : Rd H a (.dK kvs)) : kvs.length ≤ sizeLine ∧ (a == sysModules) = false ∧ ∃ vs, KV kvs vs ∧ h.DictOf (mixKind P w) a vs :=
  show ObjOk P w H h a (.dK kvs) from rd_of ok e
theorem dk_of {kvs : List (Key × V)} (ok : HOk P w H h) (e : H a = some (.dK kvs)) : kvs.length ≤ sizeLine ∧ (a == sysModules) = false ∧ ∃ vs, KV kvs vs ∧ h.DictOf (mixKind P w) a vs := dk_rd ok (.inl e)
/-- a tracked tuple of ints and texts is a key -/
theorem key_of {ks : List Key} (ok : HOk P w H h) (e : H a = some (.tup (ks.map kV))) : (tupleKind (mixKind P w)).is h ks a := by
  obtain ⟨_, its, r, o, h1, h2, n, h3⟩ := (show ObjOk P w H h a (.tup (ks.map kV)) from ok a _ e)
  exact ⟨o, its.toArray, n, h1, h2, h3, by simpa using items_are r⟩
theorem dt_rd {kvs : List (List Key × V)} (ok : HOk P w H h) (e : Rd H a (.dT kvs)) : kvs.length ≤ sizeLine ∧ (a == sysModules) = false ∧
    ∃ xs, KT H kvs xs ∧ h.DictOfH (tupleKind (mixKind P w)) a xs := by
  obtain ⟨z, y, xs, r, o, es, ep, h1, h2, h3, h4, h5⟩ := (show ObjOk P w H h a (.dT kvs) from rd_of ok e)
  refine ⟨z, y, xs, r, o, es, ep, h1, h2, h3, h4, fun x hx => ?_, h5⟩
  have all : ∀ {l : List (List Key × V)} {m : List (List Key × Addr × Value)}, KT H l m → ∀ x ∈ m, (tupleKind (mixKind P w)).is h x.1 x.2.1 := by
    intro l m q
    induction q with
    | nil => intro x hx; exact nomatch hx
    | @cons p q ps qs hq t ih =>
      intro x hx
      rcases List.mem_cons.mp hx with e | hx
      · subst e
        exact key_of ok (by rw [← hq.1]; exact hq.2.1)
      · exact ih x hx
  exact all r x hx
theorem dt_of {kvs : List (List Key × V)} (ok : HOk P w H h) (e : H a = some (.dT kvs)) : kvs.length ≤ sizeLine ∧ (a == sysModules) = false ∧
    ∃ xs, KT H kvs xs ∧ h.DictOfH (tupleKind (mixKind P w)) a xs := dt_rd ok (.inl e)
end

/-- what the dict at a holds at the key y -/
noncomputable def DGet (H : Hp) (a : Addr) (y : V) (r : Option V) : Prop :=
  (∃ kvs k, Rd H a (.dK kvs) ∧ y = kV k ∧ r = valV kvs k) ∨ ∃ kvs k b, Rd H a (.dT kvs) ∧ y = .ref b ∧ H b = some (.tup (k.map kV)) ∧ r = valV kvs k
/-- the heap behind a[y] = v -/
noncomputable def DPut (H : Hp) (a : Addr) (y v : V) (H' : Hp) : Prop :=
  (∃ kvs k, H a = some (.dK kvs) ∧ y = kV k ∧ kvs.length < sizeLine ∧ H' = upd H a (.dK (putK kvs k v))) ∨
  ∃ kvs k b, H a = some (.dT kvs) ∧ y = .ref b ∧ H b = some (.tup (k.map kV)) ∧ kvs.length < sizeLine ∧ H' = upd H a (.dT (putK kvs k v))
theorem DGet.k {H : Hp} {a : Addr} {kvs : List (Key × V)} {k : Key} (e : H a = some (.dK kvs)) : DGet H a (kV k) (valV kvs k) := .inl ⟨kvs, k, .inl e, rfl, rfl⟩
theorem DPut.k {H : Hp} {a : Addr} {kvs : List (Key × V)} {k : Key} {v : V} (e : H a = some (.dK kvs)) (hl : kvs.length < sizeLine) : DPut H a (kV k) v (upd H a (.dK (putK kvs k v))) := .inl ⟨kvs, k, e, rfl, hl, rfl⟩
section
variable {X : Cx} {pins : List (Addr × Obj)} {σ : St} {H : Hp} {s : Shared} {a : Addr} {y v : V} {u r : Value} {o : Option V} {A : Around} {E : Value → Shared → Prop}

theorem Inv.big (I : Inv X pins σ H s) : sysModules < s.heap.objs.size := by
  have h : mainGlobals < s.heap.objs.size := (I.mod.glob.keeps I.bk).lt
  exact Nat.lt_trans (by decide) h

/-- d[y], there -/
theorem d_getItem {Q : Value → Shared → Prop} (hu : A.units + 1 < cLine) (I : Inv X pins σ H s) (g : DGet H a y (some v)) (ry : RelV y u) (h : ∀ w' s', Inv X pins σ H s' → RelV v w' → Q w' s') :
    wpAny (model X.prog X.w) A (getItem (.ref a) u) Q E s := by
  rcases g with ⟨kvs, k, e, ey, l⟩ | ⟨kvs, k, b, e, ey, eb, l⟩
  · subst ey
    obtain ⟨z, hd, vs, rel, dd⟩ := dk_rd I.hok e
    obtain ⟨w', hw, rw'⟩ := RelO.some_of (v := v) (o := valueAt vs k) (by rw [l]; exact rel.val k)
    exact wpAny_getItem_of (kV_is ry) dd.mapOf hw (h w' _ (I.tok _) rw')
  · subst ey
    cases (show u = Value.ref b from ry)
    obtain ⟨z, hd, xs, rel, dd⟩ := dt_rd I.hok e
    obtain ⟨w', hw, rw'⟩ := RelO.some_of (v := v) (o := (atKey xs k).map (·.2)) (by rw [l]; exact rel.val k)
    obtain ⟨p, hp, hp2⟩ := Option.map_eq_some_iff.mp hw
    refine wpAny_getItem_heap (tupleKind_room_in1 hu) (key_of I.hok eb) dd hp ?_
    rw [hp2]
    exact h w' _ (I.tok _) rw'
/-- y in d -/
theorem d_in {Q : Value → Shared → Prop} (hu : A.units + 1 < cLine) (I : Inv X pins σ H s) (g : DGet H a y o) (ry : RelV y u) (h : ∀ s', Inv X pins σ H s' → Q (.bool o.isSome) s') :
    wpAny (model X.prog X.w) A (compareOp .In u (.ref a)) Q E s := by
  rcases g with ⟨kvs, k, e, ey, l⟩ | ⟨kvs, k, b, e, ey, eb, l⟩
  · subst ey
    obtain ⟨z, hd, vs, rel, dd⟩ := dk_rd I.hok e
    refine wpAny_in_of (kV_is ry) hd dd.mapOf ?_
    rw [← (rel.val k).isSome_eq, ← l]
    exact h _ (I.tok _)
  · subst ey
    cases (show u = Value.ref b from ry)
    obtain ⟨z, hd, xs, rel, dd⟩ := dt_rd I.hok e
    refine wpAny_in_heap (tupleKind_room_in1 hu) (key_of I.hok eb) hd dd ?_
    have q := (rel.val k).isSome_eq
    rw [Option.isSome_map] at q
    rw [← q, ← l]
    exact h _ (I.tok _)
/-- a dict's object is replaced -/
theorem d_write {h' : Heap} {t' : Nat} {ob : HO} (I : Inv X pins σ H s) (mu : Mut (H a)) (hs : Heap.SameBut a s.heap h') (he : ∃ q, h'.get? a = some q) (new : ObjOk X.prog X.w (upd H a ob) h' a ob) :
    Inv X pins σ (upd H a ob) { s with heap := h', toks := t' } :=
  I.write (x := a) (e := a) mu (.inl rfl) (fun b q hb z => (hs.2 b hb).trans z) he new
theorem dk_new {P : Program} {w : World} {H' : Hp} {h' : Heap} {kvs : List (Key × V)} {vs : List (Key × Value)} (z : kvs.length ≤ sizeLine) (hd : (a == sysModules) = false) (rel : KV kvs vs) (dd : h'.DictOf (mixKind P w) a vs) :
    ObjOk P w H' h' a (.dK kvs) := ⟨z, hd, vs, rel, dd⟩
/-- d[y] = v -/
theorem d_setItem {H' : Hp} {Q : Unit → Shared → Prop} (hu : A.units + 1 < cLine) (I : Inv X pins σ H s) (g : DPut H a y v H') (ry : RelV y u) (rv : RelV v r) (h : ∀ s', Inv X pins σ H' s' → Q () s') :
    wpAny (model X.prog X.w) A (setItem (.ref a) u r) Q E s := by
  rcases g with ⟨kvs, k, e, ey, l, eH⟩ | ⟨kvs, k, b, e, ey, eb, l, eH⟩
  · subst ey eH
    obtain ⟨z, hd, vs, rel, dd⟩ := dk_of I.hok e
    have hz : vs.length ≤ sizeLine := by rw [← rel.length]; exact z
    have hl : (putK kvs k v).length ≤ sizeLine := by have := length_putK kvs k v; omega
    refine wpAny_setItem_pairs (hsz := hz) (kV_is ry) dd fun h' dd' hs => h _ ?_
    have he : ∃ q, h'.get? a = some q := let ⟨q, _, _, hq, _⟩ := dd'; ⟨q, hq⟩
    exact d_write I (by rw [e]; exact True.intro) hs he (dk_new hl hd (rel.put k rv) dd')
  · subst ey eH
    cases (show u = Value.ref b from ry)
    obtain ⟨z, hd, xs, rel, dd⟩ := dt_of I.hok e
    have hz : xs.length ≤ sizeLine := by rw [← Paired.length rel]; exact z
    have hl : (putK kvs k v).length ≤ sizeLine := by have := length_putK kvs k v; omega
    refine wpAny_setItem_heap (hsz := hz) (tupleKind_room_in1 hu) (key_of I.hok eb) dd fun h' dd' hs => h _ ?_
    obtain ⟨q, es, ep, hq, h2, h3, h4, _, h5⟩ := dd'
    refine d_write I (by rw [e]; exact True.intro) hs ⟨q, hq⟩ ⟨hl, hd, _, (rel.put k eb rv).keeps fun c ys ec => ?_, q, es, ep, hq, h2, h3, h4, h5⟩
    rw [upd_ne (ne_of ec e (fun z => nomatch z))]
    exact ec
end

section
variable {X : Cx} {pins : List (Addr × Obj)} {σ : St} {H : Hp} {s : Shared} {a : Addr} {kvs : List (Key × V)} {k : Key} {u : Value} {A : Around} {E : Value → Shared → Prop}
/-- len(d) -/
theorem d_len {Q : Value → Shared → Prop} (I : Inv X pins σ H s) (e : Rd H a (.dK kvs)) (h : ∀ t s', Inv X pins σ H s' → Q (.int kvs.length t) s') : wpAny (model X.prog X.w) A (call (.builtin "len") [.ref a]) Q E s := by
  obtain ⟨z, hd, vs, rel, dd⟩ := dk_rd I.hok e
  refine call_len_dict hd dd (by rw [← rel.length]; rw [sizeLine_eq] at z; omega) ?_
  rw [← rel.length]
  exact h _ _ (I.tok _)
end


/-- the element of a subscription, not a slice -/
noncomputable def NoSl (i : Expr) : Prop := ∀ ov iv, subscripted i false ov iv = operate [ov, iv] (getItem ov iv)
theorem subD_of {prog : Program} {w : World} {A : Around} {E : Value → Shared → Prop} {s : Shared} {env : Env} {value slice : Expr} {pos : Pos} {T id : String} {Q : Value → Shared → Prop}
    (hl : typeLookup (.type T) "__getitem__" = pure (some (.builtin id))) (hs : NoSl slice)
    (h : wpAny (model prog w) A (eval value env) (fun o s₁ => wpAny (model prog w) A (eval slice env) (fun i s₂ => s₂.TypeIs o T ∧ wpAny (model prog w) A (getItem o i) Q E s₂) E s₁) E s) :
    wpAny (model prog w) A (eval (.Subscript value slice pos) env) Q E s := by
  refine Subscript_ (wpAny_mono h (fun o s₁ h₁ => wpAny_mono h₁ (fun i s₂ h₂ => ?_) fun _ _ x => x) fun _ _ x => x)
  obtain ⟨hT, h₂⟩ := h₂
  unfold subscriptTail
  refine wpAny_bind ?_
  rw [getitemInPython_of_ne hT.not_modules]
  refine wpAny_bind (wpAny_specialOf hT hl ?_)
  have fin : wpAny (model prog w) A (subscripted slice false o i) (fun r s₃ => wpAny (model prog w) A (letTemporaryGo value o r >>= fun _ => pure r) Q E s₃) E s₂ := by
    rw [hs o i]
    exact wpAny_operating (wpAny_mono h₂ (fun r s₃ h₃ => wpAny_bind (wpAny_letTemporaryGo (wpAny_pure h₃))) fun _ _ x => x)
  first
    | exact wpAny_pure (wpAny_bind fin)
    | exact wpAny_bind (wpAny_pure (wpAny_bind fin))
    | exact wpAny_bind fin

theorem dict_typeIs {X : Cx} {pins : List (Addr × Obj)} {σ : St} {H : Hp} {s : Shared} {a : Addr} {y : V} {o : Option V} (I : Inv X pins σ H s) (g : DGet H a y o) : s.TypeIs (.ref a) "dict" := by
  rcases g with ⟨kvs, k, e, _, _⟩ | ⟨kvs, k, b, e, _, _, _⟩
  · obtain ⟨_, _, vs, _, dd⟩ := dk_rd I.hok e
    exact dd.typeIs
  · obtain ⟨_, _, xs, _, dd⟩ := dt_rd I.hok e
    exact dd.typeIs
/-- d[y] -/
noncomputable def tDGet (td ty : TE) : TE := fun σ H Q => td σ H fun x H1 => ty σ H1 fun y H2 => ∃ a v, x = .ref a ∧ DGet H2 a y (some v) ∧ Q v H2
/-- y in d, y not in d -/
noncomputable def tDIn (ty td : TE) : TE := fun σ H Q => ty σ H fun y H1 => td σ H1 fun x H2 => ∃ a o, x = .ref a ∧ DGet H2 a y o ∧ Q (.bl o.isSome) H2
/-- d[y] = v -/
noncomputable def sDPut (td ty tv : TE) : TS := fun D σ H => tv σ H fun v H1 => td σ H1 fun x H2 => ty σ H2 fun y H3 => ∃ a H4, x = .ref a ∧ DPut H3 a y v H4 ∧ D.nx σ H4
section
variable {X : Cx} {o i e value : Expr} {pos pos' tpos : Pos} {td ty tv : TE}
theorem pe_dget (hu : X.A.units + 1 < cLine) (ho : PE X o td) (hi : PE X i ty) (hs : NoSl i) : PE X (.Subscript o i pos) (tDGet td ty) := by
  intro pins s σ H Q I h
  refine subD_of PySem.F.slot_dict_getitem.lookup hs (thn (ho pins s σ H _ I h) fun u s1 ⟨x, H1, I1, rx, q1⟩ => thn (hi pins s1 σ H1 _ I1 q1) fun iv s2 ⟨y, H2, I2, ry, a, v, ex, g, q2⟩ => ?_)
  subst ex
  obtain rfl : u = Value.ref a := rx
  exact ⟨dict_typeIs I2 g, d_getItem hu I2 g ry fun w' s3 I3 rw' => ⟨v, H2, I3, rw', q2⟩⟩
theorem pc_din (hu : X.A.units + 1 < cLine) (hi : PE X i ty) (ho : PE X o td) : PC X .In i o (tDIn ty td) := by
  intro pins s σ H Q I h
  refine thn (hi pins s σ H _ I h) fun iv s1 ⟨y, H1, I1, ry, q1⟩ => thn (ho pins s1 σ H1 _ I1 q1) fun u s2 ⟨x, H2, I2, rx, a, ov, ex, g, q2⟩ => ?_
  subst ex
  obtain rfl : u = Value.ref a := rx
  exact d_in hu I2 g ry fun s3 I3 => ⟨.bl ov.isSome, H2, I3, rfl, q2⟩
theorem ps_dput (hu : X.A.units + 1 < cLine) (ho : PE X o td) (hi : PE X i ty) (hv : PE X value tv) (hs : swapsWith value (some (.Subscript o i pos')) pos.line X.env = pure false) :
    PS X (.Assign [.Subscript o i pos'] value pos) (sDPut td ty tv) := by
  intro pins s σ H D I h
  refine wpAny_Assign_Subscript (thn (hv pins s σ H _ I h) fun r s1 ⟨v, H1, I1, rv, q1⟩ => thn (ho pins s1 σ H1 _ I1 q1) fun u s2 ⟨x, H2, I2, rx, q2⟩ => thn (hi pins s2 σ H2 _ I2 q2) fun iv s3 ⟨y, H3, I3, ry, a, H4, ex, g, q3⟩ => ?_) hs
  subst ex
  obtain rfl : u = Value.ref a := rx
  exact d_setItem hu I3 g ry rv fun s4 I4 => ⟨σ, H4, I4, q3⟩
end


theorem dk_empty {P : Program} {w : World} {H : Hp} (h : Heap) (hb : sysModules < h.objs.size) : ObjOk P w H (h.push { cls := .type "dict", data := .dict #[] }) h.objs.size (.dK []) :=
  ⟨Nat.zero_le _, beq_eq_false_iff_ne.mpr (Ne.symm (Nat.ne_of_lt hb)), [], .nil, Heap.DictOf.new h⟩
/-- {}, to be a dict of the kind that is wanted -/
noncomputable def tDNewK : TE := fun _ H Q => ∀ p, H p = none → Q (.ref p) (upd H p (.dK []))
section
variable {X : Cx} {pos : Pos}
theorem pe_dnewK : PE X (.Dict [] [] pos) tDNewK := fun pins s σ H Q I h =>
  wpAny_Dict_empty ⟨.ref s.heap.objs.size, _, I.laid (a := s.heap.objs.size) (o := .dK []) (t' := s.toks) (fun _ _ q => Heap.get?_push_of_some _ q) (Nat.le_refl _) (dk_empty s.heap I.big), rfl, h _ (I.hok.fresh (Nat.le_refl _))⟩
end

noncomputable def mergeK (kvs more : List (Key × V)) : List (Key × V) := more.foldl (fun acc kv => putK acc kv.1 kv.2) kvs
theorem KV.merge : ∀ {more : List (Key × V)} {rs : List (Key × Value)} {kvs : List (Key × V)} {vs : List (Key × Value)}, KV more rs → KV kvs vs → KV (mergeK kvs more) (merged vs rs) := by
  intro more rs kvs vs r
  unfold KV at r
  induction r generalizing kvs vs with
  | nil => intro q; exact q
  | @cons p q ps qs h t ih =>
    intro r0
    have e : KV (putK kvs p.1 p.2) (stored vs q.1 q.2) := by
      have := r0.put p.1 h.2
      rw [← h.1]; exact this
    exact ih e
theorem length_mergeK : ∀ (more kvs : List (Key × V)), (mergeK kvs more).length ≤ kvs.length + more.length
  | [], kvs => by show kvs.length ≤ kvs.length + 0; omega
  | p :: r, kvs => by
    have h1 := length_mergeK r (putK kvs p.1 p.2)
    have h2 := length_putK kvs p.1 p.2
    show (mergeK (putK kvs p.1 p.2) r).length ≤ _
    rw [List.length_cons]; omega
structure M2 (X : Cx) (o : Expr) (m : Str) (apos : Pos) (e f : Expr) (cpos : Pos) : Prop where
  base : attributeBase o m X.env (eval o X.env) = eval o X.env
  few : ((backTo cpos (starEach [e, f] X.env)).all (fun x => !x.1) && (backToKw cpos (keywordEach [] X.env)).all (fun x => x.1.isSome)
    && decide (([e, f] : List Expr).length + ([] : List Keyword).length + (if ([] : List Keyword).isEmpty then 0 else 1) < 30)) = true
  line : (apos.endLine == cpos.line) = true
  trees : backTo cpos (starEach [e, f] X.env) = [(false, eval e X.env), (false, eval f X.env)]

/-- a is a dict, whatever its keys -/
noncomputable def IsD (H : Hp) (a : Addr) : Prop := (∃ kvs, Rd H a (.dK kvs)) ∨ ∃ kvs, Rd H a (.dT kvs)
theorem isD_at {X : Cx} {pins : List (Addr × Obj)} {σ : St} {H : Hp} {s : Shared} {a : Addr} (I : Inv X pins σ H s) (d : IsD H a) :
    s.TypeIs (.ref a) "dict" ∧ (∀ b, Value.ref a = .ref b → ∃ ob, s.heap.get? b = some ob ∧ ob.dict = none) ∧ (a == sysModules) = false := by
  rcases d with ⟨kvs, e⟩ | ⟨kvs, e⟩
  · obtain ⟨_, hd, vs, _, dd⟩ := dk_rd I.hok e
    refine ⟨dd.typeIs, fun b q => ?_, hd⟩
    cases q
    obtain ⟨ob, _, _, h1, h2, _⟩ := dd
    exact ⟨ob, h1, h2.2.1⟩
  · obtain ⟨_, hd, xs, _, dd⟩ := dt_rd I.hok e
    refine ⟨dd.typeIs, fun b q => ?_, hd⟩
    cases q
    obtain ⟨ob, _, _, h1, h2, _⟩ := dd
    exact ⟨ob, h1, h2.2.1⟩

section
variable {X : Cx} {pins : List (Addr × Obj)} {σ : St} {H : Hp} {s : Shared} {a : Addr} {y d : V} {u r : Value} {o : Option V} {A : Around} {E : Value → Shared → Prop}
/-- d.get(y, x) -/
theorem d_get2 {Q : Value → Shared → Prop} (hu : A.units + 1 < cLine) (I : Inv X pins σ H s) (g : DGet H a y o) (ry : RelV y u) (rd : RelV d r) (h : ∀ w' s', Inv X pins σ H s' → RelV (o.getD d) w' → Q w' s') :
    wpAny (model X.prog X.w) A (call (.builtin "dict.get") [.ref a, u, r]) Q E s := by
  rcases g with ⟨kvs, k, e, ey, l⟩ | ⟨kvs, k, b, e, ey, eb, l⟩
  · subst ey
    obtain ⟨z, hd, vs, rel, dd⟩ := dk_rd I.hok e
    refine call_meetsIn PySem.F.slot_dict_get dd.typeIs PySem.F.entry_dict_get (PySem.F.args_dict_get_3 _ _ _) (meets_dict_get_default (mixKind X.prog X.w) a (kV_is ry) hd r) ⟨_, dd.mapOf, h _ _ (I.tok _) ?_⟩
    rw [l]
    exact (rel.val k).getD rd
  · subst ey
    cases (show u = Value.ref b from ry)
    obtain ⟨z, hd, xs, rel, dd⟩ := dt_rd I.hok e
    refine call_meetsIn PySem.F.slot_dict_get dd.typeIs PySem.F.entry_dict_get (PySem.F.args_dict_get_3 _ _ _) (meetsH_dict_get_default (tupleKind (mixKind X.prog X.w)) a b hd r) ⟨tupleKind_room_in1 hu, k, xs, key_of I.hok eb, dd, h _ _ (I.tok _) ?_⟩
    rw [l]
    exact (rel.val k).getD rd
end

noncomputable def tDGet2 (td ty tx : TE) : TE := fun σ H Q => td σ H fun x H1 => ∃ a, x = .ref a ∧ IsD H1 a ∧ ty σ H1 fun y H2 => tx σ H2 fun z H3 => ∃ o, DGet H3 a y o ∧ Q (o.getD z) H3
section
variable {X : Cx} {o e f : Expr} {apos cpos : Pos} {td ty tx : TE}
theorem pe_dget2 (hu : X.A.units + 1 < cLine) (ho : PE X o td) (he : PE X e ty) (hf : PE X f tx) (m : M2 X o "get" apos e f cpos) : PE X (.Call (.Attribute o "get" apos) [e, f] [] cpos) (tDGet2 td ty tx) := by
  intro pins s σ H Q I h
  refine wpAny_Call_method m.base m.few m.line PySem.F.plainAttrs_dict PySem.F.slot_dict_get PySem.F.type_dict_get (thn (ho pins s σ H _ I h) fun u s1 ⟨x, H1, I1, rx, a, ex, d, q1⟩ => ?_)
  subst ex
  obtain rfl : u = Value.ref a := rx
  obtain ⟨t1, t2, _⟩ := isD_at I1 d
  refine ⟨t1, t2, ?_⟩
  rw [m.trees]
  refine Calls.callWith_builtin rfl (Calls.evalArgs_plain (Calls.spliced_cons (thn (he pins s1 σ H1 _ I1 q1) fun iv s2 ⟨y, H2, I2, ry, q2⟩ =>
    Calls.spliced_cons (thn (hf pins s2 σ H2 _ I2 q2) fun fv s3 ⟨z, H3, I3, rz, ov, g, q3⟩ => Calls.spliced_nil ?_))))
  exact d_get2 hu I3 g ry rz fun w' s4 I4 rw' => ⟨_, H3, I4, rw', q3⟩
end

section
variable {X : Cx} {pins : List (Addr × Obj)} {σ : St} {H : Hp} {s : Shared} {a : Addr} {kvs : List (Key × V)} {A : Around} {E : Value → Shared → Prop}
theorem d_copyOf {Q : Value → Shared → Prop} (I : Inv X pins σ H s) (e : Rd H a (.dK kvs)) (h : ∀ p s', H p = none → Inv X pins σ (upd H p (.dK kvs)) s' → Q (.ref p) s') : wpAny (model X.prog X.w) A (call (.type "dict") [.ref a]) Q E s := by
  obtain ⟨z, hd, vs, rel, dd⟩ := dk_rd I.hok e
  refine kt_call_dict hd dd (by rw [← rel.length]; exact z) fun h' dd' hs => ?_
  refine h _ _ (I.hok.fresh (Nat.le_refl _)) (I.laid (a := s.heap.objs.size) (o := .dK kvs) (t' := s.toks) (fun b q hq => ?_) (Nat.le_refl _) (dk_new z (beq_eq_false_iff_ne.mpr (Ne.symm (Nat.ne_of_lt I.big))) rel dd'))
  exact (hs.2 b (Nat.ne_of_lt (Heap.lt_size hq))).trans (Heap.get?_push_of_some _ hq)
end


section
variable {X : Cx} {pins : List (Addr × Obj)} {σ : St} {H : Hp} {s : Shared} {a : Addr} {y : V} {u : Value} {A : Around} {E : Value → Shared → Prop}
end
end L2

namespace L2
open PySem PySem.Spec PyProof.Rows

theorem list_keys_none : typeLookup (.type "list") "keys" = pure none := am_miss_of_fast (by first | decide +kernel | rfl)
theorem ud_entry : entryFor table "dict.update.loop" = some Builtin.«dict.update.loop» := entryFor_of_tree (by kernel_rfl)
theorem ud_plain : plainId "dict.update.loop" = true := by decide +kernel

section
variable {prog : Program} {w : World} {A : Around} {E : Value → Shared → Prop}
/-- a list has no attribute 'keys': an AttributeError is made, and forgotten -/
theorem miss_list {s : Shared} {a : Addr} {o : Obj} {xs : Array Value} {k : Nat} {Q : Option Value → Shared → Prop} (hx : s.heap.get? a = some o) (hc : o.cls = .type "list") (hdat : o.data = .seq xs k) (hd : o.dict = none) (hA : A.handled = none)
    (h : ∀ h' tk, (∀ b ob, s.heap.get? b = some ob → h'.get? b = some ob) → Q none { s with heap := h', toks := tk }) : wpAny (model prog w) A (getAttr? (.ref a) "keys") Q E s := by
  obtain ⟨c, dct, dat, sl⟩ := o
  simp only at hc hdat hd
  subst hc hdat hd
  obtain ⟨hp, g, d, tk, os⟩ := s
  have hT : ∀ tk', (⟨hp, g, d, tk', os⟩ : Shared).TypeIs (.ref a) "list" := fun _ => ⟨_, hx, rfl⟩
  have hmiss := list_keys_none
  have hname : (["__module__", "__name__", "__qualname__", "__doc__", "__annotations__"] : List Str).contains "keys" = false := by decide +kernel
  have hsz : ("keys" : Str).length + 100 ≤ sizeLine := by first | size_fits | decide +kernel
  have f1 := sub_AttributeError
  have f3 := PySem.F.slot_list_getattribute.lookup
  have f4 := PySem.F.slot_list_getattribute.bind (.ref a)
  have f5 := am_list_getattr_none
  unfold getAttr? getAttrBy? getAttrBy
  repeat (any_goals (first | assumption | exact hT _ | ((with_reducible show wpAny _ _ (call (Value.builtin "list.__getattribute__") _ _) _ _ _); refine call_meets PySem.F.slot_list_getattribute (hT _) am_entry_list_getattribute (PySem.F.args_list_getattribute_2 _ _) (meets_getattribute_miss_list a xs k sl "keys" _ hmiss hname hsz) ⟨hx, hA, fun h' tk' e hx' => ?_⟩) | wp_step))
  obtain ⟨t', u', he⟩ := hx'.there
  show wpAny _ _ (getattributeRaised _ _ _ _ _ _ _) _ _ _
  unfold getattributeRaised
  repeat (any_goals (first | assumption | wp_step))
  all_goals first | exact h _ _ hx'.keeps | (dsimp only; repeat (any_goals (first | assumption | exact h _ _ hx'.keeps | wp_step)))

/-- the walk over the pairs -/
theorem upd_loop {R : Result → Shared → Prop} {S I l : Addr} {items : Array Value} {res : Value} (hh : A.handled = none) (hlI : l ≠ I) (hSI : S ≠ I) (hSl : S ≠ l) :
    ∀ (rest : List (Key × Value)) (i : Nat) (acc : List (Key × Value)) (ix : Int) (t : Tok) (s : Shared), items.size = i + rest.length → acc.length + rest.length ≤ sizeLine →
      (∀ (j : Nat) (q : Key × Value), rest[j]? = some q → ∃ (b : Addr) (u : Value), items[i + j]? = some (.ref b) ∧ b ≠ S ∧ b ≠ I ∧ IsTup s.heap b #[u, q.2] ∧ keyIs q.1 u = true) →
      s.heap.IsListIter I l i → s.heap.IsList l items → s.heap.DictOf (mixKind prog w) S acc →
      (∀ h' tk, h'.DictOf (mixKind prog w) S (merged acc rest) → (∀ b o, b ≠ S → b ≠ I → s.heap.get? b = some o → h'.get? b = some o) → R (.ok (.ret res)) { s with heap := h', toks := tk }) →
      codeAny (model prog w) A (.builtin "dict.update.loop" ⟨[.ref S, .ref I, .int ix t, res], []⟩) R s
  | [], i, acc, ix, t, s, hsz, hln, ht, hit, hl, hm, hR => by
    refine codeAny_builtin ud_entry ?_
    rw [Around.under_plainId ud_plain _]
    show wpAny _ A.in1 (pyNext (.ref I) >>= _) _ _ s
    refine wpAny_bind (wpAny_pyNext_list_end (A := A.in1) hh hit hl (by first | exact Array.getElem?_eq_none (Nat.le_of_eq hsz) | (simp at hsz; simp; omega)) fun h' he => ?_)
    show wpAny _ A.in1 (Builtin.Dict.addKeywords S [] >>= _) _ _ _
    refine wpAny_bind (wpAny_pure (wpAny_pure ?_))
    exact hR h' s.toks (hm.extBut he hSI) fun b o _ hb e => he b o hb e
  | q :: rest, i, acc, ix, t, s, hsz, hln, ht, hit, hl, hm, hR => by
    obtain ⟨b, u, hb, hbS, hbI, htup, hk⟩ := ht 0 q rfl
    rw [List.length_cons] at hsz hln
    refine codeAny_builtin ud_entry ?_
    rw [Around.under_plainId ud_plain _]
    show wpAny _ A.in1 (pyNext (.ref I) >>= _) _ _ s
    refine wpAny_bind (wpAny_pyNext_list_item (x := .ref b) hit hl (by simpa using hb) fun h1 hit1 hs1 => ?_)
    have ht1 : IsTup h1 b #[u, q.2] := htup.extBut hs1.extBut hbI
    have hl1 : h1.IsList l items := hl.extBut hs1.extBut hlI
    have hm1 : h1.DictOf (mixKind prog w) S acc := hm.extBut hs1.extBut hSI
    obtain ⟨o, ho, hc, n, hd⟩ := id ht1
    show wpAny _ A.in1 (holding [Value.ref b] _ >>= _) _ _ _
    refine wpAny_bind (wpAny_holding ?_)
    refine wpAny_bind (wpAny_tryCatch ?_)
    unfold Builtin.Dict.pairItems
    refine wpAny_bind (wpAny_typeOf (T := "tuple") ⟨o, ho, hc⟩ ?_)
    rw [if_pos (by first | decide | rfl | simp)]
    refine wpAny_bind (wpAny_seqItems ho hd (wpAny_pure ?_))
    show wpAny _ A.in1 (holding [u, q.2] (dictSet S u q.2)) _ _ _
    refine wpAny_holding (wpAny_dictSet_pairs (knd := mixKind prog w) (k := q.1) hk hm1 (fun h2 hm2 hs2 => ?_) (by omega))
    refine wpAny_pure ⟨plainId_quiet ud_plain _, upd_loop (items := items) hh hlI hSI hSl rest (i + 1) (stored acc q.1 q.2) (ix + 1) 0 _ (show items.size = i + 1 + rest.length by omega) ?_ (fun j q' e => ?_) ?_ ?_ hm2 fun h' tk hd' k => ?_⟩
    · have z := stored_length_le acc q.1 q.2
      omega
    · obtain ⟨b', u', hb', hbS', hbI', htup', hk'⟩ := ht (j + 1) q' (by simpa using e)
      refine ⟨b', u', ?_, hbS', hbI', (htup'.extBut hs1.extBut hbI').extBut hs2.extBut hbS', hk'⟩
      rw [show i + 1 + j = i + (j + 1) by omega]
      exact hb'
    · exact hit1.at fun o' e => hs2.extBut I o' (Ne.symm hSI) e
    · exact hl1.extBut hs2.extBut (Ne.symm hSl)
    · exact hR h' tk hd' fun c oc h3 h4 e => k c oc h3 h4 (hs2.extBut c oc h3 (hs1.extBut c oc h4 e))

/-- dict(l) of a list of pairs -/
theorem call_dict_pairs {s : Shared} {l : Addr} {ol : Obj} {items : Array Value} {n : Nat} {prs : List (Key × Value)} {Q : Value → Shared → Prop} (hh : A.handled = none) (hl : s.heap.get? l = some ol) (hc : ol.cls = .type "list") (hd : ol.dict = none)
    (hdat : ol.data = .seq items n) (hsz : items.size = prs.length) (hln : prs.length ≤ sizeLine)
    (ht : ∀ (j : Nat) (q : Key × Value), prs[j]? = some q → ∃ (b : Addr) (u : Value), items[j]? = some (.ref b) ∧ IsTup s.heap b #[u, q.2] ∧ keyIs q.1 u = true)
    (h : ∀ h' tk, h'.DictOf (mixKind prog w) s.heap.objs.size (merged [] prs) → (∀ b o, s.heap.get? b = some o → h'.get? b = some o) → Q (.ref s.heap.objs.size) { s with heap := h', toks := tk }) :
    wpAny (model prog w) A (call (.type "dict") [.ref l]) Q E s := by
  refine callType_codes (Q₁ := fun obj s₁ => obj = .ref s.heap.objs.size ∧ s₁ = { s with heap := s.heap.push { cls := .type "dict", data := .dict #[] } }) PySem.F.kt_called_dict (PySem.F.kt_typeCall_dict_1 _) PySem.F.entry_dict_init (kt_code_dict_new _ ⟨rfl, rfl⟩) ?_
  rintro obj s₁ ⟨rfl, rfl⟩
  have hnew : (s.heap.push { cls := .type "dict", data := .dict #[] }).DictOf (mixKind prog w) s.heap.objs.size [] := Heap.DictOf.new s.heap
  have k0 : ∀ b o, s.heap.get? b = some o → (s.heap.push { cls := .type "dict", data := .dict #[] }).get? b = some o := fun b o e => Heap.get?_push_of_some _ e
  refine ⟨hnew.typeIs, PySem.F.args_dict_init_2 _ _, ?_⟩
  unfold Builtin.«dict.__init__»
  refine wpAny_bind ?_
  unfold Builtin.Dict.selfAndRest
  refine wpAny_bind (wpAny_notOrdered_dict hnew.typeIs ?_)
  show wpAny _ _ (pure (s.heap.objs.size, [Value.ref l])) _ _ _
  refine wpAny_pure ?_
  show wpAny _ _ (Builtin.Dict.updateFrom "dict.__init__" s.heap.objs.size (.ref l) [] .none) _ _ _
  unfold Builtin.Dict.updateFrom
  refine wpAny_bind (wpAny_typeOf (T := "list") ⟨ol, k0 _ _ hl, hc⟩ ?_)
  rw [if_pos (by first | decide | rfl | simp)]
  refine wpAny_bind (miss_list (k0 _ _ hl) hc hdat hd hh fun h1 tk1 hk1 => ?_)
  rw [if_pos (show (none : Option Value).isNone = true from rfl)]
  refine wpAny_bind (wpAny_rule ?_)
  have hl1 : h1.IsList l items := ⟨ol, hk1 _ _ (k0 _ _ hl), hc, n, hdat⟩
  have hS1 : s.heap.objs.size < h1.objs.size := by
    have e : (s.heap.push { cls := .type "dict", data := .dict #[] }).get? s.heap.objs.size = some { cls := .type "dict", data := .dict #[] } := Heap.get?_push_size _ rfl
    exact Heap.lt_size (hk1 _ _ e)
  refine wpAny_bind (wpAny_pyIter_list hl1 ?_)
  have k2 : ∀ b o, h1.get? b = some o → (h1.push { cls := .type "list_iterator", data := .fields #[.ref l, .int 0 0] }).get? b = some o := fun b o e => Heap.get?_push_of_some _ e
  have hlt : l < s.heap.objs.size := Heap.lt_size hl
  have key := upd_loop (prog := prog) (w := w) (A := A.in1) (R := wants (fun r s₂ => r = .none ∧ Q (.ref s.heap.objs.size) s₂) E) (S := s.heap.objs.size) (I := h1.objs.size) (l := l) (items := items) (res := Value.none) hh
    (Nat.ne_of_lt (Nat.lt_trans hlt hS1)) (Nat.ne_of_lt hS1) (Nat.ne_of_gt hlt) prs 0 [] 0 0
    { s with heap := h1.push { cls := .type "list_iterator", data := .fields #[.ref l, .int 0 0] }, toks := tk1 } (by rw [hsz, Nat.zero_add]) (by rw [List.length_nil, Nat.zero_add]; exact hln)
    (fun j q e => by
      obtain ⟨b, u, e1, e2, e3⟩ := ht j q e
      have hb : b < s.heap.objs.size := e2.lt
      exact ⟨b, u, by rw [Nat.zero_add]; exact e1, Nat.ne_of_lt hb, Nat.ne_of_lt (Nat.lt_trans hb hS1), e2.keeps fun c o z => k2 _ _ (hk1 _ _ (k0 _ _ z)), e3⟩)
    ⟨_, Heap.get?_push_size _ rfl, rfl, rfl⟩ (hl1.at fun o e => k2 _ _ e) ((hnew.at fun o e => hk1 _ _ e).at fun o e => k2 _ _ e)
    (fun h' tk hd' k => ⟨rfl, h h' tk hd' fun b o e => k b o (Nat.ne_of_lt (Heap.lt_size e)) (Nat.ne_of_lt (Nat.lt_trans (Heap.lt_size e) hS1)) (k2 _ _ (hk1 _ _ (k0 _ _ e)))⟩)
  first
    | exact wpAny_pure ⟨plainId_quiet ud_plain _, key⟩
    | exact wpAny_bind (wpAny_pure (wpAny_pure ⟨plainId_quiet ud_plain _, key⟩))
end

section
variable {X : Cx}
theorem pairs_of {pins : List (Addr × Obj)} {σ : St} {H : Hp} {s : Shared} (I : Inv X pins σ H s) : ∀ {ps : List Addr} {kvs : List (Key × V)}, Paired (fun p kv => SqT X.K H p [kV kv.1, kv.2]) ps kvs →
    ∃ prs : List (Key × Value), KV kvs prs ∧ prs.length = ps.length ∧ ∀ (j : Nat) (q : Key × Value), prs[j]? = some q → ∃ (b : Addr) (u : Value), ps[j]? = some b ∧ IsTup s.heap b #[u, q.2] ∧ keyIs q.1 u = true
  | _, _, .nil => ⟨[], .nil, rfl, fun j q e => by simp at e⟩
  | _, _, .cons (a := p) (b := kv) h t => by
    obtain ⟨prs, r, hl, hp⟩ := pairs_of I t
    obtain ⟨its, rv, ht, _⟩ := I.tuple h
    obtain ⟨u, y, ei, ru, ry⟩ := vals2 rv
    subst ei
    refine ⟨(kv.1, y) :: prs, .cons ⟨rfl, ry⟩ r, by rw [List.length_cons, List.length_cons, hl], fun j q e => ?_⟩
    cases j with
    | zero =>
      have e' : (kv.1, y) = q := Option.some.inj e
      subst e'
      exact ⟨p, u, rfl, ht, kV_is (P := X.prog) (w := X.w) ru⟩
    | succ j =>
      obtain ⟨b, u', e1, e2, e3⟩ := hp j q (by simpa using e)
      exact ⟨b, u', by simpa using e1, e2, e3⟩
theorem refs_at : ∀ {ps : List Addr} {us : List Value}, Vals (ps.map V.ref) us → us = ps.map Value.ref
  | [], us, r => by
    rw [List.map_nil] at r
    cases r
    rfl
  | p :: ps, us, r => by
    rw [List.map_cons] at r
    cases r with
    | cons h t =>
      cases h
      rw [List.map_cons, ← refs_at t]
/-- dict(xs) of a list of pairs (key, value): later pairs win, the place is the first one's -/
theorem call_dictP (hcalm : X.calm = true) : CallR X (.type "dict") (fun xs H Q => ∃ (a : Addr) (ps : List Addr) (kvs : List (Key × V)), xs = [.ref a] ∧ SqL X.K H a (ps.map V.ref) ∧ Paired (fun p kv => SqT X.K H p [kV kv.1, kv.2]) ps kvs ∧
    ∀ p, H p = none → Q (.ref p) (upd H p (.dK (mergeK [] kvs)))) := by
  intro pins s σ H xs us Q I r q
  obtain ⟨a, ps, kvs, ex, hq, hp, q⟩ := q
  subst ex
  obtain ⟨u, eu, rx⟩ := vals1 r
  subst eu
  cases rx
  obtain ⟨its, rv, pl, hz⟩ := I.list hq
  have ei := refs_at rv
  subst ei
  rw [List.length_map] at hz
  obtain ⟨prs, rel, hl, hpr⟩ := pairs_of I hp
  obtain ⟨o, n, ho, hc, hd, hdat⟩ := pl
  refine call_dict_pairs (prs := prs) (I.ok.hd hcalm) ho hc hd hdat (by simp [hl]) (by rw [hl]; exact hz) (fun j q' e => ?_) fun h' tk hd' k => ?_
  · obtain ⟨b, u, e1, e2, e3⟩ := hpr j q' e
    exact ⟨b, u, by simp [e1], e2, e3⟩
  · have hm : (s.heap.objs.size == sysModules) = false := beq_eq_false_iff_ne.mpr (Nat.ne_of_gt I.big)
    have hlen : (mergeK [] kvs).length ≤ sizeLine := by
      refine Nat.le_trans (length_mergeK kvs []) ?_
      rw [List.length_nil, Nat.zero_add, rel.length, hl]
      exact hz
    exact ⟨.ref s.heap.objs.size, upd H s.heap.objs.size (.dK (mergeK [] kvs)), I.laid (t' := tk) k (Nat.le_refl _) (show ObjOk X.prog X.w _ _ _ (.dK (mergeK [] kvs)) from ⟨hlen, hm, merged [] prs, KV.merge rel .nil, hd'⟩), rfl, q _ (I.hok.fresh (Nat.le_refl _))⟩
end
end L2

namespace L2
open PySem PySem.Spec PyProof.Rows

section
variable {X : Cx} {pins : List (Addr × Obj)} {σ : St} {H : Hp} {s : Shared} {h' : Heap}
theorem Inv.lock {d : Addr} {u : HO} (I : Inv X pins σ H s) (h : H d = some u) (mu : Mut (some u)) : ∃ od, Inv X pins σ (upd H d (.frz od u)) s := by
  have x := I.hok d u h
  have ex : ∃ od, s.heap.get? d = some od := by
    cases u with
    | lst xs => obtain ⟨_, _, _, _, e⟩ := x; exact ⟨_, e⟩
    | dK kvs => obtain ⟨_, _, _, _, o, _, _, e, _⟩ := x; exact ⟨o, e⟩
    | dT kvs => obtain ⟨_, _, _, _, o, _, _, e, _⟩ := x; exact ⟨o, e⟩
    | set S n => obtain ⟨o, _, _, _, e, _⟩ := x; exact ⟨o, e⟩
    | ins C dx fs => obtain ⟨_, _, _, e, _⟩ := x; exact ⟨_, e⟩
    | ext φ => obtain ⟨_, ⟨_, e⟩, _⟩ := x; exact ⟨_, e⟩
    | _ => exact False.elim mu
  obtain ⟨od, e⟩ := ex
  have new : ObjOk X.prog X.w (upd H d (.frz od u)) s.heap d (.frz od u) := by
    refine ⟨e, x.stay (fun b v _ q => q) (fun b q => ?_) fun b xs q => ?_⟩
    · rw [upd_ne (fun z => by rw [z, h] at q; cases q; exact mu)]; exact q
    · rw [upd_ne (fun z => by rw [z, h] at q; cases q; exact mu)]; exact q
  exact ⟨od, I.write (x := d) (e := d) (t' := s.toks) (h' := s.heap) (by rw [h]; exact mu) (.inl rfl) (fun b v _ q => q) ⟨od, e⟩ new⟩
theorem Inv.nofrz {d : Addr} {u : HO} (I : Inv X pins σ H s) (h : H d = some u) (mu : Mut (some u)) : ∀ o' u', X.H_0 d ≠ some (.frz o' u') := fun o' u' e => by
  have q := I.base.frzs d o' u' e
  rw [h] at q
  cases q
  exact mu
theorem Inv.unlock {d : Addr} {od : Obj} {u : HO} (I : Inv X pins σ H s) (h : H d = some (.frz od u)) (hn : ∀ o' u', X.H_0 d ≠ some (.frz o' u')) : Inv X pins σ (upd H d u) s := by
  have neH : ∀ b o, H b = some o → (∀ o' u', o ≠ .frz o' u') → b ≠ d := fun b o e hne z => by
    rw [z, h] at e
    cases e
    exact hne _ _ rfl
  have neN : ∀ b, H b = none → b ≠ d := fun b e z => by rw [z, h] at e; cases e
  refine ⟨I.ok, I.os, I.bare, ⟨I.base.keep, I.base.slot, fun b o e n hx => ?_, I.base.there, fun b xs e => ?_, fun b o x e => ?_, fun b ps e => ?_⟩, I.loc, I.cell, ?_, fun x c e => ?_, fun p hp => ?_, fun b o e => ?_, I.len⟩
  · rw [upd_ne (neN b (I.base.free b o e n hx))]; exact I.base.free b o e n hx
  · have q := I.base.tups b xs e
    rw [upd_ne (neH b _ q (fun _ _ z => nomatch z))]; exact q
  · have q := I.base.frzs b o x e
    rw [upd_ne (fun z => by rw [z] at e; exact hn _ _ e)]; exact q
  · obtain ⟨m, q⟩ := I.base.tbls b ps e
    exact ⟨m, by rw [upd_ne (neH b _ q (fun _ _ z => nomatch z))]; exact q⟩
  · rw [upd_ne (neN _ I.free)]; exact I.free
  · rw [upd_ne (neN c (I.freeC x c e))]; exact I.freeC x c e
  · obtain ⟨e, n, r⟩ := I.pin p hp
    exact ⟨e, by rw [upd_ne (neN _ n)]; exact n, r⟩
  · by_cases hb : b = d
    · rw [hb, upd_same] at e
      cases e
      rw [hb]
      obtain ⟨_, x⟩ := I.hok d _ h
      exact x.stay (fun c v _ q => q) (fun c q => by rw [upd_ne (neH c _ q (fun _ _ z => nomatch z))]; exact q) fun c xs q => by rw [upd_ne (neH c _ q (fun _ _ z => nomatch z))]; exact q
    · rw [upd_ne hb] at e
      exact (I.hok b o e).stay (fun c v _ q => q) (fun c q => by rw [upd_ne (neH c _ q (fun _ _ z => nomatch z))]; exact q) fun c xs q => by rw [upd_ne (neH c _ q (fun _ _ z => nomatch z))]; exact q
end
/-- the statement runs while the thing at d is locked (read, not written); d and what stands there are the reading's choice -/
noncomputable def tLock (t : TS) : TS := fun D σ H => ∃ d u, H d = some u ∧ Mut (some u) ∧ ∀ od, t ⟨fun σ' H' => H' d = some (.frz od u) ∧ D.nx σ' (upd H' d u), fun v H' => H' d = some (.frz od u) ∧ D.rt v (upd H' d u), fun σ' H' => H' d = some (.frz od u) ∧ D.bk σ' (upd H' d u), fun σ' H' => H' d = some (.frz od u) ∧ D.ct σ' (upd H' d u)⟩ σ (upd H d (.frz od u))
section
variable {X : Cx}
theorem ps_lock {st : Stmt} {t : TS} (h : PS X st t) : PS X st (tLock t) := by
  intro pins s σ H D I hw
  obtain ⟨d, u, hd, mu, hw⟩ := hw
  obtain ⟨od, I1⟩ := I.lock hd mu
  refine thn (h pins s σ _ _ I1 (hw od)) fun f s1 q => ?_
  cases f with
  | next => obtain ⟨σ', H', I2, e, q⟩ := q; exact ⟨σ', _, I2.unlock e (I.nofrz hd mu), q⟩
  | brk => obtain ⟨σ', H', I2, e, q⟩ := q; exact ⟨σ', _, I2.unlock e (I.nofrz hd mu), q⟩
  | cont => obtain ⟨σ', H', I2, e, q⟩ := q; exact ⟨σ', _, I2.unlock e (I.nofrz hd mu), q⟩
  | ret v => obtain ⟨x, σ', H', I2, r, e, q⟩ := q; exact ⟨x, σ', _, I2.unlock e (I.nofrz hd mu), r, q⟩
theorem pi_one {tg : Expr} {pins : List (Addr × Obj)} {σ : St} {H : Hp} {s : Shared} {R : It → Hp → Prop} {J : It} {tn : Nat → Heap → Prop} {tk : Nat} (I : Inv X pins σ H s) (o : Obj)
    (T : Turn X.prog X.w X.K tg J [s.heap.objs.size] s.heap.objs.size tn) (st : tn 0 (s.heap.push o)) (q : R J H) : PIE X pins σ tg R (.ref s.heap.objs.size) { s with heap := s.heap.push o, toks := tk } := by
  refine ⟨s.heap.objs.size, [s.heap.objs.size], tn, J, H, rfl, I.kept fun b ob e => Heap.get?_push_of_some _ e, T, st, fun b hb => ?_, q⟩
  have e : b = s.heap.objs.size := by simpa using hb
  subst e
  exact I.fpOk (Nat.le_refl _) (I.hok.fresh (Nat.le_refl _))
end

/-- range(i, j, c): small bounds, n items -/
noncomputable def RgC (i j c : Int) (n : Nat) : Prop := c ≠ 0 ∧ c.natAbs < 1073741824 ∧ Builtin.Range.small i j c = true ∧ Builtin.Range.rangeSize i j c = n
section
variable {X : Cx} {tg : Expr}
end
section
variable {X : Cx} {tg : Expr}
end

section
variable {prog : Program} {w : World} {A : Around} {E : Value → Shared → Prop} {s : Shared}
theorem iter_keys {d : Addr} {o : Obj} {es : Array DictEntry} {ep : Nat} {Q : Value → Shared → Prop} (hd : (d == sysModules) = false) (ho : s.heap.get? d = some o) (hc : o.ExactDict) (hdat : o.data = .dict es ep)
    (hQ : Q (.ref s.heap.objs.size) { s with heap := s.heap.push { cls := .type "dict_keyiterator", data := .fields #[.ref d, .int 0 0, .int es.size 0, .int ep 0] } }) :
    wpAny (model prog w) A (pyIter (.ref d)) Q E s := by
  have hT : s.TypeIs (.ref d) "dict" := ⟨o, ho, hc.1⟩
  refine wpAny_pyIter_slot hT F.slot_dict_iter (wpAny_call_entry F.slot_dict_iter hT F.entry_dict_iter ?_ (F.args_dict_iter_1 _))
  unfold Builtin.«dict.__iter__»
  refine wpAny_bind ?_
  unfold Builtin.Dict.dictSlotNone
  refine wpAny_bind (wpAny_notOrdered_dict hT ?_)
  show wpAny _ _ (pure (Value.ref d)) _ _ s
  refine wpAny_pure ?_
  show wpAny _ _ (Builtin.Dict.showsAll d >>= _) _ _ s
  unfold Builtin.Dict.showsAll
  rw [if_neg (by rw [hd]; exact Bool.false_ne_true)]
  refine wpAny_bind (wpAny_pure ?_)
  refine wpAny_bind (wpAny_dictEntries ho hdat ?_)
  refine wpAny_bind (wpAny_dictEpoch ho hdat ?_)
  refine wpAny_bind (wpAny_newObj_type (wpAny_pure ⟨_, rfl, "dict_keyiterator", _, ⟨_, Heap.get?_push_size _ rfl, rfl⟩, F.slot_dict_keyiterator_next.lookup, ?_⟩))
  simpa [rawInt] using hQ
theorem next_key_end {it d : Addr} {i n ep : Nat} {od : Obj} {es : Array DictEntry} {Q : Option Value → Shared → Prop} (hh : A.handled = none) (hit : s.heap.IsKeyIter it d i n ep) (hod : s.heap.get? d = some od) (hdd : od.data = .dict es ep)
    (hsz : es.size = n) (hge : n ≤ i) (hQ : ∀ h', Heap.ExtBut it s.heap h' → Q none { s with heap := h' }) : wpAny (model prog w) A (pyNext (.ref it)) Q E s := by
  obtain ⟨o, ho, hc, hd⟩ := id hit
  unfold pyNext
  refine wpAny_bind (wpAny_attempt (wpAny_callSpecial?_slot (name := Str.ofString "__next__") hit.typeIs F.slot_dict_keyiterator_next
    (wpAny_call_entry F.slot_dict_keyiterator_next hit.typeIs F.entry_dict_keyiterator_next ?_ (F.args_dict_keyiterator_next_1 _))))
  refine wpAny_bind (wpAny_pure ?_)
  refine wpAny_bind ?_
  refine wpAny_bind ?_
  first | refine wpAny_bind (wpAny_typeNameOfWhole_keyiter hit.typeIs (wpAny_pure ?_)) | refine wpAny_bind (wpAny_typeNameOf_keyiter hit.typeIs (wpAny_pure ?_))
  refine wpAny_bind (wpAny_fieldsOf ho hd ?_)
  have hown : Builtin.Dict_items.ownsTuple "dict_keyiterator" = false := by decide
  simp only [hown, Bool.false_eq_true, if_false]
  show wpAny _ _ (if (Value.ref d == Value.none) = true then _ else _) _ _ s
  rw [if_neg (show ¬ ((Value.ref d == Value.none) = true) from Bool.false_ne_true)]
  refine wpAny_bind (wpAny_pure ?_)
  refine wpAny_bind (wpAny_dictEntries hod hdd ?_)
  rw [if_neg (by rw [hsz]; simp)]
  refine wpAny_bind (wpAny_pure ?_)
  refine wpAny_bind (wpAny_dictEpoch hod hdd ?_)
  rw [if_neg (by simp)]
  refine wpAny_pure ?_
  have hge' : es.size ≤ i := by rw [hsz]; exact hge
  simp only [show ¬ ((i : Int) < 0) from by omega, if_false, Int.toNat_natCast, Array.getElem?_eq_none hge']
  refine wpAny_bind ?_
  first | refine wpAny_bind (wpAny_typeNameOfWhole_keyiter hit.typeIs (wpAny_pure ?_)) | refine wpAny_bind (wpAny_typeNameOf_keyiter hit.typeIs (wpAny_pure ?_))
  show wpAny _ _ (setField (.ref it) 0 .none >>= _) _ _ s
  refine wpAny_bind (wpAny_setField ho hd (by simp) ?_)
  show wpAny _ _ (newExc (.type "StopIteration") [] >>= _) _ _ _
  refine wpAny_bind ?_
  simp only [newExc, newTuple]
  refine wpAny_bind (wpAny_newObj_type ?_ (by size_fits))
  refine wpAny_bind (m := firstArgMember _ _) (wpAny_of_eq (a := Value.none) (by first | rfl | (simp only [firstArgMember]; rfl)) ?_)
  refine wpAny_newObj_type ?_ (by size_fits)
  simp only [raiseNew]
  refine wpAny_bind (wpAny_handled ?_)
  rw [show A.in1.handled = none from hh]
  refine wpAny_bind (wpAny_pure (wpAny_throw ?_))
  refine wpAny_bind (wpAny_isInstance (T := "StopIteration") (b := true) ⟨_, Heap.get?_push_size _ rfl, rfl⟩ isSubtype_stop ?_)
  exact wpAny_pure (hQ _ (((Heap.SameBut.update ..).extBut.push _).push _))
end

theorem kv_get {κ : Type} {kvs : List (κ × V)} {vs : List (κ × Value)} (h : KV kvs vs) : ∀ {i : Nat} {k : κ} {v : V}, kvs[i]? = some (k, v) → ∃ u, vs[i]? = some (k, u) ∧ RelV v u := by
  unfold KV at h
  induction h with
  | nil => intro i k v e; simp at e
  | @cons a b l₁ l₂ r t ih =>
    intro i k v e
    cases i with
    | zero =>
      simp only [List.getElem?_cons_zero, Option.some.injEq] at e
      subst e
      refine ⟨b.2, ?_, r.2⟩
      simp only [List.getElem?_cons_zero]
      exact congrArg some (Prod.ext r.1.symm rfl)
    | succ j =>
      simp only [List.getElem?_cons_succ] at e ⊢
      exact ih e
theorem relV_key {k : Key} {u : Value} (h : keyIs k u = true) : RelV (kV k) u := by
  rcases keyIs_shape h with ⟨i, t, rfl, rfl⟩ | ⟨x, t, rfl, rfl⟩
  · exact ⟨t, rfl⟩
  · exact ⟨t, rfl⟩
section
variable {X : Cx} {pins : List (Addr × Obj)} {σ : St} {H : Hp} {s : Shared} {d : Addr} {o : Obj}
theorem Inv.frzK {kvs : List (Key × V)} (I : Inv X pins σ H s) (h : H d = some (.frz o (.dK kvs))) :
    (d == sysModules) = false ∧ s.heap.get? d = some o ∧ o.ExactDict ∧ ∃ (es : Array DictEntry) (ep : Nat) (vs : List (Key × Value)), o.data = .dict es ep ∧ es.size = kvs.length ∧ KV kvs vs ∧ s.heap.DictAt (mixKind X.prog X.w) d vs ep := by
  obtain ⟨hd, z, hs, vs, kv, o', es, ep, ho, hx, hdt, r⟩ := I.hok d _ h
  rw [hd] at ho
  cases ho
  refine ⟨hs, hd, hx, es, ep, vs, hdt, ?_, kv, o, es, hd, hx, hdt, r⟩
  have l1 := r.2.1.length
  have l2 : kvs.length = vs.length := Paired.length kv
  rw [Array.length_toList] at l1
  omega
end

/-- the keys of the locked dict at d, in their order -/
noncomputable def Itk (d : Addr) (o : Obj) (kvs : List (Key × V)) : It :=
  ⟨fun i H => H d = some (.frz o (.dK kvs)) ∧ i < kvs.length, fun i H x H' => H' = H ∧ ∃ k v, kvs[i]? = some (k, v) ∧ x = kV k, fun i H => H d = some (.frz o (.dK kvs)) ∧ kvs.length ≤ i⟩
theorem dict_ep {o : Obj} {es es' : Array DictEntry} {ep ep' : Nat} (h : o.data = .dict es ep) (h' : o.data = .dict es' ep') : es' = es ∧ ep' = ep := by
  rw [h] at h'
  cases h'
  exact ⟨rfl, rfl⟩
section
variable {P : Program} {w : World} {K : PySem.W.Frag} {tg : Expr} {d : Addr} {o : Obj} {es : Array DictEntry} {ep : Nat}
theorem turn_keys {kvs : List (Key × V)} (it : Addr) (hod : o.data = .dict es ep) : Turn P w K tg (Itk d o kvs) [it] it (fun i h => h.IsKeyIter it d i kvs.length ep) where
  mem := by simp
  obj := fun i h st b hb => by
    have e : b = it := by simpa using hb
    subst e
    obtain ⟨oi, e, c, dd⟩ := st
    exact ⟨oi, e, fun v z => by rw [dd] at z; cases z⟩
  keep := fun i h h' st k => st.at fun oi e => k it (by simp) oi e
  item := by
    intro X hP hw hK hc i pins s σ H E I hf st hg
    subst hP hw hK
    obtain ⟨hd, hi⟩ := hg
    obtain ⟨f0, f1, f2, f3, f4, f5⟩ := hf it (by simp)
    obtain ⟨hs, hgd, hx, es', ep', vs, hdt, hsz, kv, hm⟩ := I.frzK hd
    obtain ⟨rfl, rfl⟩ := dict_ep hod hdt
    obtain ⟨⟨k, v⟩, hkv⟩ : ∃ p, kvs[i]? = some p := ⟨kvs[i], List.getElem?_eq_getElem hi⟩
    obtain ⟨u, hu, ru⟩ := kv_get kv hkv
    have hl : kvs.length = vs.length := Paired.length kv
    rw [hl] at st
    refine wpAny_pyNext_dict_item st hm hu fun key h' hkey st' sb => ?_
    have I1 : Inv X pins σ H { s with heap := h' } := I.turned (t' := s.toks) (fun b ob hb e => (sb.2 b hb).trans e) f0 f1 f3 f4 f5
    obtain ⟨oi, e, c, dd⟩ := id st'
    refine ⟨key, rfl, go_of (s := { s with heap := h' }) e c dd (by decide) ⟨kV k, H, I1, relV_key (show keyIs k key = true from hkey), ⟨rfl, k, v, hkv, rfl⟩, ?_, fun b hb => (hf b hb).1⟩⟩
    show h'.IsKeyIter it d (i + 1) kvs.length _
    rw [hl]
    exact st'
  done := by
    intro X hP hw hK hc i pins s σ H E I hf st hg
    subst hP hw hK
    obtain ⟨hd, hi⟩ := hg
    obtain ⟨f0, f1, f2, f3, f4, f5⟩ := hf it (by simp)
    obtain ⟨hs, hgd, hx, es', ep', vs, hdt, hsz, kv, hm⟩ := I.frzK hd
    obtain ⟨rfl, rfl⟩ := dict_ep hod hdt
    exact next_key_end (I.ok.hd hc) st hgd hdt hsz hi fun h' eb => ⟨rfl, I.turned (t' := s.toks) (fun b ob hb e => eb b ob hb e) f0 f1 f3 f4 f5⟩
  self := fun A i s Q E st h => wpAny_pyIter_keyiter st h
end

noncomputable def iKeysM (td : TE) : TI := fun σ H R => td σ H fun x H1 => ∃ d o kvs, x = .ref d ∧ H1 d = some (.frz o (.dK kvs)) ∧ R (Itk d o kvs) H1
section
variable {X : Cx} {tg e : Expr} {td : TE} {apos cpos : Pos}
end

end L2

section 
namespace Bits
open PySem PyProof.Rows

end Bits
end 

section 
namespace TL
open PySem PySem.Builtin PySem.Builtin.Str PySem.StrLaws

end TL
end 

namespace L2
open PySem PySem.Spec PyProof.Rows

section
variable {X : Cx} {pins : List (Addr × Obj)} {σ : St} {H : Hp} {s : Shared} {Q : VK}
end

section
variable {X : Cx}

end

section
variable {X : Cx} {o e : Expr} {to te : TE}
end
end L2

namespace L2
open PySem PySem.Spec PyProof.Rows

section
variable {X : Cx}
end

end L2

namespace Att
open PySem PySem.W PySem.Calls PyProof.Rows

section
variable {prog : Program} {w : World} {A : Around} {E : Value → Shared → Prop} {s : Shared} {K : Frag}

end
end Att

namespace L2
open PySem PySem.Spec PyProof.Rows

end L2

namespace L2
open PySem PySem.Spec PyProof.Rows

end L2

/- THE LAST THEOREM (shape; LID, My.* are yours):
   My.Adr: a structure of the addresses that your layer names (classes, functions); My.Txt K t: a structure (Prop) of the equations over K;
   My.txt_mk : {K} {implicit addresses ..} (e1 : nsIn K mainGlobals "law" = some (some (.ref f))) (e2 : K.lookup f = some ⟨oc, od, .func (fnOf "law" "law" params body scope dV kV doc pm an cdv ct), sl⟩) (e3 : codeIn K cdv "law" = true) .. : ∃ t, My.Txt K t

(the tactic k_is has no namespace: write k_is) -/

namespace L2
open PySem PySem.Spec PyProof.Rows

/-- the j-th statement of a class's body -/
noncomputable def inClass (s : Stmt) (j : Nat) : Stmt := match s with
  | .ClassDef _ _ _ body _ _ _ _ _ _ _ => body.getD j (.Pass ⟨0, 0, 0, 0⟩)
  | _ => .Pass ⟨0, 0, 0, 0⟩
noncomputable def defArgs (s : Stmt) : Arguments := match s with
  | .FunctionDef _ a _ _ _ _ _ _ _ _ => a
  | _ => { posonlyargs := [], args := [], vararg := none, kwonlyargs := [], kw_defaults := [], kwarg := none, defaults := [] }
noncomputable def defBody (s : Stmt) : List Stmt := match s with
  | .FunctionDef _ _ b _ _ _ _ _ _ _ => b
  | _ => []
noncomputable def defScope (s : Stmt) : Scope := match s with
  | .FunctionDef _ _ _ _ _ _ sc _ _ _ => sc
  | _ => { kind := .function, names := [], isGenerator := false, isCoroutine := false }

@[reducible] noncomputable def CX0 : CXT := fun _ _ _ _ _ _ => False
@[reducible] noncomputable def E0 : XK := fun _ _ _ => False
theorem pass0 {X : Cx} : Passes CX0 X E0 := fun _ _ _ _ _ _ _ h => h.elim

structure Fun (K : PySem.W.Frag) (x qual : Str) (st : Stmt) (f : Addr) (fd : FuncData) : Prop where
  ex : ∃ (oc : Value) (od : Option Addr) (kV doc pm : Value) (an : Option Addr) (cdv ct : Value) (osl : Array (Option Value)),
    fd = PySem.W.fnOf x qual (defArgs st) (defBody st) (defScope st) .none kV doc pm an cdv ct ∧ K.lookup f = some ⟨oc, od, .func fd, osl⟩ ∧ PySem.W.codeIn K cdv qual = true
  kp : PySem.W.keepIn K (.ref f) = true
section
variable {P : Program} {w : World} {K : PySem.W.Frag} {mg : Str → Option Value} {base : Heap}
/-- THE RULE for a def: its body as a term of rules, and the reading of that term -/
theorem Fun.ok {x qual : Str} {st : Stmt} {f : Addr} {fd : FuncData} {N ps : List Str} {k : Nat} {sp : Sp} (F : Fun K x qual st f fd) (S : FnScope N ps (defScope st)) (len : ∀ vs H Q E, sp vs H Q E → vs.length = ps.length)
    (hbody : ∀ (cdv : Value) (A : Around) (outer : List Env) (s : Shared) (H : Hp) (vs : List V) (Q : VK) (E : XK), Room k (A.deeper (envOfC qual (defScope st) s.heap.objs.size f cdv)) → sp vs H Q E →
      ∃ t, PSs (cxOf CX0 P w K mg base N qual (defScope st) f cdv A outer s H E).nox (defBody st) t ∧ t { nx := fun _ H' => Q .non H', rt := Q } (start N vs) H) : FnOk P w K mg base CX0 (k + 1) f fd ps sp := by
  obtain ⟨oc, od, kV, doc, pm, an, cdv, ct, osl, rfl, lk, hcd⟩ := F.ex
  refine fn_of lk hcd S len fun A outer s H vs Q E hr hsp => ?_
  obtain ⟨t, h, q⟩ := hbody cdv A outer s H vs Q E hr hsp
  exact ⟨t, h.nox, q⟩
/-- how its arguments bind (no defaults): h is «fun _ _ _ _ _ _ us hl => match us, hl with | [_, _], _ => rfl», one _ a parameter -/
theorem Fun.binds {x qual : Str} {st : Stmt} {f : Addr} {fd : FuncData} {ps : List Str} (F : Fun K x qual st f fd)
    (h : ∀ (kV doc pm : Value) (an : Option Addr) (cdv ct : Value) (us : List Value), us.length = ps.length → bindArgs (PySem.W.fnOf x qual (defArgs st) (defBody st) (defScope st) .none kV doc pm an cdv ct) ⟨us, []⟩ = pure (ps.zip us)) : Binds K fd ps [] := by
  obtain ⟨oc, od, kV, doc, pm, an, cdv, ct, osl, rfl, lk, hcd⟩ := F.ex
  exact .all (h kV doc pm an cdv ct)
theorem fun_mk {x qual : Str} {st : Stmt} {f : Addr} {oc : Value} {od an : Option Addr} {osl : Array (Option Value)} {kV doc pm cdv ct : Value} (l : K.lookup f = some ⟨oc, od, .func (PySem.W.fnOf x qual (defArgs st) (defBody st) (defScope st) .none kV doc pm an cdv ct), osl⟩)
    (c : PySem.W.codeIn K cdv qual = true) (k : PySem.W.keepIn K (.ref f) = true) : Fun K x qual st f (PySem.W.fnOf x qual (defArgs st) (defBody st) (defScope st) .none kV doc pm an cdv ct) := ⟨⟨oc, od, kV, doc, pm, an, cdv, ct, osl, rfl, l, c⟩, k⟩
end
theorem hu_of {A : Around} {k : Nat} (hr : Room k A) : A.units + 1 < cLine := Nat.lt_of_le_of_lt (Nat.add_le_add_left (by decide : 1 ≤ 64) _) hr.units
theorem small1000 {n : Nat} (h : n ≤ 1000) : n < sizeLine := Nat.lt_of_le_of_lt h (by decide)

section
variable {X : Cx}
theorem pv (i : Nat) {x : Str} {pos : Pos} (hN : X.N[i]? = some x := by rfl) (hv : Vis X.env.scope x := by first | exact Or.inl rfl | exact Or.inr (Or.inl rfl) | exact Or.inr (Or.inr rfl)) (hd : (x == ("__debug__" : Str)) = false := by decide)
    (hcd : (x == ("__classdict__" : Str)) = false := by decide) : PE X (.Name x pos) (tVar i) := pe_var hN hv hd hcd
/-- len of a dict -/
theorem call_lenD : CallR X (.builtin "len") (fun xs H Q => ∃ a kvs, xs = [V.ref a] ∧ H a = some (.dK kvs) ∧ Q (.int kvs.length) H) := by
  intro pins s σ H xs us Q I r h
  obtain ⟨a, kvs, rfl, ha, q⟩ := h
  obtain ⟨u, rfl, ru⟩ := vals1 r
  cases ru
  exact d_len I (.inl ha) fun t s' I' => ⟨.int kvs.length, H, I', ⟨t, rfl⟩, q⟩
end

theorem ite2 {c A B : Prop} [Decidable c] (h1 : c → A) (h2 : ¬ c → B) : if c then A else B := by
  by_cases h : c
  · rw [if_pos h]
    exact h1 h
  · rw [if_neg h]
    exact h2 h
/-- all that was tracked is as it was -/
noncomputable def Same (H H' : Hp) : Prop := ∀ b o, H b = some o → H' b = some o
theorem Same.trans {H H1 H2 : Hp} (a : Same H H1) (b : Same H1 H2) : Same H H2 := fun c o h => b c o (a c o h)
theorem Same.free {H H' : Hp} (e : Same H H') {l : Addr} (h : H' l = Option.none) : H l = Option.none := by
  cases q : H l with
  | none => rfl
  | some o =>
    rw [e l o q] at h
    cases h
theorem Same.seq {K : PySem.W.Frag} {H H' : Hp} {a : Addr} {xs : List V} (e : Same H H') (h : SqL K H a xs) : SqL K H' a xs := by
  rcases h with (h | ⟨o, h⟩) | h
  · exact .inl (.inl (e _ _ h))
  · exact .inl (.inr ⟨o, e _ _ h⟩)
  · exact .inr h

section
variable {κ : Type} [DecidableEq κ]
end
theorem at_of {xs : List V} {z : Int} {j : Nat} {v : V} (e : z = (j : Int)) (h : xs[j]? = some v) : atI xs z = some v := by
  rw [e]
  exact atI_nat h
theorem nd_ix {α : Type} {l : List α} (hN : l.Nodup) {i j : Nat} {x : α} (a : l[i]? = some x) (b : l[j]? = some x) : i = j := by
  obtain ⟨h1, e1⟩ := List.getElem?_eq_some_iff.mp a
  obtain ⟨h2, e2⟩ := List.getElem?_eq_some_iff.mp b
  exact (List.getElem_inj hN).mp (e1.trans e2.symm)
end L2


section
set_option Elab.async false
set_option maxRecDepth 100000
namespace OM
open Km355

/-! ### xor as a sum -/
theorem bits2 : ∀ x y : Fin 2, (x.val ^^^ y.val) + 2 * (x.val &&& y.val) = x.val + y.val := by decide
theorem join2 {a b X A : Nat} (h : X / 2 + 2 * (A / 2) = a / 2 + b / 2) (e : X % 2 + 2 * (A % 2) = a % 2 + b % 2) : X + 2 * A = a + b := by omega
theorem xor_and (a b : Nat) : (a ^^^ b) + 2 * (a &&& b) = a + b := by
  induction a using Nat.strongRecOn generalizing b with
  | _ a ih =>
    by_cases ha : a = 0
    · rw [ha, Nat.zero_xor, Nat.zero_and]
      rw [Nat.mul_zero, Nat.add_zero, Nat.zero_add]
    · have h := ih (a / 2) (Nat.div_lt_self (Nat.pos_of_ne_zero ha) (by decide)) (b / 2)
      rw [← Nat.xor_div_two, ← Nat.and_div_two] at h
      have e1 : (a ^^^ b) % 2 = a % 2 ^^^ b % 2 := @Nat.xor_mod_two_pow a b 1
      have e2 : (a &&& b) % 2 = a % 2 &&& b % 2 := @Nat.and_mod_two_pow a b 1
      refine join2 h ?_
      rw [e1, e2]
      exact bits2 ⟨a % 2, Nat.mod_lt _ (by decide)⟩ ⟨b % 2, Nat.mod_lt _ (by decide)⟩

/-! ### tables -/
noncomputable def getN (l : List (Nat × Nat)) (x : Nat) : Option Nat := (l.find? fun y => y.1 == x).map Prod.snd
noncomputable def putN (l : List (Nat × Nat)) (x c : Nat) : List (Nat × Nat) := if (l.any fun y => y.1 == x) = true then l.map (fun y => if y.1 = x then (y.1, c) else y) else l ++ [(x, c)]
noncomputable def Rising (l : List (Nat × Nat)) : Prop := l.Pairwise fun a b => a.1 < b.1
@[reducible] noncomputable def Keys (l : List (Nat × Nat)) : Prop := (l.map Prod.fst).Nodup

theorem getN_nil (x : Nat) : getN [] x = none := rfl
theorem getN_cons (y : Nat × Nat) (l : List (Nat × Nat)) (x : Nat) : getN (y :: l) x = if y.1 = x then some y.2 else getN l x := by
  unfold getN
  rw [List.find?_cons]
  by_cases h : y.1 = x
  · simp [h]
  · rw [if_neg h, show (y.1 == x) = false from beq_eq_false_iff_ne.mpr h]
theorem getN_mem {l : List (Nat × Nat)} {x c : Nat} (h : getN l x = some c) : (x, c) ∈ l := by
  unfold getN at h
  cases e : l.find? fun y => y.1 == x with
  | none => rw [e] at h; cases h
  | some y =>
    rw [e] at h
    have m := List.mem_of_find?_eq_some e
    have p := List.find?_some e
    simp at h p
    subst h p
    exact m
theorem getN_none {l : List (Nat × Nat)} {x : Nat} : getN l x = none ↔ ∀ y ∈ l, y.1 ≠ x := by
  unfold getN
  simp
theorem getN_of_mem : ∀ {l : List (Nat × Nat)}, Keys l → ∀ {x c : Nat}, (x, c) ∈ l → getN l x = some c
  | [], _, _, _, m => by simp at m
  | y :: l, hk, x, c, m => by
    have hk' : (y.1 :: l.map Prod.fst).Nodup := hk
    obtain ⟨h1, h2⟩ := List.nodup_cons.mp hk'
    rw [getN_cons]
    rcases List.mem_cons.mp m with e | m
    · rw [← e, if_pos rfl]
    · rw [if_neg fun e => h1 (List.mem_map.mpr ⟨(x, c), m, e.symm⟩)]
      exact getN_of_mem h2 m
theorem has_getN (l : List (Nat × Nat)) (x : Nat) : has l x = (getN l x).isSome := by
  unfold has getN
  rw [Option.isSome_map, List.isSome_find?]
theorem count_getN (s : Summary) (x : Nat) : s.count x = (getN s.counts x).getD 0 := rfl
theorem Rising.keys {l : List (Nat × Nat)} (h : Rising l) : Keys l := by
  unfold Keys List.Nodup
  rw [List.pairwise_map]
  exact List.Pairwise.imp (fun h => Nat.ne_of_lt h) h
theorem Keys.perm {l m : List (Nat × Nat)} (p : l.Perm m) (h : Keys l) : Keys m := (p.map Prod.fst).nodup_iff.mp h
theorem getN_perm {l m : List (Nat × Nat)} (p : l.Perm m) (h : Keys l) (x : Nat) : getN l x = getN m x := by
  cases e : getN l x with
  | none =>
    symm
    rw [getN_none] at e ⊢
    exact fun y hy => e y (p.mem_iff.mpr hy)
  | some c =>
    symm
    exact getN_of_mem (h.perm p) (p.mem_iff.mp (getN_mem e))
/-- two tables of the same values are the same up to the order -/
theorem perm_of_getN {l m : List (Nat × Nat)} (hl : Keys l) (hm : Keys m) (h : ∀ x, getN l x = getN m x) : l.Perm m := by
  have nd : ∀ {k : List (Nat × Nat)}, Keys k → k.Nodup := fun {k} hk => by
    unfold Keys List.Nodup at hk
    rw [List.pairwise_map] at hk
    exact hk.imp fun q e => q (congrArg Prod.fst e)
  refine (List.perm_ext_iff_of_nodup (nd hl) (nd hm)).mpr fun y => ⟨fun hy => ?_, fun hy => ?_⟩
  · exact getN_mem (by rw [← h]; exact getN_of_mem hl hy)
  · exact getN_mem (by rw [h]; exact getN_of_mem hm hy)
theorem rising_ext : ∀ {l m : List (Nat × Nat)}, Rising l → Rising m → l.Perm m → l = m := fun {l m} hl hm p => by
  refine List.Perm.eq_of_pairwise (le := fun a b => a.1 ≤ b.1) ?_ (hl.imp fun h => Nat.le_of_lt h) (hm.imp fun h => Nat.le_of_lt h) p
  intro a b ha hb h1 h2
  have e : a.1 = b.1 := by omega
  have ga := getN_of_mem hl.keys ha
  have gb := getN_of_mem hm.keys hb
  rw [getN_perm p hl.keys, e, gb] at ga
  exact Prod.ext e (Option.some.inj ga).symm

theorem getN_bump : ∀ (l : List (Nat × Nat)), Rising l → ∀ x c y, getN (bump x c l) y = if y = x then some ((getN l x).getD 0 + c) else getN l y
  | [], _, x, c, y => by
    show getN [(x, c)] y = _
    rw [getN_cons, getN_nil, getN_nil]
    by_cases h : x = y
    · rw [if_pos h, if_pos h.symm]; simp
    · rw [if_neg h, if_neg (fun e => h e.symm)]
  | z :: l, hr, x, c, y => by
    obtain ⟨h1, h2⟩ := List.pairwise_cons.mp hr
    show getN (if x < z.1 then (x, c) :: z :: l else if x = z.1 then (x, z.2 + c) :: l else z :: bump x c l) y = _
    by_cases a : x < z.1
    · have g : getN (z :: l) x = none := getN_none.mpr fun w hw => by
        rcases List.mem_cons.mp hw with e | hw
        · rw [e]; omega
        · have := h1 w hw; omega
      rw [if_pos a, g, getN_cons]
      by_cases h : x = y
      · rw [if_pos h, if_pos h.symm]; simp
      · rw [if_neg h, if_neg (fun e => h e.symm)]
    · by_cases b : x = z.1
      · rw [if_neg a, if_pos b, getN_cons, getN_cons, getN_cons, if_pos b.symm]
        by_cases h : x = y
        · rw [if_pos h, if_pos h.symm]; simp
        · rw [if_neg h, if_neg (fun e => h e.symm), if_neg (by rw [← b]; exact h)]
      · have b' : ¬ z.1 = x := fun e => b e.symm
        rw [if_neg a, if_neg b, getN_cons, getN_cons, getN_cons, getN_bump l h2, if_neg b']
        by_cases h : y = x
        · subst h
          rw [if_pos rfl, if_neg b', if_pos rfl]
        · rw [if_neg h, if_neg h]
theorem mem_bump : ∀ (l : List (Nat × Nat)) (x c : Nat) (y : Nat × Nat), y ∈ bump x c l → y.1 = x ∨ y ∈ l
  | [], x, c, y, m => by
    have m : y ∈ [(x, c)] := m
    simp at m; exact .inl (by rw [m])
  | z :: l, x, c, y, m => by
    have m : y ∈ (if x < z.1 then (x, c) :: z :: l else if x = z.1 then (x, z.2 + c) :: l else z :: bump x c l) := m
    by_cases a : x < z.1
    · rw [if_pos a] at m
      rcases List.mem_cons.mp m with e | m
      · exact .inl (by rw [e])
      · exact .inr m
    · by_cases b : x = z.1
      · rw [if_neg a, if_pos b] at m
        rcases List.mem_cons.mp m with e | m
        · exact .inl (by rw [e])
        · exact .inr (List.mem_cons.mpr (.inr m))
      · rw [if_neg a, if_neg b] at m
        rcases List.mem_cons.mp m with e | m
        · exact .inr (List.mem_cons.mpr (.inl e))
        · rcases mem_bump l x c y m with e | m
          · exact .inl e
          · exact .inr (List.mem_cons.mpr (.inr m))
theorem rising_bump : ∀ (l : List (Nat × Nat)), Rising l → ∀ x c, Rising (bump x c l)
  | [], _, x, c => by
    show Rising [(x, c)]
    exact List.pairwise_singleton _ _
  | z :: l, hr, x, c => by
    obtain ⟨h1, h2⟩ := List.pairwise_cons.mp hr
    show Rising (if x < z.1 then (x, c) :: z :: l else if x = z.1 then (x, z.2 + c) :: l else z :: bump x c l)
    by_cases a : x < z.1
    · rw [if_pos a]
      refine List.pairwise_cons.mpr ⟨fun w hw => ?_, hr⟩
      rcases List.mem_cons.mp hw with e | hw
      · rw [e]; exact a
      · exact Nat.lt_trans a (h1 w hw)
    · by_cases b : x = z.1
      · rw [if_neg a, if_pos b]
        exact List.pairwise_cons.mpr ⟨fun w hw => by show x < w.1; rw [b]; exact h1 w hw, h2⟩
      · rw [if_neg a, if_neg b]
        refine List.pairwise_cons.mpr ⟨fun w hw => ?_, rising_bump l h2 x c⟩
        rcases mem_bump l x c w hw with e | hw
        · rw [e]; omega
        · exact h1 w hw
theorem mem_putN_key {l : List (Nat × Nat)} {x c : Nat} {y : Nat × Nat} (m : y ∈ putN l x c) : y.1 = x ∨ y ∈ l := by
  unfold putN at m
  by_cases a : (l.any fun y => y.1 == x) = true
  · rw [if_pos a] at m
    obtain ⟨z, hz, e⟩ := List.mem_map.mp m
    by_cases h : z.1 = x
    · rw [if_pos h] at e; exact .inl (by rw [← e]; exact h)
    · rw [if_neg h] at e; exact .inr (e ▸ hz)
  · rw [if_neg a] at m
    rcases List.mem_append.mp m with m | m
    · exact .inr m
    · simp at m; exact .inl (by rw [m])
theorem any_getN (l : List (Nat × Nat)) (x : Nat) : (l.any fun y => y.1 == x) = (getN l x).isSome := has_getN l x
theorem getN_repl (x c y : Nat) : ∀ l : List (Nat × Nat), getN (l.map fun z => if z.1 = x then (z.1, c) else z) y = (getN l y).map fun v => if y = x then c else v
  | [] => rfl
  | z :: l => by
    rw [List.map_cons, getN_cons, getN_cons, getN_repl x c y l]
    by_cases h : z.1 = x
    · rw [if_pos h]
      by_cases k : z.1 = y
      · rw [if_pos k, if_pos k, Option.map_some, if_pos (by rw [← k]; exact h)]
      · rw [if_neg k, if_neg k]
    · rw [if_neg h]
      by_cases k : z.1 = y
      · rw [if_pos k, if_pos k, Option.map_some, if_neg (by rw [← k]; exact h)]
      · rw [if_neg k, if_neg k]
theorem getN_append (l m : List (Nat × Nat)) (y : Nat) : getN (l ++ m) y = (getN l y).or (getN m y) := by
  induction l with
  | nil => simp [getN_nil]
  | cons z l ih =>
    rw [List.cons_append, getN_cons, getN_cons, ih]
    by_cases h : z.1 = y
    · rw [if_pos h, if_pos h]; rfl
    · rw [if_neg h, if_neg h]
theorem getN_put (l : List (Nat × Nat)) (x c y : Nat) : getN (putN l x c) y = if y = x then some c else getN l y := by
  unfold putN
  rw [any_getN]
  cases e : getN l x with
  | some v =>
    rw [if_pos (show (some v).isSome = true from rfl), getN_repl]
    by_cases h : y = x
    · rw [if_pos h, h, e]; simp
    · rw [if_neg h]; simp [h]
  | none =>
    rw [if_neg (by simp), getN_append, getN_cons, getN_nil]
    by_cases h : y = x
    · rw [if_pos h, h, e, if_pos rfl]; rfl
    · rw [if_neg h, if_neg (fun q => h q.symm)]; simp
theorem keys_put {l : List (Nat × Nat)} (h : Keys l) (x c : Nat) : Keys (putN l x c) := by
  unfold putN
  by_cases a : (l.any fun y => y.1 == x) = true
  · rw [if_pos a]
    unfold Keys
    rw [List.map_map]
    have e : (Prod.fst ∘ fun y : Nat × Nat => if y.1 = x then (y.1, c) else y) = Prod.fst := by
      funext y
      show (if y.1 = x then (y.1, c) else y).1 = y.1
      split <;> rfl
    rw [e]; exact h
  · rw [if_neg a]
    unfold Keys
    rw [List.map_append]
    refine List.nodup_append.mpr ⟨h, by simp, fun u hu v hv e => a ?_⟩
    simp at hv
    obtain ⟨z, hz, ez⟩ := List.mem_map.mp hu
    exact List.any_eq_true.mpr ⟨z, hz, by rw [ez, e, hv]; simp⟩

/-- the pairs of a dict, in any order, and the table that rises -/
structure Rel (ps cs : List (Nat × Nat)) : Prop where
  perm : ps.Perm cs
  up : Rising cs
theorem Rel.keys {ps cs : List (Nat × Nat)} (r : Rel ps cs) : Keys ps := r.up.keys.perm r.perm.symm
theorem Rel.get {ps cs : List (Nat × Nat)} (r : Rel ps cs) (x : Nat) : getN ps x = getN cs x := getN_perm r.perm r.keys x
theorem Rel.mk' {ps cs : List (Nat × Nat)} (hp : Keys ps) (hc : Rising cs) (h : ∀ x, getN ps x = getN cs x) : Rel ps cs := ⟨perm_of_getN hp hc.keys h, hc⟩
theorem Rel.nil : Rel [] [] := ⟨List.Perm.refl _, List.Pairwise.nil⟩
theorem Rel.put {ps cs : List (Nat × Nat)} (r : Rel ps cs) (x c : Nat) : Rel (putN ps x ((getN ps x).getD 0 + c)) (bump x c cs) := by
  refine .mk' (keys_put r.keys _ _) (rising_bump _ r.up _ _) fun y => ?_
  rw [getN_put, getN_bump cs r.up, r.get x, r.get y]
theorem Rel.len {ps cs : List (Nat × Nat)} (r : Rel ps cs) : ps.length = cs.length := r.perm.length_eq
theorem Rel.inj {ps cs ds : List (Nat × Nat)} (r : Rel ps cs) (q : Rel ps ds) : cs = ds := rising_ext r.up q.up (r.perm.symm.trans q.perm)
theorem rising_sub {l m : List (Nat × Nat)} (h : Rising m) (s : (l.map Prod.fst).Sublist (m.map Prod.fst)) : Rising l := by
  have a : (m.map Prod.fst).Pairwise (· < ·) := List.pairwise_map.mpr h
  exact List.pairwise_map.mp (a.sublist s)
theorem lower_eq (c : Nat) (l : List (Nat × Nat)) : lower c l = (l.filter fun y => decide (c < y.2)).map fun y => (y.1, y.2 - c) := by
  unfold lower
  rw [List.filter_map]
  congr 1
  refine List.filter_congr fun y _ => ?_
  show decide (0 < y.2 - c) = _
  by_cases h : c < y.2
  · rw [decide_eq_true h, decide_eq_true (by omega)]
  · rw [decide_eq_false h, decide_eq_false (by omega)]
theorem Rel.lower {ps cs : List (Nat × Nat)} (r : Rel ps cs) (c : Nat) : Rel (lower c ps) (lower c cs) := by
  refine ⟨(r.perm.map _).filter _, rising_sub r.up ?_⟩
  rw [lower_eq, List.map_map]
  exact List.filter_sublist.map _
/-- one less: a walk over the pairs -/
theorem lower_snoc (c : Nat) (l : List (Nat × Nat)) (y : Nat × Nat) : Km355.lower c (l ++ [y]) = Km355.lower c l ++ (if c < y.2 then [(y.1, y.2 - c)] else []) := by
  rw [lower_eq, lower_eq, List.filter_append, List.map_append]
  congr 1
  by_cases h : c < y.2
  · simp [h]
  · simp [h]

/-! ### bytes -/
noncomputable def val (l : List Nat) : Nat := l.foldr (fun b v => b + 256 * v) 0
theorem le_zero (v : Nat) : le 0 v = [] := rfl
theorem le_succ (w v : Nat) : le (w + 1) v = v % 256 :: le w (v / 256) := by
  unfold le
  rw [List.range_succ_eq_map, List.map_cons, List.map_map]
  congr 1
  · rw [Nat.pow_zero, Nat.div_one]
  · refine List.map_congr_left fun i _ => ?_
    show v / 256 ^ (i + 1) % 256 = v / 256 / 256 ^ i % 256
    rw [Nat.pow_succ, Nat.mul_comm, Nat.div_div_eq_div_mul]
theorem le_len (w v : Nat) : (le w v).length = w := by
  unfold le
  rw [List.length_map, List.length_range]
theorem le_lt (w v : Nat) : ∀ b ∈ le w v, b < 256 := by
  intro b hb
  unfold le at hb
  obtain ⟨i, _, e⟩ := List.mem_map.mp hb
  rw [← e]
  exact Nat.mod_lt _ (by decide)
theorem le_val : ∀ l : List Nat, (∀ b ∈ l, b < 256) → le l.length (val l) = l
  | [], _ => rfl
  | b :: l, h => by
    have hb := h b (List.mem_cons_self ..)
    have ih := le_val l fun c hc => h c (List.mem_cons_of_mem _ hc)
    show le (l.length + 1) (b + 256 * val l) = b :: l
    rw [le_succ, show (b + 256 * val l) % 256 = b by omega, show (b + 256 * val l) / 256 = val l by omega, ih]
theorem val_lt : ∀ l : List Nat, (∀ b ∈ l, b < 256) → val l < 256 ^ l.length
  | [], _ => by decide
  | b :: l, h => by
    have hb := h b (List.mem_cons_self ..)
    have ih := val_lt l fun c hc => h c (List.mem_cons_of_mem _ hc)
    show b + 256 * val l < 256 ^ (l.length + 1)
    rw [Nat.pow_succ]
    omega
theorem val_le : ∀ w v : Nat, v < 256 ^ w → val (le w v) = v
  | 0, v, h => by
    have : v = 0 := by rw [Nat.pow_zero] at h; omega
    subst this; rfl
  | w + 1, v, h => by
    rw [le_succ]
    show v % 256 + 256 * val (le w (v / 256)) = v
    rw [val_le w (v / 256) (by rw [Nat.pow_succ] at h; omega)]
    omega
theorem num_val (l : List Nat) (k w : Nat) : num l k w = val ((l.drop k).take w) := rfl
theorem le_num {l : List Nat} (hb : ∀ b ∈ l, b < 256) {k w : Nat} (h : k + w ≤ l.length) : le w (num l k w) = (l.drop k).take w := by
  have hl : ((l.drop k).take w).length = w := by rw [List.length_take, List.length_drop]; omega
  have := le_val ((l.drop k).take w) fun b m => hb b (List.mem_of_mem_drop (List.mem_of_mem_take m))
  rw [hl] at this
  exact this
theorem num_one {l : List Nat} {k : Nat} (h : k < l.length) : num l k 1 = l.getD k 0 := by
  rw [num_val, List.drop_eq_getElem_cons h]
  show l[k] + 256 * 0 = _
  rw [List.getD_eq_getElem?_getD, List.getElem?_eq_getElem h]
  rfl
theorem num_lt {l : List Nat} (hb : ∀ b ∈ l, b < 256) {k w : Nat} (h : k + w ≤ l.length) : num l k w < 256 ^ w := by
  have hl : ((l.drop k).take w).length = w := by rw [List.length_take, List.length_drop]; omega
  have := val_lt ((l.drop k).take w) fun b m => hb b (List.mem_of_mem_drop (List.mem_of_mem_take m))
  rw [hl] at this
  exact this
/-- the message without its check -/
noncomputable def body (m : Message) : List Nat := [1, m.station, m.k, m.summary.counts.length] ++ (le 8 m.summary.n ++ (le 8 m.summary.wrong ++ (m.summary.counts.flatMap entry ++ List.replicate (12 * (COUNTERS - m.summary.counts.length)) 0)))
theorem bytes_eq (m : Message) : m.bytes = body m ++ le 4 (crc (body m)) := rfl
theorem entry_len (y : Nat × Nat) : (entry y).length = 12 := by
  unfold entry
  rw [List.length_append, le_len, le_len]
theorem entries_len : ∀ cs : List (Nat × Nat), (cs.flatMap entry).length = 12 * cs.length
  | [] => rfl
  | y :: cs => by
    rw [List.flatMap_cons, List.length_append, entry_len, entries_len cs, List.length_cons]
    omega
theorem body_len {m : Message} (h : m.summary.counts.length ≤ 16) : (body m).length = 212 := by
  unfold body
  rw [List.length_append, List.length_append, List.length_append, List.length_append, le_len, le_len, entries_len, List.length_replicate]
  show 4 + _ = 212
  unfold COUNTERS
  omega
/-- the message that the bytes would tell -/
noncomputable def told (l : List Nat) : Message := ⟨num l 1 1, num l 2 1, ⟨num l 4 8, num l 12 8, (List.range (num l 3 1)).map fun i => (num l (20 + 12 * i) 4, num l (24 + 12 * i) 8)⟩⟩
theorem messageOf_told (l : List Nat) : messageOf l = if (told l).station < STATIONS ∧ 1 ≤ (told l).k ∧ (told l).k ≤ COUNTERS ∧ (told l).summary.good (told l).k = true ∧ l = (told l).bytes then some (told l) else none := rfl
theorem take_add {l : List Nat} (a b : Nat) : l.take (a + b) = l.take a ++ (l.drop a).take b := List.take_add
theorem drop_take_add {l : List Nat} (k a b : Nat) : (l.drop k).take (a + b) = (l.drop k).take a ++ (l.drop (k + a)).take b := by
  rw [List.take_add, List.drop_drop]
theorem entries_told {l : List Nat} (hb : ∀ b ∈ l, b < 256) : ∀ n : Nat, 20 + 12 * n ≤ l.length →
    ((List.range n).map fun i => (num l (20 + 12 * i) 4, num l (24 + 12 * i) 8)).flatMap entry = (l.drop 20).take (12 * n)
  | 0, _ => by simp
  | n + 1, h => by
    rw [List.range_succ, List.map_append, List.flatMap_append, entries_told hb n (by omega), show 12 * (n + 1) = 12 * n + 12 by omega, drop_take_add]
    congr 1
    show entry (num l (20 + 12 * n) 4, num l (24 + 12 * n) 8) ++ [] = _
    rw [List.append_nil]
    unfold entry
    rw [le_num hb (by omega), le_num hb (by omega), show 12 = 4 + 8 from rfl, drop_take_add, show 20 + (4 + 8) * n + 4 = 24 + (4 + 8) * n by omega]
theorem four {l : List Nat} (h : 4 ≤ l.length) : l.take 4 = [l.getD 0 0, l.getD 1 0, l.getD 2 0, l.getD 3 0] := by
  match l, h with
  | a :: b :: c :: d :: l, _ => rfl
theorem crcBit_lt {c : Nat} (h : c < 2 ^ 32) : crcBit c < 2 ^ 32 := by
  unfold crcBit
  split
  · exact Nat.xor_lt_two_pow (by omega) (by decide)
  · omega
theorem crcByte_lt {c b : Nat} (h : c < 2 ^ 32) (hb : b < 256) : crcByte c b < 2 ^ 32 := by
  have g : ∀ (n : List Nat) (x : Nat), x < 2 ^ 32 → n.foldl (fun x _ => crcBit x) x < 2 ^ 32 := by
    intro n
    induction n with
    | nil => exact fun x hx => hx
    | cons a n ih => exact fun x hx => ih _ (crcBit_lt hx)
  exact g _ _ (Nat.xor_lt_two_pow h (Nat.lt_trans hb (by decide)))
theorem crcs_lt : ∀ (l : List Nat) (c : Nat), (∀ b ∈ l, b < 256) → c < 2 ^ 32 → l.foldl crcByte c < 2 ^ 32
  | [], _, _, h => h
  | b :: l, c, hb, h => crcs_lt l _ (fun x hx => hb x (List.mem_cons_of_mem _ hx)) (crcByte_lt h (hb b (List.mem_cons_self ..)))
theorem crc_lt {l : List Nat} (hb : ∀ b ∈ l, b < 256) : crc l < 2 ^ 32 := Nat.xor_lt_two_pow (crcs_lt l _ hb (by decide)) (by decide)
/-- a message of bytes is what it tells, just if its first byte, its zeros and its check are right -/
theorem bytes_iff {l : List Nat} (hl : l.length = 216) (hb : ∀ b ∈ l, b < 256) (hn : num l 3 1 ≤ 16) :
    l = (told l).bytes ↔ l.getD 0 0 = 1 ∧ (l.drop (20 + 12 * num l 3 1)).take (192 - 12 * num l 3 1) = List.replicate (192 - 12 * num l 3 1) 0 ∧ num l 212 4 = crc (l.take 212) := by
  have hc : (told l).summary.counts.length = num l 3 1 := by
    show ((List.range _).map _).length = _
    rw [List.length_map, List.length_range]
  have e0 : l.take 212 = l.take 4 ++ ((l.drop 4).take 8 ++ ((l.drop 12).take 8 ++ ((l.drop 20).take (12 * num l 3 1) ++ (l.drop (20 + 12 * num l 3 1)).take (192 - 12 * num l 3 1)))) := by
    rw [← drop_take_add, ← drop_take_add 12, ← drop_take_add 4, ← take_add]
    congr 1
    omega
  have e1 : body (told l) = [1, l.getD 1 0, l.getD 2 0, l.getD 3 0] ++ ((l.drop 4).take 8 ++ ((l.drop 12).take 8 ++ ((l.drop 20).take (12 * num l 3 1) ++ List.replicate (192 - 12 * num l 3 1) 0))) := by
    unfold body
    rw [hc]
    show [1, num l 1 1, num l 2 1, num l 3 1] ++ (le 8 (num l 4 8) ++ (le 8 (num l 12 8) ++ (((List.range (num l 3 1)).map fun i => (num l (20 + 12 * i) 4, num l (24 + 12 * i) 8)).flatMap entry ++ List.replicate (12 * (16 - num l 3 1)) 0))) = _
    rw [entries_told hb _ (by omega), le_num hb (by omega), le_num hb (by omega), show 12 * (16 - num l 3 1) = 192 - 12 * num l 3 1 by omega]
    rw [num_one (k := 1) (by omega), num_one (k := 2) (by omega)]
    rw [← num_one (k := 3) (by omega)]
  have e2 : l.take 212 = body (told l) ↔ l.getD 0 0 = 1 ∧ (l.drop (20 + 12 * num l 3 1)).take (192 - 12 * num l 3 1) = List.replicate (192 - 12 * num l 3 1) 0 := by
    rw [e0, e1, four (by omega)]
    constructor
    · intro h
      have h1 := List.append_inj h rfl
      have h2 := List.append_cancel_left h1.2
      have h3 := List.append_cancel_left h2
      have h4 := List.append_cancel_left h3
      exact ⟨(List.cons.inj h1.1).1, h4⟩
    · intro ⟨h1, h2⟩
      rw [h1, h2]
  have e3 : l = l.take 212 ++ (l.drop 212).take 4 := by
    rw [← take_add, List.take_of_length_le (by omega)]
  have e4 : le 4 (num l 212 4) = (l.drop 212).take 4 := le_num hb (by omega)
  have hcb : ∀ n, num l 212 4 = n ↔ (n < 2 ^ 32 ∧ (l.drop 212).take 4 = le 4 n) := by
    intro n
    constructor
    · intro h
      subst h
      exact ⟨by have := num_lt (k := 212) (w := 4) hb (by omega); simpa using this, e4.symm⟩
    · intro ⟨h1, h2⟩
      rw [num_val, h2, val_le 4 n (by simpa using h1)]
  have hcrc : crc (l.take 212) < 2 ^ 32 := crc_lt fun b hm => hb b (List.mem_of_mem_take hm)
  rw [bytes_eq]
  constructor
  · intro h
    have h5 : l.take 212 = body (told l) ∧ (l.drop 212).take 4 = le 4 (crc (body (told l))) := by
      have h6 := h
      rw [e3] at h6
      have q : (l.take 212 ++ (l.drop 212).take 4) = body (told l) ++ le 4 (crc (body (told l))) := e3.symm.trans h
      exact List.append_inj q (by rw [body_len (by rw [hc]; exact hn), List.length_take]; omega)
    refine ⟨(e2.mp h5.1).1, (e2.mp h5.1).2, ?_⟩
    rw [hcb]
    refine ⟨hcrc, ?_⟩
    rw [h5.1]
    exact h5.2
  · intro ⟨h1, h2, h3⟩
    have h4 := e2.mpr ⟨h1, h2⟩
    rw [hcb] at h3
    rw [← h4, ← h3.2]
    exact e3

/-! ### the greatest first -/
theorem insertDown_perm (x : Nat) : ∀ l : List Nat, (insertDown x l).Perm (x :: l)
  | [] => List.Perm.refl _
  | y :: l => by
    show (if y < x then x :: y :: l else y :: insertDown x l).Perm (x :: y :: l)
    split
    · exact List.Perm.refl _
    · exact ((insertDown_perm x l).cons y).trans (List.Perm.swap x y l)
theorem down_perm : ∀ l : List Nat, (down l).Perm l
  | [] => List.Perm.refl _
  | x :: l => (insertDown_perm x (down l)).trans ((down_perm l).cons x)
theorem insertDown_sorted (x : Nat) : ∀ l : List Nat, l.Pairwise (fun a b => b ≤ a) → (insertDown x l).Pairwise (fun a b => b ≤ a)
  | [], _ => List.pairwise_singleton _ _
  | y :: l, h => by
    obtain ⟨h1, h2⟩ := List.pairwise_cons.mp h
    show (if y < x then x :: y :: l else y :: insertDown x l).Pairwise _
    split
    · rename_i a
      refine List.pairwise_cons.mpr ⟨fun z hz => ?_, h⟩
      rcases List.mem_cons.mp hz with e | hz
      · rw [e]; exact Nat.le_of_lt a
      · exact Nat.le_trans (h1 z hz) (Nat.le_of_lt a)
    · rename_i a
      refine List.pairwise_cons.mpr ⟨fun z hz => ?_, insertDown_sorted x l h2⟩
      rcases List.mem_cons.mp ((insertDown_perm x l).mem_iff.mp hz) with e | hz
      · rw [e]; omega
      · exact h1 z hz
theorem down_sorted : ∀ l : List Nat, (down l).Pairwise (fun a b => b ≤ a)
  | [] => List.Pairwise.nil
  | x :: l => insertDown_sorted x _ (down_sorted l)
theorem down_unique {l m : List Nat} (p : m.Perm l) (s : m.Pairwise fun a b => b ≤ a) : m = down l :=
  List.Perm.eq_of_pairwise (le := fun a b : Nat => b ≤ a) (fun a b _ _ h1 h2 => by omega) s (down_sorted l) (p.trans (down_perm l).symm)
theorem down_congr {l m : List Nat} (p : l.Perm m) : down l = down m := down_unique ((down_perm l).trans p) (down_sorted l)
theorem down_len (l : List Nat) : (down l).length = l.length := (down_perm l).length_eq
theorem down_asc {l m : List Nat} (p : m.Perm l) (s : m.Pairwise fun a b => a ≤ b) : m.reverse = down l :=
  down_unique ((List.reverse_perm m).trans p) (List.pairwise_reverse.mpr s)

/-! ### two put together -/
noncomputable def addN (s : List (Nat × Nat)) (y : Nat × Nat) : List (Nat × Nat) := putN s y.1 ((getN s y.1).getD 0 + y.2)
theorem Rel.add {ps cs : List (Nat × Nat)} (r : Rel ps cs) (y : Nat × Nat) : Rel (addN ps y) (bump y.1 y.2 cs) := r.put y.1 y.2
theorem Rel.adds : ∀ (ds : List (Nat × Nat)) {ps cs : List (Nat × Nat)}, Rel ps cs → Rel (ds.foldl addN ps) (ds.foldl (fun s y => bump y.1 y.2 s) cs)
  | [], _, _, r => r
  | y :: ds, _, _, r => Rel.adds ds (r.add y)
theorem getN_bumps : ∀ (ds : List (Nat × Nat)), Keys ds → ∀ (cs : List (Nat × Nat)), Rising cs → ∀ x,
    getN (ds.foldl (fun s y => bump y.1 y.2 s) cs) x = match getN ds x with | some d => some ((getN cs x).getD 0 + d) | none => getN cs x
  | [], _, cs, _, x => rfl
  | y :: ds, hk, cs, hr, x => by
    have hk' : (y.1 :: ds.map Prod.fst).Nodup := hk
    obtain ⟨h1, h2⟩ := List.nodup_cons.mp hk'
    rw [List.foldl_cons, getN_bumps ds h2 _ (rising_bump _ hr _ _), getN_cons, getN_bump cs hr]
    by_cases h : y.1 = x
    · have e : getN ds x = none := getN_none.mpr fun z hz q => h1 (List.mem_map.mpr ⟨z, hz, by rw [q, h]⟩)
      rw [if_pos h, e, if_pos h.symm, h]
    · rw [if_neg h, if_neg (fun q => h q.symm)]
theorem bumps_perm {ds es : List (Nat × Nat)} (p : ds.Perm es) (hk : Keys ds) {cs : List (Nat × Nat)} (hr : Rising cs) :
    ds.foldl (fun s y => bump y.1 y.2 s) cs = es.foldl (fun s y => bump y.1 y.2 s) cs := by
  have up : ∀ (l : List (Nat × Nat)) (cs : List (Nat × Nat)), Rising cs → Rising (l.foldl (fun s y => bump y.1 y.2 s) cs) := by
    intro l
    induction l with
    | nil => exact fun _ h => h
    | cons y l ih => exact fun cs h => ih _ (rising_bump _ h _ _)
  have u1 := up ds cs hr
  have u2 := up es cs hr
  refine rising_ext u1 u2 (perm_of_getN u1.keys u2.keys fun x => ?_)
  rw [getN_bumps ds hk cs hr, getN_bumps es (hk.perm p) cs hr, getN_perm p hk]
theorem bumps_up (l : List (Nat × Nat)) (cs : List (Nat × Nat)) (h : Rising cs) : Rising (l.foldl (fun s y => bump y.1 y.2 s) cs) := by
  induction l generalizing cs with
  | nil => exact h
  | cons y l ih => exact ih _ (rising_bump _ h _ _)
/-- the tables of two, put together in any order -/
theorem Rel.merge {ps cs qs ds : List (Nat × Nat)} (r : Rel ps cs) (q : Rel qs ds) : Rel (qs.foldl addN ps) (ds.foldl (fun s y => bump y.1 y.2 s) cs) := by
  have h := Rel.adds qs r
  rw [bumps_perm q.perm q.keys r.up] at h
  exact h
/-- what stands there of any summary that the program has -/
structure Good (s : Summary) : Prop where
  up : Rising s.counts
theorem add_up {k : Nat} {s : Summary} (h : Rising s.counts) (x : Nat) : Rising (s.add k x).counts := by
  unfold Summary.add
  split
  · exact rising_bump _ h _ _
  · exact ((⟨List.Perm.refl _, h⟩ : Rel s.counts s.counts).lower 1).up
theorem with_up {k : Nat} {a b : Summary} (h : Rising a.counts) : Rising (Summary.with_ k a b).counts := by
  have u := bumps_up b.counts a.counts h
  exact ((⟨List.Perm.refl _, u⟩ : Rel _ _).lower _).up
theorem rising_iff : ∀ l : List (Nat × Nat), rising l = true ↔ Rising l
  | [] => ⟨fun _ => List.Pairwise.nil, fun _ => rfl⟩
  | [x] => ⟨fun _ => List.pairwise_singleton _ _, fun _ => rfl⟩
  | x :: y :: l => by
    show (decide (x.1 < y.1) && rising (y :: l)) = true ↔ _
    rw [Bool.and_eq_true, rising_iff (y :: l), decide_eq_true_iff]
    constructor
    · intro ⟨h1, h2⟩
      refine List.pairwise_cons.mpr ⟨fun z hz => ?_, h2⟩
      rcases List.mem_cons.mp hz with e | hz
      · rw [e]; exact h1
      · exact Nat.lt_trans h1 ((List.pairwise_cons.mp h2).1 z hz)
    · intro h
      obtain ⟨h1, h2⟩ := List.pairwise_cons.mp h
      exact ⟨h1 y (List.mem_cons_self ..), h2⟩
end OM

end
section
set_option Elab.async false
set_option linter.all false
set_option maxRecDepth 100000
namespace OM
open Km355
/-! ### a number out of bytes, as a sum -/
theorem val_append : ∀ a b : List Nat, val (a ++ b) = val a + 256 ^ a.length * val b
  | [], b => by
    show val b = 0 + 256 ^ 0 * val b
    omega
  | x :: a, b => by
    show x + 256 * val (a ++ b) = x + 256 * val a + 256 ^ (a.length + 1) * val b
    rw [val_append a b, Nat.mul_add, Nat.pow_succ, Nat.mul_comm (256 ^ a.length) 256, Nat.mul_assoc]
    omega
theorem num_succ {l : List Nat} {k w : Nat} (h : k + w < l.length) : num l k (w + 1) = num l k w + l.getD (k + w) 0 * 2 ^ (8 * w) := by
  have hl : ((l.drop k).take w).length = w := by rw [List.length_take, List.length_drop]; omega
  rw [num_val, num_val, drop_take_add, val_append, hl, List.drop_eq_getElem_cons h, List.getD_eq_getElem?_getD, List.getElem?_eq_getElem h]
  show _ + 256 ^ w * (l[k + w] + 256 * 0) = _ + l[k + w] * 2 ^ (8 * w)
  rw [Nat.pow_mul, Nat.mul_comm (256 ^ w)]
  rfl
/-- the parts of a number: byte i, put i bytes up -/
noncomputable def parts (l : List Nat) (k w : Nat) : List Nat := (List.range w).map fun i => l.getD (k + i) 0 * 2 ^ (8 * i)
theorem parts_succ (l : List Nat) (k w : Nat) : parts l k (w + 1) = parts l k w ++ [l.getD (k + w) 0 * 2 ^ (8 * w)] := by
  unfold parts
  rw [List.range_succ, List.map_append]
  rfl
theorem parts_len (l : List Nat) (k w : Nat) : (parts l k w).length = w := by
  unfold parts
  rw [List.length_map, List.length_range]
theorem parts_sum {l : List Nat} {k : Nat} : ∀ w : Nat, k + w ≤ l.length → (parts l k w).sum = num l k w
  | 0, _ => rfl
  | w + 1, h => by
    rw [parts_succ, List.sum_append, parts_sum w (by omega), num_succ (by omega)]
    simp
theorem sum_cast : ∀ l : List Nat, (l.map fun (x : Nat) => (x : Int)).sum = ((l.sum : Nat) : Int)
  | [] => rfl
  | x :: l => by
    rw [List.map_cons, List.sum_cons, List.sum_cons, sum_cast l]
    simp
theorem sum_eq (l : List Nat) : Km355.sum l = l.sum := by
  have g : ∀ (l : List Nat) (a : Nat), l.foldl (· + ·) a = a + l.sum := by
    intro l
    induction l with
    | nil => intro a; rfl
    | cons x l ih => intro a; rw [List.foldl_cons, ih, List.sum_cons]; omega
  unfold Km355.sum
  rw [g]
  omega
/-! ### the counters of a message -/
noncomputable def cr : Nat → List (Nat × Nat) → Bool
  | _, [] => true
  | least, y :: l => if y.1 < least ∨ y.2 < 1 ∨ 4294967295 < y.2 then false else cr (y.1 + 1) l
theorem cr_iff : ∀ (l : List (Nat × Nat)) (least : Nat), cr least l = true ↔ (∀ y ∈ l, least ≤ y.1) ∧ Rising l ∧ ∀ y ∈ l, 1 ≤ y.2 ∧ y.2 < 2 ^ 32
  | [], least => by simp [cr, Rising]
  | y :: l, least => by
    unfold cr
    by_cases h : y.1 < least ∨ y.2 < 1 ∨ 4294967295 < y.2
    · rw [if_pos h]
      constructor
      · intro z; cases z
      · intro ⟨h1, h2, h3⟩
        have a := h1 y (List.mem_cons_self ..)
        have b := h3 y (List.mem_cons_self ..)
        omega
    · rw [if_neg h, cr_iff l]
      constructor
      · intro ⟨h1, h2, h3⟩
        refine ⟨fun z hz => ?_, List.pairwise_cons.mpr ⟨fun z hz => h1 z hz, h2⟩, fun z hz => ?_⟩
        · rcases List.mem_cons.mp hz with e | hz
          · rw [e]; omega
          · have := h1 z hz; omega
        · rcases List.mem_cons.mp hz with e | hz
          · rw [e]; omega
          · exact h3 z hz
      · intro ⟨h1, h2, h3⟩
        obtain ⟨a, b⟩ := List.pairwise_cons.mp h2
        exact ⟨fun z hz => a z hz, b, fun z hz => h3 z (List.mem_cons_of_mem _ hz)⟩
/-- the counters as they stand -/
noncomputable def cnts (l : List Nat) : List (Nat × Nat) := (List.range (l.getD 3 0)).map fun i => (num l (20 + 12 * i) 4, num l (24 + 12 * i) 8)
theorem cnts_len (l : List Nat) : (cnts l).length = l.getD 3 0 := by
  unfold cnts
  rw [List.length_map, List.length_range]
theorem told_cnts {l : List Nat} (hl : l.length = 216) : (told l).summary.counts = cnts l := by
  unfold told cnts
  rw [num_one (k := 3) (by omega)]
/-! ### what the program asks of a message -/
noncomputable def headB (l : List Nat) : Bool := decide (l.getD 0 0 = 1) && (decide (l.getD 1 0 < 16) && ((decide (1 ≤ l.getD 2 0) && decide (l.getD 2 0 ≤ 16)) && decide (l.getD 3 0 ≤ l.getD 2 0)))
noncomputable def checkB (l : List Nat) : Bool := decide (num l 212 4 = crc (l.take 212))
noncomputable def restB (l : List Nat) : Bool := !((l.drop (20 + 12 * l.getD 3 0)).take (192 - 12 * l.getD 3 0)).any fun b => decide (b ≠ 0)
noncomputable def addsB (k : Nat) (s : Summary) : Bool := decide ((s.counts.map Prod.snd).sum + (k + 1) * s.wrong ≤ s.n) && decide (s.n ≤ 4294967295)
theorem headB_iff (l : List Nat) : headB l = true ↔ l.getD 0 0 = 1 ∧ l.getD 1 0 < 16 ∧ (1 ≤ l.getD 2 0 ∧ l.getD 2 0 ≤ 16) ∧ l.getD 3 0 ≤ l.getD 2 0 := by
  unfold headB
  simp only [Bool.and_eq_true, decide_eq_true_iff]
theorem zeros_iff : ∀ (m : List Nat), (!m.any fun b => decide (b ≠ 0)) = true ↔ m = List.replicate m.length 0
  | [] => by simp
  | x :: m => by
    rw [List.any_cons, List.length_cons, List.replicate_succ, List.cons.injEq, ← zeros_iff m]
    by_cases h : x = 0
    · simp [h]
    · simp [h]
theorem right_iff {l : List Nat} (hl : l.length = 216) (hb : ∀ b ∈ l, b < 256) :
    (messageOf l).isSome = (headB l && (checkB l && (cr 0 (cnts l) && (restB l && addsB (l.getD 2 0) (told l).summary)))) := by
  have e1 : (told l).station = l.getD 1 0 := num_one (by omega)
  have e2 : (told l).k = l.getD 2 0 := num_one (by omega)
  have e3 : num l 3 1 = l.getD 3 0 := num_one (by omega)
  have hc := told_cnts hl
  have hcl := cnts_len l
  rw [Bool.eq_iff_iff, messageOf_told]
  simp only [Bool.and_eq_true, headB_iff]
  have hif : ∀ (c : Prop) [Decidable c], (if c then some (told l) else none).isSome = true ↔ c := fun c _ => by
    by_cases h : c <;> simp [h]
  rw [hif, e1, e2]
  have hrest : l.getD 3 0 ≤ 16 → (restB l = true ↔ (l.drop (20 + 12 * l.getD 3 0)).take (192 - 12 * l.getD 3 0) = List.replicate (192 - 12 * l.getD 3 0) 0) := fun h => by
    unfold restB
    rw [zeros_iff]
    have q : ((l.drop (20 + 12 * l.getD 3 0)).take (192 - 12 * l.getD 3 0)).length = 192 - 12 * l.getD 3 0 := by
      rw [List.length_take, List.length_drop]
      omega
    rw [q]
  have hgood : ∀ k, (told l).summary.good k = true ↔ l.getD 3 0 ≤ k ∧ Rising (cnts l) ∧ (∀ y ∈ cnts l, y.1 < 2 ^ 32 ∧ 1 ≤ y.2 ∧ y.2 < 2 ^ 32) ∧ (told l).summary.n < 2 ^ 32 ∧ ((cnts l).map Prod.snd).sum + (k + 1) * (told l).summary.wrong ≤ (told l).summary.n := fun k => by
    unfold Summary.good
    rw [hc, sum_eq]
    simp only [Bool.and_eq_true, decide_eq_true_iff, List.all_eq_true, rising_iff, hcl]
    exact Iff.rfl
  have hadds : ∀ k, addsB k (told l).summary = true ↔ ((cnts l).map Prod.snd).sum + (k + 1) * (told l).summary.wrong ≤ (told l).summary.n ∧ (told l).summary.n < 2 ^ 32 := fun k => by
    unfold addsB
    rw [hc]
    simp only [Bool.and_eq_true, decide_eq_true_iff]
    omega
  rw [hgood, hadds, cr_iff]
  have hcheck : checkB l = true ↔ num l 212 4 = crc (l.take 212) := by unfold checkB; rw [decide_eq_true_iff]
  rw [hcheck]
  unfold STATIONS COUNTERS
  constructor
  · intro ⟨a1, a2, a3, ⟨b1, b2, b3, b4, b5⟩, a5⟩
    have h16 : l.getD 3 0 ≤ 16 := by omega
    rw [bytes_iff hl hb (by rw [e3]; exact h16), e3] at a5
    exact ⟨⟨a5.1, a1, ⟨a2, a3⟩, b1⟩, a5.2.2, ⟨fun y _ => Nat.zero_le _, b2, fun y hy => (b3 y hy).2⟩, (hrest h16).mpr a5.2.1, b5, b4⟩
  · intro ⟨⟨a1, a2, ⟨a3, a4⟩, a5⟩, b, ⟨_, c2, c3⟩, d, e, f⟩
    have h16 : l.getD 3 0 ≤ 16 := by omega
    refine ⟨a2, a3, a4, ⟨a5, c2, fun y hy => ⟨?_, c3 y hy⟩, f, e⟩, ?_⟩
    · unfold cnts at hy
      obtain ⟨i, hi, rfl⟩ := List.mem_map.mp hy
      have := num_lt (l := l) (k := 20 + 12 * i) (w := 4) hb (by rw [List.mem_range] at hi; omega)
      simpa using this
    · rw [bytes_iff hl hb (by rw [e3]; exact h16), e3]
      exact ⟨a1, (hrest h16).mp d, b⟩
theorem messageOf_some {l : List Nat} (h : (messageOf l).isSome = true) : messageOf l = some (told l) := by
  rw [messageOf_told] at h ⊢
  split at h
  · rename_i c; rw [if_pos c]
  · cases h
theorem messageOf_none {l : List Nat} (h : (messageOf l).isSome = false) : messageOf l = none := by
  cases e : messageOf l with
  | none => rfl
  | some m => rw [e] at h; cases h
/-! ### two put together: few -/
theorem down_few (l : List Nat) (k : Nat) : (l.filter fun y => decide ((down l).getD k 0 < y)).length ≤ k := by
  have p : (l.filter fun y => decide ((down l).getD k 0 < y)).Perm ((down l).filter fun y => decide ((down l).getD k 0 < y)) := ((down_perm l).symm).filter _
  rw [p.length_eq]
  by_cases h : k < (down l).length
  · have s := down_sorted l
    generalize down l = m at h s ⊢
    have e : (m.drop k).filter (fun y => decide (m.getD k 0 < y)) = [] := by
      rw [List.filter_eq_nil_iff]
      intro y hy z
      have hk : m.getD k 0 = m[k] := by rw [List.getD_eq_getElem?_getD, List.getElem?_eq_getElem h]; rfl
      rw [hk, decide_eq_true_iff] at z
      rw [List.drop_eq_getElem_cons h] at hy
      have s2 : (m.drop k).Pairwise (fun a b => b ≤ a) := s.sublist (List.drop_sublist _ _)
      rw [List.drop_eq_getElem_cons h] at s2
      rcases List.mem_cons.mp hy with q | hy
      · omega
      · have := (List.pairwise_cons.mp s2).1 y hy
        omega
    conv => lhs; rw [← List.take_append_drop k m]
    generalize hg : (fun y => decide ((List.take k m ++ List.drop k m).getD k 0 < y)) = g
    have eg : g = fun y => decide (m.getD k 0 < y) := by rw [← hg, List.take_append_drop]
    rw [eg, List.filter_append, e, List.append_nil]
    exact Nat.le_trans (List.length_filter_le _ _) (by rw [List.length_take]; omega)
  · exact Nat.le_trans (List.length_filter_le _ _) (by omega)
theorem lower_few (l : List (Nat × Nat)) (k : Nat) : (Km355.lower ((down (l.map Prod.snd)).getD k 0) l).length ≤ k := by
  rw [lower_eq, List.length_map]
  have h := down_few (l.map Prod.snd) k
  rw [List.filter_map, List.length_map] at h
  exact h
theorem with_few (k : Nat) (a b : Summary) : (Summary.with_ k a b).counts.length ≤ k := lower_few _ k
theorem down_over {l : List Nat} {k : Nat} (h : l.length ≤ k) : (down l).getD k 0 = 0 := by
  rw [List.getD_eq_getElem?_getD, List.getElem?_eq_none (by rw [down_len]; exact h)]
  rfl
theorem down_ints {ns : List Int} {l m : List Nat} (p : ns.Perm (l.map fun (x : Nat) => (x : Int))) (q : l.Perm m) (s : ns.Pairwise fun x y => y ≤ x) : ns = (down m).map fun (x : Nat) => (x : Int) := by
  refine List.Perm.eq_of_pairwise (le := fun a b : Int => b ≤ a) (fun a b _ _ h1 h2 => by omega) s ?_ (p.trans ((q.map _).trans ((down_perm m).symm.map _)))
  rw [List.pairwise_map]
  exact (down_sorted m).imp fun h => by omega
theorem take16 {l : List Nat} (h : l.length ≤ 16) : (l ++ List.replicate 16 0).take 16 = l ++ List.replicate (16 - l.length) 0 := by
  rw [List.take_append, List.take_of_length_le h, List.take_replicate]
  congr 2
  omega
/-- a dict out of pairs that rise: the pairs -/
theorem puts_rising : ∀ (l acc : List (Nat × Nat)), Rising (acc ++ l) → l.foldl (fun s y => putN s y.1 y.2) acc = acc ++ l
  | [], acc, _ => (List.append_nil _).symm
  | y :: l, acc, h => by
    have n : getN acc y.1 = none := getN_none.mpr fun z hz => by
      have := (List.pairwise_append.mp h).2.2 z hz y (List.mem_cons_self ..)
      omega
    have e : putN acc y.1 y.2 = acc ++ [y] := by
      unfold putN
      rw [any_getN, n]
      exact if_neg (by simp)
    rw [List.foldl_cons, e, puts_rising l (acc ++ [y]) (by rw [List.append_assoc]; exact h), List.append_assoc]
    rfl
end OM

end
section
set_option Elab.async false
set_option maxRecDepth 100000
namespace OL
open Km355 Km355Neutral
/-! ### a line of calls, as a list of naturals -/
inductive Cl where
  | start (i me k : Nat)
  | read (i x : Nat)
  | say (i : Nat)
  | of (i x : Nat)
  | cstart (i k n : Nat)
  | heard (i : Nat) (m : List Nat)
  | cof (i x : Nat)
  | often (i p : Nat)
/-- as it stands in the list -/
noncomputable def Cl.flat : Cl → List Nat
  | .start i me k => [0, i, me, k]
  | .read i x => [1, i, x]
  | .say i => [2, i]
  | .of i x => [3, i, x]
  | .cstart i k n => [4, i, k, n]
  | .heard i m => 5 :: i :: 216 :: m
  | .cof i x => [6, i, x]
  | .often i p => [7, i, p]
/-- the specification's call -/
noncomputable def Cl.call : Cl → Km355.Call
  | .start _ me k => .sStart me k
  | .read _ x => .sRead x
  | .say _ => .sSay
  | .of _ x => .sOf x
  | .cstart _ k n => .cStart k n
  | .heard _ m => .cHeard m
  | .cof _ x => .cOf x
  | .often _ p => .cOften p
noncomputable def Cl.ix : Cl → Nat
  | .start i _ _ => i
  | .read i _ => i
  | .say i => i
  | .of i _ => i
  | .cstart i _ _ => i
  | .heard i _ => i
  | .cof i _ => i
  | .often i _ => i
noncomputable def toZ (l : List Nat) : List Int := l.map fun (x : Nat) => (x : Int)
noncomputable def Cl.neutral : Cl → List (List Int)
  | .heard i m => [[5, (i : Int)], toZ m]
  | q => [toZ q.flat]
/-- a message has 216 bytes -/
noncomputable def Cl.ok : Cl → Prop
  | .heard _ m => m.length = 216 ∧ ∀ b ∈ m, b < 256
  | .often _ p => p < 2 ^ 32
  | _ => True
theorem toZ_toNat {m : List Int} (h : ∀ z ∈ m, 0 ≤ z) : toZ (m.map Int.toNat) = m := by
  unfold toZ
  rw [List.map_map]
  conv => rhs; rw [← List.map_id m]
  refine List.map_congr_left fun z hz => ?_
  have := h z hz
  show ((z.toNat : Nat) : Int) = z
  omega
theorem nats_toZ (m : List Nat) : nats (toZ m) = m := by
  unfold nats toZ
  rw [List.map_map]
  conv => rhs; rw [← List.map_id m]
  rfl
theorem callOf_neutral (q : Cl) : callOf q.neutral = some q.call := by
  cases q with
  | heard i m => show some (Km355.Call.cHeard (nats (toZ m))) = _; rw [nats_toZ]; rfl
  | _ => rfl
theorem step_station {q : Cl} (s : S) (h : whose q.call = 0) : step s q.neutral = step0 s q.ix q.call := by
  unfold step
  rw [callOf_neutral]
  cases q <;> first | rfl | (exact absurd h (by show ¬ (1 : Nat) = 0; decide))
theorem step_centre {q : Cl} (s : S) (h : whose q.call = 1) : step s q.neutral = step1 s q.ix q.call := by
  unfold step
  rw [callOf_neutral]
  cases q <;> first | rfl | (exact absurd h (by show ¬ (0 : Nat) = 1; decide))
theorem row_some {r : List Int} {x s : List Int} (h : PyFlat.row r = some (x, s)) : r = (x.length : Int) :: (x ++ s) := by
  cases r with
  | nil => cases h
  | cons z v =>
    have g : (if 0 ≤ z ∧ z.toNat ≤ v.length then some (v.take z.toNat, v.drop z.toNat) else none) = some (x, s) := h
    by_cases c : 0 ≤ z ∧ z.toNat ≤ v.length
    · rw [if_pos c] at g
      have e := Prod.mk.inj (Option.some.inj g)
      rw [← e.1, ← e.2, List.take_append_drop, List.length_take, Nat.min_eq_left c.2]
      congr 1
      omega
    · rw [if_neg c] at g; cases g
/-- a call without rows -/
theorem call_plain {p : Int} {r c t} {n : Nat} (hs : PyKm355.shape p = some (n, 0)) (h : PyFlat.call PyKm355.shape (p :: r) = some (c, t)) : n ≤ r.length ∧ c = [p :: r.take n] ∧ t = r.drop n := by
  have h' : (match PyKm355.shape p with
    | none => none
    | some (n, k) => if r.length < n then none else match PyFlat.rows k (r.drop n) with
      | none => none
      | some (xs, t) => some ((p :: r.take n) :: xs, t)) = some (c, t) := h
  rw [hs] at h'
  have h2 : (if r.length < n then none else some ([p :: r.take n], r.drop n)) = some (c, t) := h'
  by_cases l : r.length < n
  · rw [if_pos l] at h2; cases h2
  · rw [if_neg l] at h2
    obtain ⟨e1, e2⟩ := Prod.mk.inj (Option.some.inj h2)
    exact ⟨by omega, e1.symm, e2.symm⟩
/-- a call with one row -/
theorem call_row {p : Int} {r c t} {n : Nat} (hs : PyKm355.shape p = some (n, 1)) (h : PyFlat.call PyKm355.shape (p :: r) = some (c, t)) : n ≤ r.length ∧ ∃ x, c = [p :: r.take n, x] ∧ r.drop n = (x.length : Int) :: (x ++ t) := by
  have h' : (match PyKm355.shape p with
    | none => none
    | some (n, k) => if r.length < n then none else match PyFlat.rows k (r.drop n) with
      | none => none
      | some (xs, t) => some ((p :: r.take n) :: xs, t)) = some (c, t) := h
  rw [hs] at h'
  have h2 : (if r.length < n then none else match PyFlat.rows 1 (r.drop n) with
      | none => none
      | some (xs, t) => some ((p :: r.take n) :: xs, t)) = some (c, t) := h'
  by_cases l : r.length < n
  · rw [if_pos l] at h2; cases h2
  · rw [if_neg l] at h2
    have h3 : PyFlat.rows 1 (r.drop n) = (match PyFlat.row (r.drop n) with
      | none => none
      | some (x, s) => some ([x], s)) := by
      show (match PyFlat.row (r.drop n) with
        | none => none
        | some (x, s) => match PyFlat.rows 0 s with
          | none => none
          | some (xs, t) => some (x :: xs, t)) = _
      cases PyFlat.row (r.drop n) with
      | none => rfl
      | some q => rfl
    rw [h3] at h2
    cases e : PyFlat.row (r.drop n) with
    | none => rw [e] at h2; cases h2
    | some q =>
      obtain ⟨x, s⟩ := q
      rw [e] at h2
      have h4 : some ([p :: r.take n, x], s) = some (c, t) := h2
      obtain ⟨e1, e2⟩ := Prod.mk.inj (Option.some.inj h4)
      subst e2
      exact ⟨by omega, x, e1.symm, row_some e⟩
theorem shape_none {p : Nat} (h : 8 ≤ p) : PyKm355.shape (p : Int) = none := by
  unfold PyKm355.shape
  rw [if_neg (by omega), if_neg (by omega), if_neg (by omega), if_neg (by omega), if_neg (by omega), if_neg (by omega), if_neg (by omega), if_neg (by omega)]
theorem toZ_append (a b : List Nat) : toZ (a ++ b) = toZ a ++ toZ b := List.map_append
theorem toZ_inj : ∀ {a b : List Nat}, toZ a = toZ b → a = b
  | [], [], _ => rfl
  | [], _ :: _, h => by cases h
  | _ :: _, [], h => by cases h
  | x :: a, y :: b, h => by
    have h' : (x : Int) :: toZ a = (y : Int) :: toZ b := h
    injection h' with h1 h2
    rw [toZ_inj h2, Int.ofNat_inj.mp h1]
theorem of_split {r : List Nat} {x t : List Int} (h : toZ r = x ++ t) : ∃ m l, r = m ++ l ∧ x = toZ m ∧ t = toZ l := by
  refine ⟨r.take x.length, r.drop x.length, (List.take_append_drop _ _).symm, ?_, ?_⟩
  · have e : toZ (r.take x.length) = (toZ r).take x.length := List.map_take
    rw [e, h, List.take_left]
  · have e : toZ (r.drop x.length) = (toZ r).drop x.length := List.map_drop
    rw [e, h, List.drop_left]
theorem call_none {p : Nat} {r t : List Int} {c : List (List Int)} (hp : 8 ≤ p) : ¬ PyFlat.call PyKm355.shape ((p : Int) :: r) = some (c, t) := by
  intro h
  have h' : (match PyKm355.shape (p : Int) with
    | none => none
    | some (n, k) => if r.length < n then none else match PyFlat.rows k (r.drop n) with
      | none => none
      | some (xs, t) => some (((p : Int) :: r.take n) :: xs, t)) = some (c, t) := h
  rw [shape_none hp] at h'
  cases h'
/-- a call that is read off the list; a message may have any length so far -/
theorem call_form {p : Nat} {r : List Nat} {c : List (List Int)} {t : List Int} (h : PyFlat.call PyKm355.shape (toZ (p :: r)) = some (c, t)) :
    ∃ l : List Nat, t = toZ l ∧ ((∃ q : Cl, p :: r = q.flat ++ l ∧ c = q.neutral) ∨ ∃ (a : Nat) (m : List Nat), p :: r = 5 :: a :: m.length :: (m ++ l) ∧ c = (Cl.heard a m).neutral) := by
  have h : PyFlat.call PyKm355.shape ((p : Int) :: toZ r) = some (c, t) := h
  match p, h with
  | 0, h =>
    obtain ⟨hl, rfl, rfl⟩ := call_plain (n := 3) rfl h
    match r, hl with
    | a :: b :: d :: l, _ => exact ⟨l, rfl, .inl ⟨.start a b d, rfl, rfl⟩⟩
  | 1, h =>
    obtain ⟨hl, rfl, rfl⟩ := call_plain (n := 2) rfl h
    match r, hl with
    | a :: b :: l, _ => exact ⟨l, rfl, .inl ⟨.read a b, rfl, rfl⟩⟩
  | 2, h =>
    obtain ⟨hl, rfl, rfl⟩ := call_plain (n := 1) rfl h
    match r, hl with
    | a :: l, _ => exact ⟨l, rfl, .inl ⟨.say a, rfl, rfl⟩⟩
  | 3, h =>
    obtain ⟨hl, rfl, rfl⟩ := call_plain (n := 2) rfl h
    match r, hl with
    | a :: b :: l, _ => exact ⟨l, rfl, .inl ⟨.of a b, rfl, rfl⟩⟩
  | 4, h =>
    obtain ⟨hl, rfl, rfl⟩ := call_plain (n := 3) rfl h
    match r, hl with
    | a :: b :: d :: l, _ => exact ⟨l, rfl, .inl ⟨.cstart a b d, rfl, rfl⟩⟩
  | 5, h =>
    obtain ⟨hl, x, rfl, e⟩ := call_row (n := 1) rfl h
    match r, hl, e with
    | a :: [], _, e => cases e
    | a :: b :: r, _, e =>
      have e : (b : Int) :: toZ r = (x.length : Int) :: (x ++ t) := e
      injection e with e1 e2
      obtain ⟨m, l, rfl, rfl, rfl⟩ := of_split e2
      have eb : b = m.length := by
        unfold toZ at e1
        rw [List.length_map] at e1
        exact Int.ofNat_inj.mp e1
      subst eb
      exact ⟨l, rfl, .inr ⟨a, m, rfl, rfl⟩⟩
  | 6, h =>
    obtain ⟨hl, rfl, rfl⟩ := call_plain (n := 2) rfl h
    match r, hl with
    | a :: b :: l, _ => exact ⟨l, rfl, .inl ⟨.cof a b, rfl, rfl⟩⟩
  | 7, h =>
    obtain ⟨hl, rfl, rfl⟩ := call_plain (n := 2) rfl h
    match r, hl with
    | a :: b :: l, _ => exact ⟨l, rfl, .inl ⟨.often a b, rfl, rfl⟩⟩
  | p + 8, h => exact absurd h (call_none (by omega))
theorem natural_lt {b n : Nat} (h : natural (b : Int) n = true) : b < 2 ^ n := by
  unfold natural at h
  rw [Bool.and_eq_true, decide_eq_true_iff, decide_eq_true_iff] at h
  have e : ((b : Nat) : Int) < ((2 ^ n : Nat) : Int) := by simpa using h.2
  exact Int.ofNat_lt.mp e
theorem ok_of_asked : ∀ q : Cl, asked1 q.neutral = true → q.ok
  | .heard a m, h => by
    have h : (natural (a : Int) 8 && (decide ((toZ m).length = 216) && (toZ m).all fun z => natural z 8)) = true := h
    rw [Bool.and_eq_true, Bool.and_eq_true, decide_eq_true_iff, List.all_eq_true] at h
    refine ⟨?_, fun z hz => natural_lt (n := 8) (h.2.2 (z : Int) (List.mem_map.mpr ⟨z, hz, rfl⟩))⟩
    have e := h.2.1
    unfold toZ at e
    rw [List.length_map] at e
    exact e
  | .often a p, h => by
    have h : (natural (a : Int) 8 && natural (p : Int) 32) = true := h
    exact natural_lt (Bool.and_eq_true_iff.mp h).2
  | .start .., _ | .read .., _ | .say .., _ | .of .., _ | .cstart .., _ | .cof .., _ => trivial
theorem call_cl {p : Nat} {r : List Nat} {c : List (List Int)} {t : List Int} (h : PyFlat.call PyKm355.shape (toZ (p :: r)) = some (c, t)) (ha : asked1 c = true) :
    ∃ (q : Cl) (l : List Nat), p :: r = q.flat ++ l ∧ t = toZ l ∧ c = q.neutral ∧ q.ok := by
  obtain ⟨l, e1, ⟨q, e2, rfl⟩ | ⟨a, m, e2, rfl⟩⟩ := call_form h
  · exact ⟨q, l, e2, e1, rfl, ok_of_asked q ha⟩
  · have ok := ok_of_asked (.heard a m) ha
    have hm : m.length = 216 := ok.1
    rw [hm] at e2
    exact ⟨.heard a m, l, e2, e1, rfl, ok⟩
/-- the counts put in change nothing -/
theorem call_whole {p : Nat} {r : List Nat} {c : List (List Int)} {t : List Int} (h : PyFlat.call PyKm355.shape (toZ (p :: r)) = some (c, t)) : PyKm355.whole c = c ∧ ∃ l : List Nat, t = toZ l := by
  obtain ⟨l, e1, ⟨q, _, rfl⟩ | ⟨a, m, _, rfl⟩⟩ := call_form h
  · exact ⟨by cases q <;> rfl, l, e1⟩
  · exact ⟨rfl, l, e1⟩
theorem calls_whole : ∀ (f : Nat) (l : List Nat) (cs : List (List (List Int))), PyFlat.calls PyKm355.shape f (toZ l) = some cs → cs.map PyKm355.whole = cs
  | 0, [], cs, h => by cases h; rfl
  | f + 1, [], cs, h => by cases h; rfl
  | 0, _ :: _, cs, h => by cases h
  | f + 1, p :: r, cs, h => by
    have h : (match PyFlat.call PyKm355.shape (toZ (p :: r)) with
      | none => none
      | some (c, t) => match PyFlat.calls PyKm355.shape f t with
        | none => none
        | some cs => some (c :: cs)) = some cs := h
    cases e : PyFlat.call PyKm355.shape (toZ (p :: r)) with
    | none => rw [e] at h; cases h
    | some y =>
      obtain ⟨c, t⟩ := y
      rw [e] at h
      obtain ⟨h1, l, rfl⟩ := call_whole e
      have h : (match PyFlat.calls PyKm355.shape f (toZ l) with
        | none => none
        | some cs => some (c :: cs)) = some cs := h
      cases e2 : PyFlat.calls PyKm355.shape f (toZ l) with
      | none => rw [e2] at h; cases h
      | some ds =>
        rw [e2] at h
        have h : some (c :: ds) = some cs := h
        cases h
        rw [List.map_cons, h1, calls_whole f l ds e2]
/-- what is asked of the calls that are left, in a state -/
structure Left (s : S) (l : List Nat) (cs : List (List (List Int))) : Prop where
  read : ∃ f, PyFlat.calls PyKm355.shape f (toZ l) = some cs
  form : cs.all asked1 = true
  may_ : may s cs = true
theorem Left.cases {s : S} {l : List Nat} {cs : List (List (List Int))} (h : Left s l cs) : (l = [] ∧ cs = []) ∨
    ∃ (q : Cl) (l' : List Nat) (cs' : List (List (List Int))), l = q.flat ++ l' ∧ cs = q.neutral :: cs' ∧ q.ok ∧ (step s q.neutral).2 ≠ [] ∧ Left (step s q.neutral).1 l' cs' := by
  obtain ⟨⟨f, hr⟩, hf, hm⟩ := h
  match l, f, hr with
  | [], 0, hr =>
    have hr : some [] = some cs := hr
    exact .inl ⟨rfl, (Option.some.inj hr).symm⟩
  | [], f + 1, hr =>
    have hr : some [] = some cs := hr
    exact .inl ⟨rfl, (Option.some.inj hr).symm⟩
  | p :: r, 0, hr =>
    have hr : none = some cs := hr
    cases hr
  | p :: r, f + 1, hr =>
    have hr : (match PyFlat.call PyKm355.shape (toZ (p :: r)) with
      | none => none
      | some (c, t) => match PyFlat.calls PyKm355.shape f t with
        | none => none
        | some cs => some (c :: cs)) = some cs := hr
    cases e : PyFlat.call PyKm355.shape (toZ (p :: r)) with
    | none => rw [e] at hr; cases hr
    | some y =>
      obtain ⟨c, t⟩ := y
      rw [e] at hr
      have hr : (match PyFlat.calls PyKm355.shape f t with
        | none => none
        | some cs => some (c :: cs)) = some cs := hr
      cases e2 : PyFlat.calls PyKm355.shape f t with
      | none => rw [e2] at hr; cases hr
      | some ds =>
        rw [e2] at hr
        have hr : some (c :: ds) = some cs := hr
        have hr := Option.some.inj hr
        subst hr
        rw [List.all_cons, Bool.and_eq_true] at hf
        obtain ⟨q, l, e3, rfl, rfl, ok⟩ := call_cl e hf.1
        have hm : (!((step s q.neutral).2.isEmpty) && may (step s q.neutral).1 ds) = true := hm
        rw [Bool.and_eq_true] at hm
        refine .inr ⟨q, l, ds, e3, rfl, ok, fun z => ?_, ⟨f, e2⟩, hf.2, hm.2⟩
        rw [z] at hm
        exact absurd hm.1 (by simp)
/-- what the program is to answer -/
theorem answers_eq {l : List Nat} (h : PyKm355.answers_asked (toZ l) = true) : ∃ cs, Left start l cs ∧ PyKm355.answers (toZ l) = PyFlat.told (PyFlat.played step start cs) := by
  unfold PyKm355.answers_asked at h
  unfold PyKm355.answers
  have e0 : PyKm355.calls (toZ l) = PyFlat.calls PyKm355.shape (toZ l).length (toZ l) := by
    unfold PyKm355.calls
    cases e : PyFlat.calls PyKm355.shape (toZ l).length (toZ l) with
    | none => rfl
    | some cs =>
      show some (cs.map PyKm355.whole) = some cs
      rw [calls_whole _ _ _ e]
  rw [e0] at h ⊢
  cases e : PyFlat.calls PyKm355.shape (toZ l).length (toZ l) with
  | none => rw [e] at h; cases h
  | some cs =>
    rw [e] at h
    have h : (PyFlat.atMost 1000 cs && asked cs) = true := h
    rw [Bool.and_eq_true] at h
    have h2 : (decide (1 ≤ cs.length) && (decide (cs.length ≤ 1000) && (cs.all asked1 && may start cs))) = true := h.2
    rw [Bool.and_eq_true, Bool.and_eq_true, Bool.and_eq_true] at h2
    exact ⟨cs, ⟨⟨_, e⟩, h2.2.2.1, h2.2.2.2⟩, rfl⟩
theorem told_cons (s : S) (c : List (List Int)) (cs : List (List (List Int))) : PyFlat.told (PyFlat.played step s (c :: cs)) = ((step s c).2.length : Int) :: ((step s c).2 ++ PyFlat.told (PyFlat.played step (step s c).1 cs)) := by
  show ((step s c).2 :: PyFlat.played step (step s c).1 cs).flatMap _ = _
  rw [List.flatMap_cons]
  rfl
/-! ### how long a call and its answer are -/
noncomputable def lens : List Nat := [4, 3, 2, 3, 4, 219, 3, 3]
theorem flat_len {q : Cl} (h : q.ok) : ∃ o l, q.flat = o :: l ∧ lens[o]? = some q.flat.length ∧ o < 8 ∧ 2 ≤ q.flat.length := by
  cases q with
  | start i me k => exact ⟨0, _, rfl, rfl, by decide, by show 2 ≤ 4; decide⟩
  | read i x => exact ⟨1, _, rfl, rfl, by decide, by show 2 ≤ 3; decide⟩
  | say i => exact ⟨2, _, rfl, rfl, by decide, by show 2 ≤ 2; decide⟩
  | of i x => exact ⟨3, _, rfl, rfl, by decide, by show 2 ≤ 3; decide⟩
  | cstart i k n => exact ⟨4, _, rfl, rfl, by decide, by show 2 ≤ 4; decide⟩
  | heard i m =>
    have hm : m.length = 216 := h.1
    refine ⟨5, _, rfl, ?_, by decide, by show 2 ≤ m.length + 3; omega⟩
    show some 219 = some (m.length + 3)
    rw [hm]
  | cof i x => exact ⟨6, _, rfl, rfl, by decide, by show 2 ≤ 3; decide⟩
  | often i p => exact ⟨7, _, rfl, rfl, by decide, by show 2 ≤ 3; decide⟩
theorem told_len (a : Ans) : (told a).length = a.out.length + 1 := by
  unfold told nums
  rw [List.length_cons, List.length_map]
end OL

end
section
set_option Elab.async false
set_option linter.all false
set_option maxRecDepth 100000
set_option maxHeartbeats 2000000
/-! One list of ints is handed in, one is given back: the row's closing for just that. -/
namespace Of
open PySem PySem.Spec PyProof.Rows L2
open PySem.W (WData Codec OpenSpec Well WellAll ReadsW ReadsAllW)
@[reducible] noncomputable def listOb (us : List Value) : Obj := { cls := .type "list", data := .seq us.toArray }
theorem wints {Pm : Params} {h : Heap} : ∀ (ns : List Int) (us : List Value), WellAll Pm h us (ns.map WData.int) → Vals (ns.map V.int) us
  | [], us, x => by cases x; exact .nil
  | n :: ns, us, x => by
    cases x with
    | cons a b =>
      cases a
      exact .cons ⟨_, rfl⟩ (wints ns _ b)
theorem rints {R : PySem.W.WRecords} {cl : Str → Option Addr} {h : Heap} : ∀ (ns : List Int) (us : List Value), Vals (ns.map V.int) us → ∃ as, ReadsAllW R cl h us (ns.map WData.int) as
  | [], us, r => by cases r; exact ⟨_, .nil⟩
  | n :: ns, us, r => by
    cases r with
    | cons r1 r2 =>
      obtain ⟨t, e⟩ := r1
      subst e
      obtain ⟨as, q⟩ := rints (R := R) (cl := cl) (h := h) ns _ r2
      exact ⟨_, .cons (.int n t) q⟩
theorem warg {Pm : Params} {h : Heap} {ns : List Int} {vals : List Value} (x : WellAll Pm h vals [.list (ns.map WData.int)]) : ∃ (a : Addr) (us : List Value), vals = [.ref a] ∧ h.get? a = some (listOb us) ∧ Vals (ns.map V.int) us := by
  cases x with
  | cons x1 x2 =>
    cases x2
    cases x1 with
    | list ho hall => exact ⟨_, _, rfl, ho, wints ns _ hall⟩
section
variable {P : Program} {w : World} {K : PySem.W.Frag}
/-- what is tracked of the argument: the list, frozen, or nothing if the text itself has it -/
theorem arg_heap {h : Heap} {a : Addr} {us : List Value} {xs : List V} (KX : K.In h) (ho : h.get? a = some (listOb us)) (rv : Vals xs us) (hz : xs.length ≤ sizeLine) :
    ∃ H : Hp, HOk P w H h ∧ SqL K H a xs ∧ ∀ b u, H b = some u → b = a ∧ K.lookup a = none ∧ u = .frz (listOb us) (.lst xs) := by
  cases hk : K.lookup a with
  | none =>
    have at_ : ∀ b u, (if b = a then some (HO.frz (listOb us) (.lst xs)) else none) = some u → b = a ∧ u = .frz (listOb us) (.lst xs) := fun b u q => by
      by_cases e : b = a
      · rw [if_pos e] at q
        exact ⟨e, (Option.some.inj q).symm⟩
      · rw [if_neg e] at q
        cases q
    refine ⟨fun b => if b = a then some (.frz (listOb us) (.lst xs)) else none, fun b u q => ?_, .inl (.inr ⟨listOb us, if_pos rfl⟩), fun b u q => ⟨(at_ b u q).1, rfl, (at_ b u q).2⟩⟩
    obtain ⟨e1, e2⟩ := at_ b u q
    subst e1 e2
    exact ⟨ho, hz, us, _, rv, ho⟩
  | some o =>
    refine ⟨fun _ => none, fun b u q => (by cases q), .inr ⟨o, us.toArray, 0, hk, ?_⟩, fun b u q => (by cases q)⟩
    have e := Option.some.inj ((KX a o hk).symm.trans ho)
    subst e
    exact ⟨rfl, rfl, rfl, by rw [List.size_toArray, ← rv.length]; exact hz, rv⟩
/-- the call of the row's def -/
theorem one_call {mg mb : Str → Option Value} {k : Nat} {fa : Addr} {fd : FuncData} {p : Str} {sp : Sp} {s1 : Shared} {a : Addr} {us : List Value} {ns ms : List Int} {R : PySem.W.WRecords} {cl : Str → Option Addr}
    (KX : K.In s1.heap) (hns : s1.heap.Ns mainGlobals mg) (hb : s1.heap.Ns builtinsNs mb) (hbb : ∀ x : Str, x ≠ "__name__" → mb x = bootBuiltins x) (hlim : s1.heap.NoLimit) (hg : s1.gens = #[])
    (ho : s1.heap.get? a = some (listOb us)) (rv : Vals (ns.map V.int) us) (hz : ns.length ≤ sizeLine) (hr : Room k callerA)
    (F : ∀ base : Heap, K.In base → base.Ns mainGlobals mg → FnOk P w K mg base CX0 k fa fd [p] sp) (hbind : BindsTo s1 fd ⟨[.ref a], []⟩ [(p, .ref a)])
    (hsp : ∀ H : Hp, SqL K H a (ns.map V.int) → sp [.ref a] H (fun v H' => ∃ q, v = .ref q ∧ H' q = some (.lst (ms.map V.int))) fun _ _ _ => False) :
    codeAny (model P w) callerA (.call (.ref fa) ⟨[.ref a], []⟩) (fun r s' => ∃ u as, r = .ok (.ret u) ∧ ReadsW R cl s'.heap u (.list (ms.map WData.int)) as ∧ OldK s1.heap s'.heap ∧ s'.os = s1.os ∧ AllBare s'.gens) s1 := by
  obtain ⟨H, hok, hS, only⟩ := arg_heap (P := P) (w := w) (xs := ns.map V.int) KX ho rv (by rw [List.length_map]; exact hz)
  have see : ∀ {b : Addr} {o : Obj}, s1.heap.get? b = some o → H b = none → (hidT s1.heap H).get? b = some o := fun e n => hidT_get e n
  have free : ∀ {b : Addr} {o : Obj} {es : Array DictEntry} {ep : Nat}, s1.heap.get? b = some o → o.data = .dict es ep → H b = none := fun {b o es ep} e d => by
    cases q : H b with
    | none => rfl
    | some u =>
      obtain ⟨e1, _, _⟩ := only b u q
      subst e1
      cases Option.some.inj (ho.symm.trans e)
      have d' : Data.seq us.toArray _ = Data.dict es ep := d
      cases d'
  have names : ∀ {b : Addr} {m : Str → Option Value}, s1.heap.Ns b m → (hidT s1.heap H).Ns b m := fun {b m} z => by
    obtain ⟨o, es, ep, e, d, r⟩ := z
    exact ⟨o, es, ep, see e (free e d), d, r⟩
  have inB : K.In (hidT s1.heap H) := fun b o e => by
    refine see (KX b o e) ?_
    cases q : H b with
    | none => rfl
    | some u =>
      obtain ⟨e1, e2, _⟩ := only b u q
      subst e1
      rw [e2] at e
      cases e
  obtain ⟨mc, l1, l2⟩ := hlim
  have env : Env0 P w K mg (hidT s1.heap H) callerA [] s1 H := ⟨rfl, ⟨inB, names hns, ⟨mb, names hb, hbb⟩, ⟨mc, names l1, l2⟩⟩, fun b o e => of_hidT e, Nat.le_of_eq (hidT_size _ _), trivial, fun b hb => absurd (show b ∈ ([] : List Addr) from hb) (List.not_mem_nil), hok, .of_eq hg⟩
  refine codeAny_mono ((F _ inB (names hns)).run callerA [] s1 H ⟨[.ref a], []⟩ [.ref a] [.ref a] _ _ hr env hbind (.cons rfl .nil) (hsp H hS)) fun r s' x => ?_
  match r, x with
  | .error e, x => exact False.elim x
  | .ok .next, x => exact False.elim x
  | .ok .brk, x => exact False.elim x
  | .ok .cont, x => exact False.elim x
  | .ok (.ret u), x =>
    obtain ⟨v, H', os, bare, un, hok', r', q, ev, hq⟩ := x
    subst ev
    have eu : u = .ref q := r'
    subst eu
    have kept : ∀ b o, s1.heap.get? b = some o → s'.heap.get? b = some o := fun b o e => by
      cases z : H b with
      | none => exact un.keep b o e z (fun m => absurd (show b ∈ ([] : List Addr) from m) List.not_mem_nil) List.not_mem_nil
      | some u2 =>
        obtain ⟨e1, _, e3⟩ := only b u2 z
        subst e1 e3
        obtain ⟨e4, _⟩ := hok' b _ (un.frzs b _ _ z)
        cases Option.some.inj (ho.symm.trans e)
        exact e4
    obtain ⟨_, its, n, hv, e⟩ := hok' q _ hq
    obtain ⟨as, hr⟩ := rints (R := R) (cl := cl) (h := s'.heap) ms its hv
    exact ⟨.ref q, _, rfl, .list e rfl rfl hr, OldK.of_keep kept, os, bare⟩
end
/-- the goal that the row's head leaves, for a def of one list of ints -/
theorem walk_one {r : OpenSpec} {k : Nat} {q : Program} {loose : List Str} {XP : (Str → Option Value) → Heap → Prop} {YP : World → Heap → Prop} {d : DefRec} {K : Params → PySem.W.Frag} {p : Str} {sp : PySem.W.Frag → Sp}
    (lst : Codec.denoteAll r.args → List Int) (out : Codec.denoteAll r.args → List Int) (henc : ∀ a, Codec.encAll r.args a = [.list ((lst a).map WData.int)]) (hout : ∀ a, r.ret.enc (Codec.app r.args r.f a) = .list ((out a).map WData.int))
    (hlen : ∀ a, Codec.withinAll r.args a = true → (lst a).length ≤ sizeLine) (hwell : r.wellSaid = true) (hdf : d.params.defaults = []) (hr : Room k callerA) (hY : ∀ (w : World) (h : Heap), YP w h → (K w.params).In h)
    (F : ∀ (w : World) (mg : Str → Option Value) (fa : Addr) (h : Heap), YP w h → (K w.params).In h → h.Ns mainGlobals mg → mg d.name = some (.ref fa) →
      ∃ fd : FuncData, (∀ (s : Shared) (u : Value), BindsTo s fd ⟨[u], []⟩ [(p, u)]) ∧ ∀ base : Heap, (K w.params).In base → base.Ns mainGlobals mg → FnOk r.prog w (K w.params) mg base CX0 k fa fd [p] (sp (K w.params)))
    (hsp : ∀ (K : PySem.W.Frag) (H : Hp) (b : Addr) (a : Codec.denoteAll r.args), Codec.withinAll r.args a = true → Codec.app r.args r.asked a = true → SqL K H b ((lst a).map V.int) →
      sp K [.ref b] H (fun v H' => ∃ q, v = .ref q ∧ H' q = some (.lst ((out a).map V.int))) fun _ _ _ => False) :
    PySem.W.WalkOS q loose XP YP r d [] (fun f vs => PySem.call f vs) := by
  intro w s0 s1 mg mb G Y fa o pm cd doc dV kV ho hd hcd hD hmg hg args vals as hpre hlay hrd hwl hlo
  obtain ⟨a, e1, e2⟩ := PySem.W.os_pre_some hpre
  obtain ⟨e3, hwi⟩ := Codec.encAll_of_decAll r.args args a e1
  subst e3
  have KX := hY w _ Y
  obtain ⟨fd, bnd, hF⟩ := F w mg fa _ Y KX G.T.g hmg
  have hw2 := hwl
  rw [henc a] at hw2
  obtain ⟨b, us, ev, hob, rv⟩ := warg hw2
  subst ev
  refine PySem.W.enter_call (codeAny_mono (one_call (R := []) (cl := classAt s0.heap) (ms := out a) KX G.T.g G.T.b G.T.builtins G.T.nolimit hg hob rv (hlen a hwi) hr hF (bnd s1 _) fun H hS => hsp _ H b a hwi e2 hS) fun r' s' hq => ?_)
  obtain ⟨u, as', er, h1, h2, h3, h4⟩ := hq
  subst er
  rw [← hout a] at h1
  exact ⟨.inl ⟨u, _, as', rfl, fun _ => rfl, h1, (OpenSpec.post_iff hwell hwi _ _).mpr rfl, fun z => Bool.noConfusion (show false = true from z)⟩, h2, h3, h4⟩
end Of

end
section
set_option Elab.async false
set_option linter.all false
set_option maxRecDepth 100000
set_option maxHeartbeats 2000000
namespace Of
open PySem PySem.Spec PyProof.Rows L2 PySem.W
section
variable {prog : Program} {w : World} {A : Around} {E : Value → Shared → Prop}
variable {s : Shared} {T : String} {r d : Addr} {n : Nat} {P : Nat → Value → Prop} {OK : Heap → Prop}
/-- sorted(x) of a thing whose items are ints, any that may be walked -/
theorem sorted_src {ns : List Int} {Q : Value → Shared → Prop} (K : KdlSrc prog w T r d n P OK) (hh : A.handled = none) (hok : OK s.heap) (hn : n ≤ sizeLine) (hlen : ns.length = n)
    (hi : ∀ (j : Nat) (v : Value), P j v → ∀ z, ns[j]? = some z → ∃ t, v = Value.int z t)
    (h : ∀ (h1 h' : Heap) (tk : Nat) (out : List Value) (ns' : List Int) (ep : Nat) (p : Addr), (∀ b o, s.heap.get? b = some o → h1.get? b = some o) → (∀ b o, h1.get? b = some o → h'.get? b = some o) → h1.objs.size ≤ p → h'.get? p = some (seqObj "list" out.toArray ep) → IntsAre out ns' → ns'.Perm ns → ns'.Pairwise (· ≤ ·) →
      Q (.ref p) { s with heap := h', toks := tk }) :
    wpAny (model prog w) A (PySem.call (.builtin "sorted") [.ref r]) Q E s := by
  have go := @Calls.call_function_entry
  refine go kind_sorted plain_sorted entry_sorted (args_sorted1 _) ?_
  unfold Builtin.«sorted»
  refine wpAny_bind (m := checkCount "sorted" 1 1 _) (wpAny_pure (wpAny_bind (kdu_collect (A := A.in1) K hh hok hn fun h1 tk acc hk hacc => ?_)))
  have hl : acc.toList.length = n := (Array.length_toList ..).trans hacc.1
  have hI : IntsAre acc.toList ns := by
    refine L2.Vals.ints ?_
    have go : ∀ (us : List Value) (zs : List Int), us.length = zs.length → (∀ (j : Nat) (u : Value) (z : Int), us[j]? = some u → zs[j]? = some z → ∃ t, u = Value.int z t) → Vals (zs.map V.int) us := by
      intro us
      induction us with
      | nil => intro zs e _; cases zs with
        | nil => exact .nil
        | cons z zs => simp at e
      | cons u us ih => intro zs e g; cases zs with
        | nil => simp at e
        | cons z zs =>
          refine .cons (g 0 u z rfl rfl) (ih zs (by simpa using e) fun j u' z' a b => g (j + 1) u' z' a b)
    refine go _ _ (by rw [hl, hlen]) fun j u z a b => hi j u (hacc.2 j u (by rw [← Array.getElem?_toList]; exact a)) z b
  have hsz : acc.toList.length ≤ sizeLine := hl ▸ hn
  refine wpAny_bind (wpAny_newList ?_ hsz)
  have hoL : (h1.push (seqObj "list" acc.toList.toArray 0)).get? h1.objs.size = some (seqObj "list" acc.toList.toArray 0) := Heap.get?_push_size _ rfl
  refine wpAny_bind (wpAny_holding (wpAny_call_entry slot_list_sort ⟨_, hoL, rfl⟩ entry_list_sort (list_sort_treeAny hoL hI hsz fun out ns' a1 a2 a3 => ⟨_, rfl, ?_⟩) (args_list_sort _)))
  obtain ⟨ep, he⟩ := sortedHeap_at (out := out) hoL
  refine wpAny_pure ⟨_, rfl, h h1 _ tk out.toList ns' ep _ hk (fun b o e1 => ?_) (Nat.le_refl _) he a1 a2 a3⟩
  rw [sortedHeap_old (Nat.ne_of_lt (Heap.lt_size e1)) (by rw [size_push']; exact Nat.lt_succ_of_lt (Heap.lt_size e1)), Heap.get?_push_ne _ _ _ (Nat.ne_of_lt (Heap.lt_size e1))]
  exact e1
end
/-- sorted(d), d a dict whose keys are ints -/
noncomputable def rSortedD : List V → Hp → VK → Prop := fun vs H Q => ∃ (a : Addr) (kvs : List (Key × V)) (ks : List Int), vs = [V.ref a] ∧ Rd H a (.dK kvs) ∧ kvs.map Prod.fst = ks.map Sum.inl ∧
  ∀ (ns : List Int) (p : Addr), ns.Perm ks → ns.Pairwise (· ≤ ·) → H p = none → Q (.ref p) (upd H p (.lst (ns.map V.int)))
theorem cr_sortedD {X : Cx} (hc : X.calm = true) : CallR X (.builtin "sorted") rSortedD := by
  intro pins s σ H vs us Q I r h
  obtain ⟨a, kvs, ks, rfl, hd, hks, q⟩ := h
  rw [Vals.ref1 r]
  obtain ⟨hz, lo, xs, rx, hD⟩ := dk_rd I.hok hd
  have ⟨ep, hat⟩ := hD.dictAt
  have hl : xs.length = kvs.length := rx.length.symm
  have hlk : ks.length = kvs.length := by
    have e := congrArg List.length hks
    rw [List.length_map, List.length_map] at e
    exact e.symm
  refine sorted_src (ns := ks) (kdl_dict (knd := mixKind X.prog X.w) (kvs := xs) (ep := ep) lo) (I.ok.hd hc) hat (by rw [hl]; exact hz) (by rw [hlk, hl]) (fun j v hv z ez => ?_) fun h1 h' tk out ns' e p hk1 hk2 hp he hi hpm hso => ?_
  · obtain ⟨k, x, hx, hv⟩ := hv
    have e1 : (kvs.map Prod.fst)[j]? = some k := by
      have e2 : kvs.map Prod.fst = xs.map Prod.fst := rx.keys
      rw [e2, List.getElem?_map, hx]
      rfl
    rw [hks, List.getElem?_map, ez] at e1
    have e2 : (Sum.inl z : Key) = k := Option.some.inj e1
    subst e2
    rcases keyIs_shape (k := Sum.inl z) (v := v) hv with ⟨i, t, e3, e4⟩ | ⟨y, t, e3, e4⟩
    · cases e3; exact ⟨t, e4⟩
    · cases e3
  · have I1 : Inv X pins σ H { s with heap := h1, toks := tk } := I.kept hk1
    have hlen : (ns'.map V.int).length ≤ sizeLine := by rw [List.length_map, hpm.length_eq, hlk]; exact hz
    exact ⟨.ref p, upd H p (.lst (ns'.map V.int)), I1.laid (t' := tk) hk2 hp ⟨hlen, out, e, vals_of_ints hi, he⟩, rfl, q ns' p hpm hso (I1.hok.fresh hp)⟩
end Of

end
section
set_option Elab.async false
set_option linter.all false
set_option maxRecDepth 100000
set_option maxHeartbeats 2000000
namespace Of
open PySem PySem.Spec PyProof.Rows L2 PySem.W
theorem same_new {H : Hp} {p : Addr} (h : H p = none) (o : HO) : Same H (upd H p o) := fun b u e => by rw [upd_ne (ne_of_none e h)]; exact e
theorem ixN_nat {n j : Nat} (h : j < n) : ixN n (j : Int) = some j := by
  unfold ixN
  rw [if_pos (by omega), if_pos (by omega), Int.toNat_natCast]
theorem rng_lo (n : Nat) : -(2 ^ 62) ≤ (n : Int) := by omega
theorem rng_hi {n : Nat} (h : n ≤ 1000) : (n : Int) < 2 ^ 62 := by omega
theorem app_lt {α : Type} {l : List α} {i j : Nat} (e : l.length = i) (h : j < i) : j < l.length := e ▸ h
theorem app_ge {α : Type} {l : List α} {i : Nat} (e : l.length = i) : l.length ≤ i := Nat.le_of_eq e
/-- o.f, o a name's value: read at once -/
theorem fld_v {K : PySem.W.Frag} {σ : L2.St} {H : Hp} {Q : VK} {i : Nat} {f : Str} {a C dx : Addr} {fs : List (Str × V)} {v : V} (e : σ[i]? = some (some (.ref a))) (h : H a = some (.ins C dx fs)) (c : Cls K C) (n : NoAttr K C f) (l : fs.lookup f = some v) (q : Q v H) : tFld K (tVar i) f σ H Q := ⟨_, e, a, C, dx, fs, v, rfl, h, c, n, l, q⟩
theorem ite_t {c A B : Prop} [Decidable c] (hc : c) (h : A) : if c then A else B := by rw [if_pos hc]; exact h
theorem ite_f {c A B : Prop} [Decidable c] (hc : ¬ c) (h : B) : if c then A else B := by rw [if_neg hc]; exact h
section
variable {prog : Program} {w : World} {A : Around} {E : Value → Shared → Prop}
variable {s : Shared} {T : String} {r d : Addr} {n : Nat} {P : Nat → Value → Prop} {OK : Heap → Prop}
/-- sorted(x, reverse=True) of a thing whose items are ints -/
theorem sorted_srcR {ns : List Int} {Q : Value → Shared → Prop} (K : KdlSrc prog w T r d n P OK) (hh : A.handled = none) (hok : OK s.heap) (hn : n ≤ sizeLine) (hlen : ns.length = n)
    (hi : ∀ (j : Nat) (v : Value), P j v → ∀ z, ns[j]? = some z → ∃ t, v = Value.int z t)
    (h : ∀ (h1 h' : Heap) (tk : Nat) (out : List Value) (ns' : List Int) (ep : Nat) (p : Addr), (∀ b o, s.heap.get? b = some o → h1.get? b = some o) → (∀ b o, h1.get? b = some o → h'.get? b = some o) → h1.objs.size ≤ p → h'.get? p = some (seqObj "list" out.toArray ep) → IntsAre out ns' → ns'.Perm ns → ns'.Pairwise (fun x y => y ≤ x) →
      Q (.ref p) { s with heap := h', toks := tk }) :
    wpAny (model prog w) A (PySem.call (.builtin "sorted") [.ref r] [(Str.ofString "reverse", .bool true)]) Q E s := by
  apply call_function_entry_kw kind_sorted plain_sorted entry_sorted (args_sorted_rev (.ref r) (.bool true))
  unfold Builtin.«sorted»
  refine wpAny_bind (m := checkCount "sorted" 1 1 _) (wpAny_pure (wpAny_bind (kdu_collect (A := A.in1) K hh hok hn fun h1 tk acc hk hacc => ?_)))
  have hl : acc.toList.length = n := (Array.length_toList ..).trans hacc.1
  have hI : IntsAre acc.toList ns := by
    refine L2.Vals.ints ?_
    have go : ∀ (us : List Value) (zs : List Int), us.length = zs.length → (∀ (j : Nat) (u : Value) (z : Int), us[j]? = some u → zs[j]? = some z → ∃ t, u = Value.int z t) → Vals (zs.map V.int) us := by
      intro us
      induction us with
      | nil => intro zs e _; cases zs with
        | nil => exact .nil
        | cons z zs => simp at e
      | cons u us ih => intro zs e g; cases zs with
        | nil => simp at e
        | cons z zs =>
          refine .cons (g 0 u z rfl rfl) (ih zs (by simpa using e) fun j u' z' a b => g (j + 1) u' z' a b)
    refine go _ _ (by rw [hl, hlen]) fun j u z a b => hi j u (hacc.2 j u (by rw [← Array.getElem?_toList]; exact a)) z b
  have hsz : acc.toList.length ≤ sizeLine := hl ▸ hn
  refine wpAny_bind (wpAny_newList ?_ hsz)
  have hoL : (h1.push (seqObj "list" acc.toList.toArray 0)).get? h1.objs.size = some (seqObj "list" acc.toList.toArray 0) := Heap.get?_push_size _ rfl
  refine wpAny_bind (wpAny_holding (wpAny_call_entry_kw slot_list_sort ⟨_, hoL, rfl⟩ entry_list_sort (list_sort_tree_revAny hoL hI hsz fun out ns' a1 a2 a3 => ⟨_, rfl, ?_⟩) (args_list_sort_rev _ _)))
  obtain ⟨ep, he⟩ := sortedHeap_at (out := out) hoL
  refine wpAny_pure ⟨_, rfl, h h1 _ tk out.toList ns' ep _ hk (fun b o e1 => ?_) (Nat.le_refl _) he a1 a2 a3⟩
  rw [sortedHeap_old (Nat.ne_of_lt (Heap.lt_size e1)) (by rw [size_push']; exact Nat.lt_succ_of_lt (Heap.lt_size e1)), Heap.get?_push_ne _ _ _ (Nat.ne_of_lt (Heap.lt_size e1))]
  exact e1
/-- sum(x) of a thing whose items are ints -/
theorem sum_src {Q : Value → Shared → Prop} (K : KdlSrc prog w T r d n P OK) (hh : A.handled = none) (hok : OK s.heap) (val : Nat → Int) (hval : ∀ (i : Nat) (v : Value), P i v → ∃ t : Tok, v = Value.int (val i) t)
    (h : ∀ (h' : Heap) (tk : Nat) (t' : Tok), (∀ b o, s.heap.get? b = some o → h'.get? b = some o) → Q (.int (preSum val n) t') { s with heap := h', toks := tk }) :
    wpAny (model prog w) A (PySem.call (.builtin "sum") [.ref r]) Q E s := by
  apply call_sum_walkAnyS
  obtain ⟨oW, Sw, go, walk, beg⟩ := K.iter A.in1 s hh hok
  have low : ∀ c ∈ [s.heap.objs.size, d], c < (s.heap.push oW).objs.size := fun c hc => by
    have top : (s.heap.push oW).objs.size = s.heap.objs.size + 1 := size_push' ..
    have hd : d < s.heap.objs.size := (K.there _ hok).2
    rw [top]
    rcases List.mem_cons.mp hc with z | z
    · exact z ▸ Nat.lt_succ_self _
    · exact List.mem_singleton.mp z ▸ Nat.lt_succ_of_lt hd
  refine go _ _ ⟨_, _, _, _, n, P, _, val, rfl, walk.toS, beg, low, hval, fun s2 tk mv => ?_⟩
  have old : ∀ c u, s.heap.get? c = some u → s2.heap.get? c = some u := fun c u hc => by
    refine mv.heap c u (fun z => ?_) (Heap.get?_push_of_some _ hc)
    have lt := Heap.lt_size hc
    rw [List.mem_singleton.mp z] at lt
    exact Nat.lt_irrefl _ lt
  rw [Moved.eq_with mv]
  exact h _ _ tk old
end
theorem preSum_list : ∀ ks : List Int, preSum (fun i => ks.getD i 0) ks.length = ks.sum := by
  have g : ∀ (ks : List Int) (n : Nat), n ≤ ks.length → preSum (fun i => ks.getD i 0) n = (ks.take n).sum := by
    intro ks n
    induction n with
    | zero => intro _; simp [preSum]
    | succ n ih =>
      intro h
      show preSum (fun i => ks.getD i 0) n + ks.getD n 0 = _
      rw [ih (by omega), List.take_succ, List.getElem?_eq_getElem (by omega), List.sum_append, List.getD_eq_getElem?_getD, List.getElem?_eq_getElem (by omega)]
      simp
  intro ks
  rw [g ks _ (Nat.le_refl _), List.take_length]
section
variable {X : Cx}
/-- within a comprehension: the text's own part K is named, as the block's context is not -/
theorem pe_fldK {K : PySem.W.Frag} {e : Expr} {ta : TE} {f : Str} {pos : Pos} (hK : X.K = K) (he : PE X e ta) (hb : attributeBase e f X.env (eval e X.env) = eval e X.env) : PE X (.Attribute e f pos) (tFld K ta f) := by
  subst hK
  exact pe_fld he hb
theorem ix_listK {K : PySem.W.Frag} (hK : X.K = K) : IxR X (rIxL K) := by
  subst hK
  exact ix_list
/-- dict(d): a copy -/
theorem cr_dictC : CallR X (.type "dict") (fun xs H Q => ∃ (a : Addr) (kvs : List (Key × V)), xs = [V.ref a] ∧ Rd H a (.dK kvs) ∧ ∀ p, H p = none → Q (.ref p) (upd H p (.dK kvs))) := by
  intro pins s σ H xs us Q I r h
  obtain ⟨a, kvs, rfl, hd, q⟩ := h
  rw [Vals.ref1 r]
  exact d_copyOf I hd fun p s' hp I' => ⟨.ref p, _, I', rfl, q p hp⟩
/-- d.values(): a view that stands in the heap, and no value of ours -/
theorem ev_values {pins : List (Addr × Obj)} {s : Shared} {σ : L2.St} {H : Hp} {e : Expr} {td : TE} {apos cpos : Pos} {Q' : VK} {Qf : Value → Shared → Prop} (he : PE X e td) (I : Inv X pins σ H s) (h : td σ H Q')
    (hq : ∀ (x : V) (H1 : Hp), Q' x H1 → ∃ (d : Addr) (kvs : List (Key × V)), x = .ref d ∧ Rd H1 d (.dK kvs) ∧ ∀ (s1 : Shared) (r : Addr) (vs : List (Key × Value)), Inv X pins σ H1 s1 → s1.heap.IsValuesView r d → KV kvs vs → kvs.length ≤ sizeLine → s1.heap.DictOf (mixKind X.prog X.w) d vs → Qf (.ref r) s1)
    (hbase : attributeBase e "values" X.env (eval e X.env) = eval e X.env) (hline : (apos.endLine == cpos.line) = true) : wpAny (model X.prog X.w) X.A (eval (.Call (.Attribute e "values" apos) [] [] cpos) X.env) Qf X.xe s := by
  refine wpAny_Call_method (T := "dict") (id := "dict.values") hbase rfl hline PySem.F.plainAttrs_dict PySem.F.slot_dict_values PySem.F.type_dict_values (thn (he pins s σ H _ I h) fun u s1 ⟨x, H1, I1, rx, q0⟩ => ?_)
  obtain ⟨d, kvs, ex, hd, q⟩ := hq x H1 q0
  subst ex
  have eu : u = Value.ref d := rx
  subst eu
  obtain ⟨hz, lo, vs, rel, dd⟩ := dk_rd I1.hok hd
  refine ⟨dd.typeIs, dd.mapOf.noDict, ?_⟩
  have IV : Inv X pins σ H1 { s1 with heap := s1.heap.push ⟨.type "dict_values", none, .fields #[.ref d], #[]⟩ } := I1.kept (t' := s1.toks) fun c oc hc => Heap.get?_push_of_some _ hc
  refine show wpAny _ X.A (callWith cpos (.builtin "dict.values") [.ref d] [] []) Qf X.xe s1 from ?_
  exact method_meetsIn PySem.F.slot_dict_values PySem.F.entry_dict_values rfl (PySem.evalArgs_none ⟨rfl, dd.typeIs, PySem.F.args_dict_values_1 _, _, meets_dict_values (mixKind X.prog X.w) d lo, ⟨vs, dd⟩, q _ _ vs IV ⟨_, Heap.get?_push_size _ rfl, rfl, rfl⟩ rel hz (dd.push _)⟩)
theorem vals_int {kvs : List (Key × V)} {vs : List (Key × Value)} {ks : List Int} (rel : KV kvs vs) (hks : kvs.map Prod.snd = ks.map V.int) {j : Nat} {k : Key} {v : Value} {z : Int} (hv : vs[j]? = some (k, v)) (hz : ks[j]? = some z) : ∃ t, v = Value.int z t := by
  have hl := Paired.length rel
  have hj : j < kvs.length := by rw [hl]; exact (List.getElem?_eq_some_iff.mp hv).1
  have hx : ∃ k' x, kvs[j]? = some (k', x) := ⟨kvs[j].1, kvs[j].2, List.getElem?_eq_getElem hj⟩
  obtain ⟨k', x, hx⟩ := hx
  obtain ⟨u, hu, ru⟩ := kv_get rel hx
  rw [hu] at hv
  cases hv
  have e2 : (kvs.map Prod.snd)[j]? = some x := by rw [List.getElem?_map, hx]; rfl
  rw [hks, List.getElem?_map, hz] at e2
  have e3 : V.int z = x := Option.some.inj e2
  subst e3
  exact ru
/-- sum(d.values()) -/
noncomputable def tSumV (td : TE) : TE := fun σ H Q => td σ H fun x H1 => ∃ (d : Addr) (kvs : List (Key × V)) (ks : List Int), x = .ref d ∧ Rd H1 d (.dK kvs) ∧ kvs.map Prod.snd = ks.map V.int ∧ Q (.int ks.sum) H1
theorem pe_sumV {e : Expr} {td : TE} {p apos cpos pos : Pos} (hc : X.calm = true) (hg : Gl X "sum") (hm : X.mg "sum" = none) (hv : bootBuiltins "sum" = some (.builtin "sum")) (he : PE X e td)
    (hbase : attributeBase e "values" X.env (eval e X.env) = eval e X.env := by rfl) (hline : (apos.endLine == cpos.line) = true := by rfl)
    (hs : starEach [.Call (.Attribute e "values" apos) [] [] cpos] X.env = [(false, eval (.Call (.Attribute e "values" apos) [] [] cpos) X.env)] := by rfl) :
    PE X (.Call (.Name "sum" p) [.Call (.Attribute e "values" apos) [] [] cpos] [] pos) (tSumV td) := by
  intro pins s σ H Q I h
  refine wpAny_Call_Name_kw (ld_blt I hg hm hv ?_ (by decide) (by decide))
  refine PyProof.Rows.callWith_builtin1 ?_ hs rfl
  rw [hs]
  show wpAny _ _ (spliced ((false, eval (.Call (.Attribute e "values" apos) [] [] cpos) X.env) :: [])) _ _ s
  refine Calls.spliced_cons (ev_values he I h (fun x H1 q => ?_) hbase hline)
  obtain ⟨d, kvs, ks, ex, hd, hks, q⟩ := q
  refine ⟨d, kvs, ex, hd, fun s1 r vs I1 hview rel hz dd => Calls.spliced_nil ?_⟩
  obtain ⟨ep, hat⟩ := dd.dictAt
  have hl : vs.length = kvs.length := (Paired.length rel).symm
  have hlk : ks.length = kvs.length := by
    have e := congrArg List.length hks
    rw [List.length_map, List.length_map] at e
    exact e.symm
  refine sum_src (kdl_values (knd := mixKind X.prog X.w) (kvs := vs) (ep := ep)) (I1.ok.hd hc) ⟨hview, hat⟩ (fun i => ks.getD i 0) (fun i v hv => ?_) fun h' tk t' hk => ⟨.int ks.sum, H1, I1.kept hk, ?_, q⟩
  · obtain ⟨k, hv⟩ := hv
    have hi : i < ks.length := by rw [hlk, ← hl]; exact (List.getElem?_eq_some_iff.mp hv).1
    have e := List.getElem?_eq_getElem hi
    rw [List.getD_eq_getElem?_getD, e]
    exact vals_int rel hks hv e
  · rw [hl, ← hlk, preSum_list]
    exact ⟨_, rfl⟩
/-- sorted(d.values(), reverse=True) -/
noncomputable def tSortV (td : TE) : TE := fun σ H Q => td σ H fun x H1 => ∃ (d : Addr) (kvs : List (Key × V)) (ks : List Int), x = .ref d ∧ Rd H1 d (.dK kvs) ∧ kvs.map Prod.snd = ks.map V.int ∧
  ∀ (ns : List Int) (p : Addr), ns.Perm ks → ns.Pairwise (fun x y => y ≤ x) → H1 p = none → Q (.ref p) (upd H1 p (.lst (ns.map V.int)))
theorem pe_sortV {e : Expr} {td : TE} {p apos cpos pos bp kp : Pos} {j : Nat} (hc : X.calm = true) (hg : Gl X "sorted") (hm : X.mg "sorted" = none) (hv : bootBuiltins "sorted" = some (.builtin "sorted")) (he : PE X e td)
    (hbase : attributeBase e "values" X.env (eval e X.env) = eval e X.env := by rfl) (hline : (apos.endLine == cpos.line) = true := by rfl)
    (hs : starEach [.Call (.Attribute e "values" apos) [] [] cpos] X.env = [(false, eval (.Call (.Attribute e "values" apos) [] [] cpos) X.env)] := by rfl) :
    PE X (.Call (.Name "sorted" p) [.Call (.Attribute e "values" apos) [] [] cpos] [⟨some "reverse", .Constant (.bool true) j bp, kp⟩] pos) (tSortV td) := by
  intro pins s σ H Q I h
  refine wpAny_Call_Name_kw (ld_blt I hg hm hv ?_ (by decide) (by decide))
  refine PyProof.Rows.callWith_kw ?_ (by rw [hs]; rfl) (by rw [hs]; rfl) rfl rfl
  rw [hs]
  show wpAny _ _ (spliced ((false, eval (.Call (.Attribute e "values" apos) [] [] cpos) X.env) :: [])) _ _ s
  refine Calls.spliced_cons (ev_values he I h (fun x H1 q => ?_) hbase hline)
  obtain ⟨d, kvs, ks, ex, hd, hks, q⟩ := q
  refine ⟨d, kvs, ex, hd, fun s1 r vs I1 hview rel hz dd => Calls.spliced_nil ?_⟩
  refine PyProof.Rows.kws_cons (Constant_bool (PyProof.Rows.kws_nil ?_))
  obtain ⟨ep, hat⟩ := dd.dictAt
  have hl : vs.length = kvs.length := (Paired.length rel).symm
  have hlk : ks.length = kvs.length := by
    have e := congrArg List.length hks
    rw [List.length_map, List.length_map] at e
    exact e.symm
  show wpAny _ _ (PySem.call (.builtin "sorted") [.ref r] [(Str.ofString "reverse", .bool true)]) _ _ _
  refine sorted_srcR (ns := ks) (kdl_values (knd := mixKind X.prog X.w) (kvs := vs) (ep := ep)) (I1.ok.hd hc) ⟨hview, hat⟩ (by rw [hl]; exact hz) (by rw [hlk, hl]) (fun j v hv z ez => ?_) fun h1 h' tk out ns' e p hk1 hk2 hp he hi hpm hso => ?_
  · obtain ⟨k, hv⟩ := hv
    exact vals_int rel hks hv ez
  · have I2 : Inv X pins σ H1 { s1 with heap := h1, toks := tk } := I1.kept hk1
    have hlen : (ns'.map V.int).length ≤ sizeLine := by rw [List.length_map, hpm.length_eq, hlk]; exact hz
    exact ⟨.ref p, upd H1 p (.lst (ns'.map V.int)), I2.laid (t' := tk) hk2 hp ⟨hlen, out, e, vals_of_ints hi, he⟩, rfl, q ns' p hpm hso (I2.hok.fresh hp)⟩
/-- list(range(a, b, c)) -/
noncomputable def tListR (ta : TA) : TE := fun σ H Q => ta σ H fun vs H1 => ∃ (i j c : Int) (n : Nat), vs = [.int i, .int j, .int c] ∧ RgC i j c n ∧ n ≤ 1000 ∧ ∀ p, H1 p = none → Q (.ref p) (upd H1 p (.lst ((rangeInts i c n).map V.int)))
theorem vals_range {acc : List Value} {i c : Int} : ∀ {n : Nat}, acc.length = n → (∀ (j : Nat) (v : Value), acc[j]? = some v → ∃ t, v = Value.int (i + (j : Nat) * c) t) → Vals ((rangeInts i c n).map V.int) acc := by
  intro n hl h
  have go : ∀ (us : List Value) (zs : List Int), us.length = zs.length → (∀ (j : Nat) (u : Value) (z : Int), us[j]? = some u → zs[j]? = some z → ∃ t, u = Value.int z t) → Vals (zs.map V.int) us := by
    intro us
    induction us with
    | nil => intro zs e _; cases zs with
      | nil => exact .nil
      | cons z zs => simp at e
    | cons u us ih => intro zs e g; cases zs with
      | nil => simp at e
      | cons z zs =>
        refine .cons (g 0 u z rfl rfl) (ih zs (by simpa using e) fun j u' z' a b => g (j + 1) u' z' a b)
  refine go _ _ (by rw [hl, rangeInts_length]) fun j u z a b => ?_
  have hj : j < n := by rw [← hl]; exact (List.getElem?_eq_some_iff.mp a).1
  rw [rangeInts_get hj] at b
  cases b
  exact h j u a
theorem pe_listR {a b c : Expr} {ta : TA} {p p2 pos pos2 : Pos} (hc : X.calm = true) (hg : Gl X "range") (hm : X.mg "range" = none) (hgl : Gl X "list") (hml : X.mg "list" = none) (hv : bootBuiltins "list" = some (.type "list")) (ha : PA X [a, b, c] ta)
    (hs : starEach [a, b, c] X.env = (false, eval a X.env) :: starEach [b, c] X.env := by rfl) (hpl : (backTo pos2 (starEach [b, c] X.env)).any (·.1) = false := by rfl)
    (hs2 : starEach [.Call (.Name "range" p2) [a, b, c] [] pos2] X.env = [(false, eval (.Call (.Name "range" p2) [a, b, c] [] pos2) X.env)] := by rfl) :
    PE X (.Call (.Name "list" p) [.Call (.Name "range" p2) [a, b, c] [] pos2] [] pos) (tListR ta) := by
  intro pins s σ H Q I h
  refine wpAny_Call_Name_kw (ld_blt I hgl hml hv ?_ (by decide) (by decide))
  refine PyProof.Rows.callWith_type1 ?_ hs2 rfl
  rw [hs2]
  show wpAny _ _ (spliced ((false, eval (.Call (.Name "range" p2) [a, b, c] [] pos2) X.env) :: [])) _ _ s
  refine Calls.spliced_cons ?_
  refine Call_ (ld_blt I hg hm boot_range (PyProof.Rows.callWith_type1 (thn (ha pos2 pins s σ H _ I h) fun us s1 ⟨vs, H1, I1, r1, q1⟩ => ?_) hs hpl))
  obtain ⟨i, j, k, n, e, ⟨c0, c1, c2, c3⟩, hn, q⟩ := q1
  subst e
  cases r1 with
  | cons r rr =>
    cases rr with
    | cons r' rr =>
      cases rr with
      | cons r'' rr =>
        cases rr
        obtain ⟨t, rfl⟩ := r
        obtain ⟨t', rfl⟩ := r'
        obtain ⟨t'', rfl⟩ := r''
        apply call_range_3 c0 (hp := .inl (PyProof.noPylong_small c1))
        apply Calls.spliced_nil
        have IR : Inv X pins σ H1 { s1 with heap := s1.heap.push ⟨.type "range", none, .fields #[.int i t, .int j t', .int k t''], #[]⟩ } := I1.kept (t' := s1.toks) fun c oc hc => Heap.get?_push_of_some _ hc
        have hn2 : n ≤ 2 ^ 24 := by omega
        refine call_list_range (I1.ok.hd hc) (IsRange.new ..) c2 c3 hn2 fun h' tk acc c' hk hS hacc => ?_
        have hlen : ((rangeInts i k n).map V.int).length ≤ sizeLine := by rw [List.length_map, rangeInts_length]; exact Nat.le_of_lt (small1000 hn)
        have rv : Vals ((rangeInts i k n).map V.int) acc.toList := vals_range (by rw [Array.length_toList]; exact hacc.1) fun j v e => hacc.2 j v (by rw [← Array.getElem?_toList]; exact e)
        refine ⟨.ref _, upd H1 _ (.lst ((rangeInts i k n).map V.int)), IR.laid (t' := tk) hk (Nat.le_refl _) ⟨hlen, acc.toList, c', rv, ?_⟩, rfl, q _ (IR.hok.fresh (Nat.le_refl _))⟩
        rw [Array.toArray_toList]
        exact hS
/-- any(xs) of a list of ints -/
noncomputable def rAnyI (K : PySem.W.Frag) : List V → Hp → VK → Prop := fun vs H Q => ∃ (a : Addr) (ns : List Int), vs = [V.ref a] ∧ SqL K H a (ns.map V.int) ∧ Q (.bl (ns.any fun z => z != 0)) H
theorem truth_ints {prog : Program} {w : World} {A : Around} {ns : List Int} {its : List Value} (e : IntsAre its ns) :
    TruthOf prog w A (fun i v => its.toArray[i]? = some v) (fun i => (ns.map fun z => z != 0).getD i false) := fun i v s Q E hv hq => by
  have here : its[i]? = some v := by simpa using hv
  have hi : i < ns.length := e.length ▸ (List.getElem?_eq_some_iff.mp here).1
  obtain ⟨t, ht⟩ := e.get i _ (List.getElem?_eq_getElem hi)
  cases ht.symm.trans here
  have eq : (ns.map fun z => z != 0).getD i false = (ns[i] != 0) := by
    rw [List.getD_eq_getElem?_getD, List.getElem?_map, List.getElem?_eq_getElem hi]
    rfl
  exact PySem.P.truthy_int (eq ▸ hq)
theorem cr_anyI (hc : X.calm = true) : CallR X (.builtin "any") (rAnyI X.K) := fun pins s σ H vs us Q I r ⟨a, ns, ev, hs, q⟩ => by
  subst ev
  obtain ⟨vals, rv, isl, _⟩ := I.list hs
  cases Vals.ref1 r
  have allI := rv.ints
  apply call_any_walk
  refine iter_any isl.isList fun s1 es st ne => ?_
  subst es
  refine ⟨_, _, _, _, _, _, _, rfl, Walks.list (A := X.A.in1) (I.ok.hd hc) _ a ne vals.toArray, st, truth_ints allI, fun h1 tk kept => ?_⟩
  have J : Inv X pins σ H { s with heap := h1, toks := tk } := I.kept fun c oc hcc => by
    refine kept c oc (fun z => ?_) (Heap.get?_push_of_some _ hcc)
    have lt := Heap.lt_size hcc
    rw [List.mem_singleton.mp z] at lt
    exact Nat.lt_irrefl _ lt
  refine ⟨.bl (ns.any fun z => z != 0), H, J, congrArg Value.bool ?_, q⟩
  rw [show ns.any (fun z => z != 0) = (ns.map fun z => z != 0).any id by rw [List.any_map]; rfl, ← L2.any_range, List.size_toArray, allI.length, List.length_map]
end
end Of

end
section
set_option Elab.async false
set_option linter.all false
set_option maxRecDepth 100000
set_option maxHeartbeats 2000000
namespace Of
open PySem PySem.Spec PyProof.Rows L2
open Km355 (crc crcBit crcByte le)
theorem take_snoc {α : Type} {l : List α} {i : Nat} {x : α} (h : l[i]? = some x) : l.take (i + 1) = l.take i ++ [x] := by
  rw [List.take_succ, h]
  rfl
theorem at_map {α β : Type} {g : α → β} {l : List α} {i : Nat} {y : β} (h : (l.map g)[i]? = some y) : ∃ z, l[i]? = some z ∧ y = g z := by
  rw [List.getElem?_map] at h
  cases e : l[i]? with
  | none => rw [e] at h; cases h
  | some z => rw [e] at h; exact ⟨z, rfl, (Option.some.inj h).symm⟩
theorem zadd (i : Nat) : V.int (0 + (i : Int)) = V.int (i : Int) := by rw [Int.zero_add]
noncomputable def top (i : Nat) : Stmt := PySem.Challenge.pw_oftenest_s01_answers.main.body.getD i (.Pass ⟨0, 0, 0, 0⟩)
@[reducible] noncomputable def sCrc : Stmt := top 3
@[reducible] noncomputable def sLow : Stmt := top 21
@[reducible] noncomputable def iv (n : Nat) : V := .int (n : Int)
theorem bitXor_nat (a b : Nat) : Builtin.bitXor (a : Int) (b : Int) = ((a ^^^ b : Nat) : Int) := by
  rw [bitXor_and, bitAnd_pp (Int.natCast_nonneg _) (Int.natCast_nonneg _)]
  have h := OM.xor_and a b
  simp only [Int.toNat_natCast]
  omega
theorem bitAnd_nat (a b : Nat) : Builtin.bitAnd (a : Int) (b : Int) = ((a &&& b : Nat) : Int) := by
  rw [bitAnd_pp (Int.natCast_nonneg _) (Int.natCast_nonneg _)]
  simp only [Int.toNat_natCast]
theorem shr_nat (a k : Nat) : (a : Int) / 2 ^ ((k : Int)).toNat = ((a / 2 ^ k : Nat) : Int) := by
  rw [Int.toNat_natCast]
  simp
theorem crcBit_odd {c : Nat} (h : c % 2 = 1) : crcBit c = (c / 2 ^ 1) ^^^ 2197175160 := by
  unfold crcBit
  rw [if_pos h]
theorem crcBit_even {c : Nat} (h : ¬ c % 2 = 1) : crcBit c = c / 2 ^ 1 := by
  unfold crcBit
  rw [if_neg h]
/-! ### ops over naturals -/
theorem OpR.imp {X : Cx} {f : Value → Value → Sem Value} {r r' : R2} (h : OpR X f r) (i : ∀ x y H Q, r' x y H Q → r x y H Q) : OpR X f r' := fun pins s σ H x y v u Q I rx ry q => h pins s σ H x y v u Q I rx ry (i _ _ _ _ q)
/-- a op b of two naturals -/
noncomputable def rN (g : Nat → Nat → V) : R2 := fun x y H Q => ∃ a b : Nat, x = iv a ∧ y = iv b ∧ Q (g a b) H
theorem opN {X : Cx} {f : Value → Value → Sem Value} {g : Int → Int → V} {h : Nat → Nat → V} (ho : OpR X f (rI0 g)) (e : ∀ a b : Nat, g a b = h a b) : OpR X f (rN h) := OpR.imp ho fun x y H Q ⟨a, b, h1, h2, q⟩ => ⟨a, b, h1, h2, by rw [e]; exact q⟩
theorem opNC {X : Cx} {f : Value → Value → Sem Value} {C : Int → Int → Prop} {g : Int → Int → V} {h : Nat → Nat → V} (ho : OpR X f (rI C g)) (c : ∀ a b : Nat, C a b) (e : ∀ a b : Nat, g a b = h a b) : OpR X f (rN h) := OpR.imp ho fun x y H Q ⟨a, b, h1, h2, q⟩ => ⟨a, b, h1, h2, c a b, by rw [e]; exact q⟩
section
variable {X : Cx}
theorem on_add : OpR X (binaryOp .Add) (rN fun a b => iv (a + b)) := opN op_add fun a b => rfl
theorem on_xor : OpR X (binaryOp .BitXor) (rN fun a b => iv (a ^^^ b)) := opN op_xor fun a b => congrArg V.int (bitXor_nat a b)
theorem on_and : OpR X (binaryOp .BitAnd) (rN fun a b => iv (a &&& b)) := opN op_and fun a b => congrArg V.int (bitAnd_nat a b)
theorem on_shr : OpR X (binaryOp .RShift) (rN fun a b => iv (a / 2 ^ b)) := opNC op_shr (fun a b => Int.natCast_nonneg b) fun a b => congrArg V.int (shr_nat a b)
theorem dec_nat (a b : Nat) : decide ((a : Int) = (b : Int)) = decide (a = b) := by
  by_cases h : a = b
  · rw [h, decide_eq_true rfl, decide_eq_true rfl]
  · rw [decide_eq_false h, decide_eq_false fun z => h (Int.ofNat_inj.mp z)]
theorem on_eq : OpR X (compareOp .Eq) (rN fun a b => .bl (decide (a = b))) := opN (g := fun i j => .bl (decide (i = j))) (opB0 fun _ _ _ _ _ _ _ q => eq_int (by rw [Bool.beq_eq_decide_eq]; exact q)) fun a b => congrArg V.bl (dec_nat a b)
theorem on_ne : OpR X (compareOp .NotEq) (rN fun a b => .bl (!decide (a = b))) := opN (g := fun i j => .bl (!decide (i = j))) (opB0 fun _ _ _ _ _ _ _ q => ne_int (by rw [bne, Bool.beq_eq_decide_eq]; exact q)) fun a b => congrArg (fun z => V.bl (!z)) (dec_nat a b)
theorem on_lt : OpR X (compareOp .Lt) (rN fun a b => .bl (decide (a < b))) := opN op_lt fun a b => by simp
theorem on_le : OpR X (compareOp .LtE) (rN fun a b => .bl (decide (a ≤ b))) := opN op_le fun a b => by simp
theorem on_gt : OpR X (compareOp .Gt) (rN fun a b => .bl (decide (b < a))) := opN op_gt fun a b => by simp
theorem on_ge : OpR X (compareOp .GtE) (rN fun a b => .bl (decide (b ≤ a))) := opN op_ge fun a b => by simp
noncomputable def rNC (C : Nat → Nat → Prop) (g : Nat → Nat → V) : R2 := fun x y H Q => ∃ a b : Nat, x = iv a ∧ y = iv b ∧ C a b ∧ Q (g a b) H
theorem on_mul : OpR X (binaryOp .Mult) (rNC (fun a b => a < 2 ^ 64 ∨ b < 2 ^ 64) fun a b => iv (a * b)) := OpR.imp op_mul fun x y H Q ⟨a, b, h1, h2, c, q⟩ => ⟨a, b, h1, h2, c.imp (fun h => ⟨by omega, by omega⟩) (fun h => ⟨by omega, by omega⟩), by show Q (V.int ((a : Int) * (b : Int))) H; rw [show (a : Int) * (b : Int) = ((a * b : Nat) : Int) by simp]; exact q⟩
theorem on_shl : OpR X (binaryOp .LShift) (rNC (fun a b => a < 2 ^ 64 ∧ b ≤ 1000000) fun a b => iv (a * 2 ^ b)) := OpR.imp op_shl fun x y H Q ⟨a, b, h1, h2, c, q⟩ => ⟨a, b, h1, h2, ⟨by omega, by omega, by rw [Int.natAbs_natCast]; exact c.1⟩, by show Q (V.int ((a : Int) * 2 ^ ((b : Int)).toNat)) H; rw [Int.toNat_natCast, show (a : Int) * 2 ^ b = ((a * 2 ^ b : Nat) : Int) by simp]; exact q⟩
end
section
variable {P : Program} {w : World} {K : PySem.W.Frag} {mg : Str → Option Value} {base : Heap}
structure TxtC (mg : Str → Option Value) : Prop where
  ones : ∃ t, mg "ONES" = some (.int 4294967295 t)
  poly : ∃ t, mg "POLYNOMIAL" = some (.int 2197175160 t)
  range : mg "range" = none
  sum : mg "sum" = none
/-- crc32c(octets) -/
noncomputable def spCrc (K : PySem.W.Frag) : Sp := fun vs H Q _ => ∃ (a : Addr) (ns : List Nat), vs = [.ref a] ∧ SqL K H a (ns.map iv) ∧ Q (iv (crc ns)) H
theorem scCrc : FnScope ["octets", "rest", "octet", "step"] ["octets"] (defScope sCrc) := ⟨rfl, rfl, rfl, by decide +kernel, rfl, by decide +kernel, by decide +kernel⟩
theorem ok_crc {f : Addr} {fd : FuncData} (F : Fun K "crc32c" "crc32c" sCrc f fd) (T : TxtC mg) : FnOk P w K mg base CX0 1 f fd ["octets"] (spCrc K) := by
  refine F.ok scCrc (fun vs H Q E h => ?_) (fun cdv A outer s H vs Q E hr h => ?_)
  · obtain ⟨a, ns, rfl, _⟩ := h
    rfl
  · obtain ⟨a, ns, rfl, hS, k⟩ := h
    obtain ⟨t1, h1⟩ := T.ones
    obtain ⟨t2, h2⟩ := T.poly
    refine ⟨_, pss_cons (ps_set (i := 1) scCrc.nd rfl (Or.inl rfl) (pe_glob (v := iv 4294967295) rfl h1 ⟨t1, rfl⟩))
      (pss_cons (ps_for PassesOwn.never rfl (pi_list (pv 0)) (pg_name (i := 2) scCrc.nd rfl (Or.inl rfl))
        (pss_cons (ps_set (i := 1) scCrc.nd rfl (Or.inl rfl) (pe_op on_xor (pv 1) (pv 2)))
        (pss_one (ps_for PassesOwn.never rfl (pi_range1 rfl T.range (pa_cons pe_int pa_nil)) (pg_name (i := 3) scCrc.nd rfl (Or.inl rfl))
          (pss_one (ps_if (pt_cmpR on_eq (pe_op on_and (pv 1) pe_int) pe_int (nomark _))
            (pss_one (ps_set (i := 1) scCrc.nd rfl (Or.inl rfl) (pe_op on_xor (pe_op on_shr (pv 1) pe_int) (pe_glob (v := iv 2197175160) rfl h2 ⟨t2, rfl⟩))))
            (pss_one (ps_set (i := 1) scCrc.nd rfl (Or.inl rfl) (pe_op on_shr (pv 1) pe_int)))))))))
      (pss_one (ps_ret (pe_op on_xor (pv 1) (pe_glob (v := iv 4294967295) rfl h1 ⟨t1, rfl⟩))))), ?_⟩
    refine ⟨_, rfl, a, rfl, ⟨_, hS⟩, for_list (K := K) (a := a) (xs := ns.map iv) (fun i σ H' => H' = H ∧ ∃ v w : Option V, σ = [some (.ref a), some (iv ((ns.take i).foldl crcByte 4294967295)), v, w])
      ⟨rfl, none, none, rfl⟩ (fun i σ H' _ h => by rw [h.1]; exact hS) ?_ ?_⟩
    · rintro i y σ H' hi ⟨rfl, v, w, rfl⟩
      obtain ⟨z, hz, rfl⟩ := at_map hi
      refine ⟨_, rfl, _, rfl, _, _, rfl, rfl, ?_⟩
      refine ⟨8, rfl, by decide, by decide, for_range (n := 8) (fun j σ H1 => H1 = H' ∧ ∃ w : Option V, σ = [some (.ref a), some (iv ((List.range j).foldl (fun x _ => crcBit x) ((ns.take i).foldl crcByte 4294967295 ^^^ z))), some (iv z), w]) ⟨rfl, w, rfl⟩ ?_ ?_⟩
      · rintro j σ H1 hj ⟨rfl, w, rfl⟩
        refine ⟨_, rfl, _, 1, rfl, rfl, _, 1, rfl, rfl, _, rfl, ?_⟩
        have e1 : ∀ c : Nat, c &&& 1 = c % 2 := fun c => Nat.and_two_pow_sub_one_eq_mod c 1
        rw [List.range_succ, List.foldl_append]
        refine ite2 (fun h => ?_) fun h => ?_
        · refine ⟨_, rfl, _, 1, rfl, rfl, _, 2197175160, rfl, rfl, rfl, some (.int (0 + (j : Int))), ?_⟩
          rw [e1] at h
          exact congrArg (fun c : Nat => [some (V.ref a), some (iv c), some (iv z), some (.int (0 + (j : Int)))]) (crcBit_odd (of_decide_eq_true h)).symm
        · refine ⟨_, rfl, _, 1, rfl, rfl, rfl, some (.int (0 + (j : Int))), ?_⟩
          rw [e1] at h
          exact congrArg (fun c : Nat => [some (V.ref a), some (iv c), some (iv z), some (.int (0 + (j : Int)))]) (crcBit_even fun e => h (decide_eq_true e)).symm
      · rintro σ H1 ⟨rfl, w, rfl⟩
        refine ⟨rfl, some (iv z), w, ?_⟩
        rw [take_snoc hz, List.foldl_append]
        rfl
    · rintro σ H' ⟨rfl, v, w, rfl⟩
      rw [List.length_map, List.take_length]
      exact ⟨_, rfl, _, 4294967295, rfl, rfl, k⟩

/-- low_first(number, size) -/
noncomputable def spLow : Sp := fun vs H Q _ => ∃ n m : Nat, vs = [iv n, iv m] ∧ m ≤ 8 ∧ ∀ p, H p = none → Q (.ref p) (upd H p (.lst ((le m n).map iv)))
theorem scLow : FnScope ["number", "size", "place"] ["number", "size"] (defScope sLow) := ⟨rfl, rfl, rfl, by decide +kernel, rfl, by decide +kernel, by decide +kernel⟩
theorem le_snoc (i n : Nat) : le (i + 1) n = le i n ++ [(n / 2 ^ (8 * i)) &&& 255] := by
  unfold Km355.le
  rw [List.range_succ, List.map_append, List.map_singleton, Nat.pow_mul]
  congr 2
  exact (Nat.and_two_pow_sub_one_eq_mod _ 8).symm
theorem ok_low {f : Addr} {fd : FuncData} (F : Fun K "low_first" "low_first" sLow f fd) (T : TxtC mg) : FnOk P w K mg base CX0 1 f fd ["number", "size"] spLow := by
  refine F.ok scLow (fun vs H Q E h => ?_) (fun cdv A outer s H vs Q E hr h => ?_)
  · obtain ⟨n, m, rfl, _⟩ := h
    rfl
  · obtain ⟨n, m, rfl, hm, k⟩ := h
    refine ⟨_, pss_one (ps_ret (pe_lc (own := [("place", 2)]) rfl scLow.nd (pi_range1 rfl T.range (pa_cons (pv 1) pa_nil)) (blkOk_by (by show blkC ["number", "size", "place"] (defScope sLow) _ _ = true; decide +kernel)) (fun _ _ _ _ _ => pg_name (i := 2) scLow.nd rfl (Or.inl rfl)) (fun _ _ _ _ _ => pts_nil)
      (fun _ _ _ _ _ => pe_op on_and (pe_op on_shr (pv 0) (pe_op on_mul pe_int (pv 2))) pe_int))), ?_⟩
    refine ⟨_, rfl, (m : Int), rfl, by omega, by omega, fun D hD => ?_⟩
    refine lc_range (fun i H' => H' = upd H D (.lst ((le i n).map iv))) rfl ?_ ?_
    · rintro i H' hi rfl
      have hi : i < m := by rw [Int.toNat_natCast] at hi; exact hi
      refine ⟨rfl, _, rfl, _, rfl, 8, i, rfl, zadd i, .inl (by decide), _, _, rfl, rfl, _, 255, rfl, rfl, _, upd_same, ?_, ?_⟩
      · rw [List.length_map, OM.le_len]
        exact small1000 (by omega)
      · rw [upd_upd, le_snoc, List.map_append]
        rfl
    · rintro H' rfl
      rw [Int.toNat_natCast]
      exact k D hD
end
end Of

end
section
set_option Elab.async false
set_option linter.all false
set_option maxRecDepth 100000
set_option maxHeartbeats 2000000
namespace Of
open PySem PySem.Spec PyProof.Rows L2
open OM (getN putN Rel)
/-! ### what a call leaves as it was -/
/-- but for what stands at W all is as it was; nothing goes -/
structure Chg (W : List Addr) (H H' : Hp) : Prop where
  keep : ∀ b o, H b = some o → b ∉ W → H' b = some o
  dom : ∀ b, H' b = none → H b = none
theorem Chg.refl {W : List Addr} {H : Hp} : Chg W H H := ⟨fun _ _ h _ => h, fun _ h => h⟩
theorem Chg.trans {W : List Addr} {H H1 H2 : Hp} (a : Chg W H H1) (b : Chg W H1 H2) : Chg W H H2 := ⟨fun c o h n => b.keep c o (a.keep c o h n) n, fun c h => a.dom c (b.dom c h)⟩
theorem Chg.mono {W W' : List Addr} {H H' : Hp} (a : Chg W H H') (h : ∀ b ∈ W, b ∈ W') : Chg W' H H' := ⟨fun c o q n => a.keep c o q fun m => n (h c m), a.dom⟩
theorem Chg.upd {W : List Addr} {H H' : Hp} {a : Addr} {o : HO} (c : Chg W H H') (h : a ∈ W ∨ H a = none) : Chg W H (upd H' a o) := by
  refine ⟨fun b u hb n => ?_, fun b hb => ?_⟩
  · have ne : b ≠ a := fun e => by
      subst e
      rcases h with h | h
      · exact n h
      · rw [hb] at h; cases h
    rw [upd_ne ne]
    exact c.keep b u hb n
  · by_cases e : b = a
    · subst e; rw [upd_same] at hb; cases hb
    · rw [upd_ne e] at hb; exact c.dom b hb
theorem Chg.same {H H' : Hp} (c : Chg [] H H') : Same H H' := fun b o h => c.keep b o h (by simp)
theorem Chg.of {W : List Addr} {H H' : Hp} (s : Same H H') : Chg W H H' := ⟨fun b o h _ => s b o h, fun b h => s.free h⟩
theorem Chg.fresh {W : List Addr} {H H' : Hp} (c : Chg W H H') {b : Addr} (h : H' b = none) : H b = none := c.dom b h
/-! ### dicts of naturals -/
noncomputable def en (y : Nat × Nat) : Key × V := (Sum.inl (y.1 : Int), iv y.2)
@[reducible] noncomputable def dn (ps : List (Nat × Nat)) : HO := .dK (ps.map en)
theorem key_nat (x y : Nat) : ((Sum.inl (x : Int) : Key) = Sum.inl (y : Int)) ↔ x = y := ⟨fun h => Int.ofNat_inj.mp (Sum.inl.inj h), fun h => by rw [h]⟩
theorem valV_en (x : Nat) : ∀ ps : List (Nat × Nat), valV (ps.map en) (Sum.inl (x : Int)) = (getN ps x).map iv
  | [] => rfl
  | y :: ps => by
    rw [List.map_cons, OM.getN_cons]
    by_cases h : y.1 = x
    · rw [valV_pos (p := en y) ((key_nat _ _).mpr h), if_pos h]
      rfl
    · rw [valV_neg (p := en y) (fun q => h ((key_nat _ _).mp q)), if_neg h]
      exact valV_en x ps
theorem putK_en (ps : List (Nat × Nat)) (x c : Nat) : putK (ps.map en) (Sum.inl (x : Int)) (iv c) = (putN ps x c).map en := by
  unfold putK putN
  rw [valV_any, valV_en, Option.isSome_map, OM.any_getN]
  by_cases h : (getN ps x).isSome = true
  · rw [if_pos h, if_pos h, List.map_map, List.map_map]
    refine List.map_congr_left fun y _ => ?_
    show (if (en y).1 = Sum.inl (x : Int) then ((en y).1, iv c) else en y) = en (if y.1 = x then (y.1, c) else y)
    by_cases e : y.1 = x
    · rw [if_pos (show (en y).1 = Sum.inl (x : Int) from (key_nat _ _).mpr e), if_pos e]
      rfl
    · rw [if_neg (show ¬ (en y).1 = Sum.inl (x : Int) from fun q => e ((key_nat _ _).mp q)), if_neg e]
  · rw [if_neg h, if_neg h, List.map_append]
    rfl
theorem dn_get {H : Hp} {d : Addr} {ps : List (Nat × Nat)} (h : H d = some (dn ps)) (x : Nat) : DGet H d (iv x) ((getN ps x).map iv) := by
  rw [← valV_en]
  exact DGet.k (k := Sum.inl (x : Int)) h
/-- .. also while a loop walks it -/
theorem dn_getR {H : Hp} {d : Addr} {ps : List (Nat × Nat)} (h : Rd H d (dn ps)) (x : Nat) : DGet H d (iv x) ((getN ps x).map iv) := by
  rw [← valV_en]
  exact .inl ⟨_, Sum.inl (x : Int), h, rfl, rfl⟩
theorem dn_put {H : Hp} {d : Addr} {ps : List (Nat × Nat)} (h : H d = some (dn ps)) (x c : Nat) (hl : ps.length < sizeLine) : DPut H d (iv x) (iv c) (upd H d (dn (putN ps x c))) := by
  rw [show dn (putN ps x c) = .dK (putK (ps.map en) (Sum.inl (x : Int)) (iv c)) by rw [putK_en]]
  exact DPut.k (k := Sum.inl (x : Int)) h (by rw [List.length_map]; exact hl)
theorem dn_len (ps : List (Nat × Nat)) : (ps.map en).length = ps.length := List.length_map ..
/-- for x in d, d's keys ints or texts -/
theorem pi_dn {X : Cx} {tg e : Expr} {td : TE} (he : PE X e td) : PI X tg e (iKeysM td) := by
  intro pins s σ H R I h
  refine thn (he pins s σ H _ I h) fun u s1 got => ?_
  obtain ⟨x, H1, J, rx, d, od, kvs, ex, hd, q⟩ := got
  subst ex
  have eu : u = Value.ref d := rx
  subst eu
  obtain ⟨c1, c2, c3, es, ep, ws, c4, c5, _, _⟩ := J.frzK hd
  refine iter_keys c1 c2 c3 c4 (pi_one (tk := s1.toks) J _ (turn_keys _ c4) ⟨_, Heap.get?_push_size _ rfl, rfl, ?_⟩ q)
  rw [c5]
  rfl
/-- for x in d, d's keys naturals, d locked and left as it is -/
theorem for_dn {d : Addr} {o : Obj} {ps : List (Nat × Nat)} {g : TG} {tb : TS} {D : Ends} {σ : L2.St} {H : Hp} (Pv : Nat → L2.St → Hp → Prop) (h0 : Pv 0 σ H) (hl : ∀ i σ H, i ≤ ps.length → Pv i σ H → H d = some (.frz o (dn ps)))
    (hs : ∀ i y σ H, ps[i]? = some y → Pv i σ H → g (iv y.1) σ H fun σ2 H2 => tb { D with nx := Pv (i + 1), ct := Pv (i + 1), bk := D.nx } σ2 H2) (hd : ∀ σ H, Pv ps.length σ H → D.nx σ H) :
    ∃ W : Nat → Nat → L2.St → Hp → Prop, (∃ m, W 0 m σ H) ∧ ∀ i m σ H, W i m σ H →
      ((Itk d o (ps.map en)).stop i H ∧ D.nx σ H) ∨ ((Itk d o (ps.map en)).go i H ∧ ∃ N : L2.St → Hp → Prop, (∀ σ' H', N σ' H' → ∃ m', m' < m ∧ W (i + 1) m' σ' H') ∧ ∀ x H', (Itk d o (ps.map en)).yld i H x H' → g x σ H' fun σ2 H2 => tb { D with nx := N, ct := N, bk := D.nx } σ2 H2) := by
  refine ⟨fun i m σ H => m = ps.length - i ∧ i ≤ ps.length ∧ Pv i σ H, ⟨ps.length, by simp, Nat.zero_le _, h0⟩, ?_⟩
  rintro i m σ H ⟨rfl, hi, p⟩
  have q := hl i σ H hi p
  by_cases hlt : i < ps.length
  · refine .inr ⟨⟨q, by rw [dn_len]; exact hlt⟩, Pv (i + 1), fun σ' H' p' => ⟨ps.length - (i + 1), by omega, rfl, hlt, p'⟩, fun x H' y => ?_⟩
    obtain ⟨e, k, v, e2, e3⟩ := y
    subst e
    obtain ⟨z, hz, e4⟩ := at_map e2
    obtain ⟨rfl, rfl⟩ := Prod.mk.inj e4
    subst e3
    exact hs i z σ _ hz p
  · have e : i = ps.length := by omega
    subst e
    exact .inl ⟨⟨q, by rw [dn_len]; exact Nat.le_refl _⟩, hd σ H p⟩
end Of

end
section
set_option Elab.async false
set_option linter.all false
set_option maxRecDepth 100000
set_option maxHeartbeats 2000000
namespace Of
open PySem PySem.Spec PyProof.Rows L2
open OM (getN putN Rel)
open Km355 (lower Summary)
theorem putN_new {l : List (Nat × Nat)} {x : Nat} (h : getN l x = none) (c : Nat) : putN l x c = l ++ [(x, c)] := by
  unfold OM.putN
  rw [OM.any_getN, h]
  exact if_neg (by simp)
theorem get_at {ps : List (Nat × Nat)} (hk : OM.Keys ps) {i : Nat} {y : Nat × Nat} (h : ps[i]? = some y) : getN ps y.1 = some y.2 := OM.getN_of_mem hk (List.mem_of_getElem? h)
theorem fresh_at {ps : List (Nat × Nat)} (hk : OM.Keys ps) {i : Nat} {y : Nat × Nat} (h : ps[i]? = some y) : ∀ z ∈ ps.take i, z.1 ≠ y.1 := by
  intro z hz e
  obtain ⟨j, hj, ej⟩ := List.mem_take_iff_getElem.mp hz
  have hj' : j < i := by omega
  have a : (ps.map Prod.fst)[j]? = some y.1 := by rw [List.getElem?_map, List.getElem?_eq_getElem (by omega)]; simp [ej, e]
  have b : (ps.map Prod.fst)[i]? = some y.1 := by rw [List.getElem?_map, h]; rfl
  have := nd_ix hk a b
  omega
theorem lower_mem {c : Nat} {l : List (Nat × Nat)} {z : Nat × Nat} (h : z ∈ lower c l) : ∃ u ∈ l, u.1 = z.1 := by
  rw [OM.lower_eq] at h
  obtain ⟨u, hu, e⟩ := List.mem_map.mp h
  exact ⟨u, (List.mem_filter.mp hu).1, by rw [← e]⟩
theorem lower_len (c : Nat) (l : List (Nat × Nat)) : (lower c l).length ≤ l.length := by
  rw [OM.lower_eq, List.length_map]
  exact List.length_filter_le _ _
section
variable {X : Cx}
theorem on_sub : OpR X (binaryOp .Sub) (rNC (fun a b => b ≤ a) fun a b => iv (a - b)) := OpR.imp op_sub fun x y H Q ⟨a, b, h1, h2, c, q⟩ => ⟨a, b, h1, h2, by show Q (V.int ((a : Int) - (b : Int))) H; rw [show (a : Int) - (b : Int) = ((a - b : Nat) : Int) by omega]; exact q⟩
end
@[reducible] noncomputable def sLowered : Stmt := top 9
@[reducible] noncomputable def sSummed : Stmt := top 10
@[reducible] noncomputable def sGreat : Stmt := top 11
structure TxtD (mg : Str → Option Value) : Prop where
  len : mg "len" = none
  sorted : mg "sorted" = none
  dict : mg "dict" = none
theorem putN_len (l : List (Nat × Nat)) (x c : Nat) : (putN l x c).length ≤ l.length + 1 := by
  unfold OM.putN
  split
  · rw [List.length_map]; omega
  · rw [List.length_append]; exact Nat.le_refl _
theorem adds_len : ∀ (qs ps : List (Nat × Nat)), (qs.foldl OM.addN ps).length ≤ ps.length + qs.length
  | [], ps => Nat.le_refl _
  | y :: qs, ps => by
    rw [List.foldl_cons, List.length_cons]
    have h := adds_len qs (OM.addN ps y)
    have h2 : (OM.addN ps y).length ≤ ps.length + 1 := putN_len _ _ _
    omega
theorem getD_iv (o : Option Nat) : (o.map iv).getD (V.int 0) = iv (o.getD 0) := by cases o <;> rfl
section
variable {P : Program} {w : World} {K : PySem.W.Frag} {mg : Str → Option Value} {base : Heap}
/-- lowered(counts, by) -/
noncomputable def spLowered : Sp := fun vs H Q _ => ∃ (d : Addr) (ps : List (Nat × Nat)) (c : Nat), vs = [.ref d, iv c] ∧ H d = some (dn ps) ∧ OM.Keys ps ∧ ps.length ≤ 1000 ∧
  ∀ (H' : Hp) (e : Addr), H e = none → H' e = some (dn (lower c ps)) → Same H H' → Q (.ref e) H'
theorem scLowered : FnScope ["counts", "by", "left", "x"] ["counts", "by"] (defScope sLowered) := ⟨rfl, rfl, rfl, by decide +kernel, rfl, by decide +kernel, by decide +kernel⟩
theorem ok_lowered {f : Addr} {fd : FuncData} (F : Fun K "lowered" "lowered" sLowered f fd) : FnOk P w K mg base CX0 1 f fd ["counts", "by"] spLowered := by
  refine F.ok scLowered (fun vs H Q E h => ?_) (fun cdv A outer s H vs Q E hr h => ?_)
  · obtain ⟨d, ps, c, rfl, _⟩ := h
    rfl
  · obtain ⟨d, ps, c, rfl, hd, hk, hlen, k⟩ := h
    have hu := hu_of hr
    refine ⟨_, pss_cons (ps_set (i := 2) scLowered.nd rfl (Or.inl rfl) pe_dnewK)
      (pss_cons (ps_lock (ps_for PassesOwn.never rfl (pi_dn (pv 0)) (pg_name (i := 3) scLowered.nd rfl (Or.inl rfl))
        (pss_one (ps_if (pt_cmpR on_gt (pe_dget hu (pv 0) (pv 3) (fun _ _ => rfl)) (pv 1) (nomark _))
          (pss_one (ps_dput hu (pv 2) (pv 3) (pe_op on_sub (pe_dget hu (pv 0) (pv 3) (fun _ _ => rfl)) (pv 1)) rfl))
          pss_nil))))
      (pss_one (ps_ret (pv 2)))), ?_⟩
    intro e he
    have ne : d ≠ e := ne_of_none hd he
    refine ⟨d, dn ps, by rw [upd_ne ne]; exact hd, trivial, fun od => ?_⟩
    refine ⟨_, rfl, d, od, ps.map en, rfl, upd_same, for_dn (o := od) (ps := ps) (fun i σ H' => (∃ v : Option V, σ = [some (.ref d), some (iv c), some (.ref e), v]) ∧ H' d = some (.frz od (dn ps)) ∧ H' e = some (dn (lower c (ps.take i))) ∧ ∀ b o, H b = some o → b ≠ d → H' b = some o)
      ⟨⟨none, rfl⟩, upd_same, by rw [upd_ne (Ne.symm ne), upd_same]; rfl, fun b o hb nb => by rw [upd_ne nb, upd_ne (ne_of_none hb he)]; exact hb⟩ (fun i σ H' _ h => h.2.1) ?_ ?_⟩
    · rintro i y σ H' hy ⟨⟨v, rfl⟩, h1, h2, h3⟩
      have g : DGet H' d (iv y.1) (some (iv y.2)) := by
        have q := dn_getR (ps := ps) (.inr ⟨od, h1⟩) y.1
        rw [get_at hk hy] at q
        exact q
      refine ⟨_, rfl, _, rfl, d, _, rfl, g, _, rfl, y.2, c, rfl, rfl, _, rfl, ?_⟩
      have e1 : lower c (ps.take (i + 1)) = lower c (ps.take i) ++ (if c < y.2 then [(y.1, y.2 - c)] else []) := by rw [take_snoc hy, OM.lower_snoc]
      refine ite2 (fun hc => ?_) fun hc => ?_
      · have hc' : c < y.2 := of_decide_eq_true hc
        have fr : getN (lower c (ps.take i)) y.1 = none := OM.getN_none.mpr fun z hz => by
          obtain ⟨u, hu', eu⟩ := lower_mem hz
          rw [← eu]
          exact fresh_at hk hy u hu'
        refine ⟨_, rfl, _, rfl, d, _, rfl, g, _, rfl, y.2, c, rfl, rfl, by omega, _, rfl, _, rfl, e, _, rfl, dn_put h2 y.1 (y.2 - c) ?_, ?_⟩
        · exact small1000 (Nat.le_trans (lower_len _ _) (by rw [List.length_take]; omega))
        · refine ⟨⟨_, rfl⟩, by rw [upd_ne ne]; exact h1, ?_, fun b o hb nb => by rw [upd_ne (ne_of_none hb he)]; exact h3 b o hb nb⟩
          rw [upd_same, e1, putN_new fr, if_pos hc']
      · have hc' : ¬ c < y.2 := fun z => hc (decide_eq_true z)
        refine ⟨⟨_, rfl⟩, h1, ?_, h3⟩
        rw [e1, if_neg hc', List.append_nil]
        exact h2
    · rintro σ H' ⟨⟨v, rfl⟩, h1, h2, h3⟩
      rw [List.take_length] at h2
      refine ⟨h1, _, rfl, k _ e he (by rw [upd_ne (Ne.symm ne)]; exact h2) fun b o hb => ?_⟩
      by_cases nb : b = d
      · subst nb
        rw [upd_same]
        rw [hd] at hb
        exact hb
      · rw [upd_ne nb]
        exact h3 b o hb nb
/-- summed(one, other) -/
noncomputable def spSummed : Sp := fun vs H Q _ => ∃ (a d : Addr) (ps qs : List (Nat × Nat)), vs = [.ref a, .ref d] ∧ H a = some (dn ps) ∧ H d = some (dn qs) ∧ OM.Keys qs ∧ ps.length + qs.length ≤ 1000 ∧
  ∀ (H' : Hp) (e : Addr), H e = none → H' e = some (dn (qs.foldl OM.addN ps)) → Same H H' → Q (.ref e) H'
theorem scSummed : FnScope ["one", "other", "counts", "x"] ["one", "other"] (defScope sSummed) := ⟨rfl, rfl, rfl, by decide +kernel, rfl, by decide +kernel, by decide +kernel⟩
theorem ok_summed {f : Addr} {fd : FuncData} (F : Fun K "summed" "summed" sSummed f fd) (T : TxtD mg) : FnOk P w K mg base CX0 1 f fd ["one", "other"] spSummed := by
  refine F.ok scSummed (fun vs H Q E h => ?_) (fun cdv A outer s H vs Q E hr h => ?_)
  · obtain ⟨a, d, ps, qs, rfl, _⟩ := h
    rfl
  · obtain ⟨a, d, ps, qs, rfl, ha, hd, hk, hlen, k⟩ := h
    have hu := hu_of hr
    refine ⟨_, pss_cons (ps_set (i := 2) scSummed.nd rfl (Or.inl rfl) (pe_callTy cr_dictC rfl T.dict PyProof.Rows.boot_dict (pa_cons (pv 0) pa_nil)))
      (pss_cons (ps_lock (ps_for PassesOwn.never rfl (pi_dn (pv 1)) (pg_name (i := 3) scSummed.nd rfl (Or.inl rfl))
        (pss_one (ps_dput hu (pv 2) (pv 3) (pe_op on_add (pe_dget2 hu (pv 2) (pv 3) pe_int ⟨rfl, rfl, rfl, rfl⟩) (pe_dget hu (pv 1) (pv 3) (fun _ _ => rfl))) rfl))))
      (pss_one (ps_ret (pv 2)))), ?_⟩
    refine ⟨_, rfl, a, _, rfl, .inl ha, fun e he => ?_⟩
    have ne : d ≠ e := ne_of_none hd he
    refine ⟨d, dn qs, by rw [upd_ne ne]; exact hd, trivial, fun od => ?_⟩
    refine ⟨_, rfl, d, od, qs.map en, rfl, upd_same, for_dn (o := od) (ps := qs) (fun i σ H' => (∃ v : Option V, σ = [some (.ref a), some (.ref d), some (.ref e), v]) ∧ H' d = some (.frz od (dn qs)) ∧ H' e = some (dn ((qs.take i).foldl OM.addN ps)) ∧ ∀ b o, H b = some o → b ≠ d → H' b = some o)
      ⟨⟨none, rfl⟩, upd_same, by rw [upd_ne (Ne.symm ne), upd_same]; rfl, fun b o hb nb => by rw [upd_ne nb, upd_ne (ne_of_none hb he)]; exact hb⟩ (fun i σ H' _ h => h.2.1) ?_ ?_⟩
    · rintro i y σ H' hy ⟨⟨v, rfl⟩, h1, h2, h3⟩
      have g : DGet H' d (iv y.1) (some (iv y.2)) := by
        have q := dn_getR (ps := qs) (.inr ⟨od, h1⟩) y.1
        rw [get_at hk hy] at q
        exact q
      have hi : i < qs.length := (List.getElem?_eq_some_iff.mp hy).1
      have hl := adds_len (qs.take i) ps
      rw [List.length_take] at hl
      refine ⟨_, rfl, e, rfl, .inl ⟨_, .inl h2⟩, _, rfl, _, dn_get h2 y.1, _, rfl, _, rfl, d, _, rfl, g, _, y.2, getD_iv _, rfl, _, rfl, _, rfl, e, _, rfl, dn_put h2 y.1 _ (small1000 (by omega)), ?_⟩
      refine ⟨⟨_, rfl⟩, by rw [upd_ne ne]; exact h1, ?_, fun b o hb nb => by rw [upd_ne (ne_of_none hb he)]; exact h3 b o hb nb⟩
      rw [upd_same, take_snoc hy, List.foldl_append]
      rfl
    · rintro σ H' ⟨⟨v, rfl⟩, h1, h2, h3⟩
      rw [List.take_length] at h2
      refine ⟨h1, _, rfl, k _ e he (by rw [upd_ne (Ne.symm ne)]; exact h2) fun b o hb => ?_⟩
      by_cases nb : b = d
      · subst nb
        rw [upd_same]
        rw [hd] at hb
        exact hb
      · rw [upd_ne nb]
        exact h3 b o hb nb
/-- greatest_but(counts, k) -/
noncomputable def spGreat : Sp := fun vs H Q _ => ∃ (d : Addr) (ps : List (Nat × Nat)) (k : Nat), vs = [.ref d, iv k] ∧ H d = some (dn ps) ∧
  ∀ H' : Hp, Same H H' → Q (iv ((Km355.down (ps.map Prod.snd)).getD k 0)) H'
theorem scGreat : FnScope ["counts", "k"] ["counts", "k"] (defScope sGreat) := ⟨rfl, rfl, rfl, by decide +kernel, rfl, by decide +kernel, by decide +kernel⟩
theorem ok_great {f : Addr} {fd : FuncData} (F : Fun K "greatest_but" "greatest_but" sGreat f fd) (T : TxtD mg) : FnOk P w K mg base CX0 1 f fd ["counts", "k"] spGreat := by
  refine F.ok scGreat (fun vs H Q E h => ?_) (fun cdv A outer s H vs Q E hr h => ?_)
  · obtain ⟨d, ps, k, rfl, _⟩ := h
    rfl
  · obtain ⟨d, ps, k, rfl, hd, kk⟩ := h
    refine ⟨_, pss_cons (ps_if (pt_cmpR on_le (pe_callB call_lenD rfl T.len PySem.boot_len (pa_cons (pv 0) pa_nil)) (pv 1) (nomark _)) (pss_one (ps_ret pe_int)) pss_nil)
      (pss_one (ps_ret (pe_ix ix_list (pe_sortV rfl rfl T.sorted boot_sorted (pv 0)) (pv 1) (fun _ _ => rfl)))), ?_⟩
    refine ⟨_, rfl, d, _, rfl, hd, _, rfl, ps.length, k, by rw [dn_len], rfl, _, rfl, ?_⟩
    refine ite2 (fun hc => ?_) fun hc => ?_
    · have hc' : ps.length ≤ k := of_decide_eq_true hc
      have e : (Km355.down (ps.map Prod.snd)).getD k 0 = 0 := OM.down_over (by rw [List.length_map]; exact hc')
      rw [e] at kk
      exact kk H fun b o hb => hb
    · have hc' : ¬ ps.length ≤ k := fun z => hc (decide_eq_true z)
      refine ⟨_, rfl, d, _, ps.map (fun y => (y.2 : Int)), rfl, .inl hd, by rw [List.map_map, List.map_map]; rfl, fun ns p hpm hso hp => ?_⟩
      have e : ns = (Km355.down (ps.map Prod.snd)).map fun (x : Nat) => (x : Int) := OM.down_ints (l := ps.map Prod.snd) (by rw [List.map_map]; exact hpm) (List.Perm.refl _) hso
      subst e
      refine ⟨_, rfl, p, _, _, _, rfl, rfl, SqL.of upd_same, atI_nat (v := iv ((Km355.down (ps.map Prod.snd)).getD k 0)) ?_, kk _ (same_new hp _)⟩
      have hl : k < (Km355.down (ps.map Prod.snd)).length := by rw [OM.down_len, List.length_map]; omega
      rw [List.map_map, List.getElem?_map, List.getD_eq_getElem?_getD, List.getElem?_eq_getElem hl]
      rfl
end
end Of

end
section
set_option Elab.async false
set_option linter.all false
set_option maxRecDepth 100000
set_option maxHeartbeats 2000000
namespace Of
open PySem PySem.Spec PyProof.Rows L2
open OM (getN putN Rel)
open Km355 (lower Summary bump)
@[reducible] noncomputable def sSInit : Stmt := inClass (top 7) 0
@[reducible] noncomputable def sTake : Stmt := inClass (top 7) 1
@[reducible] noncomputable def sTold : Stmt := inClass (top 7) 2
@[reducible] noncomputable def sOften : Stmt := inClass (top 7) 3
@[reducible] noncomputable def sPut : Stmt := top 12
/-- a Stream's attributes -/
noncomputable def sf (k n : Nat) (d : Addr) (w : Nat) : List (Str × V) := [("k", iv k), ("readings", iv n), ("counts", .ref d), ("wrong", iv w)]
theorem sf_k (k n : Nat) (d : Addr) (w : Nat) : (sf k n d w).lookup ("k" : Str) = some (iv k) := rfl
theorem sf_n (k n : Nat) (d : Addr) (w : Nat) : (sf k n d w).lookup ("readings" : Str) = some (iv n) := rfl
theorem sf_d (k n : Nat) (d : Addr) (w : Nat) : (sf k n d w).lookup ("counts" : Str) = some (.ref d) := rfl
theorem sf_w (k n : Nat) (d : Addr) (w : Nat) : (sf k n d w).lookup ("wrong" : Str) = some (iv w) := rfl
theorem sf_put_n (k n : Nat) (d : Addr) (w m : Nat) : putF "readings" (iv m) (sf k n d w) = sf k m d w := rfl
theorem sf_put_d (k n : Nat) (d : Addr) (w : Nat) (e : Addr) : putF "counts" (.ref e) (sf k n d w) = sf k n e w := rfl
theorem sf_put_w (k n : Nat) (d : Addr) (w m : Nat) : putF "wrong" (iv m) (sf k n d w) = sf k n d m := rfl
theorem sf_new (k : Nat) (d : Addr) : putF "wrong" (iv 0) (putF "counts" (.ref d) (putF "readings" (iv 0) (putF "k" (iv k) []))) = sf k 0 d 0 := rfl
/-- a Stream stands at s, its dict at d; it has k counters and knows S -/
structure StreamAt (C : Addr) (H : Hp) (s d : Addr) (k : Nat) (S : Summary) : Prop where
  ins : ∃ dx, H s = some (.ins C dx (sf k S.n d S.wrong))
  cnt : ∃ ps, H d = some (dn ps) ∧ Rel ps S.counts
theorem StreamAt.keep {C : Addr} {H H' : Hp} {s d : Addr} {k : Nat} {S : Summary} (a : StreamAt C H s d k S) (h1 : ∀ o, H s = some o → H' s = some o) (h2 : ∀ o, H d = some o → H' d = some o) : StreamAt C H' s d k S := by
  obtain ⟨⟨dx, i⟩, ps, c, r⟩ := a
  exact ⟨⟨dx, h1 _ i⟩, ps, h2 _ c, r⟩
theorem StreamAt.same {C : Addr} {H H' : Hp} {s d : Addr} {k : Nat} {S : Summary} (a : StreamAt C H s d k S) (h : Same H H') : StreamAt C H' s d k S := a.keep (h s) (h d)
structure TxtS (K : PySem.W.Frag) (mg : Str → Option Value) (C : Addr) : Prop where
  cl : Cls K C
  nk : NoAttr K C "k"
  nn : NoAttr K C "readings"
  nd : NoAttr K C "counts"
  nw : NoAttr K C "wrong"
  mgC : mg "Stream" = some (.ref C)
  len : mg "len" = none
section
variable {P : Program} {w : World} {K : PySem.W.Frag} {mg : Str → Option Value} {base : Heap}
/-- Stream(k) -/
noncomputable def spSInit (C : Addr) : Sp := fun vs H Q _ => ∃ (p dx : Addr) (k : Nat), vs = [.ref p, iv k] ∧ H p = some (.ins C dx []) ∧
  ∀ (H' : Hp) (d : Addr), H d = none → StreamAt C H' p d k Km355.nothing → Chg [p] H H' → Q .non H'
theorem scSInit : FnScope ["self", "k"] ["self", "k"] (defScope sSInit) := ⟨rfl, rfl, rfl, by decide +kernel, rfl, by decide +kernel, by decide +kernel⟩
theorem ok_sInit {f C : Addr} {fd : FuncData} (F : Fun K "__init__" "Stream.__init__" sSInit f fd) (T : TxtS K mg C) : FnOk P w K mg base CX0 1 f fd ["self", "k"] (spSInit C) := by
  refine F.ok scSInit (fun vs H Q E h => ?_) (fun cdv A outer s H vs Q E hr h => ?_)
  · obtain ⟨p, dx, k, rfl, _⟩ := h
    rfl
  · obtain ⟨p, dx, k, rfl, hp, kk⟩ := h
    refine ⟨_, pss_cons (ps_fld (pv 0) (pv 1) rfl) (pss_cons (ps_fld (pv 0) pe_int rfl) (pss_cons (ps_fld (pv 0) pe_dnewK rfl) (pss_one (ps_fld (pv 0) pe_int rfl)))), ?_⟩
    refine ⟨_, rfl, _, rfl, p, C, dx, _, rfl, hp, T.cl, T.nk, (by decide), ?_⟩
    refine ⟨_, rfl, p, C, dx, _, rfl, upd_same, T.cl, T.nn, (by show 1 < 1000; decide), ?_⟩
    intro d hd
    have ne : d ≠ p := fun e => by subst e; rw [upd_same] at hd; cases hd
    have hd0 : H d = none := by rw [upd_ne ne, upd_ne ne] at hd; exact hd
    refine ⟨_, rfl, p, C, dx, _, rfl, by rw [upd_ne (Ne.symm ne), upd_same], T.cl, T.nd, (by show 2 < 1000; decide), ?_⟩
    refine ⟨_, rfl, p, C, dx, _, rfl, upd_same, T.cl, T.nw, (by show 3 < 1000; decide), ?_⟩
    have pw : p ∈ [p] ∨ H p = none := .inl (by simp)
    refine kk _ d hd0 ⟨⟨dx, upd_same⟩, [], ?_, OM.Rel.nil⟩ (((((Chg.refl.upd pw).upd pw).upd (.inr hd0)).upd pw).upd pw)
    rw [upd_ne ne, upd_ne ne, upd_same]
    rfl
/-- stream.take(x) -/
noncomputable def spTake (C : Addr) : Sp := fun vs H Q _ => ∃ (s d : Addr) (k x : Nat) (S : Summary), vs = [.ref s, iv x] ∧ StreamAt C H s d k S ∧ S.counts.length ≤ 16 ∧
  ∀ (H' : Hp) (d' : Addr), StreamAt C H' s d' k (S.add k x) → (d' = d ∨ H d' = none) → Chg [s, d] H H' → Q .non H'
theorem scTake : FnScope ["self", "x"] ["self", "x"] (defScope sTake) := ⟨rfl, rfl, rfl, by decide +kernel, rfl, by decide +kernel, by decide +kernel⟩
theorem ok_take {f g C : Addr} {fd gd : FuncData} (F : Fun K "take" "Stream.take" sTake f fd) (T : TxtS K mg C) (G : Fun K "lowered" "lowered" sLowered g gd) (bG : Binds K gd ["counts", "by"] []) (mG : mg "lowered" = some (.ref g)) : FnOk P w K mg base CX0 2 f fd ["self", "x"] (spTake C) := by
  have GO : FnOk P w K mg base CX0 1 g gd ["counts", "by"] spLowered := ok_lowered G
  refine F.ok scTake (fun vs H Q E h => ?_) (fun cdv A outer s0 H vs Q E hr h => ?_)
  · obtain ⟨s, d, k, x, S, rfl, _⟩ := h
    rfl
  · obtain ⟨s, d, k, x, S, rfl, a, hlen, kk⟩ := h
    have hu := hu_of hr
    obtain ⟨⟨dx, hs⟩, ps, hd, r⟩ := a
    have ne : s ≠ d := ne_of hs hd (by intro q; cases q)
    have hpl : ps.length ≤ 16 := by rw [r.len]; exact hlen
    have sw : s ∈ [s, d] ∨ H s = none := .inl (by simp)
    have dw : d ∈ [s, d] ∨ H d = none := .inl (by simp)
    refine ⟨_, pss_cons (ps_if (pt_cmp (pc_din hu (pv 1) (pe_fld (pv 0) rfl)))
        (pss_one (ps_dput hu (pe_fld (pv 0) rfl) (pv 1) (pe_op on_add (pe_dget hu (pe_fld (pv 0) rfl) (pv 1) (fun _ _ => rfl)) pe_int) rfl))
        (pss_one (ps_if (pt_cmpR on_lt (pe_callB call_lenD rfl T.len PySem.boot_len (pa_cons (pe_fld (pv 0) rfl) pa_nil)) (pe_fld (pv 0) rfl) (nomark _))
          (pss_one (ps_dput hu (pe_fld (pv 0) rfl) (pv 1) pe_int rfl))
          (pss_cons (ps_fld (pv 0) (pe_call GO hr rfl mG G.kp bG .nil pass0 (pa_cons (pe_fld (pv 0) rfl) (pa_cons pe_int pa_nil))) rfl)
            (pss_one (ps_fld (pv 0) (pe_op on_add (pe_fld (pv 0) rfl) pe_int) rfl))))))
      (pss_one (ps_fld (pv 0) (pe_op on_add (pe_fld (pv 0) rfl) pe_int) rfl)), ?_⟩
    refine ⟨_, rfl, fld_v rfl hs T.cl T.nd (sf_d ..) ⟨d, _, rfl, dn_get hd x, _, rfl, ?_⟩⟩
    -- the last row: one reading more
    have fin : ∀ (H1 : Hp) (e : Addr) (wr : Nat) (qs cs : List (Nat × Nat)), H1 s = some (.ins C dx (sf k S.n e wr)) → H1 e = some (dn qs) → Rel qs cs → S.add k x = ⟨S.n + 1, wr, cs⟩ → (e = d ∨ H e = none) → Chg [s, d] H H1 →
        tSeq tNext (sFld K (tVar 0) (tOp (rN fun a b => iv (a + b)) (tFld K (tVar 0) "readings") (tC (.int 1))) "readings") { nx := fun _ H' => Q .non H', rt := Q } [some (.ref s), some (iv x)] H1 := by
      intro H1 e wr qs cs h1 h2 h3 h4 h5 h6
      have ne' : s ≠ e := ne_of h1 h2 (by intro q; cases q)
      refine ⟨_, rfl, s, C, dx, _, _, rfl, h1, T.cl, T.nn, sf_n .., _, 1, rfl, rfl, _, rfl, s, C, dx, _, rfl, h1, T.cl, T.nn, (by show 4 < 1000; decide), ?_⟩
      refine kk _ e ⟨⟨dx, ?_⟩, qs, by rw [upd_ne (Ne.symm ne')]; exact h2, by rw [h4]; exact h3⟩ h5 (h6.upd sw)
      rw [upd_same, h4]
      rfl
    refine ite2 (fun h => ?_) fun h => ?_
    · obtain ⟨c, e⟩ : ∃ c, getN ps x = some c := by
        cases e : getN ps x with
        | some c => exact ⟨c, rfl⟩
        | none => rw [e] at h; cases h
      have g : DGet H d (iv x) (some (iv c)) := by
        have q := dn_get hd x
        rw [e] at q
        exact q
      refine ⟨_, rfl, s, C, dx, _, _, rfl, hs, T.cl, T.nd, sf_d .., _, rfl, d, _, rfl, g, c, 1, rfl, rfl, _, rfl, s, C, dx, _, _, rfl, hs, T.cl, T.nd, sf_d .., _, rfl, d, _, rfl, dn_put hd x (c + 1) (small1000 (by omega)), ?_⟩
      have rp := r.put x 1
      rw [e] at rp
      refine fin _ d S.wrong _ _ (by rw [upd_ne ne]; exact hs) upd_same rp ?_ (.inl rfl) (Chg.refl.upd dw)
      unfold Km355.Summary.add
      rw [if_pos (.inl (by rw [OM.has_getN, ← r.get, e]; rfl))]
    · have e : getN ps x = none := by
        cases e : getN ps x with
        | none => rfl
        | some c => rw [e] at h; exact absurd rfl h
      refine fld_v rfl hs T.cl T.nd (sf_d ..) ⟨d, _, rfl, hd, fld_v rfl hs T.cl T.nk (sf_k ..) ⟨ps.length, k, by rw [dn_len], rfl, _, rfl, ?_⟩⟩
      refine ite2 (fun h => ?_) fun h => ?_
      · have h' : ps.length < k := of_decide_eq_true h
        refine ⟨_, rfl, s, C, dx, _, _, rfl, hs, T.cl, T.nd, sf_d .., _, rfl, d, _, rfl, dn_put hd x 1 (small1000 (by omega)), ?_⟩
        have rp := r.put x 1
        rw [e] at rp
        refine fin _ d S.wrong _ _ (by rw [upd_ne ne]; exact hs) upd_same rp ?_ (.inl rfl) (Chg.refl.upd dw)
        unfold Km355.Summary.add
        rw [if_pos (.inr (by rw [← r.len]; exact h'))]
      · have h' : ¬ ps.length < k := fun z => h (decide_eq_true z)
        refine fld_v rfl hs T.cl T.nd (sf_d ..) ⟨d, ps, 1, rfl, hd, r.keys, by omega, fun H1 e1 he h2 sm => ?_⟩
        have ne1 : s ≠ e1 := ne_of_none hs he
        refine ⟨_, rfl, s, C, dx, _, rfl, sm _ _ hs, T.cl, T.nd, (by show 4 < 1000; decide), ?_⟩
        refine ⟨_, rfl, s, C, dx, _, _, rfl, upd_same, T.cl, T.nw, sf_w .., _, 1, rfl, rfl, _, rfl, s, C, dx, _, rfl, upd_same, T.cl, T.nw, (by show 4 < 1000; decide), ?_⟩
        refine fin _ e1 (S.wrong + 1) _ _ upd_same (by rw [upd_ne (Ne.symm ne1), upd_ne (Ne.symm ne1)]; exact h2) (r.lower 1) ?_ (.inr he) (((Chg.of sm).upd sw).upd sw)
        unfold Km355.Summary.add
        rw [if_neg ?_]
        rintro (z | z)
        · rw [OM.has_getN, ← r.get, e] at z
          cases z
        · exact h' (by rw [r.len]; exact z)
/-- put_together(one, other) -/
noncomputable def spPut (C : Addr) : Sp := fun vs H Q _ => ∃ (s1 d1 s2 d2 : Addr) (k k2 : Nat) (S1 S2 : Summary), vs = [.ref s1, .ref s2] ∧ StreamAt C H s1 d1 k S1 ∧ StreamAt C H s2 d2 k2 S2 ∧ S1.counts.length ≤ 16 ∧ S2.counts.length ≤ 16 ∧
  ∀ (H' : Hp) (p e : Addr), H p = none → H e = none → StreamAt C H' p e k (Summary.with_ k S1 S2) → Same H H' → Q (.ref p) H'
theorem scPut : FnScope ["one", "other", "counts", "c", "both"] ["one", "other"] (defScope sPut) := ⟨rfl, rfl, rfl, by decide +kernel, rfl, by decide +kernel, by decide +kernel⟩
theorem ok_put {f g h i j C : Addr} {fd gd hd id jd : FuncData} (F : Fun K "put_together" "put_together" sPut f fd) (T : TxtS K mg C) (TD : TxtD mg)
    (G : Fun K "summed" "summed" sSummed g gd) (bG : Binds K gd ["one", "other"] []) (mG : mg "summed" = some (.ref g))
    (G2 : Fun K "greatest_but" "greatest_but" sGreat h hd) (bG2 : Binds K hd ["counts", "k"] []) (mG2 : mg "greatest_but" = some (.ref h))
    (G3 : Fun K "lowered" "lowered" sLowered i id) (bG3 : Binds K id ["counts", "by"] []) (mG3 : mg "lowered" = some (.ref i))
    (M : Mk K C j) (G4 : Fun K "__init__" "Stream.__init__" sSInit j jd) (bG4 : Binds K jd ["self", "k"] []) : FnOk P w K mg base CX0 3 f fd ["one", "other"] (spPut C) := by
  have GO : FnOk P w K mg base CX0 1 g gd ["one", "other"] spSummed := ok_summed G TD
  have GO2 : FnOk P w K mg base CX0 1 h hd ["counts", "k"] spGreat := ok_great G2 TD
  have GO3 : FnOk P w K mg base CX0 1 i id ["counts", "by"] spLowered := ok_lowered G3
  have GO4 : FnOk P w K mg base CX0 1 j jd ["self", "k"] (spSInit C) := ok_sInit G4 T
  refine F.ok scPut (fun vs H Q E h => ?_) (fun cdv A outer s0 H vs Q E hr h => ?_)
  · obtain ⟨s1, d1, s2, d2, k, k2, S1, S2, rfl, _⟩ := h
    rfl
  · obtain ⟨s1, d1, s2, d2, k, k2, S1, S2, rfl, a1, a2, hl1, hl2, kk⟩ := h
    have hr1 : Room 1 _ := hr.mono (by decide)
    obtain ⟨⟨dx1, hs1⟩, ps, hd1, r1⟩ := a1
    obtain ⟨⟨dx2, hs2⟩, qs, hd2, r2⟩ := a2
    have nd := scPut.nd
    have hp1 : ps.length ≤ 16 := by rw [r1.len]; exact hl1
    have hp2 : qs.length ≤ 16 := by rw [r2.len]; exact hl2
    refine ⟨_, pss_cons (ps_set (i := 2) nd rfl (Or.inl rfl) (pe_call GO hr1 rfl mG G.kp bG .nil pass0 (pa_cons (pe_fld (pv 0) rfl) (pa_cons (pe_fld (pv 1) rfl) pa_nil))))
      (pss_cons (ps_set (i := 3) nd rfl (Or.inl rfl) (pe_call GO2 hr1 rfl mG2 G2.kp bG2 .nil pass0 (pa_cons (pv 2) (pa_cons (pe_fld (pv 0) rfl) pa_nil))))
      (pss_cons (ps_set (i := 4) nd rfl (Or.inl rfl) (pe_make M GO4 hr rfl T.mgC bG4 .nil pass0 (pa_cons (pe_fld (pv 0) rfl) pa_nil)))
      (pss_cons (ps_fld (pv 4) (pe_op on_add (pe_fld (pv 0) rfl) (pe_fld (pv 1) rfl)) rfl)
      (pss_cons (ps_fld (pv 4) (pe_call GO3 hr1 rfl mG3 G3.kp bG3 .nil pass0 (pa_cons (pv 2) (pa_cons (pv 3) pa_nil))) rfl)
      (pss_cons (ps_fld (pv 4) (pe_op on_add (pe_op on_add (pe_fld (pv 0) rfl) (pe_fld (pv 1) rfl)) (pv 3)) rfl)
      (pss_one (ps_ret (pv 4)))))))), ?_⟩
    -- counts
    refine ⟨_, rfl, s1, C, dx1, _, _, rfl, hs1, T.cl, T.nd, sf_d .., _, rfl, s2, C, dx2, _, _, rfl, hs2, T.cl, T.nd, sf_d .., d1, d2, ps, qs, rfl, hd1, hd2, r2.keys, by omega, fun H1 e he h1 m1 => ?_⟩
    have rm := r1.merge r2
    have hlm := adds_len qs ps
    generalize qs.foldl OM.addN ps = ms at rm hlm h1
    -- c
    refine ⟨_, rfl, fld_v rfl (m1 _ _ hs1) T.cl T.nk (sf_k ..) ⟨e, ms, k, rfl, h1, fun H2 m2 => ?_⟩⟩
    have ec : (Km355.down (ms.map Prod.snd)).getD k 0 = (Km355.down ((S2.counts.foldl (fun s y => bump y.1 y.2 s) S1.counts).map Prod.snd)).getD k 0 := by rw [OM.down_congr (rm.perm.map Prod.snd)]
    generalize hc : (Km355.down (ms.map Prod.snd)).getD k 0 = c at ec
    have m12 := m1.trans m2
    -- both
    refine fld_v rfl (m12 _ _ hs1) T.cl T.nk (sf_k ..) (fun p px hp hpx npx => ?_)
    have hp0 : H p = none := m12.free hp
    have hpx0 : H px = none := m12.free hpx
    refine ⟨p, px, k, rfl, upd_same, fun H3 d3 hd3 a3 k3 => ⟨rfl, ?_⟩⟩
    have m3 : Same H2 H3 := fun b o hb => by
      refine k3.keep b o ?_ (by simpa using ne_of_none hb hp)
      rw [upd_ne (ne_of_none hb hp), upd_ne (ne_of_none hb hpx)]
      exact hb
    have m13 := m12.trans m3
    obtain ⟨⟨dx3, hp3⟩, _⟩ := a3
    have hp3 : H3 p = some (.ins C dx3 (sf k 0 d3 0)) := hp3
    -- readings
    refine ⟨_, rfl, s1, C, dx1, _, _, rfl, m13 _ _ hs1, T.cl, T.nn, sf_n .., _, rfl, s2, C, dx2, _, _, rfl, m13 _ _ hs2, T.cl, T.nn, sf_n .., _, _, rfl, rfl, _, rfl, p, C, dx3, _, rfl, hp3, T.cl, T.nn, (by show 4 < 1000; decide), ?_⟩
    rw [sf_put_n]
    have keepP : ∀ (H4 : Hp) (o : HO), Same H H4 → Same H (upd H4 p o) := fun H4 o m b u hb => by
      rw [upd_ne (ne_of_none hb hp0)]
      exact m b u hb
    have nep : e ≠ p := ne_of_none (m2 _ _ h1) hp
    have he4 : upd H3 p (.ins C dx3 (sf k (S1.n + S2.n) d3 0)) e = some (dn ms) := by rw [upd_ne nep]; exact m3 _ _ (m2 _ _ h1)
    have m4 := keepP H3 (.ins C dx3 (sf k (S1.n + S2.n) d3 0)) m13
    have hp4 : upd H3 p (.ins C dx3 (sf k (S1.n + S2.n) d3 0)) p = some (.ins C dx3 (sf k (S1.n + S2.n) d3 0)) := upd_same
    generalize upd H3 p (.ins C dx3 (sf k (S1.n + S2.n) d3 0)) = H4 at he4 m4 hp4 ⊢
    -- counts
    refine ⟨_, rfl, _, rfl, e, ms, c, rfl, he4, rm.keys, by omega, fun H5 q hq h5 m5 => ?_⟩
    refine ⟨_, rfl, p, C, dx3, _, rfl, m5 _ _ hp4, T.cl, T.nd, (by show 4 < 1000; decide), ?_⟩
    rw [sf_put_d]
    have m6 := keepP H5 (.ins C dx3 (sf k (S1.n + S2.n) q 0)) (m4.trans m5)
    have nqp : q ≠ p := fun z => by subst z; rw [hp4] at hq; cases hq
    have hq6 : upd H5 p (.ins C dx3 (sf k (S1.n + S2.n) q 0)) q = some (dn (lower c ms)) := by rw [upd_ne nqp]; exact h5
    have hp6 : upd H5 p (.ins C dx3 (sf k (S1.n + S2.n) q 0)) p = some (.ins C dx3 (sf k (S1.n + S2.n) q 0)) := upd_same
    generalize upd H5 p (.ins C dx3 (sf k (S1.n + S2.n) q 0)) = H6 at m6 hq6 hp6 ⊢
    -- wrong
    refine ⟨_, rfl, s1, C, dx1, _, _, rfl, m6 _ _ hs1, T.cl, T.nw, sf_w .., _, rfl, s2, C, dx2, _, _, rfl, m6 _ _ hs2, T.cl, T.nw, sf_w .., _, _, rfl, rfl, _, rfl, _, _, rfl, rfl, _, rfl, p, C, dx3, _, rfl, hp6, T.cl, T.nw, (by show 4 < 1000; decide), ?_⟩
    rw [sf_put_w]
    refine ⟨_, rfl, kk _ p q hp0 (m4.free hq) ⟨⟨dx3, ?_⟩, lower c ms, by rw [upd_ne nqp]; exact hq6, ?_⟩ (keepP H6 _ m6)⟩
    · rw [upd_same]
      show _ = some (HO.ins C dx3 (sf k (S1.n + S2.n) q (S1.wrong + S2.wrong + (Km355.down ((S2.counts.foldl (fun s y => bump y.1 y.2 s) S1.counts).map Prod.snd)).getD k 0)))
      rw [← ec]
    · show Rel (lower c ms) (lower ((Km355.down ((S2.counts.foldl (fun s y => bump y.1 y.2 s) S1.counts).map Prod.snd)).getD k 0) (S2.counts.foldl (fun s y => bump y.1 y.2 s) S1.counts))
      rw [← ec]
      exact rm.lower c
end
end Of

end
section
set_option Elab.async false
set_option linter.all false
set_option maxRecDepth 100000
set_option maxHeartbeats 2000000
namespace Of
open PySem PySem.Spec PyProof.Rows L2
open OM (getN putN Rel)
open Km355 (lower Summary bump le)
@[reducible] noncomputable def sMsg : Stmt := top 23
/-- an answer in a list -/
@[reducible] noncomputable def toldV (a : Km355.Ans) : List V := (Km355Neutral.told a).map V.int
theorem toldV_nats (v : Nat) (l : List Nat) : toldV { value := (v : Int), out := l } = iv v :: l.map iv := by
  show V.int (v : Int) :: ((l.map fun x : Nat => (x : Int)).map V.int) = _
  rw [List.map_map]
  rfl
theorem sorted_keys {ps cs : List (Nat × Nat)} {ns : List Int} (r : Rel ps cs) (p : ns.Perm (ps.map fun y => (y.1 : Int))) (s : ns.Pairwise (· ≤ ·)) : ns = cs.map fun y => (y.1 : Int) := by
  refine List.Perm.eq_of_pairwise (le := fun a b : Int => a ≤ b) (fun a b _ _ h1 h2 => by omega) s ?_ (p.trans (r.perm.map _))
  rw [List.pairwise_map]
  exact r.up.imp fun h => by omega
section
variable {P : Program} {w : World} {K : PySem.W.Frag} {mg : Str → Option Value} {base : Heap}
/-- stream.told(x) -/
noncomputable def spTold (C : Addr) : Sp := fun vs H Q _ => ∃ (s d : Addr) (k x : Nat) (S : Summary), vs = [.ref s, iv x] ∧ StreamAt C H s d k S ∧
  ∀ p, H p = none → Q (.ref p) (upd H p (.lst (toldV (S.tells x))))
theorem scTold : FnScope ["self", "x", "found", "low"] ["self", "x"] (defScope sTold) := ⟨rfl, rfl, rfl, by decide +kernel, rfl, by decide +kernel, by decide +kernel⟩
theorem ok_told {f C : Addr} {fd : FuncData} (F : Fun K "told" "Stream.told" sTold f fd) (T : TxtS K mg C) : FnOk P w K mg base CX0 1 f fd ["self", "x"] (spTold C) := by
  refine F.ok scTold (fun vs H Q E h => ?_) (fun cdv A outer s0 H vs Q E hr h => ?_)
  · obtain ⟨s, d, k, x, S, rfl, _⟩ := h
    rfl
  · obtain ⟨s, d, k, x, S, rfl, ⟨⟨dx, hs⟩, ps, hd, r⟩, kk⟩ := h
    have hu := hu_of hr
    refine ⟨_, pss_cons (ps_set (i := 2) scTold.nd rfl (Or.inl rfl) (pe_ifExp (pt_cmp (pc_din hu (pv 1) (pe_fld (pv 0) rfl))) pe_int pe_int))
      (pss_cons (ps_set (i := 3) scTold.nd rfl (Or.inl rfl) (pe_dget2 hu (pe_fld (pv 0) rfl) (pv 1) pe_int ⟨rfl, rfl, rfl, rfl⟩))
      (pss_one (ps_ret (pe_lst (pa_cons (pv 2) (pa_cons (pv 3) (pa_cons (pe_op on_add (pv 3) (pe_fld (pv 0) rfl)) (pa_cons (pe_fld (pv 0) rfl) pa_nil)))))))), ?_⟩
    have fin : ∀ v : Nat, (if Km355.has S.counts x = true then 1 else 0) = v → tSeq (tAsg (tDGet2 (tFld K (tVar 0) "counts") (tVar 1) (tC (.int 0))) (gName 3)) (tRet (tLst (tCons (tVar 2) (tCons (tVar 3) (tCons (tOp (rN fun a b => iv (a + b)) (tVar 3) (tFld K (tVar 0) "wrong")) (tCons (tFld K (tVar 0) "readings") tNil)))))) { nx := fun _ H' => Q .non H', rt := Q } [some (.ref s), some (iv x), some (iv v), none] H := by
      intro v hv
      refine ⟨_, rfl, s, C, dx, _, _, rfl, hs, T.cl, T.nd, sf_d .., d, rfl, .inl ⟨_, .inl hd⟩, _, rfl, _, dn_get hd x, ?_⟩
      have e : ((getN ps x).map iv).getD (V.int 0) = iv (S.count x) := by
        rw [OM.count_getN, r.get]
        cases getN S.counts x with
        | none => rfl
        | some c => rfl
      rw [e]
      refine ⟨_, rfl, _, rfl, _, rfl, fld_v rfl hs T.cl T.nw (sf_w ..) ⟨_, _, rfl, rfl, fld_v rfl hs T.cl T.nn (sf_n ..) ⟨(by show 4 ≤ sizeLine; decide), fun p hp => ?_⟩⟩⟩
      have e2 : S.tells x = { value := (v : Int), out := [S.count x, S.count x + S.wrong, S.n] } := by
        unfold Km355.Summary.tells
        rw [← hv]
        split <;> rfl
      have q := kk p hp
      rw [e2, toldV_nats] at q
      exact q
    refine ⟨_, rfl, fld_v rfl hs T.cl T.nd (sf_d ..) ⟨d, _, rfl, dn_get hd x, _, rfl, ?_⟩⟩
    have eh : ((getN ps x).map iv).isSome = Km355.has S.counts x := by rw [Option.isSome_map, OM.has_getN, ← r.get]
    rw [eh]
    refine ite2 (fun e => ?_) fun e => ?_
    · exact fin 1 (if_pos e)
    · exact fin 0 (if_neg e)
/-- stream.oftener(p) -/
noncomputable def spOften (C : Addr) : Sp := fun vs H Q _ => ∃ (s d : Addr) (k p : Nat) (S : Summary), vs = [.ref s, iv p] ∧ StreamAt C H s d k S ∧ p < 2 ^ 32 ∧ S.counts.length ≤ 16 ∧
  ∀ (H' : Hp) (q : Addr), H q = none → H' q = some (.lst (((S.counts.filter fun y => decide (S.n < p * y.2)).map Prod.fst).map iv)) → Same H H' → Q (.ref q) H'
theorem scOften : FnScope ["self", "p", "x"] ["self", "p"] (defScope sOften) := ⟨rfl, rfl, rfl, by decide +kernel, rfl, by decide +kernel, by decide +kernel⟩
theorem ok_often {f C : Addr} {fd : FuncData} (F : Fun K "oftener" "Stream.oftener" sOften f fd) (T : TxtS K mg C) (TD : TxtD mg) : FnOk P w K mg base CX0 1 f fd ["self", "p"] (spOften C) := by
  refine F.ok scOften (fun vs H Q E h => ?_) (fun cdv A outer s0 H vs Q E hr h => ?_)
  · obtain ⟨s, d, k, p, S, rfl, _⟩ := h
    rfl
  · obtain ⟨s, d, k, p, S, rfl, ⟨⟨dx, hs⟩, ps, hd, r⟩, hp32, hlen, kk⟩ := h
    have hu := hu_of hr
    have nd := scOften.nd
    refine ⟨_, pss_one (ps_ret (pe_lc (own := [("x", 2)]) rfl nd (pi_list (pe_callB (cr_sortedD rfl) rfl TD.sorted boot_sorted (pa_cons (pe_fld (pv 0) rfl) pa_nil)))
      (blkOk_by (by show blkC ["self", "p", "x"] (defScope sOften) _ _ = true; decide +kernel)) (fun _ _ _ _ _ => pg_name (i := 2) nd rfl (Or.inl rfl))
      (fun _ _ _ _ _ => pts_one (pt_cmpR on_gt (pe_op on_mul (pe_dget hu (pe_fldK (K := K) rfl (pv 0) rfl) (pv 2) (fun _ _ => rfl)) (pv 1)) (pe_fldK (K := K) rfl (pv 0) rfl) (nomark _))) (fun _ _ _ _ _ => pv 2))), ?_⟩
    refine fld_v rfl hs T.cl T.nd (sf_d ..) ⟨d, _, ps.map (fun y => (y.1 : Int)), rfl, .inl hd, by rw [List.map_map, List.map_map]; rfl, fun ns q hpm hso hq => ?_⟩
    have en := sorted_keys r hpm hso
    subst en
    have m0 := same_new hq (.lst ((S.counts.map fun y => (y.1 : Int)).map V.int))
    have hq0 : (upd H q (.lst ((S.counts.map fun y => (y.1 : Int)).map V.int))) q = some (.lst (S.counts.map fun y => iv y.1)) := by
      rw [upd_same, List.map_map]
      rfl
    generalize upd H q (.lst ((S.counts.map fun y => (y.1 : Int)).map V.int)) = H0 at m0 hq0 ⊢
    refine ⟨q, rfl, ⟨_, SqL.of hq0⟩, fun D hD => ?_⟩
    have m1 : ∀ o, Same H0 (upd H0 D o) := fun o => same_new hD o
    refine lc_list (K := K) (a := q) (xs := S.counts.map fun y => iv y.1) (fun i H' => H' = upd H0 D (.lst ((((S.counts.take i).filter fun y => decide (S.n < p * y.2)).map Prod.fst).map iv))) rfl (fun i H' _ e => by rw [e]; exact SqL.of (m1 _ _ _ hq0)) ?_ ?_
    · rintro i y H' hi rfl
      obtain ⟨z, hz, rfl⟩ := at_map hi
      have hi' : i < S.counts.length := (List.getElem?_eq_some_iff.mp hz).1
      have gd : DGet (upd H0 D (.lst ((((S.counts.take i).filter fun y => decide (S.n < p * y.2)).map Prod.fst).map iv))) d (iv z.1) (some (iv z.2)) := by
        have q := dn_get (m1 (.lst ((((S.counts.take i).filter fun y => decide (S.n < p * y.2)).map Prod.fst).map iv)) _ _ (m0 _ _ hd)) z.1
        rw [r.get, get_at r.up.keys hz] at q
        exact q
      have hs1 := m1 (.lst ((((S.counts.take i).filter fun y => decide (S.n < p * y.2)).map Prod.fst).map iv)) _ _ (m0 _ _ hs)
      have e1 : (((S.counts.take (i + 1)).filter fun y => decide (S.n < p * y.2)).map Prod.fst).map iv = (((S.counts.take i).filter fun y => decide (S.n < p * y.2)).map Prod.fst).map iv ++ (if S.n < p * z.2 then [iv z.1] else []) := by
        rw [take_snoc hz, List.filter_append, List.map_append, List.map_append]
        by_cases h : S.n < p * z.2
        · simp [h]
        · simp [h]
      refine ⟨rfl, _, rfl, s, C, dx, _, _, rfl, hs1, T.cl, T.nd, sf_d .., _, rfl, d, _, rfl, gd, _, rfl, z.2, p, rfl, rfl, .inr (by omega), _, rfl, s, C, dx, _, _, rfl, hs1, T.cl, T.nn, sf_n .., z.2 * p, S.n, rfl, rfl, _, rfl, ?_⟩
      rw [e1]
      refine ite2 (fun h => ?_) fun h => ?_
      · have h' : S.n < p * z.2 := by rw [Nat.mul_comm]; exact of_decide_eq_true h
        refine ⟨_, rfl, _, upd_same, ?_, ?_⟩
        · rw [List.length_map, List.length_map]
          exact small1000 (Nat.le_trans (List.length_filter_le _ _) (by rw [List.length_take]; omega))
        · rw [upd_upd, if_pos h']
      · have h' : ¬ S.n < p * z.2 := by rw [Nat.mul_comm]; exact fun z => h (decide_eq_true z)
        rw [if_neg h', List.append_nil]
    · rintro H' rfl
      rw [List.length_map, List.take_length]
      exact kk _ D (m0.free hD) upd_same (m0.trans (m1 _))
end
end Of

end
section
set_option Elab.async false
set_option linter.all false
set_option maxRecDepth 100000
set_option maxHeartbeats 2000000
namespace Of
open PySem PySem.Spec PyProof.Rows L2
open OM (getN putN Rel)
open Km355 (lower Summary bump le entry Message)
/-! ### a list of naturals that grows at m -/
structure Grow (H : Hp) (m : Addr) (H' : Hp) (bs : List Nat) : Prop where
  same : Same H H'
  free : H m = none
  at_ : H' m = some (.lst (bs.map iv))
theorem Grow.new {H : Hp} {m : Addr} (h : H m = none) (bs : List Nat) : Grow H m (upd H m (.lst (bs.map iv))) bs := ⟨fun b o e => by rw [upd_ne (ne_of_none e h)]; exact e, h, upd_same⟩
theorem Grow.put {H H' : Hp} {m : Addr} {bs : List Nat} (g : Grow H m H' bs) (cs : List Nat) : Grow H m (upd H' m (.lst (cs.map iv))) cs := ⟨fun b o e => by rw [upd_ne (ne_of_none e g.free)]; exact g.same b o e, g.free, upd_same⟩
theorem Grow.tmp {H H' : Hp} {m p : Addr} {bs : List Nat} (g : Grow H m H' bs) (hp : H' p = none) (o : HO) : Grow H m (upd H' p o) bs :=
  ⟨fun b u e => by rw [upd_ne (ne_of_none (g.same b u e) hp)]; exact g.same b u e, g.free, by rw [upd_ne (ne_of_none g.at_ hp)]; exact g.at_⟩
theorem Grow.ext {H H' : Hp} {m p : Addr} {bs : List Nat} (g : Grow H m H' bs) (hp : H' p = none) (cs : List Nat) : Grow H m (upd (upd H' p (.lst (cs.map iv))) m (.lst (bs.map iv ++ cs.map iv))) (bs ++ cs) := by
  rw [← List.map_append]
  exact (g.tmp hp _).put (bs ++ cs)
theorem len2 {bs cs : List Nat} (h : bs.length + cs.length ≤ 1000) : (bs.map iv).length + (cs.map iv).length ≤ sizeLine := by
  rw [List.length_map, List.length_map]
  exact Nat.le_of_lt (small1000 h)
theorem rep_zero (n : Nat) : (List.replicate n [V.int 0]).flatten = (List.replicate n 0).map iv := by
  induction n with
  | zero => rfl
  | succ n ih =>
    rw [List.replicate_succ, List.flatten_cons, ih, List.replicate_succ, List.map_cons]
    rfl
structure TxtM (mg : Str → Option Value) : Prop where
  form : ∃ t, mg "FORM" = some (.int 1 t)
  place : ∃ t, mg "CHECK_PLACE" = some (.int 212 t)
  len : mg "len" = none
  sorted : mg "sorted" = none
section
variable {P : Program} {w : World} {K : PySem.W.Frag} {mg : Str → Option Value} {base : Heap}
/-- message_of(me, stream) -/
noncomputable def spMsg (C : Addr) : Sp := fun vs H Q _ => ∃ (me : Nat) (s d : Addr) (k : Nat) (S : Summary), vs = [iv me, .ref s] ∧ StreamAt C H s d k S ∧ S.counts.length ≤ 16 ∧
  ∀ (H' : Hp) (p : Addr), Grow H p H' ((⟨me, k, S⟩ : Message).bytes) → Q (.ref p) H'
/-- message.extend(low_first(e, n)), message in slot 2 -/
theorem ext_low {σ : L2.St} {H0 H : Hp} {m : Addr} {bs : List Nat} {te : TE} {x n : Nat} {D : Ends} (e : σ[2]? = some (some (.ref m))) (g : Grow H0 m H bs) (ht : ∀ Q : VK, Q (iv x) H → te σ H Q) (hn : n ≤ 8) (hl : bs.length + n ≤ 1000)
    (k : ∀ H', Grow H0 m H' (bs ++ le n x) → (∀ b o, H b = some o → b ≠ m → H' b = some o) → D.nx σ H') : tDrop (tBM K "list" rExtend (tVar 2) (tCons (tCall spLow [] E0 (tCons te (tCons (tC (iv n)) tNil))) tNil)) D σ H := by
  refine ⟨_, e, .inl ⟨rfl, _, SqL.of g.at_⟩, ht _ ⟨x, n, rfl, hn, fun p hp => ⟨m, p, _, _, rfl, rfl, (g.tmp hp _).at_, upd_same, len2 (by rw [OM.le_len]; exact hl), ?_⟩⟩⟩
  exact k _ (g.ext hp (le n x)) fun b o hb nb => by rw [upd_ne nb, upd_ne (ne_of_none hb hp)]; exact hb
theorem scMsg : FnScope ["me", "stream", "message", "x", "check"] ["me", "stream"] (defScope sMsg) := ⟨rfl, rfl, rfl, by decide +kernel, rfl, by decide +kernel, by decide +kernel⟩
theorem ok_msg {f g c C : Addr} {fd gd cd : FuncData} (F : Fun K "message_of" "message_of" sMsg f fd) (T : TxtS K mg C) (TM : TxtM mg) (TC : TxtC mg) (G : Fun K "low_first" "low_first" sLow g gd) (bG : Binds K gd ["number", "size"] []) (mG : mg "low_first" = some (.ref g))
    (D : Fun K "crc32c" "crc32c" sCrc c cd) (bD : Binds K cd ["octets"] []) (mD : mg "crc32c" = some (.ref c)) : FnOk P w K mg base CX0 2 f fd ["me", "stream"] (spMsg C) := by
  have GO : FnOk P w K mg base CX0 1 g gd ["number", "size"] spLow := ok_low G TC
  have DO : FnOk P w K mg base CX0 1 c cd ["octets"] (spCrc K) := ok_crc D TC
  refine F.ok scMsg (fun vs H Q E h => ?_) (fun cdv A outer s0 H vs Q E hr h => ?_)
  · obtain ⟨me, s, d, k, S, rfl, _⟩ := h
    rfl
  · obtain ⟨me, s, d, k, S, rfl, ⟨⟨dx, hs⟩, ps, hd, r⟩, hlen, kk⟩ := h
    have hu := hu_of hr
    obtain ⟨t1, h1⟩ := TM.form
    obtain ⟨t2, h2⟩ := TM.place
    have nd := scMsg.nd
    refine ⟨_, pss_cons (ps_set (i := 2) nd rfl (Or.inl rfl) (pe_lst (pa_cons (pe_glob (v := iv 1) rfl h1 ⟨t1, rfl⟩) (pa_cons (pv 0) (pa_cons (pe_fld (pv 1) rfl) (pa_cons (pe_callB call_lenD rfl TM.len PySem.boot_len (pa_cons (pe_fld (pv 1) rfl) pa_nil)) pa_nil))))))
      (pss_cons (ps_expr (pe_bm PySem.F.plainAttrs_list PySem.F.slot_list_extend PySem.F.type_list_extend mt_extend (pv 2) (pa_cons (pe_call GO hr rfl mG G.kp bG .nil pass0 (pa_cons (pe_fld (pv 1) rfl) (pa_cons pe_int pa_nil))) pa_nil)))
      (pss_cons (ps_expr (pe_bm PySem.F.plainAttrs_list PySem.F.slot_list_extend PySem.F.type_list_extend mt_extend (pv 2) (pa_cons (pe_call GO hr rfl mG G.kp bG .nil pass0 (pa_cons (pe_fld (pv 1) rfl) (pa_cons pe_int pa_nil))) pa_nil)))
      (pss_cons (ps_for PassesOwn.never rfl (pi_list (pe_callB (cr_sortedD rfl) rfl TM.sorted boot_sorted (pa_cons (pe_fld (pv 1) rfl) pa_nil))) (pg_name (i := 3) nd rfl (Or.inl rfl))
        (pss_cons (ps_expr (pe_bm PySem.F.plainAttrs_list PySem.F.slot_list_extend PySem.F.type_list_extend mt_extend (pv 2) (pa_cons (pe_call GO hr rfl mG G.kp bG .nil pass0 (pa_cons (pv 3) (pa_cons pe_int pa_nil))) pa_nil)))
        (pss_one (ps_expr (pe_bm PySem.F.plainAttrs_list PySem.F.slot_list_extend PySem.F.type_list_extend mt_extend (pv 2) (pa_cons (pe_call GO hr rfl mG G.kp bG .nil pass0 (pa_cons (pe_dget hu (pe_fld (pv 1) rfl) (pv 3) (fun _ _ => rfl)) (pa_cons pe_int pa_nil))) pa_nil))))))
      (pss_cons (ps_expr (pe_bm PySem.F.plainAttrs_list PySem.F.slot_list_extend PySem.F.type_list_extend mt_extend (pv 2) (pa_cons (pe_op op_rep (pe_lst (pa_cons pe_int pa_nil)) (pe_op on_sub (pe_glob (v := iv 212) rfl h2 ⟨t2, rfl⟩) (pe_callB call_len_seq rfl TM.len PySem.boot_len (pa_cons (pv 2) pa_nil)))) pa_nil)))
      (pss_cons (ps_set (i := 4) nd rfl (Or.inl rfl) (pe_call DO hr rfl mD D.kp bD .nil pass0 (pa_cons (pv 2) pa_nil)))
      (pss_cons (ps_expr (pe_bm PySem.F.plainAttrs_list PySem.F.slot_list_extend PySem.F.type_list_extend mt_extend (pv 2) (pa_cons (pe_call GO hr rfl mG G.kp bG .nil pass0 (pa_cons (pv 4) (pa_cons pe_int pa_nil))) pa_nil)))
      (pss_one (ps_ret (pv 2))))))))), ?_⟩
    refine ⟨_, rfl, fld_v rfl hs T.cl T.nk (sf_k ..) (fld_v rfl hs T.cl T.nd (sf_d ..) ⟨d, _, rfl, hd, (by show 4 ≤ sizeLine; decide), fun m hm => ?_⟩)⟩
    have e0 : ([iv 1, iv me, iv k, V.int ((ps.map en).length : Nat)] : List V) = ([1, me, k, S.counts.length] : List Nat).map iv := by
      rw [dn_len, r.len]
      rfl
    rw [e0]
    have g0 := Grow.new hm [1, me, k, S.counts.length]
    generalize upd H m (.lst (([1, me, k, S.counts.length] : List Nat).map iv)) = H0 at g0
    -- readings, wrong
    refine ext_low (n := 8) (x := S.n) rfl g0 (fun Q q => (fld_v rfl (g0.same _ _ hs) T.cl T.nn (sf_n ..) q)) (by decide) (by show 4 + 8 ≤ 1000; decide) fun H1 g1 _ => ?_
    have l1 : ([1, me, k, S.counts.length] ++ le 8 S.n).length = 12 := by rw [List.length_append, OM.le_len]; rfl
    refine ext_low (n := 8) (x := S.wrong) rfl g1 (fun Q q => (fld_v rfl (g1.same _ _ hs) T.cl T.nw (sf_w ..) q)) (by decide) (by rw [l1]; decide) fun H2 g2 _ => ?_
    have l2 : ([1, me, k, S.counts.length] ++ le 8 S.n ++ le 8 S.wrong).length = 20 := by rw [List.length_append, l1, OM.le_len]
    -- the counters, rising
    refine fld_v rfl (g2.same _ _ hs) T.cl T.nd (sf_d ..) ⟨d, _, ps.map (fun y => (y.1 : Int)), rfl, .inl (g2.same _ _ hd), by rw [List.map_map, List.map_map]; rfl, fun ns q hpm hso hq => ?_⟩
    have en := sorted_keys r hpm hso
    subst en
    have g3 := g2.tmp hq (.lst ((S.counts.map fun y => (y.1 : Int)).map V.int))
    have hq3 : (upd H2 q (.lst ((S.counts.map fun y => (y.1 : Int)).map V.int))) q = some (.lst (S.counts.map fun y => iv y.1)) := by
      rw [upd_same, List.map_map]
      rfl
    generalize upd H2 q (.lst ((S.counts.map fun y => (y.1 : Int)).map V.int)) = H3 at g3 hq3
    have hqm : q ≠ m := fun e => by
      subst e
      rw [g2.at_] at hq
      cases hq
    refine ⟨q, rfl, ⟨_, SqL.of hq3⟩, for_list (K := K) (a := q) (xs := S.counts.map fun y => iv y.1) (fun i σ H' => (∃ v : Option V, σ = [some (iv me), some (.ref s), some (.ref m), v, none]) ∧ H' q = some (.lst (S.counts.map fun y => iv y.1)) ∧
      Grow H m H' ([1, me, k, S.counts.length] ++ le 8 S.n ++ le 8 S.wrong ++ (S.counts.take i).flatMap entry)) ⟨⟨none, rfl⟩, hq3, by rw [List.take_zero, List.flatMap_nil, List.append_nil]; exact g3⟩ (fun i σ H' _ h => SqL.of h.2.1) ?_ ?_⟩
    · rintro i y σ H' hi ⟨⟨v, rfl⟩, hq', g⟩
      obtain ⟨z, hz, rfl⟩ := at_map hi
      have hi' : i < S.counts.length := (List.getElem?_eq_some_iff.mp hz).1
      have ht : (S.counts.take i).length = i := by rw [List.length_take]; omega
      have lB : ([1, me, k, S.counts.length] ++ le 8 S.n ++ le 8 S.wrong ++ (S.counts.take i).flatMap entry).length + 12 ≤ 1000 := by rw [List.length_append, l2, OM.entries_len, ht]; omega
      refine ext_low (n := 4) (x := z.1) rfl g (fun Q q => ⟨_, rfl, q⟩) (by decide) (Nat.le_trans (Nat.add_le_add_left (by decide) _) lB) fun H4 g4 k4 => ?_
      have gd : DGet H4 d (iv z.1) (some (iv z.2)) := by
        have q := dn_get (g4.same _ _ hd) z.1
        rw [r.get, get_at r.up.keys hz] at q
        exact q
      refine ext_low (n := 8) (x := z.2) rfl g4 (fun Q q => (fld_v rfl (g4.same _ _ hs) T.cl T.nd (sf_d ..) ⟨_, rfl, d, _, rfl, gd, q⟩)) (by decide) (by rw [List.length_append, OM.le_len, Nat.add_assoc]; exact lB) fun H5 g5 k5 => ?_
      refine ⟨⟨_, rfl⟩, k5 _ _ (k4 _ _ hq' hqm) hqm, ?_⟩
      have e5 : [1, me, k, S.counts.length] ++ le 8 S.n ++ le 8 S.wrong ++ (S.counts.take (i + 1)).flatMap entry = [1, me, k, S.counts.length] ++ le 8 S.n ++ le 8 S.wrong ++ (S.counts.take i).flatMap entry ++ le 4 z.1 ++ le 8 z.2 := by
        rw [take_snoc hz, List.flatMap_append, List.flatMap_singleton]
        show _ ++ (_ ++ (le 4 z.1 ++ le 8 z.2)) = _
        simp only [List.append_assoc]
      rw [e5]
      exact g5
    · rintro σ H' ⟨⟨v, rfl⟩, hq', g⟩
      rw [List.length_map, List.take_length] at g
      generalize hB : [1, me, k, S.counts.length] ++ le 8 S.n ++ le 8 S.wrong ++ S.counts.flatMap entry = B at g
      have hBl : B.length = 20 + 12 * S.counts.length := by rw [← hB, List.length_append, l2, OM.entries_len]
      -- zeros
      refine ⟨_, rfl, .inl ⟨rfl, _, SqL.of g.at_⟩, (by show 1 ≤ sizeLine; decide), fun z hz => ?_⟩
      have g6 := g.tmp hz (.lst [V.int 0])
      have hz6 : (upd H' z (.lst [V.int 0])) z = some (.lst [V.int 0]) := upd_same
      generalize upd H' z (.lst [V.int 0]) = H6 at g6 hz6 ⊢
      have ht : ((212 - B.length : Nat) : Int).toNat = 212 - B.length := Int.toNat_natCast _
      refine ⟨_, rfl, m, _, rfl, .inl (SqL.of g6.at_), 212, B.length, rfl, by rw [List.length_map], by omega, z, _, _, rfl, rfl, hz6, by omega, by omega, ?_, fun p hp => ?_⟩
      · rw [ht]
        show 1 * _ ≤ sizeLine
        exact Nat.le_of_lt (small1000 (by omega))
      · rw [ht, rep_zero]
        have hl : B.length + (List.replicate (212 - B.length) 0).length ≤ 1000 := by
          rw [List.length_replicate]
          omega
        refine ⟨m, p, _, _, rfl, rfl, (g6.tmp hp _).at_, upd_same, len2 hl, ?_⟩
        have g7 := g6.ext hp (List.replicate (212 - B.length) 0)
        generalize upd (upd H6 p _) m _ = H7 at g7 ⊢
        have hb : B ++ List.replicate (212 - B.length) 0 = OM.body ⟨me, k, S⟩ := by
          rw [show 212 - B.length = 12 * (16 - S.counts.length) by omega, ← hB]
          unfold OM.body
          simp only [List.append_assoc]
          rfl
        rw [hb] at g7
        have hbl : (OM.body ⟨me, k, S⟩).length = 212 := OM.body_len hlen
        refine ⟨_, rfl, m, _, rfl, SqL.of g7.at_, ?_⟩
        exact ext_low (n := 4) (x := Km355.crc (OM.body ⟨me, k, S⟩)) rfl g7 (fun Q q => ⟨_, rfl, q⟩) (by decide) (by rw [hbl]; decide) fun H8 g8 _ => ⟨_, rfl, kk _ m g8⟩
end
end Of

end
section
set_option Elab.async false
set_option linter.all false
set_option maxRecDepth 100000
set_option maxHeartbeats 2000000
namespace Of
open PySem PySem.Spec PyProof.Rows L2
open OM (getN putN Rel cnts cr headB checkB restB addsB Rising)
open Km355 (lower Summary bump le num crc messageOf)
@[reducible] noncomputable def sNum : Stmt := top 22
@[reducible] noncomputable def sMayC : Stmt := top 8
@[reducible] noncomputable def sStaOf : Stmt := top 24
@[reducible] noncomputable def sStrOf : Stmt := top 25
@[reducible] noncomputable def sEnd : Stmt := top 26
@[reducible] noncomputable def sCntOf : Stmt := top 27
@[reducible] noncomputable def sRight : Stmt := top 28
@[reducible] noncomputable def sHead : Stmt := top 29
@[reducible] noncomputable def sCheck : Stmt := top 30
@[reducible] noncomputable def sCntR : Stmt := top 31
@[reducible] noncomputable def sRest : Stmt := top 32
@[reducible] noncomputable def sAdds : Stmt := top 33
/-- a message stands at a -/
structure MsgAt (K : PySem.W.Frag) (H : Hp) (a : Addr) (ms : List Nat) : Prop where
  sq : SqL K H a (ms.map iv)
  len : ms.length = 216
  byt : ∀ b ∈ ms, b < 256
theorem MsgAt.same {K : PySem.W.Frag} {H H' : Hp} {a : Addr} {ms : List Nat} (m : MsgAt K H a ms) (s : Same H H') : MsgAt K H' a ms := ⟨s.seq m.sq, m.len, m.byt⟩
theorem at_iv {ms : List Nat} {i : Nat} (h : i < ms.length) : (ms.map iv)[i]? = some (iv (ms.getD i 0)) := by
  rw [List.getElem?_map, List.getD_eq_getElem?_getD, List.getElem?_eq_getElem h]
  rfl
theorem MsgAt.ix {K : PySem.W.Frag} {H : Hp} {a : Addr} {ms : List Nat} (m : MsgAt K H a ms) {z : Int} {i : Nat} (e : z = (i : Int)) (h : i < 216) : atI (ms.map iv) z = some (iv (ms.getD i 0)) := at_of e (at_iv (by rw [m.len]; exact h))
theorem getD_lt {ms : List Nat} (h : ∀ b ∈ ms, b < 256) (i : Nat) : ms.getD i 0 < 256 := by
  rw [List.getD_eq_getElem?_getD]
  cases e : ms[i]? with
  | none => decide
  | some b => exact h b (List.mem_of_getElem? e)
theorem cut_iv (ms : List Nat) {lo hi : Nat} (h1 : lo ≤ hi) (h2 : hi ≤ ms.length) : cutV (ms.map iv) (some (lo : Int)) (some (hi : Int)) = ((ms.drop lo).take (hi - lo)).map iv := by
  unfold cutV
  rw [HT.sIx_nat, HT.sIx_nat, List.length_map, Nat.min_eq_left h2, Nat.min_eq_left (Nat.le_trans h1 h2), List.map_take, List.map_drop]
theorem cut_hi (ms : List Nat) {hi : Nat} (h2 : hi ≤ ms.length) : cutV (ms.map iv) none (some (hi : Int)) = (ms.take hi).map iv := by
  unfold cutV
  rw [HT.sIx_nat, HT.sIx_none, List.length_map, Nat.min_eq_left h2, List.map_take]
  rfl
theorem cut_lo (ms : List Nat) {lo : Nat} (h2 : lo ≤ ms.length) : cutV (ms.map iv) (some (lo : Int)) none = (ms.drop lo).map iv := by
  unfold cutV
  rw [HT.sIx_nat, HT.sIx_none, List.length_map, Nat.min_eq_left h2, List.map_drop, List.take_of_length_le]
  rw [List.length_drop, List.length_map]
  exact Nat.le_refl _
/-- a and b, a known as a bool -/
theorem and_step {b c : Bool} {Q : V → Hp → Prop} {H H1 : Hp} {T : Prop} (kk : ∀ H', Same H H' → Q (.bl (b && c)) H') (m : Same H H1) (h : b = true → (∀ H', Same H H' → Q (.bl c) H') → T) : if b = true then T else Q (.bl false) H1 := by
  cases b with
  | true => exact h rfl kk
  | false => exact kk H1 m
theorem same_refl {H : Hp} : Same H H := fun _ _ h => h
structure TxtN (mg : Str → Option Value) : Prop where
  form : ∃ t, mg "FORM" = some (.int 1 t)
  stations : ∃ t, mg "MOST_STATIONS" = some (.int 16 t)
  readings : ∃ t, mg "READINGS_PLACE" = some (.int 4 t)
  wrong : ∃ t, mg "WRONG_PLACE" = some (.int 12 t)
  counters : ∃ t, mg "COUNTERS_PLACE" = some (.int 20 t)
  size : ∃ t, mg "COUNTER_SIZE" = some (.int 12 t)
  check : ∃ t, mg "CHECK_PLACE" = some (.int 212 t)
  mostC : ∃ t, mg "MOST_COUNTERS" = some (.int 16 t)
  mostR : ∃ t, mg "MOST_READINGS" = some (.int 4294967295 t)
  range : mg "range" = none
  sum : mg "sum" = none
  list : mg "list" = none
  dict : mg "dict" = none
  any : mg "any" = none
section
variable {P : Program} {w : World} {K : PySem.W.Frag} {mg : Str → Option Value} {base : Heap}
/-- may_count(k) -/
noncomputable def spMayC : Sp := fun vs H Q _ => ∃ k : Nat, vs = [iv k] ∧ Q (.bl (Km355.okK k)) H
theorem scMayC : FnScope ["k"] ["k"] (defScope sMayC) := ⟨rfl, rfl, rfl, by decide +kernel, rfl, by decide +kernel, by decide +kernel⟩
theorem ok_mayC {f : Addr} {fd : FuncData} (F : Fun K "may_count" "may_count" sMayC f fd) (T : TxtN mg) : FnOk P w K mg base CX0 1 f fd ["k"] spMayC := by
  refine F.ok scMayC (fun vs H Q E h => ?_) (fun cdv A outer s0 H vs Q E hr h => ?_)
  · obtain ⟨k, rfl, _⟩ := h
    rfl
  · obtain ⟨k, rfl, kk⟩ := h
    obtain ⟨t2, h2⟩ := T.mostC
    refine ⟨_, pss_one (ps_ret (pe_and (pe_cmpR on_le pe_int (pv 0) (nomark _)) (pe_one (pe_cmpR on_le (pv 0) (pe_glob (v := iv 16) rfl h2 ⟨t2, rfl⟩) (nomark _))))), ?_⟩
    have kk : Q (.bl (decide (1 ≤ k) && decide (k ≤ 16))) H := kk
    refine ⟨_, rfl, 1, k, rfl, rfl, _, rfl, ?_⟩
    refine ite2 (fun e2 => ?_) fun e2 => ?_
    · refine ⟨_, rfl, k, 16, rfl, rfl, ?_⟩
      rw [e2] at kk
      exact kk
    · rw [Bool.eq_false_iff.mpr e2] at kk
      exact kk
/-- number_at(message, place, size) -/
noncomputable def spNum (K : PySem.W.Frag) : Sp := fun vs H Q _ => ∃ (a : Addr) (ms : List Nat) (k n : Nat), vs = [.ref a, iv k, iv n] ∧ MsgAt K H a ms ∧ k + n ≤ 216 ∧ n ≤ 8 ∧ ∀ H', Same H H' → Q (iv (num ms k n)) H'
theorem scNum : FnScope ["message", "place", "size", "step"] ["message", "place", "size"] (defScope sNum) := ⟨rfl, rfl, rfl, by decide +kernel, rfl, by decide +kernel, by decide +kernel⟩
theorem ok_num {f : Addr} {fd : FuncData} (F : Fun K "number_at" "number_at" sNum f fd) (T : TxtN mg) : FnOk P w K mg base CX0 1 f fd ["message", "place", "size"] (spNum K) := by
  refine F.ok scNum (fun vs H Q E h => ?_) (fun cdv A outer s H vs Q E hr h => ?_)
  · obtain ⟨a, ms, k, n, rfl, _⟩ := h
    rfl
  · obtain ⟨a, ms, k, n, rfl, m, hkn, hn, kk⟩ := h
    refine ⟨_, pss_one (ps_ret (pe_callB (cr_sum rfl) rfl T.sum PyProof.Rows.boot_sum (pa_cons (pe_lc (own := [("step", 3)]) rfl scNum.nd (pi_range1 rfl T.range (pa_cons (pv 2) pa_nil)) (blkOk_by (by show blkC ["message", "place", "size", "step"] (defScope sNum) _ _ = true; decide +kernel)) (fun _ _ _ _ _ => pg_name (i := 3) scNum.nd rfl (Or.inl rfl)) (fun _ _ _ _ _ => pts_nil)
      (fun _ _ _ _ _ => pe_op on_shl (pe_ix (ix_listK (K := K) rfl) (pv 0) (pe_op on_add (pv 1) (pv 3)) (fun _ _ => rfl)) (pe_op on_mul pe_int (pv 3)))) pa_nil))), ?_⟩
    refine ⟨_, rfl, (n : Int), rfl, rng_lo n, rng_hi (Nat.le_trans hn (by decide)), fun D hD => ?_⟩
    refine lc_range (fun i H' => H' = upd H D (.lst ((OM.parts ms k i).map iv))) rfl ?_ ?_
    · rintro i H' hi rfl
      have hi : i < n := by rw [Int.toNat_natCast] at hi; exact hi
      have hb := getD_lt m.byt (k + i)
      refine ⟨rfl, _, rfl, _, rfl, _, rfl, k, i, rfl, zadd i, a, _, _, _, rfl, rfl, (same_new hD _).seq m.sq, m.ix (i := k + i) rfl (by omega), _, rfl, 8, i, rfl, zadd i, .inl (by decide), _, _, rfl, rfl, ⟨by omega, by omega⟩, _, upd_same, ?_, ?_⟩
      · rw [List.length_map, OM.parts_len]
        exact small1000 (by omega)
      · rw [upd_upd, OM.parts_succ, List.map_append]
        rfl
    · rintro H' rfl
      rw [Int.toNat_natCast]
      have e : (OM.parts ms k n).map iv = ((OM.parts ms k n).map fun (x : Nat) => (x : Int)).map V.int := by rw [List.map_map]; rfl
      refine ⟨D, (OM.parts ms k n).map fun (x : Nat) => (x : Int), rfl, ?_, ?_⟩
      · rw [← e]
        exact SqL.of upd_same
      · rw [OM.sum_cast, OM.parts_sum n (by rw [m.len]; exact hkn)]
        exact kk _ (same_new hD _)
/-- station_of(message) -/
noncomputable def spStaOf (K : PySem.W.Frag) : Sp := fun vs H Q _ => ∃ (a : Addr) (ms : List Nat), vs = [.ref a] ∧ MsgAt K H a ms ∧ Q (iv (ms.getD 1 0)) H
theorem scStaOf : FnScope ["message"] ["message"] (defScope sStaOf) := ⟨rfl, rfl, rfl, by decide +kernel, rfl, by decide +kernel, by decide +kernel⟩
theorem ok_staOf {f : Addr} {fd : FuncData} (F : Fun K "station_of" "station_of" sStaOf f fd) : FnOk P w K mg base CX0 1 f fd ["message"] (spStaOf K) := by
  refine F.ok scStaOf (fun vs H Q E h => ?_) (fun cdv A outer s H vs Q E hr h => ?_)
  · obtain ⟨a, ms, rfl, _⟩ := h
    rfl
  · obtain ⟨a, ms, rfl, m, kk⟩ := h
    refine ⟨_, pss_one (ps_ret (pe_ix ix_list (pv 0) pe_int (fun _ _ => rfl))), ?_⟩
    exact ⟨_, rfl, a, _, _, _, rfl, rfl, m.sq, m.ix (i := 1) rfl (by decide), kk⟩
/-- counters_end(message) -/
noncomputable def spEnd (K : PySem.W.Frag) : Sp := fun vs H Q _ => ∃ (a : Addr) (ms : List Nat), vs = [.ref a] ∧ MsgAt K H a ms ∧ Q (iv (20 + 12 * ms.getD 3 0)) H
theorem scEnd : FnScope ["message"] ["message"] (defScope sEnd) := ⟨rfl, rfl, rfl, by decide +kernel, rfl, by decide +kernel, by decide +kernel⟩
theorem ok_end {f : Addr} {fd : FuncData} (F : Fun K "counters_end" "counters_end" sEnd f fd) (T : TxtN mg) : FnOk P w K mg base CX0 1 f fd ["message"] (spEnd K) := by
  refine F.ok scEnd (fun vs H Q E h => ?_) (fun cdv A outer s H vs Q E hr h => ?_)
  · obtain ⟨a, ms, rfl, _⟩ := h
    rfl
  · obtain ⟨a, ms, rfl, m, kk⟩ := h
    obtain ⟨t1, h1⟩ := T.counters
    obtain ⟨t2, h2⟩ := T.size
    refine ⟨_, pss_one (ps_ret (pe_op on_add (pe_glob (v := iv 20) rfl h1 ⟨t1, rfl⟩) (pe_op on_mul (pe_glob (v := iv 12) rfl h2 ⟨t2, rfl⟩) (pe_ix ix_list (pv 0) pe_int (fun _ _ => rfl))))), ?_⟩
    exact ⟨_, rfl, a, _, _, _, rfl, rfl, m.sq, m.ix (i := 3) rfl (by decide), 12, _, rfl, rfl, .inl (by decide), 20, _, rfl, rfl, kk⟩
/-- counters_of(message) -/
structure PairsAt (H : Hp) (p : Addr) (ps : List Addr) (cs : List (Nat × Nat)) : Prop where
  lst : H p = some (.lst (ps.map V.ref))
  len : ps.length = cs.length
  at_ : ∀ (i : Nat) (q : Addr) (y : Nat × Nat), ps[i]? = some q → cs[i]? = some y → H q = some (.tup [iv y.1, iv y.2])
theorem PairsAt.same {H H' : Hp} {p : Addr} {ps : List Addr} {cs : List (Nat × Nat)} (a : PairsAt H p ps cs) (s : Same H H') : PairsAt H' p ps cs := ⟨s _ _ a.lst, a.len, fun i q y h1 h2 => s _ _ (a.at_ i q y h1 h2)⟩
noncomputable def spCntOf (K : PySem.W.Frag) : Sp := fun vs H Q _ => ∃ (a : Addr) (ms : List Nat), vs = [.ref a] ∧ MsgAt K H a ms ∧ ms.getD 3 0 ≤ 16 ∧
  ∀ (H' : Hp) (p : Addr) (ps : List Addr), H p = none → PairsAt H' p ps (cnts ms) → Same H H' → Q (.ref p) H'
theorem rgC_cnt : ∀ c : Nat, c ≤ 16 → RgC 20 ((20 + 12 * c : Nat) : Int) 12 c := by
  have g : ∀ c : Fin 17, Builtin.Range.small 20 ((20 + 12 * c.val : Nat) : Int) 12 = true ∧ Builtin.Range.rangeSize 20 ((20 + 12 * c.val : Nat) : Int) 12 = (c.val : Int) := by decide
  intro c h
  obtain ⟨h1, h2⟩ := g ⟨c, by omega⟩
  exact ⟨by decide, by decide, h1, h2⟩
theorem cnt_room {c z : Nat} (h : c ≤ 16) (hz : z < c) : 20 + 12 * z + 12 ≤ 216 := by omega
theorem cnt_max {c z : Nat} (hz : z < c) : min (z + 1) c = z + 1 := by omega
theorem cnts_at {ms : List Nat} {i : Nat} (h : i < ms.getD 3 0) : (cnts ms)[i]? = some (num ms (20 + 12 * i) 4, num ms (24 + 12 * i) 8) := by
  unfold OM.cnts
  rw [List.getElem?_map, List.getElem?_range h]
  rfl
theorem scCntOf : FnScope ["message", "places", "place"] ["message"] (defScope sCntOf) := ⟨rfl, rfl, rfl, by decide +kernel, rfl, by decide +kernel, by decide +kernel⟩
theorem ok_cntOf {f g h : Addr} {fd gd hd : FuncData} (F : Fun K "counters_of" "counters_of" sCntOf f fd) (T : TxtN mg)
    (G : Fun K "counters_end" "counters_end" sEnd g gd) (bG : Binds K gd ["message"] []) (mG : mg "counters_end" = some (.ref g))
    (G2 : Fun K "number_at" "number_at" sNum h hd) (bG2 : Binds K hd ["message", "place", "size"] []) (mG2 : mg "number_at" = some (.ref h)) : FnOk P w K mg base CX0 2 f fd ["message"] (spCntOf K) := by
  have GO : FnOk P w K mg base CX0 1 g gd ["message"] (spEnd K) := ok_end G T
  have GO2 : FnOk P w K mg base CX0 1 h hd ["message", "place", "size"] (spNum K) := ok_num G2 T
  refine F.ok scCntOf (fun vs H Q E h => ?_) (fun cdv A outer s0 H vs Q E hr h => ?_)
  · obtain ⟨a, ms, rfl, _⟩ := h
    rfl
  · obtain ⟨a, ms, rfl, m, h16, kk⟩ := h
    obtain ⟨t1, h1⟩ := T.counters
    obtain ⟨t2, h2⟩ := T.size
    have nd := scCntOf.nd
    refine ⟨_, pss_cons (ps_set (i := 1) nd rfl (Or.inl rfl) (pe_listR rfl rfl T.range rfl T.list PyProof.Rows.boot_list (pa_cons (pe_glob (v := iv 20) rfl h1 ⟨t1, rfl⟩) (pa_cons (pe_call GO hr rfl mG G.kp bG .nil pass0 (pa_cons (pv 0) pa_nil)) (pa_cons (pe_glob (v := iv 12) rfl h2 ⟨t2, rfl⟩) pa_nil)))))
      (pss_one (ps_ret (pe_lc (own := [("place", 2)]) rfl nd (pi_list (pv 1)) (blkOk_by (by show blkC ["message", "places", "place"] (defScope sCntOf) _ _ = true; decide +kernel)) (fun _ _ _ _ _ => pg_name (i := 2) nd rfl (Or.inl rfl)) (fun _ _ _ _ _ => pts_nil)
        (fun _ _ _ _ _ => pe_tup (pa_cons (pe_call GO2 hr rfl mG2 G2.kp bG2 .nil pass0 (pa_cons (pv 0) (pa_cons (pv 2) (pa_cons pe_int pa_nil)))) (pa_cons (pe_call GO2 hr rfl mG2 G2.kp bG2 .nil pass0 (pa_cons (pv 0) (pa_cons (pe_op on_add (pv 2) pe_int) (pa_cons pe_int pa_nil)))) pa_nil)))))), ?_⟩
    refine ⟨_, rfl, a, ms, rfl, m, 20, _, 12, ms.getD 3 0, rfl, rgC_cnt _ h16, Nat.le_trans h16 (by decide), fun l hl => ?_⟩
    have el : (rangeInts 20 12 (ms.getD 3 0)).map V.int = (List.range (ms.getD 3 0)).map fun i => iv (20 + 12 * i) := by
      unfold rangeInts
      rw [List.map_map]
      refine List.map_congr_left fun i _ => ?_
      show V.int (20 + (i : Int) * 12) = V.int ((20 + 12 * i : Nat) : Int)
      congr 1
      omega
    rw [el]
    have m0 := same_new hl (.lst ((List.range (ms.getD 3 0)).map fun i => iv (20 + 12 * i)))
    have hl0 : upd H l (.lst ((List.range (ms.getD 3 0)).map fun i => iv (20 + 12 * i))) l = some (.lst ((List.range (ms.getD 3 0)).map fun i => iv (20 + 12 * i))) := upd_same
    generalize upd H l (.lst ((List.range (ms.getD 3 0)).map fun i => iv (20 + 12 * i))) = H0 at m0 hl0 ⊢
    refine ⟨_, rfl, l, rfl, ⟨_, SqL.of hl0⟩, fun D hD => ?_⟩
    have hcl := OM.cnts_len ms
    refine lc_list (K := K) (a := l) (xs := (List.range (ms.getD 3 0)).map fun i => iv (20 + 12 * i)) (fun i H' => i ≤ ms.getD 3 0 → ∃ ps : List Addr, PairsAt H' D ps ((cnts ms).take i) ∧ Same H0 H')
      (fun _ => ⟨[], ⟨upd_same, by rw [List.take_zero]; rfl, fun i q y h => by simp at h⟩, same_new hD _⟩) (fun i H' hi e => ?_) ?_ ?_
    · rw [List.length_map, List.length_range] at hi
      obtain ⟨ps, _, s⟩ := e hi
      exact SqL.of (s _ _ hl0)
    · rintro i y H' hi e
      obtain ⟨z, hz, rfl⟩ := at_map hi
      have hi' : i < ms.getD 3 0 := by
        have := (List.getElem?_eq_some_iff.mp hz).1
        rw [List.length_range] at this
        exact this
      have ez : z = i := by
        rw [List.getElem?_range hi'] at hz
        exact (Option.some.inj hz).symm
      subst ez
      obtain ⟨ps, a1, s1⟩ := e (Nat.le_of_lt hi')
      have room := cnt_room h16 hi'
      have mm := m.same (m0.trans s1)
      refine ⟨rfl, _, rfl, _, rfl, a, ms, 20 + 12 * z, 4, rfl, mm, Nat.le_trans (Nat.add_le_add_left (by decide) _) room, by decide, fun H1 n1 => ?_⟩
      refine ⟨_, rfl, _, rfl, 20 + 12 * z, 4, rfl, rfl, a, ms, 20 + 12 * z + 4, 8, rfl, mm.same n1, by rw [Nat.add_assoc]; exact room, by decide, fun H2 n2 => ?_⟩
      refine ⟨by show 2 ≤ sizeLine; decide, fun q hq => ?_⟩
      have n3 := same_new hq (.tup [iv (num ms (20 + 12 * z) 4), iv (num ms (20 + 12 * z + 4) 8)])
      have hq3 : upd H2 q (.tup [iv (num ms (20 + 12 * z) 4), iv (num ms (20 + 12 * z + 4) 8)]) q = some (.tup [iv (num ms (20 + 12 * z) 4), iv (num ms (20 + 12 * z + 4) 8)]) := upd_same
      have hq2 := n1.free (n2.free hq)
      have n13 := (n1.trans n2).trans n3
      generalize upd H2 q (.tup [iv (num ms (20 + 12 * z) 4), iv (num ms (20 + 12 * z + 4) 8)]) = H3 at hq3 n13 ⊢
      have a3 := a1.same n13
      have hpl : ps.length = z := by rw [a1.len, List.length_take, hcl, Nat.min_eq_left (Nat.le_of_lt hi')]
      refine ⟨_, a3.lst, by rw [List.length_map, hpl]; exact small1000 (Nat.le_trans (Nat.le_of_lt hi') (Nat.le_trans h16 (by decide))), fun _ => ⟨ps ++ [q], ⟨?_, ?_, fun j u v hu hv => ?_⟩, fun b o hb => ?_⟩⟩
      · rw [upd_same, List.map_append]
        rfl
      · rw [List.length_append, hpl, List.length_take, hcl, List.length_singleton, cnt_max hi']
      · have hDq : ∀ b o, H3 b = some o → (∀ xs, o ≠ .lst xs) → upd H3 D (.lst (ps.map V.ref ++ [.ref q])) b = some o := fun b o hb no => by
          rw [upd_ne (fun e => by subst e; rw [a3.lst] at hb; exact no _ (Option.some.inj hb).symm)]
          exact hb
        have hv' : (cnts ms)[j]? = some v ∧ j < z + 1 := by
          rw [List.getElem?_take] at hv
          split at hv
          · exact ⟨hv, by assumption⟩
          · cases hv
        by_cases hj : j < z
        · rw [List.getElem?_append_left (app_lt hpl hj)] at hu
          refine hDq _ _ (a3.at_ j u v hu ?_) (fun xs e => by cases e)
          rw [List.getElem?_take_of_lt hj]
          exact hv'.1
        · have ej : j = z := Nat.le_antisymm (Nat.le_of_lt_succ hv'.2) (Nat.le_of_not_lt hj)
          subst ej
          rw [List.getElem?_append_right (app_ge hpl), hpl, Nat.sub_self] at hu
          have eu : q = u := Option.some.inj hu
          subst eu
          rw [cnts_at hi'] at hv'
          have ev := Option.some.inj hv'.1
          subst ev
          rw [show 24 + 12 * j = 20 + 12 * j + 4 by omega]
          exact hDq _ _ hq3 (fun xs e => by cases e)
      · have hb3 := n13 _ _ (s1 b o hb)
        rw [upd_ne (ne_of_none hb hD)]
        exact hb3
    · rintro H' e
      rw [List.length_map, List.length_range] at e
      obtain ⟨ps, a1, s1⟩ := e (Nat.le_refl _)
      rw [List.take_of_length_le (by rw [hcl]; exact Nat.le_refl _)] at a1
      exact kk _ D ps (m0.free hD) a1 (m0.trans s1)
theorem mergeK_en : ∀ (l acc : List (Nat × Nat)), mergeK (acc.map en) (l.map en) = (l.foldl (fun s y => putN s y.1 y.2) acc).map en
  | [], acc => rfl
  | y :: l, acc => by
    rw [List.foldl_cons, ← mergeK_en l (putN acc y.1 y.2), ← putK_en]
    rfl
theorem pairs_sq {H : Hp} : ∀ {ps : List Addr} {cs : List (Nat × Nat)}, ps.length = cs.length → (∀ (i : Nat) (q : Addr) (y : Nat × Nat), ps[i]? = some q → cs[i]? = some y → H q = some (.tup [iv y.1, iv y.2])) → Paired (fun p kv => SqT K H p [kV kv.1, kv.2]) ps (cs.map en)
  | [], [], _, _ => .nil
  | p :: ps, c :: cs, hl, h => .cons (SqT.of (h 0 p c rfl rfl)) (pairs_sq (by simpa using hl) fun i q y h1 h2 => h (i + 1) q y h1 h2)
/-- stream_of(message) -/
noncomputable def spStrOf (K : PySem.W.Frag) (C : Addr) : Sp := fun vs H Q _ => ∃ (a : Addr) (ms : List Nat), vs = [.ref a] ∧ MsgAt K H a ms ∧ ms.getD 3 0 ≤ 16 ∧ Rising (cnts ms) ∧
  ∀ (H' : Hp) (p e : Addr), H p = none → H e = none → StreamAt C H' p e (ms.getD 2 0) (OM.told ms).summary → Same H H' → Q (.ref p) H'
theorem scStrOf : FnScope ["message", "stream"] ["message"] (defScope sStrOf) := ⟨rfl, rfl, rfl, by decide +kernel, rfl, by decide +kernel, by decide +kernel⟩
theorem ok_strOf {f g h j C : Addr} {fd gd hd jd : FuncData} (F : Fun K "stream_of" "stream_of" sStrOf f fd) (T : TxtN mg) (TS : TxtS K mg C)
    (GO : FnOk P w K mg base CX0 2 g gd ["message"] (spCntOf K)) (kG : PySem.W.keepIn K (.ref g) = true) (bG : Binds K gd ["message"] []) (mG : mg "counters_of" = some (.ref g))
    (G2 : Fun K "number_at" "number_at" sNum h hd) (bG2 : Binds K hd ["message", "place", "size"] []) (mG2 : mg "number_at" = some (.ref h))
    (M : Mk K C j) (G4 : Fun K "__init__" "Stream.__init__" sSInit j jd) (bG4 : Binds K jd ["self", "k"] []) : FnOk P w K mg base CX0 3 f fd ["message"] (spStrOf K C) := by
  have GO2 : FnOk P w K mg base CX0 1 h hd ["message", "place", "size"] (spNum K) := ok_num G2 T
  have GO4 : FnOk P w K mg base CX0 1 j jd ["self", "k"] (spSInit C) := ok_sInit G4 TS
  refine F.ok scStrOf (fun vs H Q E h => ?_) (fun cdv A outer s0 H vs Q E hr h => ?_)
  · obtain ⟨a, ms, rfl, _⟩ := h
    rfl
  · obtain ⟨a, ms, rfl, m, h16, hup, kk⟩ := h
    have hr1 : Room 1 _ := hr.mono (by decide)
    obtain ⟨t1, h1⟩ := T.readings
    obtain ⟨t2, h2⟩ := T.wrong
    have nd := scStrOf.nd
    refine ⟨_, pss_cons (ps_set (i := 1) nd rfl (Or.inl rfl) (pe_make M GO4 hr rfl TS.mgC bG4 .nil pass0 (pa_cons (pe_ix ix_list (pv 0) pe_int (fun _ _ => rfl)) pa_nil)))
      (pss_cons (ps_fld (pv 1) (pe_call GO2 hr1 rfl mG2 G2.kp bG2 .nil pass0 (pa_cons (pv 0) (pa_cons (pe_glob (v := iv 4) rfl h1 ⟨t1, rfl⟩) (pa_cons pe_int pa_nil)))) rfl)
      (pss_cons (ps_fld (pv 1) (pe_call GO2 hr1 rfl mG2 G2.kp bG2 .nil pass0 (pa_cons (pv 0) (pa_cons (pe_glob (v := iv 12) rfl h2 ⟨t2, rfl⟩) (pa_cons pe_int pa_nil)))) rfl)
      (pss_cons (ps_fld (pv 1) (pe_callTy (call_dictP rfl) rfl T.dict PyProof.Rows.boot_dict (pa_cons (pe_call GO hr rfl mG kG bG .nil pass0 (pa_cons (pv 0) pa_nil)) pa_nil)) rfl)
      (pss_one (ps_ret (pv 1)))))), ?_⟩
    -- Stream(message[2])
    refine ⟨_, rfl, a, _, _, _, rfl, rfl, m.sq, m.ix (i := 2) rfl (by decide), fun p px hp hpx npx => ?_⟩
    refine ⟨p, px, ms.getD 2 0, rfl, upd_same, fun H1 d hd a1 k1 => ⟨rfl, ?_⟩⟩
    have m1 : Same H H1 := fun b o hb => by
      refine k1.keep b o ?_ (by simpa using ne_of_none hb hp)
      rw [upd_ne (ne_of_none hb hp), upd_ne (ne_of_none hb hpx)]
      exact hb
    obtain ⟨⟨dx, hp1⟩, _⟩ := a1
    have hp1 : H1 p = some (.ins C dx (sf (ms.getD 2 0) 0 d 0)) := hp1
    have keepP : ∀ (H4 : Hp) (o : HO), Same H H4 → Same H (upd H4 p o) := fun H4 o m b u hb => by
      rw [upd_ne (ne_of_none hb hp)]
      exact m b u hb
    -- readings
    refine ⟨_, rfl, a, ms, 4, 8, rfl, m.same m1, by decide, by decide, fun H2 n2 => ?_⟩
    refine ⟨_, rfl, p, C, dx, _, rfl, n2 _ _ hp1, TS.cl, TS.nn, (by show 4 < 1000; decide), ?_⟩
    rw [sf_put_n]
    have m3 := keepP H2 (.ins C dx (sf (ms.getD 2 0) (num ms 4 8) d 0)) (m1.trans n2)
    have hp3 : upd H2 p (.ins C dx (sf (ms.getD 2 0) (num ms 4 8) d 0)) p = some (.ins C dx (sf (ms.getD 2 0) (num ms 4 8) d 0)) := upd_same
    generalize upd H2 p (.ins C dx (sf (ms.getD 2 0) (num ms 4 8) d 0)) = H3 at m3 hp3 ⊢
    -- wrong
    refine ⟨_, rfl, a, ms, 12, 8, rfl, m.same m3, by decide, by decide, fun H4 n4 => ?_⟩
    refine ⟨_, rfl, p, C, dx, _, rfl, n4 _ _ hp3, TS.cl, TS.nw, (by show 4 < 1000; decide), ?_⟩
    rw [sf_put_w]
    have m5 := keepP H4 (.ins C dx (sf (ms.getD 2 0) (num ms 4 8) d (num ms 12 8))) (m3.trans n4)
    have hp5 : upd H4 p (.ins C dx (sf (ms.getD 2 0) (num ms 4 8) d (num ms 12 8))) p = some (.ins C dx (sf (ms.getD 2 0) (num ms 4 8) d (num ms 12 8))) := upd_same
    generalize upd H4 p (.ins C dx (sf (ms.getD 2 0) (num ms 4 8) d (num ms 12 8))) = H5 at m5 hp5 ⊢
    -- counts
    refine ⟨_, rfl, a, ms, rfl, m.same m5, h16, fun H6 l ps hl pa n6 => ?_⟩
    refine ⟨l, ps, (cnts ms).map en, rfl, SqL.of pa.lst, pairs_sq pa.len pa.at_, fun e he => ?_⟩
    have em : mergeK [] ((cnts ms).map en) = (cnts ms).map en := by
      have q := mergeK_en (cnts ms) []
      rw [OM.puts_rising _ _ (by rw [List.nil_append]; exact hup), List.nil_append] at q
      exact q
    rw [em]
    have m6 := m5.trans n6
    have n7 := same_new he (dn (cnts ms))
    have he7 : upd H6 e (dn (cnts ms)) e = some (dn (cnts ms)) := upd_same
    have he0 : H e = none := m6.free he
    have m7 := m6.trans n7
    have hp7 := n7 _ _ (n6 _ _ hp5)
    generalize upd H6 e (dn (cnts ms)) = H7 at he7 m7 hp7 ⊢
    refine ⟨_, rfl, p, C, dx, _, rfl, hp7, TS.cl, TS.nd, (by show 4 < 1000; decide), ?_⟩
    rw [sf_put_d]
    have nep : e ≠ p := ne_of he7 hp7 (by intro q; cases q)
    refine ⟨_, rfl, kk _ p e hp he0 ⟨⟨dx, ?_⟩, cnts ms, by rw [upd_ne nep]; exact he7, ?_⟩ (keepP H7 _ m7)⟩
    · rw [upd_same]
      rfl
    · rw [OM.told_cnts m.len]
      exact ⟨List.Perm.refl _, hup⟩
/-- head_is_right(message) -/
noncomputable def spHead (K : PySem.W.Frag) : Sp := fun vs H Q _ => ∃ (a : Addr) (ms : List Nat), vs = [.ref a] ∧ MsgAt K H a ms ∧ ∀ H', Same H H' → Q (.bl (headB ms)) H'
theorem scHead : FnScope ["message"] ["message"] (defScope sHead) := ⟨rfl, rfl, rfl, by decide +kernel, rfl, by decide +kernel, by decide +kernel⟩
theorem ok_head {f g : Addr} {fd gd : FuncData} (F : Fun K "head_is_right" "head_is_right" sHead f fd) (T : TxtN mg) (G : Fun K "may_count" "may_count" sMayC g gd) (bG : Binds K gd ["k"] []) (mG : mg "may_count" = some (.ref g)) : FnOk P w K mg base CX0 2 f fd ["message"] (spHead K) := by
  have GO : FnOk P w K mg base CX0 1 g gd ["k"] spMayC := ok_mayC G T
  refine F.ok scHead (fun vs H Q E h => ?_) (fun cdv A outer s H vs Q E hr h => ?_)
  · obtain ⟨a, ms, rfl, _⟩ := h
    rfl
  · obtain ⟨a, ms, rfl, m, kk⟩ := h
    obtain ⟨t1, h1⟩ := T.form
    obtain ⟨t2, h2⟩ := T.stations
    refine ⟨_, pss_one (ps_ret (pe_and (pe_cmpR on_eq (pe_ix ix_list (pv 0) pe_int (fun _ _ => rfl)) (pe_glob (v := iv 1) rfl h1 ⟨t1, rfl⟩) (nomark _))
      (pe_and (pe_cmpR on_lt (pe_ix ix_list (pv 0) pe_int (fun _ _ => rfl)) (pe_glob (v := iv 16) rfl h2 ⟨t2, rfl⟩) (nomark _))
      (pe_and (pe_call GO hr rfl mG G.kp bG .nil pass0 (pa_cons (pe_ix ix_list (pv 0) pe_int (fun _ _ => rfl)) pa_nil))
      (pe_one (pe_cmpR on_le (pe_ix ix_list (pv 0) pe_int (fun _ _ => rfl)) (pe_ix ix_list (pv 0) pe_int (fun _ _ => rfl)) (nomark _))))))), ?_⟩
    refine ⟨_, rfl, a, _, _, _, rfl, rfl, m.sq, m.ix (i := 0) rfl (by decide), _, 1, rfl, rfl, _, rfl, and_step kk same_refl fun _ kk => ?_⟩
    refine ⟨_, rfl, a, _, _, _, rfl, rfl, m.sq, m.ix (i := 1) rfl (by decide), _, 16, rfl, rfl, _, rfl, and_step kk same_refl fun _ kk => ?_⟩
    refine ⟨_, rfl, a, _, _, _, rfl, rfl, m.sq, m.ix (i := 2) rfl (by decide), _, rfl, _, rfl, and_step kk same_refl fun _ kk => ?_⟩
    exact ⟨_, rfl, a, _, _, _, rfl, rfl, m.sq, m.ix (i := 3) rfl (by decide), _, rfl, a, _, _, _, rfl, rfl, m.sq, m.ix (i := 2) rfl (by decide), _, _, rfl, rfl, kk _ same_refl⟩
/-- check_is_right(message) -/
noncomputable def spCheck (K : PySem.W.Frag) : Sp := fun vs H Q _ => ∃ (a : Addr) (ms : List Nat), vs = [.ref a] ∧ MsgAt K H a ms ∧ ∀ H', Same H H' → Q (.bl (checkB ms)) H'
theorem scCheck : FnScope ["message"] ["message"] (defScope sCheck) := ⟨rfl, rfl, rfl, by decide +kernel, rfl, by decide +kernel, by decide +kernel⟩
theorem ok_check {f g h : Addr} {fd gd hd : FuncData} (F : Fun K "check_is_right" "check_is_right" sCheck f fd) (T : TxtN mg) (TC : TxtC mg) (G : Fun K "number_at" "number_at" sNum g gd) (bG : Binds K gd ["message", "place", "size"] []) (mG : mg "number_at" = some (.ref g))
    (D : Fun K "crc32c" "crc32c" sCrc h hd) (bD : Binds K hd ["octets"] []) (mD : mg "crc32c" = some (.ref h)) : FnOk P w K mg base CX0 2 f fd ["message"] (spCheck K) := by
  have GO : FnOk P w K mg base CX0 1 g gd ["message", "place", "size"] (spNum K) := ok_num G T
  have DO : FnOk P w K mg base CX0 1 h hd ["octets"] (spCrc K) := ok_crc D TC
  refine F.ok scCheck (fun vs H Q E h => ?_) (fun cdv A outer s H vs Q E hr h => ?_)
  · obtain ⟨a, ms, rfl, _⟩ := h
    rfl
  · obtain ⟨a, ms, rfl, m, kk⟩ := h
    obtain ⟨t1, h1⟩ := T.check
    refine ⟨_, pss_one (ps_ret (pe_cmpR on_eq (pe_call GO hr rfl mG G.kp bG .nil pass0 (pa_cons (pv 0) (pa_cons (pe_glob (v := iv 212) rfl h1 ⟨t1, rfl⟩) (pa_cons pe_int pa_nil))))
      (pe_call DO hr rfl mD D.kp bD .nil pass0 (pa_cons (pe_slice sl_list (pv 0) po_none (po_some (pe_glob (v := iv 212) rfl h1 ⟨t1, rfl⟩))) pa_nil)) (nomark _))), ?_⟩
    refine ⟨_, rfl, a, ms, 212, 4, rfl, m, by decide, by decide, fun H1 n1 => ?_⟩
    refine ⟨_, rfl, _, rfl, a, _, rfl, (m.same n1).sq, fun p hp => ?_⟩
    rw [show cutV (ms.map iv) none (some (((212 : Nat) : Int))) = (ms.take 212).map iv from cut_hi ms (by rw [m.len]; decide)]
    exact ⟨p, ms.take 212, rfl, SqL.of upd_same, _, _, rfl, rfl, kk _ (n1.trans (same_new hp _))⟩
/-- rest_is_0(message) -/
noncomputable def spRest (K : PySem.W.Frag) : Sp := fun vs H Q _ => ∃ (a : Addr) (ms : List Nat), vs = [.ref a] ∧ MsgAt K H a ms ∧ ms.getD 3 0 ≤ 16 ∧ ∀ H', Same H H' → Q (.bl (restB ms)) H'
theorem scRest : FnScope ["message"] ["message"] (defScope sRest) := ⟨rfl, rfl, rfl, by decide +kernel, rfl, by decide +kernel, by decide +kernel⟩
theorem any_cast : ∀ l : List Nat, ((l.map fun (x : Nat) => (x : Int)).any fun z => z != 0) = l.any fun b => decide (b ≠ 0)
  | [] => rfl
  | x :: l => by
    rw [List.map_cons, List.any_cons, List.any_cons, any_cast l]
    congr 1
    by_cases h : x = 0
    · subst h; rfl
    · have h' : ¬ (x : Int) = 0 := by omega
      rw [decide_eq_true h]
      exact bne_iff_ne.mpr h'
theorem ok_rest {f g : Addr} {fd gd : FuncData} (F : Fun K "rest_is_0" "rest_is_0" sRest f fd) (T : TxtN mg) (G : Fun K "counters_end" "counters_end" sEnd g gd) (bG : Binds K gd ["message"] []) (mG : mg "counters_end" = some (.ref g)) : FnOk P w K mg base CX0 2 f fd ["message"] (spRest K) := by
  have GO : FnOk P w K mg base CX0 1 g gd ["message"] (spEnd K) := ok_end G T
  refine F.ok scRest (fun vs H Q E h => ?_) (fun cdv A outer s H vs Q E hr h => ?_)
  · obtain ⟨a, ms, rfl, _⟩ := h
    rfl
  · obtain ⟨a, ms, rfl, m, h16, kk⟩ := h
    obtain ⟨t1, h1⟩ := T.check
    refine ⟨_, pss_one (ps_ret (pe_not (pe_callB (cr_anyI rfl) rfl T.any PyProof.Rows.boot_any (pa_cons (pe_slice sl_list (pv 0) (po_some (pe_call GO hr rfl mG G.kp bG .nil pass0 (pa_cons (pv 0) pa_nil))) (po_some (pe_glob (v := iv 212) rfl h1 ⟨t1, rfl⟩))) pa_nil)))), ?_⟩
    refine ⟨_, rfl, _, rfl, a, ms, rfl, m, _, rfl, _, rfl, a, _, rfl, m.sq, fun p hp => ?_⟩
    rw [show cutV (ms.map iv) (some ((20 + 12 * ms.getD 3 0 : Nat) : Int)) (some (((212 : Nat) : Int))) = _ from cut_iv ms (by omega) (by rw [m.len]; decide), show 212 - (20 + 12 * ms.getD 3 0) = 192 - 12 * ms.getD 3 0 by omega]
    have e : ((ms.drop (20 + 12 * ms.getD 3 0)).take (192 - 12 * ms.getD 3 0)).map iv = (((ms.drop (20 + 12 * ms.getD 3 0)).take (192 - 12 * ms.getD 3 0)).map fun (x : Nat) => (x : Int)).map V.int := by rw [List.map_map]; rfl
    rw [e]
    refine ⟨p, _, rfl, SqL.of upd_same, _, rfl, ?_⟩
    rw [any_cast]
    exact kk _ (same_new hp _)
/-- adds_up(stream) -/
noncomputable def spAdds (C : Addr) : Sp := fun vs H Q _ => ∃ (s d : Addr) (k : Nat) (S : Summary), vs = [.ref s] ∧ StreamAt C H s d k S ∧ k ≤ 16 ∧ ∀ H', Same H H' → Q (.bl (addsB k S)) H'
theorem scAdds : FnScope ["stream", "accounted"] ["stream"] (defScope sAdds) := ⟨rfl, rfl, rfl, by decide +kernel, rfl, by decide +kernel, by decide +kernel⟩
theorem perm_sum {l m : List Nat} (p : l.Perm m) : l.sum = m.sum := by
  induction p with
  | nil => rfl
  | cons x _ ih => rw [List.sum_cons, List.sum_cons, ih]
  | swap x y l => simp only [List.sum_cons]; omega
  | trans _ _ h1 h2 => exact h1.trans h2
theorem ok_adds {f C : Addr} {fd : FuncData} (F : Fun K "adds_up" "adds_up" sAdds f fd) (T : TxtN mg) (TS : TxtS K mg C) : FnOk P w K mg base CX0 1 f fd ["stream"] (spAdds C) := by
  refine F.ok scAdds (fun vs H Q E h => ?_) (fun cdv A outer s0 H vs Q E hr h => ?_)
  · obtain ⟨s, d, k, S, rfl, _⟩ := h
    rfl
  · obtain ⟨s, d, k, S, rfl, ⟨⟨dx, hs⟩, ps, hd, r⟩, h16, kk⟩ := h
    obtain ⟨t1, h1⟩ := T.mostR
    refine ⟨_, pss_cons (ps_set (i := 1) scAdds.nd rfl (Or.inl rfl) (pe_op on_add (pe_sumV rfl rfl T.sum PyProof.Rows.boot_sum (pe_fld (pv 0) rfl)) (pe_op on_mul (pe_op on_add (pe_fld (pv 0) rfl) pe_int) (pe_fld (pv 0) rfl))))
      (pss_one (ps_ret (pe_and (pe_cmpR on_le (pv 1) (pe_fld (pv 0) rfl) (nomark _)) (pe_one (pe_cmpR on_le (pe_fld (pv 0) rfl) (pe_glob (v := iv 4294967295) rfl h1 ⟨t1, rfl⟩) (nomark _)))))), ?_⟩
    refine ⟨_, rfl, s, C, dx, _, _, rfl, hs, TS.cl, TS.nd, sf_d .., d, _, ps.map (fun y => (y.2 : Int)), rfl, .inl hd, by rw [List.map_map, List.map_map]; rfl, ?_⟩
    have e : (ps.map fun y => (y.2 : Int)).sum = (((S.counts.map Prod.snd).sum : Nat) : Int) := by
      have q := OM.sum_cast (ps.map Prod.snd)
      rw [List.map_map] at q
      rw [← perm_sum (r.perm.map Prod.snd)]
      exact q
    rw [e]
    refine ⟨_, rfl, s, C, dx, _, _, rfl, hs, TS.cl, TS.nk, sf_k .., k, 1, rfl, rfl, _, rfl, s, C, dx, _, _, rfl, hs, TS.cl, TS.nw, sf_w .., k + 1, S.wrong, rfl, rfl, .inl (by omega), _, _, rfl, rfl, ?_⟩
    refine ⟨_, rfl, fld_v rfl hs TS.cl TS.nn (sf_n ..) ⟨_, _, rfl, rfl, _, rfl, and_step kk same_refl fun _ kk => ?_⟩⟩
    exact fld_v rfl hs TS.cl TS.nn (sf_n ..) ⟨_, 4294967295, rfl, rfl, kk _ same_refl⟩
/-- counters_are_right(message) -/
noncomputable def spCntR (K : PySem.W.Frag) : Sp := fun vs H Q _ => ∃ (a : Addr) (ms : List Nat), vs = [.ref a] ∧ MsgAt K H a ms ∧ ms.getD 3 0 ≤ 16 ∧ ∀ H', Same H H' → Q (.bl (cr 0 (cnts ms))) H'
theorem scCntR : FnScope ["message", "least", "x", "count"] ["message"] (defScope sCntR) := ⟨rfl, rfl, rfl, by decide +kernel, rfl, by decide +kernel, by decide +kernel⟩
theorem cr_at {cs : List (Nat × Nat)} {i : Nat} {y : Nat × Nat} (h : cs[i]? = some y) (least : Nat) : cr least (cs.drop i) = if y.1 < least ∨ y.2 < 1 ∨ 4294967295 < y.2 then false else cr (y.1 + 1) (cs.drop (i + 1)) := by
  obtain ⟨hi, e⟩ := List.getElem?_eq_some_iff.mp h
  rw [List.drop_eq_getElem_cons hi, e]
  rfl
theorem ok_cntR {f g : Addr} {fd gd : FuncData} (F : Fun K "counters_are_right" "counters_are_right" sCntR f fd) (T : TxtN mg)
    (GO : FnOk P w K mg base CX0 2 g gd ["message"] (spCntOf K)) (kG : PySem.W.keepIn K (.ref g) = true) (bG : Binds K gd ["message"] []) (mG : mg "counters_of" = some (.ref g)) : FnOk P w K mg base CX0 3 f fd ["message"] (spCntR K) := by
  refine F.ok scCntR (fun vs H Q E h => ?_) (fun cdv A outer s0 H vs Q E hr h => ?_)
  · obtain ⟨a, ms, rfl, _⟩ := h
    rfl
  · obtain ⟨a, ms, rfl, m, h16, kk⟩ := h
    obtain ⟨t1, h1⟩ := T.mostR
    have nd := scCntR.nd
    refine ⟨_, pss_cons (ps_set (i := 1) nd rfl (Or.inl rfl) pe_int)
      (pss_cons (ps_for PassesOwn.never rfl (pi_list (pe_call GO hr rfl mG kG bG .nil pass0 (pa_cons (pv 0) pa_nil))) (pg_tup rfl (pgs_cons (pg_name (i := 2) nd rfl (Or.inl rfl)) (pgs_cons (pg_name (i := 3) nd rfl (Or.inl rfl)) pgs_nil)))
        (pss_cons (ps_if (PW.pt (pw_or (pt_cmpR on_lt (pv 2) (pv 1) (nomark _)) (pw_or (pt_cmpR on_lt (pv 3) pe_int (nomark _)) (pw_or1 (pt_cmpR on_gt (pv 3) (pe_glob (v := iv 4294967295) rfl h1 ⟨t1, rfl⟩) (nomark _)))))) (pss_one (ps_ret pe_bl)) pss_nil)
        (pss_one (ps_set (i := 1) nd rfl (Or.inl rfl) (pe_op on_add (pv 2) pe_int)))))
      (pss_one (ps_ret pe_bl))), ?_⟩
    refine ⟨_, rfl, a, ms, rfl, m, h16, fun H1 l ps hl pa n1 => ?_⟩
    refine ⟨l, rfl, ⟨_, SqL.of pa.lst⟩, for_list (K := K) (a := l) (xs := ps.map V.ref) (fun i σ H' => H' = H1 ∧ ∃ (least : Nat) (u v : Option V), σ = [some (.ref a), some (iv least), u, v] ∧ cr 0 (cnts ms) = cr least ((cnts ms).drop i)) ⟨rfl, 0, none, none, rfl, rfl⟩ (fun i σ H' _ h => by rw [h.1]; exact SqL.of pa.lst) ?_ ?_⟩
    · rintro i y σ H' hi ⟨rfl, least, u, v, rfl, hc⟩
      obtain ⟨q, hq, rfl⟩ := at_map hi
      have hi' : i < ps.length := (List.getElem?_eq_some_iff.mp hq).1
      obtain ⟨y, hy⟩ : ∃ y, (cnts ms)[i]? = some y := ⟨_, List.getElem?_eq_getElem (by rw [← pa.len]; exact hi')⟩
      rw [cr_at hy] at hc
      refine ⟨q, _, rfl, SqT.of (pa.at_ i q y hq hy), rfl, _, _, rfl, _, _, rfl, rfl, ?_⟩
      have no : (y.1 < least ∨ y.2 < 1 ∨ 4294967295 < y.2) → Q (.bl false) H' := fun h => by
        rw [if_pos h] at hc
        rw [hc] at kk
        exact kk _ n1
      refine ⟨_, rfl, _, rfl, y.1, least, rfl, rfl, _, rfl, ?_⟩
      refine ite2 (fun h => no (.inl (of_decide_eq_true h))) fun b1 => ?_
      refine ⟨_, rfl, y.2, 1, rfl, rfl, _, rfl, ?_⟩
      refine ite2 (fun h => no (.inr (.inl (of_decide_eq_true h)))) fun b2 => ?_
      refine ⟨_, rfl, y.2, 4294967295, rfl, rfl, _, rfl, ?_⟩
      refine ite2 (fun h => no (.inr (.inr (of_decide_eq_true h)))) fun b3 => ?_
      have b1' : ¬ y.1 < least := fun z => b1 (decide_eq_true z)
      have b2' : ¬ y.2 < 1 := fun z => b2 (decide_eq_true z)
      have b3' : ¬ 4294967295 < y.2 := fun z => b3 (decide_eq_true z)
      rw [if_neg (fun z => z.elim b1' fun z => z.elim b2' b3')] at hc
      exact ⟨_, rfl, _, 1, rfl, rfl, rfl, y.1 + 1, _, _, rfl, hc⟩
    · rintro σ H' ⟨rfl, least, u, v, rfl, hc⟩
      rw [List.length_map, pa.len, List.drop_of_length_le (Nat.le_refl _)] at hc
      have hc : cr 0 (cnts ms) = true := hc
      rw [hc] at kk
      exact kk _ n1
/-- is_right(message) -/
noncomputable def spRight (K : PySem.W.Frag) : Sp := fun vs H Q _ => ∃ (a : Addr) (ms : List Nat), vs = [.ref a] ∧ MsgAt K H a ms ∧ ∀ H', Same H H' → Q (.bl (messageOf ms).isSome) H'
theorem scRight : FnScope ["message"] ["message"] (defScope sRight) := ⟨rfl, rfl, rfl, by decide +kernel, rfl, by decide +kernel, by decide +kernel⟩
theorem ok_right {f g1 g2 g3 g4 g5 g6 C : Addr} {fd d1 d2 d3 d4 d5 d6 : FuncData} (F : Fun K "is_right" "is_right" sRight f fd)
    (O1 : FnOk P w K mg base CX0 2 g1 d1 ["message"] (spHead K)) (k1 : PySem.W.keepIn K (.ref g1) = true) (b1 : Binds K d1 ["message"] []) (m1 : mg "head_is_right" = some (.ref g1))
    (O2 : FnOk P w K mg base CX0 2 g2 d2 ["message"] (spCheck K)) (k2 : PySem.W.keepIn K (.ref g2) = true) (b2 : Binds K d2 ["message"] []) (m2 : mg "check_is_right" = some (.ref g2))
    (O3 : FnOk P w K mg base CX0 3 g3 d3 ["message"] (spCntR K)) (k3 : PySem.W.keepIn K (.ref g3) = true) (b3 : Binds K d3 ["message"] []) (m3 : mg "counters_are_right" = some (.ref g3))
    (O4 : FnOk P w K mg base CX0 2 g4 d4 ["message"] (spRest K)) (k4 : PySem.W.keepIn K (.ref g4) = true) (b4 : Binds K d4 ["message"] []) (m4 : mg "rest_is_0" = some (.ref g4))
    (O5 : FnOk P w K mg base CX0 3 g5 d5 ["message"] (spStrOf K C)) (k5 : PySem.W.keepIn K (.ref g5) = true) (b5 : Binds K d5 ["message"] []) (m5 : mg "stream_of" = some (.ref g5))
    (O6 : FnOk P w K mg base CX0 1 g6 d6 ["stream"] (spAdds C)) (k6 : PySem.W.keepIn K (.ref g6) = true) (b6 : Binds K d6 ["stream"] []) (m6 : mg "adds_up" = some (.ref g6)) : FnOk P w K mg base CX0 4 f fd ["message"] (spRight K) := by
  refine F.ok scRight (fun vs H Q E h => ?_) (fun cdv A outer s0 H vs Q E hr h => ?_)
  · obtain ⟨a, ms, rfl, _⟩ := h
    rfl
  · obtain ⟨a, ms, rfl, m, kk⟩ := h
    have hr1 : Room 1 _ := hr.mono (by decide)
    have hr2 : Room 2 _ := hr.mono (by decide)
    rw [OM.right_iff m.len m.byt] at kk
    refine ⟨_, pss_one (ps_ret (pe_and (pe_call O1 hr2 rfl m1 k1 b1 .nil pass0 (pa_cons (pv 0) pa_nil)) (pe_and (pe_call O2 hr2 rfl m2 k2 b2 .nil pass0 (pa_cons (pv 0) pa_nil)) (pe_and (pe_call O3 hr rfl m3 k3 b3 .nil pass0 (pa_cons (pv 0) pa_nil))
      (pe_and (pe_call O4 hr2 rfl m4 k4 b4 .nil pass0 (pa_cons (pv 0) pa_nil)) (pe_one (pe_call O6 hr1 rfl m6 k6 b6 .nil pass0 (pa_cons (pe_call O5 hr rfl m5 k5 b5 .nil pass0 (pa_cons (pv 0) pa_nil)) pa_nil)))))))), ?_⟩
    refine ⟨_, rfl, a, ms, rfl, m, fun H1 n1 => ⟨_, rfl, and_step kk n1 fun e1 kk => ?_⟩⟩
    obtain ⟨_, _, ⟨_, hk⟩, h3⟩ := (OM.headB_iff ms).mp e1
    refine ⟨_, rfl, a, ms, rfl, m.same n1, fun H2 n2 => ⟨_, rfl, and_step kk (n1.trans n2) fun e2 kk => ?_⟩⟩
    have n12 := n1.trans n2
    refine ⟨_, rfl, a, ms, rfl, m.same n12, Nat.le_trans h3 hk, fun H3 n3 => ⟨_, rfl, and_step kk (n12.trans n3) fun e3 kk => ?_⟩⟩
    have n13 := n12.trans n3
    have hup := ((OM.cr_iff _ _).mp e3).2.1
    refine ⟨_, rfl, a, ms, rfl, m.same n13, Nat.le_trans h3 hk, fun H4 n4 => ⟨_, rfl, and_step kk (n13.trans n4) fun e4 kk => ?_⟩⟩
    have n14 := n13.trans n4
    refine ⟨_, rfl, a, ms, rfl, m.same n14, Nat.le_trans h3 hk, hup, fun H5 p e _ _ sa n5 => ?_⟩
    exact ⟨p, e, _, _, rfl, sa, hk, fun H6 n6 => kk _ ((n14.trans n5).trans n6)⟩
end
end Of

end
section
set_option Elab.async false
set_option linter.all false
set_option maxRecDepth 100000
set_option maxHeartbeats 2000000
namespace Of
open PySem PySem.Spec PyProof.Rows L2
open OM (getN putN Rel)
open Km355 (Summary Message Station)
@[reducible] noncomputable def sMay : Stmt := top 41
@[reducible] noncomputable def sTInit : Stmt := inClass (top 42) 0
@[reducible] noncomputable def sRead : Stmt := inClass (top 42) 1
@[reducible] noncomputable def sSay : Stmt := inClass (top 42) 2
@[reducible] noncomputable def sTell : Stmt := inClass (top 42) 3
/-- a Station's attributes -/
noncomputable def tf (me : Nat) (s : Addr) : List (Str × V) := [("me", iv me), ("stream", .ref s)]
theorem tf_me (me : Nat) (s : Addr) : (tf me s).lookup ("me" : Str) = some (iv me) := rfl
theorem tf_s (me : Nat) (s : Addr) : (tf me s).lookup ("stream" : Str) = some (.ref s) := rfl
theorem tf_no (me : Nat) (s : Addr) {m : Str} (h1 : (m == "me") = false) (h2 : (m == "stream") = false) : (tf me s).lookup m = none := by
  show (match m == "me" with | true => some (iv me) | false => match m == "stream" with | true => some (V.ref s) | false => none) = none
  rw [h1, h2]
theorem sf_no (k n : Nat) (d : Addr) (w : Nat) {m : Str} (h1 : (m == "k") = false) (h2 : (m == "readings") = false) (h3 : (m == "counts") = false) (h4 : (m == "wrong") = false) : (sf k n d w).lookup m = none := by
  show (match m == "k" with | true => some (iv k) | false => match m == "readings" with | true => some (iv n) | false => match m == "counts" with | true => some (V.ref d) | false => match m == "wrong" with | true => some (iv w) | false => none) = none
  rw [h1, h2, h3, h4]
/-- a Station stands at a, its Stream at s, the Stream's dict at d -/
structure StationAt (B C : Addr) (H : Hp) (a s d : Addr) (t : Station) : Prop where
  ins : ∃ dx, H a = some (.ins B dx (tf t.me s))
  str : StreamAt C H s d t.k t.summary
  few : t.summary.counts.length ≤ t.k
  k16 : t.k ≤ 16
  many : t.summary.n < 4294967296
structure TxtT (K : PySem.W.Frag) (mg : Str → Option Value) (B : Addr) : Prop where
  cl : Cls K B
  nme : NoAttr K B "me"
  ns : NoAttr K B "stream"
  mgB : mg "Station" = some (.ref B)
  mostS : ∃ t, mg "MOST_STATIONS" = some (.int 16 t)
  mostR : ∃ t, mg "MOST_READINGS" = some (.int 4294967295 t)
  noRoom : ∃ t, mg "NO_ROOM" = some (.int (-28) t)
section
variable {P : Program} {w : World} {K : PySem.W.Frag} {mg : Str → Option Value} {base : Heap}
/-- may_start_station(me, k) -/
noncomputable def spMay : Sp := fun vs H Q _ => ∃ (me k : Nat), vs = [iv me, iv k] ∧ Q (.bl (decide (me < 16) && Km355.okK k)) H
theorem scMay : FnScope ["me", "k"] ["me", "k"] (defScope sMay) := ⟨rfl, rfl, rfl, by decide +kernel, rfl, by decide +kernel, by decide +kernel⟩
theorem ok_may {f g B : Addr} {fd gd : FuncData} (F : Fun K "may_start_station" "may_start_station" sMay f fd) (T : TxtT K mg B) (TN : TxtN mg) (G : Fun K "may_count" "may_count" sMayC g gd) (bG : Binds K gd ["k"] []) (mG : mg "may_count" = some (.ref g)) : FnOk P w K mg base CX0 2 f fd ["me", "k"] spMay := by
  have GO : FnOk P w K mg base CX0 1 g gd ["k"] spMayC := ok_mayC G TN
  refine F.ok scMay (fun vs H Q E h => ?_) (fun cdv A outer s0 H vs Q E hr h => ?_)
  · obtain ⟨me, k, rfl, _⟩ := h
    rfl
  · obtain ⟨me, k, rfl, kk⟩ := h
    obtain ⟨t1, h1⟩ := T.mostS
    refine ⟨_, pss_one (ps_ret (pe_and (pe_cmpR on_lt (pv 0) (pe_glob (v := iv 16) rfl h1 ⟨t1, rfl⟩) (nomark _)) (pe_one (pe_call GO hr rfl mG G.kp bG .nil pass0 (pa_cons (pv 1) pa_nil))))), ?_⟩
    refine ⟨_, rfl, me, 16, rfl, rfl, _, rfl, ?_⟩
    refine ite2 (fun e1 => ?_) fun e1 => ?_
    · rw [e1] at kk
      exact ⟨_, rfl, k, rfl, kk⟩
    · rw [Bool.eq_false_iff.mpr e1] at kk
      exact kk
/-- Station(me, k) -/
noncomputable def spTInit (B C : Addr) : Sp := fun vs H Q _ => ∃ (p dx : Addr) (me k : Nat), vs = [.ref p, iv me, iv k] ∧ H p = some (.ins B dx []) ∧ k ≤ 16 ∧
  ∀ (H' : Hp) (s d : Addr), H s = none → H d = none → StationAt B C H' p s d ⟨me, k, Km355.nothing⟩ → Chg [p] H H' → Q .non H'
theorem scTInit : FnScope ["self", "me", "k"] ["self", "me", "k"] (defScope sTInit) := ⟨rfl, rfl, rfl, by decide +kernel, rfl, by decide +kernel, by decide +kernel⟩
theorem ok_tInit {f g B C : Addr} {fd gd : FuncData} (F : Fun K "__init__" "Station.__init__" sTInit f fd) (T : TxtT K mg B) (TS : TxtS K mg C) (M : Mk K C g) (G : Fun K "__init__" "Stream.__init__" sSInit g gd) (bG : Binds K gd ["self", "k"] []) : FnOk P w K mg base CX0 3 f fd ["self", "me", "k"] (spTInit B C) := by
  have GO : FnOk P w K mg base CX0 1 g gd ["self", "k"] (spSInit C) := ok_sInit G TS
  refine F.ok scTInit (fun vs H Q E h => ?_) (fun cdv A outer s0 H vs Q E hr h => ?_)
  · obtain ⟨p, dx, me, k, rfl, _⟩ := h
    rfl
  · obtain ⟨p, dx, me, k, rfl, hp, hk, kk⟩ := h
    refine ⟨_, pss_cons (ps_fld (pv 0) (pv 1) rfl) (pss_one (ps_fld (pv 0) (pe_make M GO hr rfl TS.mgC bG .nil pass0 (pa_cons (pv 2) pa_nil)) rfl)), ?_⟩
    refine ⟨_, rfl, _, rfl, p, B, dx, _, rfl, hp, T.cl, T.nme, (by decide), ?_⟩
    refine ⟨_, rfl, fun s sx hs hsx nsx => ?_⟩
    have hps : p ≠ s := fun e => by subst e; rw [upd_same] at hs; cases hs
    have hpsx : p ≠ sx := fun e => by subst e; rw [upd_same] at hsx; cases hsx
    have hs0 : H s = none := by rw [upd_ne (Ne.symm hps)] at hs; exact hs
    have hsx0 : H sx = none := by rw [upd_ne (Ne.symm hpsx)] at hsx; exact hsx
    refine ⟨s, sx, k, rfl, upd_same, fun H1 d hd a1 k1 => ⟨rfl, ?_⟩⟩
    have hds : d ≠ s := fun e => by subst e; rw [upd_same] at hd; cases hd
    have hdsx : d ≠ sx := fun e => by subst e; rw [upd_ne hds, upd_same] at hd; cases hd
    have hdp : d ≠ p := fun e => by subst e; rw [upd_ne hds, upd_ne hdsx, upd_same] at hd; cases hd
    have hd0 : H d = none := by rw [upd_ne hds, upd_ne hdsx, upd_ne hdp] at hd; exact hd
    have hp1 : H1 p = some (.ins B dx (putF "me" (iv me) [])) := k1.keep p _ (by rw [upd_ne hps, upd_ne hpsx, upd_same]) (by simpa using hps)
    refine ⟨_, rfl, p, B, dx, _, rfl, hp1, T.cl, T.ns, (by show 1 < 1000; decide), ?_⟩
    refine kk _ s d hs0 hd0 ⟨⟨dx, upd_same⟩, a1.keep (fun o e => by rw [upd_ne (Ne.symm hps)]; exact e) (fun o e => by rw [upd_ne hdp]; exact e), Nat.zero_le _, hk, (by show 0 < 4294967296; decide)⟩ ?_
    have pw : p ∈ [p] ∨ H p = none := .inl (by simp)
    have k2 : Chg [p, s] H H1 := (((Chg.refl.upd (.inl (by simp))).upd (.inr hsx0)).upd (.inr hs0)).trans (k1.mono fun b hb => by simp at hb; simp [hb])
    refine ⟨fun b o hb nb => ?_, fun b hb => (k2.upd (.inl (by simp))).dom b hb⟩
    have nb' : b ≠ p := by simpa using nb
    rw [upd_ne nb']
    exact k2.keep b o hb (by simp [nb', ne_of_none hb hs0])
theorem add_few {k : Nat} {S : Summary} (h : S.counts.length ≤ k) (x : Nat) (u : OM.Rising S.counts) : (S.add k x).counts.length ≤ k := by
  unfold Km355.Summary.add
  by_cases c : Km355.has S.counts x = true
  · rw [if_pos (.inl c)]
    have e : (OM.addN S.counts (x, 1)).length = S.counts.length := by
      unfold OM.addN OM.putN
      rw [if_pos (show (S.counts.any fun y => y.1 == x) = true from c), List.length_map]
    have r := ((⟨List.Perm.refl _, u⟩ : Rel S.counts S.counts).add (x, 1)).len
    show (Km355.bump x 1 S.counts).length ≤ k
    have r : _ = (Km355.bump x 1 S.counts).length := r
    omega
  · by_cases l : S.counts.length < k
    · rw [if_pos (.inr l)]
      have e : (OM.addN S.counts (x, 1)).length = S.counts.length + 1 := by
        unfold OM.addN OM.putN
        rw [if_neg (show ¬ (S.counts.any fun y => y.1 == x) = true from c), List.length_append]
        rfl
      have r : _ = (Km355.bump x 1 S.counts).length := ((⟨List.Perm.refl _, u⟩ : Rel S.counts S.counts).add (x, 1)).len
      show (Km355.bump x 1 S.counts).length ≤ k
      omega
    · rw [if_neg (fun z => z.elim c l)]
      exact Nat.le_trans (lower_len _ _) h
/-- station.read(x) -/
noncomputable def spRead (B C : Addr) : Sp := fun vs H Q _ => ∃ (a s d : Addr) (x : Nat) (t : Station), vs = [.ref a, iv x] ∧ StationAt B C H a s d t ∧
  ∀ (H' : Hp) (d' p : Addr), StationAt B C H' a s d' (Km355.sDoes t (.sRead x)).1 → (d' = d ∨ H d' = none) → H p = none → H' p = some (.lst (toldV (Km355.sDoes t (.sRead x)).2)) → Chg [s, d] H H' → Q (.ref p) H'
theorem scRead : FnScope ["self", "x"] ["self", "x"] (defScope sRead) := ⟨rfl, rfl, rfl, by decide +kernel, rfl, by decide +kernel, by decide +kernel⟩
theorem ok_read {f g B C : Addr} {fd gd : FuncData} (F : Fun K "read" "Station.read" sRead f fd) (T : TxtT K mg B) (TS : TxtS K mg C) (GO : FnOk P w K mg base CX0 2 g gd ["self", "x"] (spTake C)) (mG : Meth K C "take" g) (bG : Binds K gd ["self", "x"] []) : FnOk P w K mg base CX0 3 f fd ["self", "x"] (spRead B C) := by
  refine F.ok scRead (fun vs H Q E h => ?_) (fun cdv A outer s0 H vs Q E hr h => ?_)
  · obtain ⟨a, s, d, x, t, rfl, _⟩ := h
    rfl
  · obtain ⟨a, s, d, x, t, rfl, st, kk⟩ := h
    obtain ⟨⟨dx, ha⟩, sa, few, k16, many⟩ := id st
    obtain ⟨⟨sx, hs⟩, ps, hd, r⟩ := id sa
    obtain ⟨t1, h1⟩ := T.mostR
    obtain ⟨t2, h2⟩ := T.noRoom
    refine ⟨_, pss_cons (ps_if (pt_cmpR on_eq (pe_fld (pe_fld (pv 0) rfl) rfl) (pe_glob (v := iv 4294967295) rfl h1 ⟨t1, rfl⟩) (nomark _))
        (pss_one (ps_ret (pe_lst (pa_cons (pe_glob (v := .int (-28)) rfl h2 ⟨t2, rfl⟩) pa_nil)))) pss_nil)
      (pss_cons (ps_expr (pe_meth (pe_fld (pv 0) rfl) TS.cl mG GO hr bG .nil pass0 (pa_cons (pv 1) pa_nil)))
      (pss_one (ps_ret (pe_lst (pa_cons pe_int pa_nil))))), ?_⟩
    refine ⟨_, rfl, a, B, dx, _, _, rfl, ha, T.cl, T.ns, tf_s .., s, C, sx, _, _, rfl, hs, TS.cl, TS.nn, sf_n .., _, 4294967295, rfl, rfl, _, rfl, ?_⟩
    refine ite2 (fun e => ?_) fun e => ?_
    · have e' : t.summary.n = 4294967295 := of_decide_eq_true e
      have q : Km355.sDoes t (.sRead x) = (t, Km355.only (-28)) := by
        show (if Km355.MANY ≤ t.summary.n + 1 then _ else _) = _
        rw [if_pos (by rw [e']; decide)]
      rw [q] at kk
      refine ⟨(by show 1 ≤ sizeLine; decide), fun p hp => ?_⟩
      have sm : Same H (upd H p (.lst [V.int (-28)])) := fun b o hb => by rw [upd_ne (ne_of_none hb hp)]; exact hb
      exact kk _ d p ⟨⟨dx, sm _ _ ha⟩, sa.same sm, few, k16, many⟩ (.inl rfl) hp upd_same (.of sm)
    · have e' : ¬ t.summary.n = 4294967295 := fun z => e (decide_eq_true z)
      have q : Km355.sDoes t (.sRead x) = ({ t with summary := t.summary.add t.k x }, Km355.only 0) := by
        show (if Km355.MANY ≤ t.summary.n + 1 then _ else _) = _
        rw [if_neg (by show ¬ 4294967296 ≤ _; omega)]
      rw [q] at kk
      refine ⟨_, rfl, a, B, dx, _, _, rfl, ha, T.cl, T.ns, tf_s .., s, sx, _, rfl, hs, sf_no _ _ _ _ (by decide +kernel) (by decide +kernel) (by decide +kernel) (by decide +kernel), _, rfl, s, d, _, x, _, rfl, sa, by omega, fun H1 d' a1 hd' c1 => ?_⟩
      refine ⟨(by show 1 ≤ sizeLine; decide), fun p hp => ?_⟩
      have sm : Same H1 (upd H1 p (.lst [V.int 0])) := fun b o hb => by rw [upd_ne (ne_of_none hb hp)]; exact hb
      have ha1 : H1 a = some (.ins B dx (tf t.me s)) := c1.keep a _ ha (by
        have n1 : a ≠ d := ne_of ha hd (by intro q; cases q)
        have n2 : a ≠ s := ne_of ha hs (by intro q; injection q with _ _ q; exact absurd (congrArg List.length q) (by show ¬ 2 = 4; decide))
        simp [n1, n2])
      refine kk _ d' p ⟨⟨dx, sm _ _ ha1⟩, a1.same sm, add_few few x r.up, k16, ?_⟩ hd' (c1.fresh hp) upd_same (c1.trans (.of sm))
      show (t.summary.add t.k x).n < 4294967296
      unfold Km355.Summary.add
      split <;> (show t.summary.n + 1 < 4294967296; omega)
/-- station.say() -/
noncomputable def spSay (B C : Addr) : Sp := fun vs H Q _ => ∃ (a s d : Addr) (t : Station), vs = [.ref a] ∧ StationAt B C H a s d t ∧
  ∀ (H' : Hp) (p : Addr), H p = none → H' p = some (.lst (toldV (Km355.sDoes t .sSay).2)) → Same H H' → Q (.ref p) H'
theorem scSay : FnScope ["self"] ["self"] (defScope sSay) := ⟨rfl, rfl, rfl, by decide +kernel, rfl, by decide +kernel, by decide +kernel⟩
theorem ok_say {f g B C : Addr} {fd gd : FuncData} (F : Fun K "say" "Station.say" sSay f fd) (T : TxtT K mg B) (GO : FnOk P w K mg base CX0 2 g gd ["me", "stream"] (spMsg C)) (kG : PySem.W.keepIn K (.ref g) = true) (mG : mg "message_of" = some (.ref g)) (bG : Binds K gd ["me", "stream"] []) : FnOk P w K mg base CX0 3 f fd ["self"] (spSay B C) := by
  refine F.ok scSay (fun vs H Q E h => ?_) (fun cdv A outer s0 H vs Q E hr h => ?_)
  · obtain ⟨a, s, d, t, rfl, _⟩ := h
    rfl
  · obtain ⟨a, s, d, t, rfl, st, kk⟩ := h
    obtain ⟨⟨dx, ha⟩, sa, few, k16, many⟩ := id st
    refine ⟨_, pss_one (ps_ret (pe_op op_cat (pe_lst (pa_cons pe_int pa_nil)) (pe_call GO hr rfl mG kG bG .nil pass0 (pa_cons (pe_fld (pv 0) rfl) (pa_cons (pe_fld (pv 0) rfl) pa_nil))))), ?_⟩
    refine ⟨(by show 1 ≤ sizeLine; decide), fun z hz => ?_⟩
    have sm : Same H (upd H z (.lst [V.int 0])) := fun b o hb => by rw [upd_ne (ne_of_none hb hz)]; exact hb
    refine ⟨_, rfl, a, B, dx, _, _, rfl, sm _ _ ha, T.cl, T.nme, tf_me .., _, rfl, a, B, dx, _, _, rfl, sm _ _ ha, T.cl, T.ns, tf_s .., t.me, s, d, _, _, rfl, sa.same sm, by omega, fun H1 p g1 => ?_⟩
    have hl : ((⟨t.me, t.k, t.summary⟩ : Message).bytes).length = 216 := by
      rw [OM.bytes_eq, List.length_append, OM.body_len (show t.summary.counts.length ≤ 16 by omega), OM.le_len]
    refine ⟨z, p, _, _, rfl, rfl, g1.same _ _ upd_same, g1.at_, ?_, fun q hq => ?_⟩
    · rw [List.length_map, hl]
      exact Nat.le_of_lt (small1000 (by show 1 + 216 ≤ 1000; decide))
    · refine kk _ q ((sm.trans g1.same).free hq) ?_ fun b o hb => by rw [upd_ne (ne_of_none (g1.same _ _ (sm b o hb)) hq)]; exact g1.same _ _ (sm b o hb)
      rw [upd_same]
      show _ = some (HO.lst (toldV { value := ((0 : Nat) : Int), out := _ }))
      rw [toldV_nats]
      rfl
/-- station.tell(x) -/
noncomputable def spTell (B C : Addr) : Sp := fun vs H Q _ => ∃ (a s d : Addr) (x : Nat) (t : Station), vs = [.ref a, iv x] ∧ StationAt B C H a s d t ∧
  ∀ (H' : Hp) (p : Addr), H p = none → H' p = some (.lst (toldV (Km355.sDoes t (.sOf x)).2)) → Same H H' → Q (.ref p) H'
theorem scTell : FnScope ["self", "x"] ["self", "x"] (defScope sTell) := ⟨rfl, rfl, rfl, by decide +kernel, rfl, by decide +kernel, by decide +kernel⟩
theorem ok_tell {f h B C : Addr} {fd hd : FuncData} (F : Fun K "tell" "Station.tell" sTell f fd) (T : TxtT K mg B) (TS : TxtS K mg C)
    (HO : FnOk P w K mg base CX0 1 h hd ["self", "x"] (spTold C)) (mH : Meth K C "told" h) (bH : Binds K hd ["self", "x"] []) : FnOk P w K mg base CX0 2 f fd ["self", "x"] (spTell B C) := by
  refine F.ok scTell (fun vs H Q E h => ?_) (fun cdv A outer s0 H vs Q E hr h => ?_)
  · obtain ⟨a, s, d, x, t, rfl, _⟩ := h
    rfl
  · obtain ⟨a, s, d, x, t, rfl, st, kk⟩ := h
    obtain ⟨⟨dx, ha⟩, sa, few, k16, many⟩ := id st
    obtain ⟨⟨sx, hs⟩, ps, hd, r⟩ := id sa
    refine ⟨_, pss_one (ps_ret (pe_meth (pe_fld (pv 0) rfl) TS.cl mH HO hr bH .nil pass0 (pa_cons (pv 1) pa_nil))), ?_⟩
    exact ⟨_, rfl, a, B, dx, _, _, rfl, ha, T.cl, T.ns, tf_s .., s, sx, _, rfl, hs, sf_no _ _ _ _ (by decide +kernel) (by decide +kernel) (by decide +kernel) (by decide +kernel), _, rfl, s, d, _, x, _, rfl, sa, fun p hp => kk _ p hp upd_same (same_new hp _)⟩
end
end Of

end
section
set_option Elab.async false
set_option linter.all false
set_option maxRecDepth 100000
set_option maxHeartbeats 2000000
namespace Of
open PySem PySem.Spec PyProof.Rows L2
open OM (getN putN Rel cnts cr headB checkB restB addsB Rising)
open Km355 (Summary Message Station Centre messageOf cDoes)
@[reducible] noncomputable def sMayZ : Stmt := top 37
@[reducible] noncomputable def sZInit : Stmt := inClass (top 38) 0
@[reducible] noncomputable def sHear : Stmt := inClass (top 38) 1
@[reducible] noncomputable def sTog : Stmt := inClass (top 38) 2
@[reducible] noncomputable def sZTell : Stmt := inClass (top 38) 3
@[reducible] noncomputable def sZOften : Stmt := inClass (top 38) 4
/-- a Centre's attributes -/
noncomputable def cf (k : Nat) (l : Addr) : List (Str × V) := [("k", iv k), ("heard", .ref l)]
theorem cf_k (k : Nat) (l : Addr) : (cf k l).lookup ("k" : Str) = some (iv k) := rfl
theorem cf_h (k : Nat) (l : Addr) : (cf k l).lookup ("heard" : Str) = some (.ref l) := rfl
theorem cf_no (k : Nat) (l : Addr) {m : Str} (h1 : (m == "k") = false) (h2 : (m == "heard") = false) : (cf k l).lookup m = none := by
  show (match m == "k" with | true => some (iv k) | false => match m == "heard" with | true => some (V.ref l) | false => none) = none
  rw [h1, h2]
/-- streams stand at ss, their dicts at ds -/
structure StreamsAt (C : Addr) (H : Hp) (ss ds : List Addr) (k : Nat) (Ss : List Summary) : Prop where
  l1 : ss.length = Ss.length
  l2 : ds.length = Ss.length
  at_ : ∀ (i : Nat) (s d : Addr) (S : Summary), ss[i]? = some s → ds[i]? = some d → Ss[i]? = some S → StreamAt C H s d k S
theorem StreamsAt.keep {C : Addr} {H H' : Hp} {ss ds : List Addr} {k : Nat} {Ss : List Summary} (a : StreamsAt C H ss ds k Ss) (h1 : ∀ b ∈ ss, ∀ o, H b = some o → H' b = some o) (h2 : ∀ b ∈ ds, ∀ o, H b = some o → H' b = some o) : StreamsAt C H' ss ds k Ss :=
  ⟨a.l1, a.l2, fun i s d S e1 e2 e3 => (a.at_ i s d S e1 e2 e3).keep (h1 s (List.mem_of_getElem? e1)) (h2 d (List.mem_of_getElem? e2))⟩
theorem StreamsAt.same {C : Addr} {H H' : Hp} {ss ds : List Addr} {k : Nat} {Ss : List Summary} (a : StreamsAt C H ss ds k Ss) (h : Same H H') : StreamsAt C H' ss ds k Ss := a.keep (fun b _ => h b) fun b _ => h b
/-- a Centre stands at a, its list at l, its Streams at ss, their dicts at ds -/
structure CentreAt (Z C : Addr) (H : Hp) (a l : Addr) (ss ds : List Addr) (c : Centre) : Prop where
  ins : ∃ dx, H a = some (.ins Z dx (cf c.k l))
  lst : H l = some (.lst (ss.map V.ref))
  sts_ : StreamsAt C H ss ds c.k (c.got.take c.stations)
  few : ∀ S ∈ c.got, S.counts.length ≤ c.k
  k16 : c.k ≤ 16
  n16 : c.stations ≤ 16
  got : c.got.length = 16
theorem CentreAt.keep {Z C : Addr} {H H' : Hp} {a l : Addr} {ss ds : List Addr} {c : Centre} (h : CentreAt Z C H a l ss ds c) (k : ∀ b ∈ a :: l :: (ss ++ ds), ∀ o, H b = some o → H' b = some o) : CentreAt Z C H' a l ss ds c := by
  obtain ⟨⟨dx, h1⟩, h2, h3, h4, h5, h6, h7⟩ := h
  exact ⟨⟨dx, k a (by simp) _ h1⟩, k l (by simp) _ h2, h3.keep (fun b hb => k b (by simp [hb])) (fun b hb => k b (by simp [hb])), h4, h5, h6, h7⟩
theorem CentreAt.same {Z C : Addr} {H H' : Hp} {a l : Addr} {ss ds : List Addr} {c : Centre} (h : CentreAt Z C H a l ss ds c) (s : Same H H') : CentreAt Z C H' a l ss ds c := h.keep fun b _ => s b
theorem CentreAt.len {Z C : Addr} {H : Hp} {a l : Addr} {ss ds : List Addr} {c : Centre} (h : CentreAt Z C H a l ss ds c) : ss.length = c.stations := by
  rw [h.sts_.l1, List.length_take, h.got]
  have := h.n16
  omega
theorem CentreAt.dlen {Z C : Addr} {H : Hp} {a l : Addr} {ss ds : List Addr} {c : Centre} (h : CentreAt Z C H a l ss ds c) : ds.length = c.stations := by
  rw [h.sts_.l2, List.length_take, h.got]
  have := h.n16
  omega
structure TxtZ (K : PySem.W.Frag) (mg : Str → Option Value) (Z : Addr) : Prop where
  cl : Cls K Z
  nk : NoAttr K Z "k"
  nh : NoAttr K Z "heard"
  mgZ : mg "Centre" = some (.ref Z)
  mostS : ∃ t, mg "MOST_STATIONS" = some (.int 16 t)
  mostC : ∃ t, mg "MOST_COUNTERS" = some (.int 16 t)
  notTaken : ∃ t, mg "NOT_TAKEN" = some (.int (-71) t)
  noPart : ∃ t, mg "NO_PART" = some (.int (-22) t)
  len : mg "len" = none
  range : mg "range" = none
section
variable {P : Program} {w : World} {K : PySem.W.Frag} {mg : Str → Option Value} {base : Heap}
/-- may_start_centre(k, stations) -/
noncomputable def spMayZ : Sp := fun vs H Q _ => ∃ (k n : Nat), vs = [iv k, iv n] ∧ Q (.bl (Km355.okK k && (decide (1 ≤ n) && decide (n ≤ 16)))) H
theorem scMayZ : FnScope ["k", "stations"] ["k", "stations"] (defScope sMayZ) := ⟨rfl, rfl, rfl, by decide +kernel, rfl, by decide +kernel, by decide +kernel⟩
theorem ok_mayZ {f g Z : Addr} {fd gd : FuncData} (F : Fun K "may_start_centre" "may_start_centre" sMayZ f fd) (T : TxtZ K mg Z) (TN : TxtN mg) (G : Fun K "may_count" "may_count" sMayC g gd) (bG : Binds K gd ["k"] []) (mG : mg "may_count" = some (.ref g)) : FnOk P w K mg base CX0 2 f fd ["k", "stations"] spMayZ := by
  have GO : FnOk P w K mg base CX0 1 g gd ["k"] spMayC := ok_mayC G TN
  refine F.ok scMayZ (fun vs H Q E h => ?_) (fun cdv A outer s0 H vs Q E hr h => ?_)
  · obtain ⟨k, n, rfl, _⟩ := h
    rfl
  · obtain ⟨k, n, rfl, kk⟩ := h
    obtain ⟨t1, h1⟩ := T.mostS
    refine ⟨_, pss_one (ps_ret (pe_and (pe_call GO hr rfl mG G.kp bG .nil pass0 (pa_cons (pv 0) pa_nil)) (pe_and (pe_cmpR on_le pe_int (pv 1) (nomark _)) (pe_one (pe_cmpR on_le (pv 1) (pe_glob (v := iv 16) rfl h1 ⟨t1, rfl⟩) (nomark _)))))), ?_⟩
    refine ⟨_, rfl, k, rfl, _, rfl, ?_⟩
    refine ite2 (fun e1 => ?_) fun e1 => ?_
    · rw [e1] at kk
      refine ⟨_, rfl, 1, n, rfl, rfl, _, rfl, ?_⟩
      refine ite2 (fun e2 => ?_) fun e2 => ?_
      · rw [e2] at kk
        exact ⟨_, rfl, n, 16, rfl, rfl, kk⟩
      · rw [Bool.eq_false_iff.mpr e2] at kk
        exact kk
    · rw [Bool.eq_false_iff.mpr e1] at kk
      exact kk
theorem got0 (n : Nat) (h : n ≤ 16) : (List.replicate Km355.STATIONS Km355.nothing).take n = List.replicate n Km355.nothing := by
  rw [List.take_replicate]
  congr 1
  unfold Km355.STATIONS
  omega
/-- Centre(k, stations) -/
noncomputable def spZInit (Z C : Addr) : Sp := fun vs H Q _ => ∃ (p dx : Addr) (k n : Nat), vs = [.ref p, iv k, iv n] ∧ H p = some (.ins Z dx []) ∧ k ≤ 16 ∧ n ≤ 16 ∧
  ∀ (H' : Hp) (l : Addr) (ss ds : List Addr), H l = none → (∀ b ∈ ss, H b = none) → (∀ b ∈ ds, H b = none) → CentreAt Z C H' p l ss ds (Km355.centre0 k n) → Chg [p] H H' → Q .non H'
theorem scZInit : FnScope ["self", "k", "stations", "place"] ["self", "k", "stations"] (defScope sZInit) := ⟨rfl, rfl, rfl, by decide +kernel, rfl, by decide +kernel, by decide +kernel⟩
theorem ok_zInit {f g Z C : Addr} {fd gd : FuncData} (F : Fun K "__init__" "Centre.__init__" sZInit f fd) (T : TxtZ K mg Z) (TS : TxtS K mg C) (M : Mk K C g) (G : Fun K "__init__" "Stream.__init__" sSInit g gd) (bG : Binds K gd ["self", "k"] []) : FnOk P w K mg base CX0 3 f fd ["self", "k", "stations"] (spZInit Z C) := by
  have GO : FnOk P w K mg base CX0 1 g gd ["self", "k"] (spSInit C) := ok_sInit G TS
  refine F.ok scZInit (fun vs H Q E h => ?_) (fun cdv A outer s0 H vs Q E hr h => ?_)
  · obtain ⟨p, dx, k, n, rfl, _⟩ := h
    rfl
  · obtain ⟨p, dx, k, n, rfl, hp, hk, hn, kk⟩ := h
    have nd := scZInit.nd
    refine ⟨_, pss_cons (ps_fld (pv 0) (pv 1) rfl) (pss_one (ps_fld (pv 0) (pe_lc (own := [("place", 3)]) rfl nd (pi_range1 rfl T.range (pa_cons (pv 2) pa_nil)) (blkOk_by (by show blkC ["self", "k", "stations", "place"] (defScope sZInit) _ _ = true; decide +kernel)) (fun _ _ _ _ _ => pg_name (i := 3) nd rfl (Or.inl rfl)) (fun _ _ _ _ _ => pts_nil)
      (fun _ _ _ _ _ => pe_make M GO hr rfl TS.mgC bG .nil pass0 (pa_cons (pv 1) pa_nil))) rfl)), ?_⟩
    refine ⟨_, rfl, _, rfl, p, Z, dx, _, rfl, hp, T.cl, T.nk, (by decide), ?_⟩
    have c0 : Chg [p] H (upd H p (.ins Z dx (putF "k" (iv k) []))) := Chg.refl.upd (.inl (by simp))
    have hp0 : upd H p (.ins Z dx (putF "k" (iv k) [])) p = some (.ins Z dx (putF "k" (iv k) [])) := upd_same
    generalize upd H p (.ins Z dx (putF "k" (iv k) [])) = H0 at c0 hp0 ⊢
    refine ⟨_, rfl, (n : Int), rfl, rng_lo n, rng_hi (Nat.le_trans hn (by decide)), fun D hD => ?_⟩
    have hpD : p ≠ D := ne_of_none hp0 hD
    refine lc_range (fun i H' => ∃ ss ds : List Addr, (∀ b ∈ ss, H0 b = none) ∧ (∀ b ∈ ds, H0 b = none) ∧ (∀ b ∈ ss, b ≠ D) ∧ (∀ b ∈ ds, b ≠ D) ∧ H' D = some (.lst (ss.map V.ref)) ∧ StreamsAt C H' ss ds k (List.replicate i Km355.nothing) ∧ Same H0 H')
      ⟨[], [], by simp, by simp, by simp, by simp, upd_same, ⟨rfl, rfl, fun i s d S e => by simp at e⟩, same_new hD _⟩ ?_ ?_
    · rintro i H' hi ⟨ss, ds, f1, f2, n1, n2, hl, sa, s1⟩
      have hi : i < n := by rw [Int.toNat_natCast] at hi; exact hi
      refine ⟨rfl, _, rfl, fun s sx hs hsx nsx => ?_⟩
      refine ⟨s, sx, k, rfl, upd_same, fun H1 d hd a1 k1 => ⟨rfl, ?_⟩⟩
      have hds : d ≠ s := fun e => by subst e; rw [upd_same] at hd; cases hd
      have hdsx : d ≠ sx := fun e => by subst e; rw [upd_ne hds, upd_same] at hd; cases hd
      have hd0 : H' d = none := by rw [upd_ne hds, upd_ne hdsx] at hd; exact hd
      have s2 : Same H' H1 := fun b o hb => by
        refine k1.keep b o ?_ (by simpa using ne_of_none hb hs)
        rw [upd_ne (ne_of_none hb hs), upd_ne (ne_of_none hb hsx)]
        exact hb
      have sD : s ≠ D := fun e => by subst e; rw [hl] at hs; cases hs
      have dD : d ≠ D := fun e => by subst e; rw [hl] at hd0; cases hd0
      have hssl : ss.length = i := by rw [sa.l1, List.length_replicate]
      have hdsl : ds.length = i := by rw [sa.l2, List.length_replicate]
      refine ⟨_, s2 _ _ hl, by rw [List.length_map, hssl]; exact small1000 (Nat.le_trans (Nat.le_of_lt hi) (Nat.le_trans hn (by decide))), ss ++ [s], ds ++ [d], ?_, ?_, ?_, ?_, ?_, ⟨?_, ?_, fun j u v S e1 e2 e3 => ?_⟩, fun b o hb => ?_⟩
      · intro b hb
        rcases List.mem_append.mp hb with hb | hb
        · exact f1 b hb
        · rw [List.mem_singleton.mp hb]; exact s1.free hs
      · intro b hb
        rcases List.mem_append.mp hb with hb | hb
        · exact f2 b hb
        · rw [List.mem_singleton.mp hb]; exact s1.free hd0
      · intro b hb
        rcases List.mem_append.mp hb with hb | hb
        · exact n1 b hb
        · rw [List.mem_singleton.mp hb]; exact sD
      · intro b hb
        rcases List.mem_append.mp hb with hb | hb
        · exact n2 b hb
        · rw [List.mem_singleton.mp hb]; exact dD
      · rw [upd_same, List.map_append]
        rfl
      · rw [List.length_append, hssl, List.length_replicate]
        rfl
      · rw [List.length_append, hdsl, List.length_replicate]
        rfl
      · have eS : S = Km355.nothing := (List.eq_of_mem_replicate (List.mem_of_getElem? e3))
        subst eS
        by_cases hj : j < i
        · rw [List.getElem?_append_left (app_lt hssl hj)] at e1
          rw [List.getElem?_append_left (app_lt hdsl hj)] at e2
          refine ((sa.at_ j u v _ e1 e2 (by rw [List.getElem?_replicate, if_pos hj])).same s2).keep (fun o e => ?_) fun o e => ?_
          · rw [upd_ne (n1 u (List.mem_of_getElem? e1))]; exact e
          · rw [upd_ne (n2 v (List.mem_of_getElem? e2))]; exact e
        · have hj' : j < i + 1 := by
            have := (List.getElem?_eq_some_iff.mp e3).1
            rw [List.length_replicate] at this
            exact this
          have ej : j = i := Nat.le_antisymm (Nat.le_of_lt_succ hj') (Nat.le_of_not_lt hj)
          subst ej
          rw [List.getElem?_append_right (app_ge hssl), hssl, Nat.sub_self] at e1
          rw [List.getElem?_append_right (app_ge hdsl), hdsl, Nat.sub_self] at e2
          have eu : s = u := Option.some.inj e1
          have ev : d = v := Option.some.inj e2
          subst eu ev
          refine a1.keep (fun o e => ?_) fun o e => ?_
          · rw [upd_ne sD]; exact e
          · rw [upd_ne dD]; exact e
      · rw [upd_ne (ne_of_none hb hD)]
        exact s2 _ _ (s1 b o hb)
    · rintro H' ⟨ss, ds, f1, f2, n1, n2, hl, sa, s1⟩
      rw [Int.toNat_natCast] at sa
      refine ⟨_, rfl, p, Z, dx, _, rfl, s1 _ _ hp0, T.cl, T.nh, (by show 1 < 1000; decide), ?_⟩
      have np : ∀ b, H0 b = none → b ≠ p := fun b hb e => by subst e; rw [hp0] at hb; cases hb
      refine kk _ D ss ds (c0.fresh hD) (fun b hb => c0.fresh (f1 b hb)) (fun b hb => c0.fresh (f2 b hb)) ⟨⟨dx, upd_same⟩, by rw [upd_ne (Ne.symm hpD)]; exact hl, ?_, fun S hS => ?_, hk, hn, List.length_replicate⟩ ((c0.trans (.of s1)).upd (.inl (by simp)))
      · rw [show (Km355.centre0 k n).got.take (Km355.centre0 k n).stations = List.replicate n Km355.nothing from got0 n hn]
        exact sa.keep (fun b hb o e => by rw [upd_ne (np b (f1 b hb))]; exact e) fun b hb o e => by rw [upd_ne (np b (f2 b hb))]; exact e
      · rw [List.eq_of_mem_replicate hS]
        exact Nat.zero_le _
/-- all, so far -/
noncomputable def allTo (c : Centre) (i : Nat) : Summary := (c.got.take i).foldl (Summary.with_ c.k) Km355.nothing
theorem allTo_succ {c : Centre} {i : Nat} {S : Summary} (h : c.got[i]? = some S) : allTo c (i + 1) = Summary.with_ c.k (allTo c i) S := by
  unfold allTo
  rw [take_snoc h, List.foldl_append]
  rfl
theorem allTo_few (c : Centre) : ∀ i : Nat, (allTo c i).counts.length ≤ c.k
  | 0 => Nat.zero_le _
  | i + 1 => by
    cases e : c.got[i]? with
    | some S => rw [allTo_succ e]; exact OM.with_few _ _ _
    | none =>
      have h : c.got.take (i + 1) = c.got.take i := by
        rw [List.take_succ, e]
        exact List.append_nil _
      unfold allTo
      rw [h]
      exact allTo_few c i
/-- centre.together() -/
noncomputable def spTog (Z C : Addr) : Sp := fun vs H Q _ => ∃ (a l : Addr) (ss ds : List Addr) (c : Centre), vs = [.ref a] ∧ CentreAt Z C H a l ss ds c ∧
  ∀ (H' : Hp) (p e : Addr), H p = none → H e = none → StreamAt C H' p e c.k c.all → Same H H' → Q (.ref p) H'
theorem scTog : FnScope ["self", "known", "stream"] ["self"] (defScope sTog) := ⟨rfl, rfl, rfl, by decide +kernel, rfl, by decide +kernel, by decide +kernel⟩
theorem ok_tog {f g h Z C : Addr} {fd gd hd : FuncData} (F : Fun K "together" "Centre.together" sTog f fd) (T : TxtZ K mg Z) (TS : TxtS K mg C) (M : Mk K C g) (G : Fun K "__init__" "Stream.__init__" sSInit g gd) (bG : Binds K gd ["self", "k"] [])
    (PO : FnOk P w K mg base CX0 3 h hd ["one", "other"] (spPut C)) (kP : PySem.W.keepIn K (.ref h) = true) (bP : Binds K hd ["one", "other"] []) (mP : mg "put_together" = some (.ref h)) : FnOk P w K mg base CX0 4 f fd ["self"] (spTog Z C) := by
  have GO : FnOk P w K mg base CX0 1 g gd ["self", "k"] (spSInit C) := ok_sInit G TS
  refine F.ok scTog (fun vs H Q E h => ?_) (fun cdv A outer s0 H vs Q E hr h => ?_)
  · obtain ⟨a, l, ss, ds, c, rfl, _⟩ := h
    rfl
  · obtain ⟨a, l, ss, ds, c, rfl, ca, kk⟩ := h
    have hr2 : Room 2 _ := hr.mono (by decide)
    obtain ⟨⟨dx, ha⟩, hl, sa, few, k16, n16, got⟩ := id ca
    have nd := scTog.nd
    refine ⟨_, pss_cons (ps_set (i := 1) nd rfl (Or.inl rfl) (pe_make M GO hr2 rfl TS.mgC bG .nil pass0 (pa_cons (pe_fld (pv 0) rfl) pa_nil)))
      (pss_cons (ps_for PassesOwn.never rfl (pi_list (pe_fld (pv 0) rfl)) (pg_name (i := 2) nd rfl (Or.inl rfl))
        (pss_one (ps_set (i := 1) nd rfl (Or.inl rfl) (pe_call PO hr rfl mP kP bP .nil pass0 (pa_cons (pv 1) (pa_cons (pv 2) pa_nil))))))
      (pss_one (ps_ret (pv 1)))), ?_⟩
    refine fld_v rfl ha T.cl T.nk (cf_k ..) (fun s sx hs hsx nsx => ?_)
    refine ⟨s, sx, c.k, rfl, upd_same, fun H1 d hd a1 k1 => ⟨rfl, ?_⟩⟩
    have hds : d ≠ s := fun e => by subst e; rw [upd_same] at hd; cases hd
    have hdsx : d ≠ sx := fun e => by subst e; rw [upd_ne hds, upd_same] at hd; cases hd
    have hd0 : H d = none := by rw [upd_ne hds, upd_ne hdsx] at hd; exact hd
    have s1 : Same H H1 := fun b o hb => by
      refine k1.keep b o ?_ (by simpa using ne_of_none hb hs)
      rw [upd_ne (ne_of_none hb hs), upd_ne (ne_of_none hb hsx)]
      exact hb
    refine ⟨_, rfl, a, Z, dx, _, _, rfl, s1 _ _ ha, T.cl, T.nh, cf_h .., l, rfl, ⟨_, SqL.of (s1 _ _ hl)⟩, for_list (K := K) (a := l) (xs := ss.map V.ref) (fun i σ H' => Same H H' ∧ ∃ (p e : Addr) (v : Option V), σ = [some (.ref a), some (.ref p), v] ∧ H p = none ∧ H e = none ∧ StreamAt C H' p e c.k (allTo c i))
      ⟨s1, s, d, none, rfl, hs, hd0, a1⟩ (fun i σ H' _ h => SqL.of (h.1 _ _ hl)) ?_ ?_⟩
    · rintro i y σ H' hi ⟨s2, p, e, v, rfl, hp, he, sp⟩
      obtain ⟨q, hq, rfl⟩ := at_map hi
      have hi' : i < c.stations := by rw [← ca.len]; exact (List.getElem?_eq_some_iff.mp hq).1
      obtain ⟨S, hS⟩ : ∃ S, c.got[i]? = some S := ⟨_, List.getElem?_eq_getElem (by omega)⟩
      obtain ⟨d2, hd2⟩ : ∃ d2, ds[i]? = some d2 := ⟨_, List.getElem?_eq_getElem (by rw [ca.dlen]; exact hi')⟩
      have sq := (sa.at_ i q d2 S hq hd2 (by rw [List.getElem?_take_of_lt hi']; exact hS)).same s2
      have f1 := allTo_few c i
      have f2 := few S (List.mem_of_getElem? hS)
      refine ⟨_, rfl, _, rfl, p, e, q, d2, c.k, c.k, _, S, rfl, sp, sq, Nat.le_trans f1 k16, Nat.le_trans f2 k16, fun H3 p3 e3 hp3 he3 sp3 s3 => ?_⟩
      refine ⟨s2.trans s3, p3, e3, _, rfl, s2.free hp3, s2.free he3, ?_⟩
      rw [allTo_succ hS]
      exact sp3
    · rintro σ H' ⟨s2, p, e, v, rfl, hp, he, sp⟩
      rw [List.length_map, ca.len] at sp
      exact ⟨_, rfl, kk _ p e hp he sp s2⟩
/-- centre.tell(x) -/
noncomputable def spZTell (Z C : Addr) : Sp := fun vs H Q _ => ∃ (a l : Addr) (ss ds : List Addr) (c : Centre) (x : Nat), vs = [.ref a, iv x] ∧ CentreAt Z C H a l ss ds c ∧
  ∀ (H' : Hp) (p : Addr), H p = none → H' p = some (.lst (toldV (cDoes c (.cOf x)).2)) → Same H H' → Q (.ref p) H'
theorem scZTell : FnScope ["self", "x"] ["self", "x"] (defScope sZTell) := ⟨rfl, rfl, rfl, by decide +kernel, rfl, by decide +kernel, by decide +kernel⟩
theorem ok_zTell {f g h Z C : Addr} {fd gd hd : FuncData} (F : Fun K "tell" "Centre.tell" sZTell f fd) (T : TxtZ K mg Z) (TS : TxtS K mg C)
    (GO : FnOk P w K mg base CX0 4 g gd ["self"] (spTog Z C)) (mG : Meth K Z "together" g) (bG : Binds K gd ["self"] [])
    (HO : FnOk P w K mg base CX0 1 h hd ["self", "x"] (spTold C)) (mH : Meth K C "told" h) (bH : Binds K hd ["self", "x"] []) : FnOk P w K mg base CX0 5 f fd ["self", "x"] (spZTell Z C) := by
  refine F.ok scZTell (fun vs H Q E h => ?_) (fun cdv A outer s0 H vs Q E hr h => ?_)
  · obtain ⟨a, l, ss, ds, c, x, rfl, _⟩ := h
    rfl
  · obtain ⟨a, l, ss, ds, c, x, rfl, ca, kk⟩ := h
    have hr1 : Room 1 _ := hr.mono (by decide)
    obtain ⟨⟨dx, ha⟩, _⟩ := id ca
    refine ⟨_, pss_one (ps_ret (pe_meth (pe_meth0 (pv 0) T.cl mG GO hr bG .nil pass0) TS.cl mH HO hr1 bH .nil pass0 (pa_cons (pv 1) pa_nil))), ?_⟩
    refine ⟨_, rfl, a, dx, _, rfl, ha, cf_no _ _ (by decide +kernel) (by decide +kernel), a, l, ss, ds, c, rfl, ca, fun H1 p e hp he sa s1 => ?_⟩
    obtain ⟨⟨sx, hs⟩, _⟩ := id sa
    refine ⟨p, sx, _, rfl, hs, sf_no _ _ _ _ (by decide +kernel) (by decide +kernel) (by decide +kernel) (by decide +kernel), _, rfl, p, e, _, x, _, rfl, sa, fun q hq => ?_⟩
    exact kk _ q (s1.free hq) upd_same (s1.trans (same_new hq _))
/-- centre.often(p) -/
noncomputable def spZOften (Z C : Addr) : Sp := fun vs H Q _ => ∃ (a l : Addr) (ss ds : List Addr) (c : Centre) (p : Nat), vs = [.ref a, iv p] ∧ CentreAt Z C H a l ss ds c ∧ p < 2 ^ 32 ∧
  ∀ (H' : Hp) (q : Addr), H q = none → H' q = some (.lst (toldV (cDoes c (.cOften p)).2)) → Same H H' → Q (.ref q) H'
theorem scZOften : FnScope ["self", "p", "found"] ["self", "p"] (defScope sZOften) := ⟨rfl, rfl, rfl, by decide +kernel, rfl, by decide +kernel, by decide +kernel⟩
theorem ok_zOften {f g h Z C : Addr} {fd gd hd : FuncData} (F : Fun K "often" "Centre.often" sZOften f fd) (T : TxtZ K mg Z) (TS : TxtS K mg C)
    (GO : FnOk P w K mg base CX0 4 g gd ["self"] (spTog Z C)) (mG : Meth K Z "together" g) (bG : Binds K gd ["self"] [])
    (HO : FnOk P w K mg base CX0 1 h hd ["self", "p"] (spOften C)) (mH : Meth K C "oftener" h) (bH : Binds K hd ["self", "p"] []) : FnOk P w K mg base CX0 5 f fd ["self", "p"] (spZOften Z C) := by
  refine F.ok scZOften (fun vs H Q E h => ?_) (fun cdv A outer s0 H vs Q E hr h => ?_)
  · obtain ⟨a, l, ss, ds, c, x, rfl, _⟩ := h
    rfl
  · obtain ⟨a, l, ss, ds, c, p, rfl, ca, h32, kk⟩ := h
    have hr1 : Room 1 _ := hr.mono (by decide)
    obtain ⟨⟨dx, ha⟩, _⟩ := id ca
    obtain ⟨t1, h1⟩ := T.noPart
    obtain ⟨t2, h2⟩ := T.mostC
    refine ⟨_, pss_cons (ps_if (pt_cmpR on_eq (pv 1) pe_int (nomark _)) (pss_one (ps_ret (pe_lst (pa_cons (pe_glob (v := .int (-22)) rfl h1 ⟨t1, rfl⟩) pa_nil)))) pss_nil)
      (pss_cons (ps_set (i := 2) scZOften.nd rfl (Or.inl rfl) (pe_meth (pe_meth0 (pv 0) T.cl mG GO hr bG .nil pass0) TS.cl mH HO hr1 bH .nil pass0 (pa_cons (pv 1) pa_nil)))
      (pss_one (ps_ret (pe_op op_cat (pe_op op_cat (pe_lst (pa_cons (pe_callB call_len_seq rfl T.len PySem.boot_len (pa_cons (pv 2) pa_nil)) pa_nil)) (pv 2)) (pe_op op_rep (pe_lst (pa_cons pe_int pa_nil)) (pe_op on_sub (pe_glob (v := iv 16) rfl h2 ⟨t2, rfl⟩) (pe_callB call_len_seq rfl T.len PySem.boot_len (pa_cons (pv 2) pa_nil)))))))), ?_⟩
    refine ⟨_, rfl, p, 0, rfl, rfl, _, rfl, ?_⟩
    refine ite2 (fun e => ?_) fun e => ?_
    · have e' : p = 0 := of_decide_eq_true e
      have q : cDoes c (.cOften p) = (c, Km355.only (-22)) := by
        show (c, if p = 0 then _ else _) = _
        rw [if_pos e']
      rw [q] at kk
      exact ⟨(by show 1 ≤ sizeLine; decide), fun q hq => kk _ q hq upd_same (same_new hq _)⟩
    · have e' : ¬ p = 0 := fun z => e (decide_eq_true z)
      refine ⟨_, rfl, a, dx, _, rfl, ha, cf_no _ _ (by decide +kernel) (by decide +kernel), a, l, ss, ds, c, rfl, ca, fun H1 s d hs hd sa s1 => ?_⟩
      obtain ⟨⟨sx, hsx⟩, _⟩ := id sa
      have fw : c.all.counts.length ≤ c.k := allTo_few c c.stations
      have k16 := ca.k16
      refine ⟨s, sx, _, rfl, hsx, sf_no _ _ _ _ (by decide +kernel) (by decide +kernel) (by decide +kernel) (by decide +kernel), _, rfl, s, d, _, p, _, rfl, sa, h32, Nat.le_trans fw k16, fun H2 q hq hq2 s2 => ?_⟩
      have q0 : cDoes c (.cOften p) = (c, { value := (((c.all.counts.filter fun (y : Nat × Nat) => decide (c.all.n < p * y.2)).map Prod.fst).length : Int), out := (((c.all.counts.filter fun (y : Nat × Nat) => decide (c.all.n < p * y.2)).map Prod.fst) ++ List.replicate Km355.COUNTERS 0).take Km355.COUNTERS }) := by
        show (c, if p = 0 then _ else _) = _
        rw [if_neg e']
      have hfl : ((c.all.counts.filter fun y => decide (c.all.n < p * y.2)).map Prod.fst).length ≤ 16 := by
        rw [List.length_map]
        exact Nat.le_trans (List.length_filter_le _ _) (Nat.le_trans fw k16)
      generalize (c.all.counts.filter fun (y : Nat × Nat) => decide (c.all.n < p * y.2)).map Prod.fst = fs at q0 hfl hq2
      rw [q0] at kk
      have q1 : toldV { value := (fs.length : Int), out := (fs ++ List.replicate Km355.COUNTERS 0).take Km355.COUNTERS } = iv fs.length :: (fs.map iv ++ (List.replicate (16 - fs.length) 0).map iv) := by
        rw [toldV_nats, show List.take Km355.COUNTERS (fs ++ List.replicate Km355.COUNTERS 0) = fs ++ List.replicate (16 - fs.length) 0 from OM.take16 hfl, List.map_append]
      -- [len(found)]
      refine ⟨_, rfl, q, _, rfl, .inl (SqL.of hq2), (by show 1 ≤ sizeLine; decide), fun z1 hz1 => ?_⟩
      have s3 := same_new hz1 (.lst [V.int ((fs.map iv).length : Nat)])
      have hz1' : upd H2 z1 (.lst [V.int ((fs.map iv).length : Nat)]) z1 = some (.lst [V.int ((fs.map iv).length : Nat)]) := upd_same
      generalize upd H2 z1 (.lst [V.int ((fs.map iv).length : Nat)]) = H3 at s3 hz1' ⊢
      -- .. + found
      refine ⟨_, rfl, z1, q, _, _, rfl, rfl, hz1', s3 _ _ hq2, (by rw [List.length_map]; exact Nat.le_of_lt (small1000 (by show 1 + fs.length ≤ 1000; omega))), fun z2 hz2 => ?_⟩
      have s4 := same_new hz2 (.lst ([V.int ((fs.map iv).length : Nat)] ++ fs.map iv))
      have hz2' : upd H3 z2 (.lst ([V.int ((fs.map iv).length : Nat)] ++ fs.map iv)) z2 = some (.lst ([V.int ((fs.map iv).length : Nat)] ++ fs.map iv)) := upd_same
      generalize upd H3 z2 (.lst ([V.int ((fs.map iv).length : Nat)] ++ fs.map iv)) = H4 at s4 hz2' ⊢
      -- [0] * ..
      refine ⟨(by show 1 ≤ sizeLine; decide), fun z3 hz3 => ?_⟩
      have s5 := same_new hz3 (.lst [V.int 0])
      have hz3' : upd H4 z3 (.lst [V.int 0]) z3 = some (.lst [V.int 0]) := upd_same
      generalize upd H4 z3 (.lst [V.int 0]) = H5 at s5 hz3' ⊢
      have ht : ((16 - fs.length : Nat) : Int).toNat = 16 - fs.length := Int.toNat_natCast _
      refine ⟨_, rfl, q, _, rfl, .inl (SqL.of (s5 _ _ (s4 _ _ (s3 _ _ hq2)))), 16, fs.length, rfl, by rw [List.length_map], hfl, z3, _, _, rfl, rfl, hz3', by omega, by omega, ?_, fun z4 hz4 => ?_⟩
      · rw [ht]
        show 1 * _ ≤ sizeLine
        exact Nat.le_of_lt (small1000 (by omega))
      · rw [ht, rep_zero]
        have s6 := same_new hz4 (.lst ((List.replicate (16 - fs.length) 0).map iv))
        refine ⟨z2, z4, _, _, rfl, rfl, s6 _ _ (s5 _ _ hz2'), upd_same, ?_, fun z5 hz5 => ?_⟩
        · rw [List.length_append, List.length_map, List.length_map, List.length_replicate]
          exact Nat.le_of_lt (small1000 (by show 1 + fs.length + (16 - fs.length) ≤ 1000; omega))
        · have sAll := (((s1.trans s2).trans s3).trans s4).trans (s5.trans s6)
          refine kk _ z5 (sAll.free hz5) ?_ (sAll.trans (same_new hz5 _))
          rw [upd_same]
          show _ = some (L2.HO.lst (toldV { value := (fs.length : Int), out := (fs ++ List.replicate Km355.COUNTERS 0).take Km355.COUNTERS }))
          rw [q1, List.length_map]
          rfl
/-- centre.hear(message) -/
noncomputable def spHear (K : PySem.W.Frag) (Z C : Addr) : Sp := fun vs H Q _ => ∃ (a l m : Addr) (ss ds : List Addr) (c : Centre) (ms : List Nat), vs = [.ref a, .ref m] ∧ CentreAt Z C H a l ss ds c ∧ MsgAt K H m ms ∧
  ∀ (H' : Hp) (ss' ds' : List Addr) (p : Addr), CentreAt Z C H' a l ss' ds' (cDoes c (.cHeard ms)).1 → (∀ b ∈ ss' ++ ds', b ∈ ss ++ ds ∨ H b = none) → H p = none → H' p = some (.lst (toldV (cDoes c (.cHeard ms)).2)) → Chg [l] H H' → Q (.ref p) H'
theorem scHear : FnScope ["self", "message", "place", "stream"] ["self", "message"] (defScope sHear) := ⟨rfl, rfl, rfl, by decide +kernel, rfl, by decide +kernel, by decide +kernel⟩
theorem ok_hear {f g1 g2 g3 Z C : Addr} {fd d1 d2 d3 : FuncData} (F : Fun K "hear" "Centre.hear" sHear f fd) (T : TxtZ K mg Z) (TS : TxtS K mg C)
    (O1 : FnOk P w K mg base CX0 4 g1 d1 ["message"] (spRight K)) (k1 : PySem.W.keepIn K (.ref g1) = true) (b1 : Binds K d1 ["message"] []) (m1 : mg "is_right" = some (.ref g1))
    (O2 : FnOk P w K mg base CX0 1 g2 d2 ["message"] (spStaOf K)) (k2 : PySem.W.keepIn K (.ref g2) = true) (b2 : Binds K d2 ["message"] []) (m2 : mg "station_of" = some (.ref g2))
    (O3 : FnOk P w K mg base CX0 3 g3 d3 ["message"] (spStrOf K C)) (k3 : PySem.W.keepIn K (.ref g3) = true) (b3 : Binds K d3 ["message"] []) (m3 : mg "stream_of" = some (.ref g3)) : FnOk P w K mg base CX0 5 f fd ["self", "message"] (spHear K Z C) := by
  refine F.ok scHear (fun vs H Q E h => ?_) (fun cdv A outer s0 H vs Q E hr h => ?_)
  · obtain ⟨a, l, m, ss, ds, c, ms, rfl, _⟩ := h
    rfl
  · obtain ⟨a, l, m, ss, ds, c, ms, rfl, ca, ma, kk⟩ := h
    have hr1 : Room 1 _ := hr.mono (by decide)
    have hr3 : Room 3 _ := hr.mono (by decide)
    obtain ⟨⟨dx, ha⟩, hl, sa, few, k16, n16, got⟩ := id ca
    obtain ⟨t1, h1⟩ := T.notTaken
    have nd := scHear.nd
    refine ⟨_, pss_cons (ps_if (pt_not (pt_val (pe_call O1 hr rfl m1 k1 b1 .nil pass0 (pa_cons (pv 1) pa_nil)))) (pss_one (ps_ret (pe_lst (pa_cons (pe_glob (v := .int (-71)) rfl h1 ⟨t1, rfl⟩) pa_nil)))) pss_nil)
      (pss_cons (ps_set (i := 2) nd rfl (Or.inl rfl) (pe_call O2 hr1 rfl m2 k2 b2 .nil pass0 (pa_cons (pv 1) pa_nil)))
      (pss_cons (ps_set (i := 3) nd rfl (Or.inl rfl) (pe_call O3 hr3 rfl m3 k3 b3 .nil pass0 (pa_cons (pv 1) pa_nil)))
      (pss_cons (ps_if (PW.pt (pw_or (pt_cmpR on_ne (pe_fld (pv 3) rfl) (pe_fld (pv 0) rfl) (nomark _)) (pw_or1 (pt_cmpR on_ge (pv 2) (pe_callB call_len_seq rfl T.len PySem.boot_len (pa_cons (pe_fld (pv 0) rfl) pa_nil)) (nomark _))))) (pss_one (ps_ret (pe_lst (pa_cons (pe_glob (v := .int (-71)) rfl h1 ⟨t1, rfl⟩) pa_nil)))) pss_nil)
      (pss_cons (ps_if (pt_cmpR on_le (pe_fld (pv 3) rfl) (pe_fld (pe_ix ix_list (pe_fld (pv 0) rfl) (pv 2) (fun _ _ => rfl)) rfl) (nomark _)) (pss_one (ps_ret (pe_lst (pa_cons pe_int pa_nil)))) pss_nil)
      (pss_cons (ps_asg (pv 3) (pg_sub (pe_fld (pv 0) rfl) (pv 2) set_list))
      (pss_one (ps_ret (pe_lst (pa_cons pe_int pa_nil))))))))), ?_⟩
    -- an answer that changes nothing
    have quiet : ∀ (H1 : Hp) (v : Int), Same H H1 → cDoes c (.cHeard ms) = (c, Km355.only v) → ∀ p, H1 p = none → Q (.ref p) (upd H1 p (.lst [V.int v])) := fun H1 v s1 e p hp => by
      rw [e] at kk
      have s2 := s1.trans (same_new hp (.lst [V.int v]))
      exact kk _ ss ds p (ca.same s2) (fun b hb => .inl hb) (s1.free hp) upd_same (.of s2)
    refine ⟨_, rfl, m, ms, rfl, ma, fun H1 s1 => ⟨_, rfl, ?_⟩⟩
    refine ite2 (fun e => ?_) fun e => ?_
    · have e0 : (messageOf ms).isSome = false := by simpa using e
      have e1 := OM.messageOf_none e0
      refine ⟨(by show 1 ≤ sizeLine; decide), quiet H1 (-71) s1 ?_⟩
      show (match messageOf ms with | none => _ | some m => _) = _
      rw [e1]
    · have e0 : (messageOf ms).isSome = true := by
        cases z : (messageOf ms).isSome with
        | true => rfl
        | false => rw [z] at e; exact absurd rfl e
      have e1 := OM.messageOf_some e0
      have dd : cDoes c (.cHeard ms) = if (OM.told ms).k ≠ c.k ∨ c.stations ≤ (OM.told ms).station then (c, Km355.only (-71)) else if (OM.told ms).summary.n ≤ (c.got.getD (OM.told ms).station Km355.nothing).n then (c, Km355.only 0) else ({ c with got := c.got.set (OM.told ms).station (OM.told ms).summary }, Km355.only 1) := by
        show (match messageOf ms with | none => _ | some m => _) = _
        rw [e1]
      have rt := OM.right_iff ma.len ma.byt
      rw [e0] at rt
      have rt := rt.symm
      rw [Bool.and_eq_true, Bool.and_eq_true, Bool.and_eq_true, OM.headB_iff] at rt
      obtain ⟨⟨_, _, ⟨_, hk16⟩, hc3⟩, _, hcr, _⟩ := rt
      have hup := ((OM.cr_iff _ _).mp hcr).2.1
      have ek : (OM.told ms).k = ms.getD 2 0 := OM.num_one (by rw [ma.len]; decide)
      have es : (OM.told ms).station = ms.getD 1 0 := OM.num_one (by rw [ma.len]; decide)
      have efew : (OM.told ms).summary.counts.length ≤ ms.getD 2 0 := by rw [OM.told_cnts ma.len, OM.cnts_len]; exact hc3
      rw [ek, es] at dd
      refine ⟨_, rfl, m, ms, rfl, ma.same s1, ?_⟩
      refine ⟨_, rfl, m, ms, rfl, ma.same s1, Nat.le_trans hc3 hk16, hup, fun H2 p e hp he sp s2 => ?_⟩
      have s12 := s1.trans s2
      obtain ⟨⟨px, hpx⟩, _⟩ := id sp
      have p0 := s1.free hp
      have q0 := s1.free he
      refine ⟨_, rfl, p, C, px, _, _, rfl, hpx, TS.cl, TS.nk, sf_k .., _, rfl, a, Z, dx, _, _, rfl, s12 _ _ ha, T.cl, T.nk, cf_k .., _, _, rfl, rfl, _, rfl, ?_⟩
      refine ite2 (fun z => ?_) fun z => ?_
      · have z' : ms.getD 2 0 ≠ c.k := by simpa using z
        rw [if_pos (.inl z')] at dd
        exact ⟨(by show 1 ≤ sizeLine; decide), quiet H2 (-71) s12 dd⟩
      · have z' : ms.getD 2 0 = c.k := by simpa using z
        refine ⟨_, rfl, fld_v rfl (s12 _ _ ha) T.cl T.nh (cf_h ..) ⟨l, _, rfl, .inl (SqL.of (s12 _ _ hl)), ms.getD 1 0, c.stations, rfl, by rw [List.length_map, ca.len], _, rfl, ?_⟩⟩
        refine ite2 (fun y => ?_) fun y => ?_
        · have y' : c.stations ≤ ms.getD 1 0 := of_decide_eq_true y
          rw [if_pos (.inr y')] at dd
          exact ⟨(by show 1 ≤ sizeLine; decide), quiet H2 (-71) s12 dd⟩
        · have y' : ¬ c.stations ≤ ms.getD 1 0 := fun u => y (decide_eq_true u)
          rw [if_neg (fun u => u.elim (fun v => v z') y')] at dd
          have hj : ms.getD 1 0 < c.stations := Nat.lt_of_not_le y'
          obtain ⟨sj, hsj⟩ : ∃ sj, ss[ms.getD 1 0]? = some sj := ⟨_, List.getElem?_eq_getElem (by rw [ca.len]; exact hj)⟩
          obtain ⟨dj, hdj⟩ : ∃ dj, ds[ms.getD 1 0]? = some dj := ⟨_, List.getElem?_eq_getElem (by rw [ca.dlen]; exact hj)⟩
          obtain ⟨S, hS⟩ : ∃ S, c.got[ms.getD 1 0]? = some S := ⟨_, List.getElem?_eq_getElem (by omega)⟩
          have eS : c.got.getD (ms.getD 1 0) Km355.nothing = S := by rw [List.getD_eq_getElem?_getD, hS]; rfl
          rw [eS] at dd
          obtain ⟨⟨xj, hxj⟩, _⟩ := (sa.at_ _ sj dj S hsj hdj (by rw [List.getElem?_take_of_lt hj]; exact hS)).same s12
          have atj : (ss.map V.ref)[ms.getD 1 0]? = some (V.ref sj) := by rw [List.getElem?_map, hsj]; rfl
          refine ⟨_, rfl, p, C, px, _, _, rfl, hpx, TS.cl, TS.nn, sf_n .., _, rfl, a, Z, dx, _, _, rfl, s12 _ _ ha, T.cl, T.nh, cf_h .., _, rfl, l, _, _, _, rfl, rfl, SqL.of (s12 _ _ hl), atI_nat atj, sj, C, xj, _, _, rfl, hxj, TS.cl, TS.nn, sf_n .., _, _, rfl, rfl, _, rfl, ?_⟩
          refine ite2 (fun x => ?_) fun x => ?_
          · have x' : (OM.told ms).summary.n ≤ S.n := of_decide_eq_true x
            rw [if_pos x'] at dd
            exact ⟨(by show 1 ≤ sizeLine; decide), quiet H2 0 s12 dd⟩
          · have x' : ¬ (OM.told ms).summary.n ≤ S.n := fun u => x (decide_eq_true u)
            rw [if_neg x'] at dd
            rw [dd] at kk
            refine ⟨_, rfl, fld_v rfl (s12 _ _ ha) T.cl T.nh (cf_h ..) ⟨_, rfl, l, _, _, ms.getD 1 0, rfl, rfl, s12 _ _ hl, ixN_nat (by rw [List.length_map, ca.len]; exact hj), ?_⟩⟩
            refine ⟨(by show 1 ≤ sizeLine; decide), fun q hq => ?_⟩
            have nlp : ∀ b, H b = none → b ≠ l := fun b hb u => by subst u; rw [hl] at hb; cases hb
            have nal : a ≠ l := ne_of ha hl (by intro u; cases u)
            have hql : q ≠ l := fun u => by subst u; rw [upd_same] at hq; cases hq
            have hq2 : H2 q = none := by rw [upd_ne hql] at hq; exact hq
            have kc : Chg [l] H (upd (upd H2 l (.lst ((ss.map V.ref).set (ms.getD 1 0) (.ref p)))) q (.lst [V.int 1])) := ((Chg.of s12).upd (.inl (by simp))).upd (.inr (s12.free hq2))
            have kp : ∀ b o, H2 b = some o → b ≠ l → upd (upd H2 l (.lst ((ss.map V.ref).set (ms.getD 1 0) (.ref p)))) q (.lst [V.int 1]) b = some o := fun b o hb nb => by
              rw [upd_ne (ne_of_none hb hq2), upd_ne nb]
              exact hb
            refine kk _ (ss.set (ms.getD 1 0) p) (ds.set (ms.getD 1 0) e) q ⟨⟨dx, kp _ _ (s12 _ _ ha) nal⟩, ?_, ⟨?_, ?_, fun i s d R e1 e2 e3 => ?_⟩, fun R hR => ?_, k16, n16, by rw [List.length_set]; exact got⟩ (fun b hb => ?_) (s12.free hq2) upd_same kc
            · rw [upd_ne (Ne.symm hql), upd_same, List.map_set]
            · rw [List.length_set, List.length_take, List.length_set, ← List.length_take, sa.l1]
            · rw [List.length_set, List.length_take, List.length_set, ← List.length_take, sa.l2]
            · have nS : ∀ {s d : Addr} {R : Summary} {k : Nat}, StreamAt C H2 s d k R → StreamAt C (upd (upd H2 l (.lst ((ss.map V.ref).set (ms.getD 1 0) (.ref p)))) q (.lst [V.int 1])) s d k R := fun {s d R k} h => by
                obtain ⟨⟨x1, hx1⟩, ps, hd, r⟩ := h
                have lH2 := s12 _ _ hl
                exact ⟨⟨x1, kp _ _ hx1 (ne_of hx1 lH2 (by intro u; cases u))⟩, ps, kp _ _ hd (ne_of hd lH2 (by intro u; cases u)), r⟩
              have hi : i < c.stations := by
                have := (List.getElem?_eq_some_iff.mp e1).1
                rw [List.length_set, ca.len] at this
                exact this
              rw [List.getElem?_take_of_lt hi] at e3
              by_cases hij : i = ms.getD 1 0
              · subst hij
                rw [List.getElem?_set_self (by rw [ca.len]; exact hi)] at e1
                rw [List.getElem?_set_self (by rw [ca.dlen]; exact hi)] at e2
                rw [List.getElem?_set_self (by omega)] at e3
                cases e1; cases e2; cases e3
                rw [z'] at sp
                exact nS sp
              · rw [List.getElem?_set_ne (fun u => hij u.symm)] at e1 e2 e3
                exact nS ((sa.at_ i s d R e1 e2 (by rw [List.getElem?_take_of_lt hi]; exact e3)).same s12)
            · rcases List.mem_or_eq_of_mem_set hR with hR | hR
              · exact few R hR
              · rw [hR, ← z']
                exact efew
            · rcases List.mem_append.mp hb with hb | hb
              · rcases List.mem_or_eq_of_mem_set hb with hb | hb
                · exact .inl (List.mem_append.mpr (.inl hb))
                · rw [hb]; exact .inr p0
              · rcases List.mem_or_eq_of_mem_set hb with hb | hb
                · exact .inl (List.mem_append.mpr (.inr hb))
                · rw [hb]; exact .inr q0
end
end Of

end
section
set_option Elab.async false
set_option linter.all false
set_option maxRecDepth 100000
set_option maxHeartbeats 2000000
namespace Of
open PySem PySem.Spec PyProof.Rows L2
open Km355 (Summary Message Station Centre messageOf cDoes sDoes)
open Km355Neutral (S step step0 step1 told)
open OL (Cl)
@[reducible] noncomputable def sDInit : Stmt := inClass (top 53) 0
@[reducible] noncomputable def sAnswer : Stmt := inClass (top 53) 1
@[reducible] noncomputable def sAnsS : Stmt := inClass (top 53) 2
@[reducible] noncomputable def sAnsC : Stmt := inClass (top 53) 3
@[reducible] noncomputable def sStartS : Stmt := inClass (top 53) 4
@[reducible] noncomputable def sStartC : Stmt := inClass (top 53) 5
/-- a Desk's attributes -/
noncomputable def df (L : Addr) (cv : V) : List (Str × V) := [("stations", .ref L), ("centre", cv)]
theorem df_s (L : Addr) (cv : V) : (df L cv).lookup ("stations" : Str) = some (.ref L) := rfl
theorem df_c (L : Addr) (cv : V) : (df L cv).lookup ("centre" : Str) = some cv := rfl
theorem df_put (L : Addr) (cv v : V) : putF "centre" v (df L cv) = df L v := rfl
theorem df_no (L : Addr) (cv : V) {m : Str} (h1 : (m == "stations") = false) (h2 : (m == "centre") = false) : (df L cv).lookup m = none := by
  show (match m == "stations" with | true => some (V.ref L) | false => match m == "centre" with | true => some cv | false => none) = none
  rw [h1, h2]
/-! ### what stands at a place of the desk -/
noncomputable def StaOk (B C : Addr) (H : Hp) (p : List Addr) (v : V) (t : Option Station) : Prop := (v = .non ∧ t = none ∧ p = []) ∨ ∃ (a s d : Addr) (t' : Station), v = .ref a ∧ t = some t' ∧ p = [a, s, d] ∧ StationAt B C H a s d t'
noncomputable def CenOk (Z C : Addr) (H : Hp) (p : List Addr) (v : V) (c : Option Centre) : Prop := (v = .non ∧ c = none ∧ p = []) ∨ ∃ (a l : Addr) (ss ds : List Addr) (c' : Centre), v = .ref a ∧ c = some c' ∧ p = a :: l :: (ss ++ ds) ∧ CentreAt Z C H a l ss ds c'
theorem StationAt.keep {B C : Addr} {H H' : Hp} {a s d : Addr} {t : Station} (h : StationAt B C H a s d t) (k : ∀ b ∈ [a, s, d], ∀ o, H b = some o → H' b = some o) : StationAt B C H' a s d t := by
  obtain ⟨⟨dx, h1⟩, h2, h3, h4, h5⟩ := h
  exact ⟨⟨dx, k a (by simp) _ h1⟩, h2.keep (k s (by simp)) (k d (by simp)), h3, h4, h5⟩
theorem StaOk.keep {B C : Addr} {H H' : Hp} {p : List Addr} {v : V} {t : Option Station} (h : StaOk B C H p v t) (k : ∀ b ∈ p, ∀ o, H b = some o → H' b = some o) : StaOk B C H' p v t := by
  rcases h with h | ⟨a, s, d, t', h1, h2, h3, h4⟩
  · exact .inl h
  · subst h3
    exact .inr ⟨a, s, d, t', h1, h2, rfl, h4.keep k⟩
theorem CenOk.keep {Z C : Addr} {H H' : Hp} {p : List Addr} {v : V} {t : Option Centre} (h : CenOk Z C H p v t) (k : ∀ b ∈ p, ∀ o, H b = some o → H' b = some o) : CenOk Z C H' p v t := by
  rcases h with h | ⟨a, l, ss, ds, t', h1, h2, h3, h4⟩
  · exact .inl h
  · subst h3
    exact .inr ⟨a, l, ss, ds, t', h1, h2, rfl, h4.keep k⟩
theorem StreamAt.live {C : Addr} {H : Hp} {s d : Addr} {k : Nat} {S : Summary} (h : StreamAt C H s d k S) : H s ≠ none ∧ H d ≠ none := by
  obtain ⟨⟨dx, h1⟩, ps, h2, _⟩ := h
  exact ⟨by rw [h1]; simp, by rw [h2]; simp⟩
theorem StaOk.live {B C : Addr} {H : Hp} {p : List Addr} {v : V} {t : Option Station} (h : StaOk B C H p v t) : ∀ b ∈ p, H b ≠ none := by
  rcases h with ⟨_, _, rfl⟩ | ⟨a, s, d, t', h1, h2, rfl, ⟨⟨dx, h3⟩, h4, _⟩⟩
  · simp
  · intro b hb
    simp only [List.mem_cons, List.not_mem_nil, or_false] at hb
    rcases hb with rfl | rfl | rfl
    · rw [h3]; simp
    · exact h4.live.1
    · exact h4.live.2
theorem CenOk.live {Z C : Addr} {H : Hp} {p : List Addr} {v : V} {t : Option Centre} (h : CenOk Z C H p v t) : ∀ b ∈ p, H b ≠ none := by
  rcases h with ⟨_, _, rfl⟩ | ⟨a, l, ss, ds, c, h1, h2, rfl, ca⟩
  · simp
  · obtain ⟨⟨dx, h3⟩, h4, sa, _, _, n16, got⟩ := id ca
    intro b hb
    rcases List.mem_cons.mp hb with rfl | hb
    · rw [h3]; simp
    rcases List.mem_cons.mp hb with rfl | hb
    · rw [h4]; simp
    have all : ∀ i, i < c.stations → ∃ s d S, ss[i]? = some s ∧ ds[i]? = some d ∧ StreamAt C H s d c.k S := fun i hi => by
      have e1 := List.getElem?_eq_getElem (l := ss) (i := i) (by rw [ca.len]; exact hi)
      have e2 := List.getElem?_eq_getElem (l := ds) (i := i) (by rw [ca.dlen]; exact hi)
      have e3 := List.getElem?_eq_getElem (l := c.got.take c.stations) (i := i) (by rw [List.length_take, got]; omega)
      exact ⟨_, _, _, e1, e2, sa.at_ i _ _ _ e1 e2 e3⟩
    rcases List.mem_append.mp hb with hb | hb
    · obtain ⟨i, hi, e⟩ := List.getElem_of_mem hb
      obtain ⟨s, d, S, e1, e2, h⟩ := all i (by rw [← ca.len]; exact hi)
      rw [List.getElem?_eq_getElem hi, e] at e1
      cases e1
      exact h.live.1
    · obtain ⟨i, hi, e⟩ := List.getElem_of_mem hb
      obtain ⟨s, d, S, e1, e2, h⟩ := all i (by rw [← ca.dlen]; exact hi)
      rw [List.getElem?_eq_getElem hi, e] at e2
      cases e2
      exact h.live.2
/-- a Desk stands at D, its list of stations at L; pt i: what belongs to station i (4: to the centre) -/
structure DeskAt (E B C Z : Addr) (H : Hp) (D L : Addr) (pt : Nat → List Addr) (st : S) : Prop where
  ins : ∃ dx cv, H D = some (.ins E dx (df L cv)) ∧ CenOk Z C H (pt 4) cv (st.2.getD 0 none)
  lst : ∃ xs : List V, H L = some (.lst xs) ∧ xs.length = 4 ∧ ∀ i, i < 4 → StaOk B C H (pt i) (xs.getD i .non) (st.1.getD i none)
  l1 : st.1.length = 4
  l2 : st.2.length = 1
  apart : ∀ i j, i ≤ 4 → j ≤ 4 → i ≠ j → ∀ b ∈ pt i, b ∉ pt j
  out : ∀ i, i ≤ 4 → D ∉ pt i ∧ L ∉ pt i
noncomputable def owns (D L : Addr) (pt : Nat → List Addr) : List Addr := D :: L :: (pt 0 ++ pt 1 ++ pt 2 ++ pt 3 ++ pt 4)
theorem owns_pt {D L : Addr} {pt : Nat → List Addr} {i : Nat} (hi : i ≤ 4) {b : Addr} (h : b ∈ pt i) : b ∈ owns D L pt := by
  unfold owns
  match i, hi, h with
  | 0, _, h => simp [h]
  | 1, _, h => simp [h]
  | 2, _, h => simp [h]
  | 3, _, h => simp [h]
  | 4, _, h => simp [h]
theorem of_owns {D L : Addr} {pt : Nat → List Addr} {b : Addr} (h : b ∈ owns D L pt) : b = D ∨ b = L ∨ ∃ i, i ≤ 4 ∧ b ∈ pt i := by
  unfold owns at h
  simp only [List.mem_cons, List.mem_append] at h
  rcases h with h | h | (((h | h) | h) | h) | h
  · exact .inl h
  · exact .inr (.inl h)
  · exact .inr (.inr ⟨0, by omega, h⟩)
  · exact .inr (.inr ⟨1, by omega, h⟩)
  · exact .inr (.inr ⟨2, by omega, h⟩)
  · exact .inr (.inr ⟨3, by omega, h⟩)
  · exact .inr (.inr ⟨4, by omega, h⟩)
section
variable {E B C Z : Addr} {H H' : Hp} {D L : Addr} {pt : Nat → List Addr} {st : S}
theorem DeskAt.live (A : DeskAt E B C Z H D L pt st) : ∀ i, i ≤ 4 → ∀ b ∈ pt i, H b ≠ none := by
  intro i hi
  obtain ⟨dx, cv, _, hc⟩ := A.ins
  obtain ⟨xs, _, _, hs⟩ := A.lst
  by_cases h4 : i = 4
  · subst h4; exact hc.live
  · exact (hs i (by omega)).live
theorem DeskAt.same (A : DeskAt E B C Z H D L pt st) (s : Same H H') : DeskAt E B C Z H' D L pt st := by
  obtain ⟨⟨dx, cv, h1, h2⟩, ⟨xs, h3, h4, h5⟩, l1, l2, ap, ou⟩ := A
  exact ⟨⟨dx, cv, s _ _ h1, h2.keep fun b _ => s b⟩, ⟨xs, s _ _ h3, h4, fun i hi => (h5 i hi).keep fun b _ => s b⟩, l1, l2, ap, ou⟩
theorem DeskAt.liveD (A : DeskAt E B C Z H D L pt st) : H D ≠ none := by obtain ⟨dx, cv, h, _⟩ := A.ins; rw [h]; simp
theorem DeskAt.liveL (A : DeskAt E B C Z H D L pt st) : H L ≠ none := by obtain ⟨xs, h, _⟩ := A.lst; rw [h]; simp
theorem DeskAt.mk' (A : DeskAt E B C Z H D L pt st) {j : Nat} (hj : j ≤ 4) {p : List Addr} (hp : ∀ b ∈ p, b ∈ pt j ∨ H b = none) :
    (∀ i k, i ≤ 4 → k ≤ 4 → i ≠ k → ∀ b ∈ (if i = j then p else pt i), b ∉ (if k = j then p else pt k)) ∧ ∀ i, i ≤ 4 → D ∉ (if i = j then p else pt i) ∧ L ∉ (if i = j then p else pt i) := by
  refine ⟨fun i k hi hk ne b hb hb' => ?_, fun i hi => ?_⟩
  · by_cases e : i = j
    · subst e
      rw [if_pos rfl] at hb
      rw [if_neg (fun z => ne z.symm)] at hb'
      rcases hp b hb with h | h
      · exact A.apart i k hi hk ne b h hb'
      · exact A.live k hk b hb' h
    · rw [if_neg e] at hb
      by_cases e2 : k = j
      · subst e2
        rw [if_pos rfl] at hb'
        rcases hp b hb' with h | h
        · exact A.apart i k hi hk ne b hb h
        · exact A.live i hi b hb h
      · rw [if_neg e2] at hb'
        exact A.apart i k hi hk ne b hb hb'
  · by_cases e : i = j
    · subst e
      rw [if_pos rfl]
      refine ⟨fun h => ?_, fun h => ?_⟩
      · rcases hp _ h with h | h
        · exact (A.out i hi).1 h
        · exact A.liveD h
      · rcases hp _ h with h | h
        · exact (A.out i hi).2 h
        · exact A.liveL h
    · rw [if_neg e]
      exact A.out i hi
/-- station j is another one, or has changed -/
theorem DeskAt.sta (A : DeskAt E B C Z H D L pt st) {j : Nat} (hj : j < 4) {v : V} {t : Station} {p : List Addr} (hD : ∀ o, H D = some o → H' D = some o) (hL : ∀ xs, H L = some (.lst xs) → H' L = some (.lst (xs.set j v)))
    (hv : StaOk B C H' p v (some t)) (hp : ∀ b ∈ p, b ∈ pt j ∨ H b = none) (kp : ∀ i, i ≤ 4 → i ≠ j → ∀ b ∈ pt i, ∀ o, H b = some o → H' b = some o) :
    DeskAt E B C Z H' D L (fun i => if i = j then p else pt i) (st.1.set j (some t), st.2) := by
  obtain ⟨ap, ou⟩ := A.mk' (j := j) (by omega) hp
  obtain ⟨⟨dx, cv, h1, h2⟩, ⟨xs, h3, h4, h5⟩, l1, l2, _, _⟩ := A
  refine ⟨⟨dx, cv, hD _ h1, ?_⟩, ⟨xs.set j v, hL _ h3, by rw [List.length_set]; exact h4, fun i hi => ?_⟩, by rw [List.length_set]; exact l1, l2, ap, ou⟩
  · show CenOk Z C H' (if 4 = j then p else pt 4) cv _
    rw [if_neg (by omega)]
    exact h2.keep (kp 4 (by omega) (by omega))
  · show StaOk B C H' (if i = j then p else pt i) _ ((st.1.set j (some t)).getD i none)
    rw [List.getD_eq_getElem?_getD, List.getD_eq_getElem?_getD]
    by_cases e : i = j
    · subst e
      rw [if_pos rfl, List.getElem?_set_self (by omega), List.getElem?_set_self (by omega)]
      exact hv
    · rw [if_neg e, List.getElem?_set_ne (fun z => e z.symm), List.getElem?_set_ne (fun z => e z.symm)]
      have q := (h5 i hi).keep (kp i (by omega) e)
      rw [List.getD_eq_getElem?_getD, List.getD_eq_getElem?_getD] at q
      exact q
/-- the centre is another one, or has changed -/
theorem DeskAt.cen (A : DeskAt E B C Z H D L pt st) {v : V} {c : Centre} {p : List Addr} (hD : ∀ dx cv, H D = some (.ins E dx (df L cv)) → H' D = some (.ins E dx (df L v))) (hL : ∀ o, H L = some o → H' L = some o)
    (hv : CenOk Z C H' p v (some c)) (hp : ∀ b ∈ p, b ∈ pt 4 ∨ H b = none) (kp : ∀ i, i < 4 → ∀ b ∈ pt i, ∀ o, H b = some o → H' b = some o) :
    DeskAt E B C Z H' D L (fun i => if i = 4 then p else pt i) (st.1, st.2.set 0 (some c)) := by
  obtain ⟨ap, ou⟩ := A.mk' (j := 4) (by omega) hp
  obtain ⟨⟨dx, cv, h1, h2⟩, ⟨xs, h3, h4, h5⟩, l1, l2, _, _⟩ := A
  refine ⟨⟨dx, v, hD _ _ h1, ?_⟩, ⟨xs, hL _ h3, h4, fun i hi => ?_⟩, l1, by rw [List.length_set]; exact l2, ap, ou⟩
  · show CenOk Z C H' p v ((st.2.set 0 (some c)).getD 0 none)
    rw [List.getD_eq_getElem?_getD, List.getElem?_set_self (by omega)]
    exact hv
  · show StaOk B C H' (if i = 4 then p else pt i) _ _
    rw [if_neg (by omega)]
    exact (h5 i hi).keep (kp i hi)
end
/-! ### the specification's step -/
theorem set_same {α : Type} {l : List (Option α)} {j : Nat} {t : α} (h : l.getD j none = some t) : l.set j (some t) = l := by
  refine List.ext_getElem? fun i => ?_
  by_cases e : j = i
  · subst e
    by_cases hj : j < l.length
    · rw [List.getElem?_set_self hj]
      rw [List.getD_eq_getElem?_getD, List.getElem?_eq_getElem hj] at h
      rw [List.getElem?_eq_getElem hj]
      exact congrArg some h.symm
    · rw [List.getElem?_eq_none (by rw [List.length_set]; omega), List.getElem?_eq_none (by omega)]
  · rw [List.getElem?_set_ne e]
theorem step0_lt {st : S} {j : Nat} {c : Km355.Call} (h : (step0 st j c).2 ≠ []) : j < 4 := by
  by_cases hj : 4 ≤ j
  · unfold Km355Neutral.step0 at h
    rw [if_pos hj] at h
    exact absurd rfl h
  · omega
theorem step1_lt {st : S} {j : Nat} {c : Km355.Call} (h : (step1 st j c).2 ≠ []) : j = 0 := by
  by_cases hj : 1 ≤ j
  · unfold Km355Neutral.step1 at h
    rw [if_pos hj] at h
    exact absurd rfl h
  · omega
theorem step0_some {st : S} {j : Nat} {c : Km355.Call} {t : Station} (hj : j < 4) (h : st.1.getD j none = some t) : step0 st j c = ((st.1.set j (some (sDoes t c).1), st.2), told (sDoes t c).2) := by
  unfold Km355Neutral.step0
  rw [if_neg (by omega), h]
theorem step1_some {st : S} {c : Km355.Call} {t : Centre} (h : st.2.getD 0 none = some t) : step1 st 0 c = ((st.1, st.2.set 0 (some (cDoes t c).1)), told (cDoes t c).2) := by
  unfold Km355Neutral.step1
  rw [if_neg (by omega), h]
theorem step0_is {st : S} {j : Nat} {c : Km355.Call} (h : (step0 st j c).2 ≠ []) (hs : Km355.isStart c = false) : ∃ t, st.1.getD j none = some t := by
  have hj := step0_lt h
  cases e : st.1.getD j none with
  | some t => exact ⟨t, rfl⟩
  | none =>
    unfold Km355Neutral.step0 at h
    rw [if_neg (by omega), e] at h
    have h : ((if Km355.isStart c = true then _ else ((st, []) : S × List Int)).2) ≠ [] := h
    rw [hs] at h
    exact absurd rfl h
theorem step1_is {st : S} {j : Nat} {c : Km355.Call} (h : (step1 st j c).2 ≠ []) (hs : Km355.isStart c = false) : ∃ t, st.2.getD 0 none = some t := by
  have hj := step1_lt h
  subst hj
  cases e : st.2.getD 0 none with
  | some t => exact ⟨t, rfl⟩
  | none =>
    unfold Km355Neutral.step1 at h
    rw [if_neg (by omega), e] at h
    have h : ((if Km355.isStart c = true then _ else ((st, []) : S × List Int)).2) ≠ [] := h
    rw [hs] at h
    exact absurd rfl h
theorem step0_start {st : S} {j : Nat} (me k : Nat) (hj : j < 4) : step0 st j (.sStart me k) = if (decide (me < 16) && Km355.okK k) = true then ((st.1.set j (some ⟨me, k, Km355.nothing⟩), st.2), [0]) else (st, [-22]) := by
  have sd : ∀ t : Station, sDoes t (.sStart me k) = if (decide (me < 16) && Km355.okK k) = true then (⟨me, k, Km355.nothing⟩, Km355.only 0) else (t, Km355.only (-22)) := fun t => by
    show (if 16 ≤ me ∨ Km355.okK k = false then _ else _) = _
    by_cases h : (decide (me < 16) && Km355.okK k) = true
    · rw [if_pos h]
      rw [Bool.and_eq_true, decide_eq_true_iff] at h
      rw [if_neg (by rw [h.2]; intro z; rcases z with z | z; omega; cases z)]
    · rw [if_neg h, if_pos]
      rw [Bool.and_eq_true, decide_eq_true_iff] at h
      by_cases h1 : me < 16
      · exact .inr (by cases e : Km355.okK k; rfl; exact absurd ⟨h1, e⟩ h)
      · exact .inl (by omega)
  cases e : st.1.getD j none with
  | some t =>
    rw [step0_some hj e, sd]
    by_cases h : (decide (me < 16) && Km355.okK k) = true
    · rw [if_pos h, if_pos h]
      rfl
    · rw [if_neg h, if_neg h]
      show ((st.1.set j (some t), st.2), [-22]) = _
      rw [set_same e]
  | none =>
    unfold Km355Neutral.step0
    rw [if_neg (by omega), e]
    show (if (told (sDoes ⟨0, 1, Km355.nothing⟩ (.sStart me k)).2).headD 0 < 0 then st else ((st.1).set j (some (sDoes ⟨0, 1, Km355.nothing⟩ (.sStart me k)).1), st.2), told (sDoes ⟨0, 1, Km355.nothing⟩ (.sStart me k)).2) = _
    rw [sd]
    by_cases h : (decide (me < 16) && Km355.okK k) = true
    · rw [if_pos h, if_pos h]
      rfl
    · rw [if_neg h, if_neg h]
      rfl
theorem step1_start {st : S} (k n : Nat) : step1 st 0 (.cStart k n) = if (Km355.okK k && (decide (1 ≤ n) && decide (n ≤ 16))) = true then ((st.1, st.2.set 0 (some (Km355.centre0 k n))), [0]) else (st, [-22]) := by
  have sd : ∀ t : Centre, cDoes t (.cStart k n) = if (Km355.okK k && (decide (1 ≤ n) && decide (n ≤ 16))) = true then (Km355.centre0 k n, Km355.only 0) else (t, Km355.only (-22)) := fun t => by
    show (if Km355.okK k = false ∨ n = 0 ∨ 16 < n then _ else _) = _
    by_cases h : (Km355.okK k && (decide (1 ≤ n) && decide (n ≤ 16))) = true
    · rw [if_pos h]
      rw [Bool.and_eq_true, Bool.and_eq_true, decide_eq_true_iff, decide_eq_true_iff] at h
      rw [if_neg (by rw [h.1]; intro z; rcases z with z | z; cases z; omega)]
    · rw [if_neg h, if_pos]
      rw [Bool.and_eq_true, Bool.and_eq_true, decide_eq_true_iff, decide_eq_true_iff] at h
      by_cases h1 : Km355.okK k = false
      · exact .inl h1
      · have h2 : Km355.okK k = true := by cases e : Km355.okK k; exact absurd e h1; rfl
        exact .inr (by
          by_cases h3 : n = 0
          · exact .inl h3
          · exact .inr (by
              by_cases h4 : 16 < n
              · exact h4
              · exact absurd ⟨h2, by omega, by omega⟩ h))
  cases e : st.2.getD 0 none with
  | some t =>
    rw [step1_some e, sd]
    by_cases h : (Km355.okK k && (decide (1 ≤ n) && decide (n ≤ 16))) = true
    · rw [if_pos h, if_pos h]
      rfl
    · rw [if_neg h, if_neg h]
      show ((st.1, st.2.set 0 (some t)), [-22]) = _
      rw [set_same e]
  | none =>
    unfold Km355Neutral.step1
    rw [if_neg (by omega), e]
    show (if (told (cDoes (Km355.centre0 1 1) (.cStart k n)).2).headD 0 < 0 then st else (st.1, (st.2).set 0 (some (cDoes (Km355.centre0 1 1) (.cStart k n)).1)), told (cDoes (Km355.centre0 1 1) (.cStart k n)).2) = _
    rw [sd]
    by_cases h : (Km355.okK k && (decide (1 ≤ n) && decide (n ≤ 16))) = true
    · rw [if_pos h, if_pos h]
      rfl
    · rw [if_neg h, if_neg h]
      rfl
end Of

end
section
set_option Elab.async false
set_option linter.all false
set_option maxRecDepth 100000
set_option maxHeartbeats 2000000
namespace Of
open PySem PySem.Spec PyProof.Rows L2
open Km355 (Summary Message Station Centre messageOf cDoes sDoes)
open Km355Neutral (S step step0 step1 told)
open OL (Cl)
structure TxtE (K : PySem.W.Frag) (mg : Str → Option Value) (E : Addr) : Prop where
  cl : Cls K E
  ns : NoAttr K E "stations"
  nc : NoAttr K E "centre"
  mgE : mg "Desk" = some (.ref E)
  bad : ∃ t, mg "BAD_START" = some (.int (-22) t)
  o0 : ∃ t, mg "OS_START" = some (.int 0 t)
  o1 : ∃ t, mg "OS_READ" = some (.int 1 t)
  o2 : ∃ t, mg "OS_SAY" = some (.int 2 t)
  o3 : ∃ t, mg "OS_OF" = some (.int 3 t)
  o4 : ∃ t, mg "OC_START" = some (.int 4 t)
  o5 : ∃ t, mg "OC_HEARD" = some (.int 5 t)
  o6 : ∃ t, mg "OC_OF" = some (.int 6 t)
/-- what a call of the desk is to leave -/
noncomputable def Post (E B C Z : Addr) (H : Hp) (D L : Addr) (pt : Nat → List Addr) (st : S) (y : S × List Int) (Q : VK) : Prop :=
  ∀ (H' : Hp) (p : Addr) (pt' : Nat → List Addr), DeskAt E B C Z H' D L pt' y.1 → (∀ i, i ≤ 4 → ∀ b ∈ pt' i, b ∈ pt i ∨ H b = none) → H p = none → H' p = some (.lst (y.2.map V.int)) → Chg (owns D L pt) H H' → Q (.ref p) H'
section
variable {P : Program} {w : World} {K : PySem.W.Frag} {mg : Str → Option Value} {base : Heap}
/-- Desk() -/
noncomputable def spDInit (E B C Z : Addr) : Sp := fun vs H Q _ => ∃ (p dx : Addr), vs = [.ref p] ∧ H p = some (.ins E dx []) ∧
  ∀ (H' : Hp) (L : Addr), H L = none → DeskAt E B C Z H' p L (fun _ => []) Km355Neutral.start → Chg [p] H H' → Q .non H'
theorem scDInit : FnScope ["self"] ["self"] (defScope sDInit) := ⟨rfl, rfl, rfl, by decide +kernel, rfl, by decide +kernel, by decide +kernel⟩
theorem ok_dInit {f E B C Z : Addr} {fd : FuncData} (F : Fun K "__init__" "Desk.__init__" sDInit f fd) (T : TxtE K mg E) : FnOk P w K mg base CX0 1 f fd ["self"] (spDInit E B C Z) := by
  refine F.ok scDInit (fun vs H Q E h => ?_) (fun cdv A outer s H vs Q E' hr h => ?_)
  · obtain ⟨p, dx, rfl, _⟩ := h
    rfl
  · obtain ⟨p, dx, rfl, hp, kk⟩ := h
    refine ⟨_, pss_cons (ps_fld (pv 0) (pe_lst (pa_cons pe_non (pa_cons pe_non (pa_cons pe_non (pa_cons pe_non pa_nil))))) rfl) (pss_one (ps_fld (pv 0) pe_non rfl)), ?_⟩
    refine ⟨by show 4 ≤ sizeLine; decide, fun L hL => ?_⟩
    have ne : p ≠ L := ne_of_none hp hL
    refine ⟨_, rfl, p, E, dx, _, rfl, by rw [upd_ne ne]; exact hp, T.cl, T.ns, (by decide), ?_⟩
    refine ⟨_, rfl, p, E, dx, _, rfl, upd_same, T.cl, T.nc, (by show 1 < 1000; decide), ?_⟩
    have pw : p ∈ [p] ∨ H p = none := .inl (by simp)
    refine kk _ L hL ⟨⟨dx, .non, upd_same, .inl ⟨rfl, rfl, rfl⟩⟩, ⟨[.non, .non, .non, .non], ?_, rfl, fun i hi => ?_⟩, rfl, rfl, fun i j _ _ _ b hb => by simp at hb, fun i _ => by simp⟩ (((Chg.refl.upd (.inr hL)).upd pw).upd pw)
    · rw [upd_ne (Ne.symm ne), upd_ne (Ne.symm ne), upd_same]
    · match i, hi with
      | 0, _ => exact .inl ⟨rfl, rfl, rfl⟩
      | 1, _ => exact .inl ⟨rfl, rfl, rfl⟩
      | 2, _ => exact .inl ⟨rfl, rfl, rfl⟩
      | 3, _ => exact .inl ⟨rfl, rfl, rfl⟩
/-- an answer that changes nothing -/
theorem Post.quiet {E B C Z : Addr} {H : Hp} {D L : Addr} {pt : Nat → List Addr} {st : S} {y : S × List Int} {Q : VK} (k : Post E B C Z H D L pt st y Q) (A : DeskAt E B C Z H D L pt st) (e : y.1 = st) {H' : Hp} (s : Same H H') {p : Addr} (hp : H p = none) (h : H' p = some (.lst (y.2.map V.int))) : Q (.ref p) H' :=
  k H' p pt (by rw [e]; exact A.same s) (fun i _ b hb => .inl hb) hp h (.of s)
/-- desk.start_station(place, me, k) -/
noncomputable def spStartS (E B C Z : Addr) : Sp := fun vs H Q _ => ∃ (D L : Addr) (pt : Nat → List Addr) (st : S) (j me k : Nat), vs = [.ref D, iv j, iv me, iv k] ∧ DeskAt E B C Z H D L pt st ∧ j < 4 ∧ Post E B C Z H D L pt st (step0 st j (.sStart me k)) Q
theorem scStartS : FnScope ["self", "place", "me", "k"] ["self", "place", "me", "k"] (defScope sStartS) := ⟨rfl, rfl, rfl, by decide +kernel, rfl, by decide +kernel, by decide +kernel⟩
theorem ok_startS {f g h E B C Z : Addr} {fd gd hd : FuncData} (F : Fun K "start_station" "Desk.start_station" sStartS f fd) (T : TxtE K mg E) (TT : TxtT K mg B)
    (GO : FnOk P w K mg base CX0 2 g gd ["me", "k"] spMay) (kG : PySem.W.keepIn K (.ref g) = true) (bG : Binds K gd ["me", "k"] []) (mG : mg "may_start_station" = some (.ref g))
    (M : Mk K B h) (HO : FnOk P w K mg base CX0 3 h hd ["self", "me", "k"] (spTInit B C)) (bH : Binds K hd ["self", "me", "k"] []) : FnOk P w K mg base CX0 5 f fd ["self", "place", "me", "k"] (spStartS E B C Z) := by
  refine F.ok scStartS (fun vs H Q E h => ?_) (fun cdv A outer s0 H vs Q E' hr h => ?_)
  · obtain ⟨D, L, pt, st, j, me, k, rfl, _⟩ := h
    rfl
  · obtain ⟨D, L, pt, st, j, me, k, rfl, da, hj, kk⟩ := h
    have hr2 : Room 2 _ := hr.mono (by decide)
    obtain ⟨t1, h1⟩ := T.bad
    refine ⟨_, pss_cons (ps_if (pt_not (pt_val (pe_call GO hr2 rfl mG kG bG .nil pass0 (pa_cons (pv 2) (pa_cons (pv 3) pa_nil))))) (pss_one (ps_ret (pe_lst (pa_cons (pe_glob (v := .int (-22)) rfl h1 ⟨t1, rfl⟩) pa_nil)))) pss_nil)
      (pss_cons (ps_asg (pe_make M HO hr rfl TT.mgB bH .nil pass0 (pa_cons (pv 2) (pa_cons (pv 3) pa_nil))) (pg_sub (pe_fld (pv 0) rfl) (pv 1) set_list))
      (pss_one (ps_ret (pe_lst (pa_cons pe_int pa_nil))))), ?_⟩
    rw [step0_start me k hj] at kk
    refine ⟨_, rfl, _, rfl, me, k, rfl, _, rfl, ?_⟩
    refine ite2 (fun e => ?_) fun e => ?_
    · have e0 : ¬ (decide (me < 16) && Km355.okK k) = true := fun z => by rw [z] at e; cases e
      rw [if_neg e0] at kk
      exact ⟨by show 1 ≤ sizeLine; decide, fun p hp => kk.quiet da rfl (same_new hp _) hp upd_same⟩
    · have e0 : (decide (me < 16) && Km355.okK k) = true := by
        cases z : (decide (me < 16) && Km355.okK k) with
        | true => rfl
        | false => rw [z] at e; exact absurd rfl e
      rw [if_pos e0] at kk
      rw [Bool.and_eq_true] at e0
      have k16 : k ≤ 16 := by
        have q : (decide (1 ≤ k) && decide (k ≤ 16)) = true := e0.2
        rw [Bool.and_eq_true, decide_eq_true_iff, decide_eq_true_iff] at q
        exact q.2
      obtain ⟨⟨dx, cv, hD, _⟩, ⟨xs, hL, h4, _⟩, _, _, _, _⟩ := id da
      refine ⟨_, rfl, _, rfl, fun a ax ha hax nax => ?_⟩
      refine ⟨a, ax, me, k, rfl, upd_same, k16, fun H1 s d hs hd sa k1 => ⟨rfl, ?_⟩⟩
      have s1 : Same H H1 := fun b o hb => by
        refine k1.keep b o ?_ (by simpa using ne_of_none hb ha)
        rw [upd_ne (ne_of_none hb ha), upd_ne (ne_of_none hb hax)]
        exact hb
      have hsa : s ≠ a := fun e => by subst e; rw [upd_same] at hs; cases hs
      have hsx : s ≠ ax := fun e => by subst e; rw [upd_ne hsa, upd_same] at hs; cases hs
      have hs0 : H s = none := by rw [upd_ne hsa, upd_ne hsx] at hs; exact hs
      have hda : d ≠ a := fun e => by subst e; rw [upd_same] at hd; cases hd
      have hdx : d ≠ ax := fun e => by subst e; rw [upd_ne hda, upd_same] at hd; cases hd
      have hd0 : H d = none := by rw [upd_ne hda, upd_ne hdx] at hd; exact hd
      refine ⟨_, rfl, D, E, dx, _, _, rfl, s1 _ _ hD, T.cl, T.ns, df_s .., _, rfl, L, xs, _, j, rfl, rfl, s1 _ _ hL, ixN_nat (by omega), ?_⟩
      have nDL : D ≠ L := ne_of hD hL (by intro z; cases z)
      have fr : ∀ b ∈ [a, s, d], H b = none := fun b hb => by
        simp only [List.mem_cons, List.not_mem_nil, or_false] at hb
        rcases hb with rfl | rfl | rfl
        · exact ha
        · exact hs0
        · exact hd0
      have nL : ∀ b, H b = none → b ≠ L := fun b hb z => by subst z; rw [hL] at hb; cases hb
      refine ⟨by show 1 ≤ sizeLine; decide, fun p hp => ?_⟩
      have hpL : p ≠ L := fun z => by subst z; rw [upd_same] at hp; cases hp
      have hp1 : H1 p = none := by rw [upd_ne hpL] at hp; exact hp
      have kp : ∀ b o, H1 b = some o → b ≠ L → upd (upd H1 L (.lst (xs.set j (.ref a)))) p (.lst [V.int 0]) b = some o := fun b o hb nb => by
        rw [upd_ne (ne_of_none hb hp1), upd_ne nb]
        exact hb
      refine kk _ p (fun i => if i = j then [a, s, d] else pt i) (da.sta hj (v := .ref a) (p := [a, s, d]) (fun o ho => kp _ _ (s1 _ _ ho) nDL) (fun ys hy => ?_) (.inr ⟨a, s, d, _, rfl, rfl, rfl, sa.keep fun b hb o ho => kp _ _ ho (nL b (fr b hb))⟩) (fun b hb => .inr (fr b hb)) fun i hi _ b hb o ho => kp _ _ (s1 _ _ ho) fun z => (da.out i hi).2 (z ▸ hb)) (fun i hi b hb => ?_) (s1.free hp1) upd_same (((Chg.of s1).upd (.inl (by simp [owns]))).upd (.inr (s1.free hp1)))
      · rw [hL] at hy
        cases hy
        rw [upd_ne (Ne.symm hpL), upd_same]
      · have hb : b ∈ (if i = j then [a, s, d] else pt i) := hb
        by_cases z : i = j
        · rw [if_pos z] at hb
          exact .inr (fr b hb)
        · rw [if_neg z] at hb
          exact .inl hb
/-- desk.start_centre(k, stations) -/
noncomputable def spStartC (E B C Z : Addr) : Sp := fun vs H Q _ => ∃ (D L : Addr) (pt : Nat → List Addr) (st : S) (k n : Nat), vs = [.ref D, iv k, iv n] ∧ DeskAt E B C Z H D L pt st ∧ Post E B C Z H D L pt st (step1 st 0 (.cStart k n)) Q
theorem scStartC : FnScope ["self", "k", "stations"] ["self", "k", "stations"] (defScope sStartC) := ⟨rfl, rfl, rfl, by decide +kernel, rfl, by decide +kernel, by decide +kernel⟩
theorem ok_startC {f g h E B C Z : Addr} {fd gd hd : FuncData} (F : Fun K "start_centre" "Desk.start_centre" sStartC f fd) (T : TxtE K mg E) (TZ : TxtZ K mg Z)
    (GO : FnOk P w K mg base CX0 2 g gd ["k", "stations"] spMayZ) (kG : PySem.W.keepIn K (.ref g) = true) (bG : Binds K gd ["k", "stations"] []) (mG : mg "may_start_centre" = some (.ref g))
    (M : Mk K Z h) (HO : FnOk P w K mg base CX0 3 h hd ["self", "k", "stations"] (spZInit Z C)) (bH : Binds K hd ["self", "k", "stations"] []) : FnOk P w K mg base CX0 5 f fd ["self", "k", "stations"] (spStartC E B C Z) := by
  refine F.ok scStartC (fun vs H Q E h => ?_) (fun cdv A outer s0 H vs Q E' hr h => ?_)
  · obtain ⟨D, L, pt, st, k, n, rfl, _⟩ := h
    rfl
  · obtain ⟨D, L, pt, st, k, n, rfl, da, kk⟩ := h
    have hr2 : Room 2 _ := hr.mono (by decide)
    obtain ⟨t1, h1⟩ := T.bad
    refine ⟨_, pss_cons (ps_if (pt_not (pt_val (pe_call GO hr2 rfl mG kG bG .nil pass0 (pa_cons (pv 1) (pa_cons (pv 2) pa_nil))))) (pss_one (ps_ret (pe_lst (pa_cons (pe_glob (v := .int (-22)) rfl h1 ⟨t1, rfl⟩) pa_nil)))) pss_nil)
      (pss_cons (ps_fld (pv 0) (pe_make M HO hr rfl TZ.mgZ bH .nil pass0 (pa_cons (pv 1) (pa_cons (pv 2) pa_nil))) rfl)
      (pss_one (ps_ret (pe_lst (pa_cons pe_int pa_nil))))), ?_⟩
    rw [step1_start k n] at kk
    refine ⟨_, rfl, _, rfl, k, n, rfl, _, rfl, ?_⟩
    refine ite2 (fun e => ?_) fun e => ?_
    · have e0 : ¬ (Km355.okK k && (decide (1 ≤ n) && decide (n ≤ 16))) = true := fun z => by rw [z] at e; cases e
      rw [if_neg e0] at kk
      exact ⟨by show 1 ≤ sizeLine; decide, fun p hp => kk.quiet da rfl (same_new hp _) hp upd_same⟩
    · have e0 : (Km355.okK k && (decide (1 ≤ n) && decide (n ≤ 16))) = true := by
        cases z : (Km355.okK k && (decide (1 ≤ n) && decide (n ≤ 16))) with
        | true => rfl
        | false => rw [z] at e; exact absurd rfl e
      rw [if_pos e0] at kk
      rw [Bool.and_eq_true, Bool.and_eq_true, decide_eq_true_iff, decide_eq_true_iff] at e0
      have k16 : k ≤ 16 := by
        have q : (decide (1 ≤ k) && decide (k ≤ 16)) = true := e0.1
        rw [Bool.and_eq_true, decide_eq_true_iff, decide_eq_true_iff] at q
        exact q.2
      obtain ⟨⟨dx, cv, hD, _⟩, ⟨xs, hL, h4, _⟩, _, _, _, _⟩ := id da
      refine ⟨_, rfl, _, rfl, fun a ax ha hax nax => ?_⟩
      refine ⟨a, ax, k, n, rfl, upd_same, k16, e0.2.2, fun H1 l ss ds hl hss hds ca k1 => ⟨rfl, ?_⟩⟩
      have s1 : Same H H1 := fun b o hb => by
        refine k1.keep b o ?_ (by simpa using ne_of_none hb ha)
        rw [upd_ne (ne_of_none hb ha), upd_ne (ne_of_none hb hax)]
        exact hb
      have un : ∀ b, upd (upd H ax (.own a)) a (.ins Z ax []) b = none → H b = none := fun b hb => by
        have h1 : b ≠ a := fun e => by subst e; rw [upd_same] at hb; cases hb
        have h2 : b ≠ ax := fun e => by subst e; rw [upd_ne h1, upd_same] at hb; cases hb
        rw [upd_ne h1, upd_ne h2] at hb
        exact hb
      have fr : ∀ b ∈ a :: l :: (ss ++ ds), H b = none := fun b hb => by
        rcases List.mem_cons.mp hb with rfl | hb
        · exact ha
        rcases List.mem_cons.mp hb with rfl | hb
        · exact un _ hl
        rcases List.mem_append.mp hb with hb | hb
        · exact un _ (hss b hb)
        · exact un _ (hds b hb)
      refine ⟨_, rfl, D, E, dx, _, rfl, s1 _ _ hD, T.cl, T.nc, (by show 2 < 1000; decide), ?_⟩
      rw [df_put]
      have nD : ∀ b, H b = none → b ≠ D := fun b hb z => by subst z; rw [hD] at hb; cases hb
      have nLD : L ≠ D := ne_of hL hD (by intro z; cases z)
      refine ⟨by show 1 ≤ sizeLine; decide, fun p hp => ?_⟩
      have hpD : p ≠ D := fun z => by subst z; rw [upd_same] at hp; cases hp
      have hp1 : H1 p = none := by rw [upd_ne hpD] at hp; exact hp
      have kp : ∀ b o, H1 b = some o → b ≠ D → upd (upd H1 D (.ins E dx (df L (.ref a)))) p (.lst [V.int 0]) b = some o := fun b o hb nb => by
        rw [upd_ne (ne_of_none hb hp1), upd_ne nb]
        exact hb
      refine kk _ p (fun i => if i = 4 then a :: l :: (ss ++ ds) else pt i) (da.cen (v := .ref a) (p := a :: l :: (ss ++ ds)) (fun dy cw hy => ?_) (fun o ho => kp _ _ (s1 _ _ ho) nLD) (.inr ⟨a, l, ss, ds, _, rfl, rfl, rfl, ca.keep fun b hb o ho => kp _ _ ho (nD b (fr b hb))⟩) (fun b hb => .inr (fr b hb)) fun i hi b hb o ho => kp _ _ (s1 _ _ ho) fun z => (da.out i (by omega)).1 (z ▸ hb)) (fun i hi b hb => ?_) (s1.free hp1) upd_same (((Chg.of s1).upd (.inl (by simp [owns]))).upd (.inr (s1.free hp1)))
      · rw [hD] at hy
        cases hy
        rw [upd_ne (Ne.symm hpD), upd_same]
      · have hb : b ∈ (if i = 4 then a :: l :: (ss ++ ds) else pt i) := hb
        by_cases z : i = 4
        · rw [if_pos z] at hb
          exact .inr (fr b hb)
        · rw [if_neg z] at hb
          exact .inl hb
/-- if call[0] == n: .. -/
theorem if_ix0 {σ : L2.St} {H : Hp} {D : Ends} {t u : TS} {c : Addr} {xs : List V} {o n : Nat} (e : σ[1]? = some (some (.ref c))) (sq : SqL K H c xs) (a0 : atI xs 0 = some (iv o)) (h : if o = n then t D σ H else u D σ H) :
    tIfS (tTest (tOp (rN fun a b => .bl (decide (a = b))) (tOp (rIxL K) (tVar 1) (tC (.int 0))) (tC (iv n)))) t u D σ H := by
  refine ⟨_, e, c, xs, 0, _, rfl, rfl, sq, a0, o, n, rfl, rfl, _, rfl, ?_⟩
  by_cases z : o = n
  · rw [if_pos z] at h
    exact ite_t (decide_eq_true z) h
  · rw [if_neg z] at h
    exact ite_f (fun q => z (of_decide_eq_true q)) h
/-- desk.answer_of_station(call) -/
noncomputable def spAnsS (E B C Z : Addr) : Sp := fun vs H Q _ => ∃ (D L c : Addr) (pt : Nat → List Addr) (st : S) (q : Cl), vs = [.ref D, .ref c] ∧ DeskAt E B C Z H D L pt st ∧ H c = some (.lst (q.flat.map iv)) ∧ Km355.whose q.call = 0 ∧ (step st q.neutral).2 ≠ [] ∧ Post E B C Z H D L pt st (step st q.neutral) Q
theorem scAnsS : FnScope ["self", "call", "station"] ["self", "call"] (defScope sAnsS) := ⟨rfl, rfl, rfl, by decide +kernel, rfl, by decide +kernel, by decide +kernel⟩
theorem Post.station {E B C Z : Addr} {H : Hp} {D L : Addr} {pt : Nat → List Addr} {st : S} {j : Nat} {c : Km355.Call} {t : Station} {Q : VK} (k : Post E B C Z H D L pt st (step0 st j c) Q) (A : DeskAt E B C Z H D L pt st) (hj : j < 4) (e : st.1.getD j none = some t) {a s d d' : Addr} (hpt : pt j = [a, s, d]) {xs : List V} (hL : H L = some (.lst xs)) (hx : xs.getD j .non = .ref a)
    {H' : Hp} (sa : StationAt B C H' a s d' (sDoes t c).1) (hd : d' = d ∨ H d' = none) {p : Addr} (hp : H p = none) (h : H' p = some (.lst (toldV (sDoes t c).2))) (ch : Chg [s, d] H H') : Q (.ref p) H' := by
  rw [show step0 st j c = _ from step0_some hj e] at k
  have hsub : ∀ b ∈ [s, d], b ∈ pt j := fun b hb => by rw [hpt]; exact List.mem_cons_of_mem _ hb
  obtain ⟨hlx, hlt⟩ : xs.length = 4 ∧ True := by
    obtain ⟨ys, hy, h4, _⟩ := A.lst
    rw [hL] at hy
    cases hy
    exact ⟨h4, trivial⟩
  have hset : xs.set j (.ref a) = xs := by
    refine List.ext_getElem? fun i => ?_
    by_cases z : j = i
    · subst z
      rw [List.getElem?_set_self (by omega)]
      rw [List.getD_eq_getElem?_getD, List.getElem?_eq_getElem (by omega)] at hx
      rw [List.getElem?_eq_getElem (by omega)]
      exact congrArg some hx.symm
    · rw [List.getElem?_set_ne z]
  refine k H' p (fun i => if i = j then [a, s, d'] else pt i) (A.sta hj (v := .ref a) (p := [a, s, d']) (fun o ho => ch.keep _ _ ho fun z => (A.out j (by omega)).1 (hsub _ z)) (fun ys hy => ?_) (.inr ⟨a, s, d', _, rfl, rfl, rfl, sa⟩) (fun b hb => ?_) fun i hi ne b hb o ho => ch.keep _ _ ho fun z => A.apart i j hi (by omega) ne b hb (hsub _ z)) (fun i hi b hb => ?_) hp h (ch.mono fun b hb => owns_pt (by omega) (hsub b hb))
  · rw [hL] at hy
    cases hy
    rw [hset]
    exact ch.keep _ _ hL fun z => (A.out j (by omega)).2 (hsub _ z)
  · rw [hpt]
    simp only [List.mem_cons, List.not_mem_nil, or_false] at hb ⊢
    rcases hb with rfl | rfl | rfl
    · exact .inl (.inl rfl)
    · exact .inl (.inr (.inl rfl))
    · rcases hd with z | z
      · exact .inl (.inr (.inr z))
      · exact .inr z
  · have hb : b ∈ (if i = j then [a, s, d'] else pt i) := hb
    by_cases z : i = j
    · subst z
      rw [if_pos rfl] at hb
      rw [hpt]
      simp only [List.mem_cons, List.not_mem_nil, or_false] at hb ⊢
      rcases hb with rfl | rfl | rfl
      · exact .inl (.inl rfl)
      · exact .inl (.inr (.inl rfl))
      · rcases hd with z | z
        · exact .inl (.inr (.inr z))
        · exact .inr z
    · rw [if_neg z] at hb
      exact .inl hb
theorem ok_ansS {f g1 g2 g3 g4 E B C Z : Addr} {fd d1 d2 d3 d4 : FuncData} (F : Fun K "answer_of_station" "Desk.answer_of_station" sAnsS f fd) (T : TxtE K mg E) (TT : TxtT K mg B)
    (O1 : FnOk P w K mg base CX0 5 g1 d1 ["self", "place", "me", "k"] (spStartS E B C Z)) (m1 : Meth K E "start_station" g1) (b1 : Binds K d1 ["self", "place", "me", "k"] [])
    (O2 : FnOk P w K mg base CX0 3 g2 d2 ["self", "x"] (spRead B C)) (m2 : Meth K B "read" g2) (b2 : Binds K d2 ["self", "x"] [])
    (O3 : FnOk P w K mg base CX0 3 g3 d3 ["self"] (spSay B C)) (m3 : Meth K B "say" g3) (b3 : Binds K d3 ["self"] [])
    (O4 : FnOk P w K mg base CX0 2 g4 d4 ["self", "x"] (spTell B C)) (m4 : Meth K B "tell" g4) (b4 : Binds K d4 ["self", "x"] []) : FnOk P w K mg base CX0 6 f fd ["self", "call"] (spAnsS E B C Z) := by
  refine F.ok scAnsS (fun vs H Q E h => ?_) (fun cdv A outer s0 H vs Q E' hr h => ?_)
  · obtain ⟨D, L, c, pt, st, q, rfl, _⟩ := h
    rfl
  · obtain ⟨D, L, c, pt, st, q, rfl, da, hc, hw, hne, kk⟩ := h
    have hr3 : Room 3 _ := hr.mono (by decide)
    have hr2 : Room 2 _ := hr.mono (by decide)
    obtain ⟨t0, h0⟩ := T.o0
    obtain ⟨t1, h1⟩ := T.o1
    obtain ⟨t2, h2⟩ := T.o2
    refine ⟨_, pss_cons (ps_if (pt_cmpR on_eq (pe_ix ix_list (pv 1) pe_int (fun _ _ => rfl)) (pe_glob (v := iv 0) rfl h0 ⟨t0, rfl⟩) (nomark _))
        (pss_one (ps_ret (pe_meth (pv 0) T.cl m1 O1 hr b1 .nil pass0 (pa_cons (pe_ix ix_list (pv 1) pe_int (fun _ _ => rfl)) (pa_cons (pe_ix ix_list (pv 1) pe_int (fun _ _ => rfl)) (pa_cons (pe_ix ix_list (pv 1) pe_int (fun _ _ => rfl)) pa_nil)))))) pss_nil)
      (pss_cons (ps_set (i := 2) scAnsS.nd rfl (Or.inl rfl) (pe_ix ix_list (pe_fld (pv 0) rfl) (pe_ix ix_list (pv 1) pe_int (fun _ _ => rfl)) (fun _ _ => rfl)))
      (pss_cons (ps_if (pt_cmpR on_eq (pe_ix ix_list (pv 1) pe_int (fun _ _ => rfl)) (pe_glob (v := iv 1) rfl h1 ⟨t1, rfl⟩) (nomark _)) (pss_one (ps_ret (pe_meth (pv 2) TT.cl m2 O2 hr3 b2 .nil pass0 (pa_cons (pe_ix ix_list (pv 1) pe_int (fun _ _ => rfl)) pa_nil)))) pss_nil)
      (pss_cons (ps_if (pt_cmpR on_eq (pe_ix ix_list (pv 1) pe_int (fun _ _ => rfl)) (pe_glob (v := iv 2) rfl h2 ⟨t2, rfl⟩) (nomark _)) (pss_one (ps_ret (pe_meth0 (pv 2) TT.cl m3 O3 hr3 b3 .nil pass0))) pss_nil)
      (pss_one (ps_ret (pe_meth (pv 2) TT.cl m4 O4 hr2 b4 .nil pass0 (pa_cons (pe_ix ix_list (pv 1) pe_int (fun _ _ => rfl)) pa_nil))))))), ?_⟩
    rw [OL.step_station st hw] at kk hne
    have sq := SqL.of (K := K) hc
    obtain ⟨⟨dx, cv, hD, _⟩, ⟨xs, hL, h4, hsta⟩, _, _, _, _⟩ := id da
    -- a call of a station that stands
    have stn : ∀ (j : Nat), q.ix = j → Km355.isStart q.call = false → j < 4 ∧ ∃ (t : Station) (a s d : Addr), st.1.getD j none = some t ∧ xs.getD j .non = .ref a ∧ pt j = [a, s, d] ∧ StationAt B C H a s d t ∧ atI xs (j : Int) = some (.ref a) := by
      intro j ej hs
      subst ej
      have hj := step0_lt hne
      obtain ⟨t, ht⟩ := step0_is hne hs
      have so := hsta _ hj
      rw [ht] at so
      rcases so with ⟨_, z, _⟩ | ⟨a, s, d, t', e1, e2, e3, sa⟩
      · cases z
      · cases e2
        refine ⟨hj, t, a, s, d, ht, e1, e3, sa, atI_nat ?_⟩
        rw [List.getD_eq_getElem?_getD, List.getElem?_eq_getElem (by omega)] at e1
        rw [List.getElem?_eq_getElem (by omega)]
        exact congrArg some e1
    cases q with
    | start j me k =>
      have hj : j < 4 := step0_lt hne
      refine if_ix0 (o := 0) (n := 0) rfl sq (at_of (j := 0) rfl rfl) (ite_t rfl ?_)
      refine ⟨_, rfl, D, dx, _, rfl, hD, df_no _ _ (by decide +kernel) (by decide +kernel), _, rfl, c, _, _, _, rfl, rfl, sq, at_of (j := 1) rfl rfl, _, rfl, c, _, _, _, rfl, rfl, sq, at_of (j := 2) rfl rfl, _, rfl, c, _, _, _, rfl, rfl, sq, at_of (j := 3) rfl rfl, ?_⟩
      exact ⟨D, L, pt, st, j, me, k, rfl, da, hj, kk⟩
    | read j x =>
      obtain ⟨hj, t, a, s, d, ht, hx, hpt, sa, hat⟩ := stn j rfl rfl
      obtain ⟨⟨ax, ha⟩, _⟩ := id sa
      refine if_ix0 (o := 1) (n := 0) rfl sq (at_of (j := 0) rfl rfl) (ite_f (by decide) ?_)
      refine ⟨_, rfl, D, E, dx, _, _, rfl, hD, T.cl, T.ns, df_s .., _, rfl, c, _, _, _, rfl, rfl, sq, at_of (j := 1) rfl rfl, L, xs, _, _, rfl, rfl, SqL.of hL, hat, ?_⟩
      refine if_ix0 (o := 1) (n := 1) rfl sq (at_of (j := 0) rfl rfl) (ite_t rfl ?_)
      refine ⟨_, rfl, a, ax, _, rfl, ha, tf_no _ _ (by decide +kernel) (by decide +kernel), _, rfl, c, _, _, _, rfl, rfl, sq, at_of (j := 2) rfl rfl, ?_⟩
      exact ⟨a, s, d, x, t, rfl, sa, fun H' d' p sa' hd' hp h ch => kk.station da hj ht hpt hL hx sa' hd' hp h ch⟩
    | say j =>
      obtain ⟨hj, t, a, s, d, ht, hx, hpt, sa, hat⟩ := stn j rfl rfl
      obtain ⟨⟨ax, ha⟩, _⟩ := id sa
      refine if_ix0 (o := 2) (n := 0) rfl sq (at_of (j := 0) rfl rfl) (ite_f (by decide) ?_)
      refine ⟨_, rfl, D, E, dx, _, _, rfl, hD, T.cl, T.ns, df_s .., _, rfl, c, _, _, _, rfl, rfl, sq, at_of (j := 1) rfl rfl, L, xs, _, _, rfl, rfl, SqL.of hL, hat, ?_⟩
      refine if_ix0 (o := 2) (n := 1) rfl sq (at_of (j := 0) rfl rfl) (ite_f (by decide) ?_)
      refine if_ix0 (o := 2) (n := 2) rfl sq (at_of (j := 0) rfl rfl) (ite_t rfl ?_)
      refine ⟨_, rfl, a, ax, _, rfl, ha, tf_no _ _ (by decide +kernel) (by decide +kernel), ?_⟩
      exact ⟨a, s, d, t, rfl, sa, fun H' p hp h sm => kk.station da hj ht hpt hL hx (sa.keep fun b _ => sm b) (.inl rfl) hp h (.of sm)⟩
    | of j x =>
      obtain ⟨hj, t, a, s, d, ht, hx, hpt, sa, hat⟩ := stn j rfl rfl
      obtain ⟨⟨ax, ha⟩, _⟩ := id sa
      refine if_ix0 (o := 3) (n := 0) rfl sq (at_of (j := 0) rfl rfl) (ite_f (by decide) ?_)
      refine ⟨_, rfl, D, E, dx, _, _, rfl, hD, T.cl, T.ns, df_s .., _, rfl, c, _, _, _, rfl, rfl, sq, at_of (j := 1) rfl rfl, L, xs, _, _, rfl, rfl, SqL.of hL, hat, ?_⟩
      refine if_ix0 (o := 3) (n := 1) rfl sq (at_of (j := 0) rfl rfl) (ite_f (by decide) ?_)
      refine if_ix0 (o := 3) (n := 2) rfl sq (at_of (j := 0) rfl rfl) (ite_f (by decide) ?_)
      refine ⟨_, rfl, a, ax, _, rfl, ha, tf_no _ _ (by decide +kernel) (by decide +kernel), _, rfl, c, _, _, _, rfl, rfl, sq, at_of (j := 2) rfl rfl, ?_⟩
      exact ⟨a, s, d, x, t, rfl, sa, fun H' p hp h sm => kk.station da hj ht hpt hL hx (sa.keep fun b _ => sm b) (.inl rfl) hp h (.of sm)⟩
    | cstart j k n => exact absurd hw (by show ¬ (1 : Nat) = 0; decide)
    | heard j m => exact absurd hw (by show ¬ (1 : Nat) = 0; decide)
    | cof j x => exact absurd hw (by show ¬ (1 : Nat) = 0; decide)
    | often j p => exact absurd hw (by show ¬ (1 : Nat) = 0; decide)
/-- desk.answer_of_centre(call) -/
noncomputable def spAnsC (E B C Z : Addr) : Sp := fun vs H Q _ => ∃ (D L c : Addr) (pt : Nat → List Addr) (st : S) (q : Cl), vs = [.ref D, .ref c] ∧ DeskAt E B C Z H D L pt st ∧ H c = some (.lst (q.flat.map iv)) ∧ Km355.whose q.call = 1 ∧ q.ok ∧ (step st q.neutral).2 ≠ [] ∧ Post E B C Z H D L pt st (step st q.neutral) Q
theorem scAnsC : FnScope ["self", "call"] ["self", "call"] (defScope sAnsC) := ⟨rfl, rfl, rfl, by decide +kernel, rfl, by decide +kernel, by decide +kernel⟩
theorem Post.centre {E B C Z : Addr} {H : Hp} {D L : Addr} {pt : Nat → List Addr} {st : S} {c : Km355.Call} {t : Centre} {Q : VK} (k : Post E B C Z H D L pt st (step1 st 0 c) Q) (A : DeskAt E B C Z H D L pt st) (e : st.2.getD 0 none = some t) {a l : Addr} {ss ds ss' ds' : List Addr} (hpt : pt 4 = a :: l :: (ss ++ ds)) {dx : Addr} (hD : H D = some (.ins E dx (df L (.ref a))))
    {H' : Hp} (ca : CentreAt Z C H' a l ss' ds' (cDoes t c).1) (hd : ∀ b ∈ ss' ++ ds', b ∈ ss ++ ds ∨ H b = none) {p : Addr} (hp : H p = none) (h : H' p = some (.lst (toldV (cDoes t c).2))) (ch : Chg [l] H H') : Q (.ref p) H' := by
  rw [show step1 st 0 c = _ from step1_some e] at k
  have hsub : ∀ b ∈ [l], b ∈ pt 4 := fun b hb => by rw [hpt, List.mem_singleton.mp hb]; simp
  have hn : ∀ b ∈ a :: l :: (ss' ++ ds'), b ∈ pt 4 ∨ H b = none := fun b hb => by
    rw [hpt]
    rcases List.mem_cons.mp hb with rfl | hb
    · exact .inl (by simp)
    rcases List.mem_cons.mp hb with rfl | hb
    · exact .inl (by simp)
    rcases hd b hb with z | z
    · exact .inl (List.mem_cons_of_mem _ (List.mem_cons_of_mem _ z))
    · exact .inr z
  refine k H' p (fun i => if i = 4 then a :: l :: (ss' ++ ds') else pt i) (A.cen (v := .ref a) (p := a :: l :: (ss' ++ ds')) (fun dy cw hy => ?_) (fun o ho => ch.keep _ _ ho fun z => (A.out 4 (by omega)).2 (hsub _ z)) (.inr ⟨a, l, ss', ds', _, rfl, rfl, rfl, ca⟩) hn fun i hi b hb o ho => ch.keep _ _ ho fun z => A.apart i 4 (by omega) (by omega) (by omega) b hb (hsub _ z)) (fun i hi b hb => ?_) hp h (ch.mono fun b hb => owns_pt (by omega) (hsub b hb))
  · rw [hD] at hy
    cases hy
    exact ch.keep _ _ hD fun z => (A.out 4 (by omega)).1 (hsub _ z)
  · have hb : b ∈ (if i = 4 then a :: l :: (ss' ++ ds') else pt i) := hb
    by_cases z : i = 4
    · rw [if_pos z] at hb
      rw [z]
      exact hn b hb
    · rw [if_neg z] at hb
      exact .inl hb
theorem ok_ansC {f g1 g2 g3 g4 E B C Z : Addr} {fd d1 d2 d3 d4 : FuncData} (F : Fun K "answer_of_centre" "Desk.answer_of_centre" sAnsC f fd) (T : TxtE K mg E) (TZ : TxtZ K mg Z)
    (O1 : FnOk P w K mg base CX0 5 g1 d1 ["self", "k", "stations"] (spStartC E B C Z)) (m1 : Meth K E "start_centre" g1) (b1 : Binds K d1 ["self", "k", "stations"] [])
    (O2 : FnOk P w K mg base CX0 5 g2 d2 ["self", "message"] (spHear K Z C)) (m2 : Meth K Z "hear" g2) (b2 : Binds K d2 ["self", "message"] [])
    (O3 : FnOk P w K mg base CX0 5 g3 d3 ["self", "x"] (spZTell Z C)) (m3 : Meth K Z "tell" g3) (b3 : Binds K d3 ["self", "x"] [])
    (O4 : FnOk P w K mg base CX0 5 g4 d4 ["self", "p"] (spZOften Z C)) (m4 : Meth K Z "often" g4) (b4 : Binds K d4 ["self", "p"] []) : FnOk P w K mg base CX0 6 f fd ["self", "call"] (spAnsC E B C Z) := by
  refine F.ok scAnsC (fun vs H Q E h => ?_) (fun cdv A outer s0 H vs Q E' hr h => ?_)
  · obtain ⟨D, L, c, pt, st, q, rfl, _⟩ := h
    rfl
  · obtain ⟨D, L, c, pt, st, q, rfl, da, hc, hw, hok, hne, kk⟩ := h
    obtain ⟨t4, h4⟩ := T.o4
    obtain ⟨t5, h5⟩ := T.o5
    obtain ⟨t6, h6⟩ := T.o6
    refine ⟨_, pss_cons (ps_if (pt_cmpR on_eq (pe_ix ix_list (pv 1) pe_int (fun _ _ => rfl)) (pe_glob (v := iv 4) rfl h4 ⟨t4, rfl⟩) (nomark _))
        (pss_one (ps_ret (pe_meth (pv 0) T.cl m1 O1 hr b1 .nil pass0 (pa_cons (pe_ix ix_list (pv 1) pe_int (fun _ _ => rfl)) (pa_cons (pe_ix ix_list (pv 1) pe_int (fun _ _ => rfl)) pa_nil))))) pss_nil)
      (pss_cons (ps_if (pt_cmpR on_eq (pe_ix ix_list (pv 1) pe_int (fun _ _ => rfl)) (pe_glob (v := iv 5) rfl h5 ⟨t5, rfl⟩) (nomark _)) (pss_one (ps_ret (pe_meth (pe_fld (pv 0) rfl) TZ.cl m2 O2 hr b2 .nil pass0 (pa_cons (pe_slice sl_list (pv 1) (po_some pe_int) po_none) pa_nil)))) pss_nil)
      (pss_cons (ps_if (pt_cmpR on_eq (pe_ix ix_list (pv 1) pe_int (fun _ _ => rfl)) (pe_glob (v := iv 6) rfl h6 ⟨t6, rfl⟩) (nomark _)) (pss_one (ps_ret (pe_meth (pe_fld (pv 0) rfl) TZ.cl m3 O3 hr b3 .nil pass0 (pa_cons (pe_ix ix_list (pv 1) pe_int (fun _ _ => rfl)) pa_nil)))) pss_nil)
      (pss_one (ps_ret (pe_meth (pe_fld (pv 0) rfl) TZ.cl m4 O4 hr b4 .nil pass0 (pa_cons (pe_ix ix_list (pv 1) pe_int (fun _ _ => rfl)) pa_nil)))))), ?_⟩
    rw [OL.step_centre st hw] at kk hne
    have sq := SqL.of (K := K) hc
    have hix := step1_lt hne
    rw [hix] at kk hne
    obtain ⟨⟨dx, cv, hD, hcen⟩, _, _, _, _, _⟩ := id da
    -- a call of a centre that stands
    have cen : Km355.isStart q.call = false → ∃ (t : Centre) (a l : Addr) (ss ds : List Addr), st.2.getD 0 none = some t ∧ cv = .ref a ∧ pt 4 = a :: l :: (ss ++ ds) ∧ CentreAt Z C H a l ss ds t := by
      intro hs
      obtain ⟨t, ht⟩ := step1_is hne hs
      have so := hcen
      rw [ht] at so
      rcases so with ⟨_, z, _⟩ | ⟨a, l, ss, ds, t', e1, e2, e3, ca⟩
      · cases z
      · cases e2
        exact ⟨t, a, l, ss, ds, ht, e1, e3, ca⟩
    cases q with
    | cstart j k n =>
      refine if_ix0 (o := 4) (n := 4) rfl sq (at_of (j := 0) rfl rfl) (ite_t rfl ?_)
      refine ⟨_, rfl, D, dx, _, rfl, hD, df_no _ _ (by decide +kernel) (by decide +kernel), _, rfl, c, _, _, _, rfl, rfl, sq, at_of (j := 2) rfl rfl, _, rfl, c, _, _, _, rfl, rfl, sq, at_of (j := 3) rfl rfl, ?_⟩
      exact ⟨D, L, pt, st, k, n, rfl, da, kk⟩
    | heard j m =>
      obtain ⟨t, a, l, ss, ds, ht, rfl, hpt, ca⟩ := cen rfl
      obtain ⟨⟨ax, ha⟩, _⟩ := id ca
      refine if_ix0 (o := 5) (n := 4) rfl sq (at_of (j := 0) rfl rfl) (ite_f (by decide) ?_)
      refine if_ix0 (o := 5) (n := 5) rfl sq (at_of (j := 0) rfl rfl) (ite_t rfl ?_)
      refine ⟨_, rfl, D, E, dx, _, _, rfl, hD, T.cl, T.nc, df_c .., a, ax, _, rfl, ha, cf_no _ _ (by decide +kernel) (by decide +kernel), _, rfl, _, rfl, c, _, rfl, sq, fun z hz => ?_⟩
      have ez : cutV ((Cl.heard j m).flat.map iv) (some ((3 : Nat) : Int)) none = m.map iv := cut_lo (Cl.heard j m).flat (lo := 3) (by show 3 ≤ m.length + 3; omega)
      rw [show cutV ((Cl.heard j m).flat.map iv) (some (3 : Int)) none = m.map iv from ez]
      have sm := same_new hz (.lst (m.map iv))
      have hz1 : upd H z (.lst (m.map iv)) z = some (.lst (m.map iv)) := upd_same
      generalize upd H z (.lst (m.map iv)) = H1 at sm hz1 ⊢
      obtain ⟨hm, hb⟩ : m.length = 216 ∧ ∀ b ∈ m, b < 256 := hok
      refine ⟨a, l, z, ss, ds, t, m, rfl, ca.same sm, ⟨SqL.of hz1, hm, hb⟩, fun H' ss' ds' p ca' hd' hp h ch => ?_⟩
      refine kk.centre da ht hpt hD ca' (fun b hb => ?_) (sm.free hp) h ⟨fun b o hb n => ch.keep b o (sm b o hb) n, fun b hb => sm.free (ch.dom b hb)⟩
      rcases hd' b hb with z | z
      · exact .inl z
      · exact .inr (sm.free z)
    | cof j x =>
      obtain ⟨t, a, l, ss, ds, ht, rfl, hpt, ca⟩ := cen rfl
      obtain ⟨⟨ax, ha⟩, _⟩ := id ca
      refine if_ix0 (o := 6) (n := 4) rfl sq (at_of (j := 0) rfl rfl) (ite_f (by decide) ?_)
      refine if_ix0 (o := 6) (n := 5) rfl sq (at_of (j := 0) rfl rfl) (ite_f (by decide) ?_)
      refine if_ix0 (o := 6) (n := 6) rfl sq (at_of (j := 0) rfl rfl) (ite_t rfl ?_)
      refine ⟨_, rfl, D, E, dx, _, _, rfl, hD, T.cl, T.nc, df_c .., a, ax, _, rfl, ha, cf_no _ _ (by decide +kernel) (by decide +kernel), _, rfl, c, _, _, _, rfl, rfl, sq, at_of (j := 2) rfl rfl, ?_⟩
      exact ⟨a, l, ss, ds, t, x, rfl, ca, fun H' p hp h sm => kk.centre da ht hpt hD (ca.same sm) (fun b hb => .inl hb) hp h (.of sm)⟩
    | often j p =>
      obtain ⟨t, a, l, ss, ds, ht, rfl, hpt, ca⟩ := cen rfl
      obtain ⟨⟨ax, ha⟩, _⟩ := id ca
      refine if_ix0 (o := 7) (n := 4) rfl sq (at_of (j := 0) rfl rfl) (ite_f (by decide) ?_)
      refine if_ix0 (o := 7) (n := 5) rfl sq (at_of (j := 0) rfl rfl) (ite_f (by decide) ?_)
      refine if_ix0 (o := 7) (n := 6) rfl sq (at_of (j := 0) rfl rfl) (ite_f (by decide) ?_)
      refine ⟨_, rfl, D, E, dx, _, _, rfl, hD, T.cl, T.nc, df_c .., a, ax, _, rfl, ha, cf_no _ _ (by decide +kernel) (by decide +kernel), _, rfl, c, _, _, _, rfl, rfl, sq, at_of (j := 2) rfl rfl, ?_⟩
      exact ⟨a, l, ss, ds, t, p, rfl, ca, hok, fun H' p hp h sm => kk.centre da ht hpt hD (ca.same sm) (fun b hb => .inl hb) hp h (.of sm)⟩
    | start j me k => exact absurd hw (by show ¬ (0 : Nat) = 1; decide)
    | read j x => exact absurd hw (by show ¬ (0 : Nat) = 1; decide)
    | say j => exact absurd hw (by show ¬ (0 : Nat) = 1; decide)
    | of j x => exact absurd hw (by show ¬ (0 : Nat) = 1; decide)
/-- desk.answer(call) -/
noncomputable def spAnswer (E B C Z : Addr) : Sp := fun vs H Q _ => ∃ (D L c : Addr) (pt : Nat → List Addr) (st : S) (q : Cl), vs = [.ref D, .ref c] ∧ DeskAt E B C Z H D L pt st ∧ H c = some (.lst (q.flat.map iv)) ∧ q.ok ∧ (step st q.neutral).2 ≠ [] ∧ Post E B C Z H D L pt st (step st q.neutral) Q
theorem scAnswer : FnScope ["self", "call"] ["self", "call"] (defScope sAnswer) := ⟨rfl, rfl, rfl, by decide +kernel, rfl, by decide +kernel, by decide +kernel⟩
theorem ok_answer {f g1 g2 E B C Z : Addr} {fd d1 d2 : FuncData} (F : Fun K "answer" "Desk.answer" sAnswer f fd) (T : TxtE K mg E)
    (O1 : FnOk P w K mg base CX0 6 g1 d1 ["self", "call"] (spAnsS E B C Z)) (m1 : Meth K E "answer_of_station" g1) (b1 : Binds K d1 ["self", "call"] [])
    (O2 : FnOk P w K mg base CX0 6 g2 d2 ["self", "call"] (spAnsC E B C Z)) (m2 : Meth K E "answer_of_centre" g2) (b2 : Binds K d2 ["self", "call"] []) : FnOk P w K mg base CX0 7 f fd ["self", "call"] (spAnswer E B C Z) := by
  refine F.ok scAnswer (fun vs H Q E h => ?_) (fun cdv A outer s0 H vs Q E' hr h => ?_)
  · obtain ⟨D, L, c, pt, st, q, rfl, _⟩ := h
    rfl
  · obtain ⟨D, L, c, pt, st, q, rfl, da, hc, hok, hne, kk⟩ := h
    obtain ⟨t3, h3⟩ := T.o3
    obtain ⟨⟨dx, cv, hD, hcen⟩, _⟩ := id da
    refine ⟨_, pss_cons (ps_if (pt_cmpR on_le (pe_ix ix_list (pv 1) pe_int (fun _ _ => rfl)) (pe_glob (v := iv 3) rfl h3 ⟨t3, rfl⟩) (nomark _)) (pss_one (ps_ret (pe_meth (pv 0) T.cl m1 O1 hr b1 .nil pass0 (pa_cons (pv 1) pa_nil)))) pss_nil)
      (pss_one (ps_ret (pe_meth (pv 0) T.cl m2 O2 hr b2 .nil pass0 (pa_cons (pv 1) pa_nil)))), ?_⟩
    have sq := SqL.of (K := K) hc
    obtain ⟨o, l, ho⟩ : ∃ o l, q.flat = o :: l ∧ ((o ≤ 3 ∧ Km355.whose q.call = 0) ∨ (¬ o ≤ 3 ∧ Km355.whose q.call = 1)) := by
      cases q with
      | start j me k => exact ⟨0, _, rfl, .inl ⟨by decide, rfl⟩⟩
      | read j x => exact ⟨1, _, rfl, .inl ⟨by decide, rfl⟩⟩
      | say j => exact ⟨2, _, rfl, .inl ⟨by decide, rfl⟩⟩
      | of j x => exact ⟨3, _, rfl, .inl ⟨by decide, rfl⟩⟩
      | cstart j k n => exact ⟨4, _, rfl, .inr ⟨by decide, rfl⟩⟩
      | heard j m => exact ⟨5, _, rfl, .inr ⟨by decide, rfl⟩⟩
      | cof j x => exact ⟨6, _, rfl, .inr ⟨by decide, rfl⟩⟩
      | often j p => exact ⟨7, _, rfl, .inr ⟨by decide, rfl⟩⟩
    obtain ⟨ho, hcase⟩ := ho
    have a0 : atI (q.flat.map iv) 0 = some (iv o) := at_of (j := 0) rfl (by rw [ho]; rfl)
    refine ⟨_, rfl, c, _, _, _, rfl, rfl, sq, a0, o, 3, rfl, rfl, _, rfl, ?_⟩
    rcases hcase with ⟨h, hw⟩ | ⟨h, hw⟩
    · exact ite_t (decide_eq_true h) ⟨_, rfl, D, dx, _, rfl, hD, df_no _ _ (by decide +kernel) (by decide +kernel), _, rfl, D, L, c, pt, st, q, rfl, da, hc, hw, hne, kk⟩
    · exact ite_f (fun z => h (of_decide_eq_true z)) ⟨_, rfl, D, dx, _, rfl, hD, df_no _ _ (by decide +kernel) (by decide +kernel), _, rfl, D, L, c, pt, st, q, rfl, da, hc, hw, hok, hne, kk⟩
end
end Of

end
section
set_option Elab.async false
set_option linter.all false
set_option maxRecDepth 100000
set_option maxHeartbeats 2000000
namespace Of
open PySem PySem.Spec PyProof.Rows L2
open Km355 (Summary Message Station Centre messageOf cDoes sDoes)
open Km355Neutral (S step step0 step1 told)
open OL (Cl)
@[reducible] noncomputable def sAns : Stmt := top 54
theorem s_len {t : Station} (h : t.summary.counts.length ≤ 16) (c : Km355.Call) : (told (sDoes t c).2).length ≤ 217 := by
  rw [OL.told_len]
  have o : ∀ v : Int, (Km355.only v).out.length + 1 ≤ 217 := fun v => by show 0 + 1 ≤ 217; decide
  cases c with
  | sStart me k =>
    show (if Km355.STATIONS ≤ me ∨ Km355.okK k = false then (t, Km355.only (-22)) else (⟨me, k, Km355.nothing⟩, Km355.only 0)).2.out.length + 1 ≤ 217
    split <;> exact o _
  | sRead x =>
    show (if Km355.MANY ≤ t.summary.n + 1 then (t, Km355.only (-28)) else ({ t with summary := t.summary.add t.k x }, Km355.only 0)).2.out.length + 1 ≤ 217
    split <;> exact o _
  | sSay =>
    show ((⟨t.me, t.k, t.summary⟩ : Message).bytes).length + 1 ≤ 217
    rw [OM.bytes_eq, List.length_append, OM.body_len h, OM.le_len]
    decide
  | sOf x => show 3 + 1 ≤ 217; decide
  | cStart k n => exact o _
  | cHeard l => exact o _
  | cOf x => exact o _
  | cOften p => exact o _
theorem c_len (t : Centre) (c : Km355.Call) : (told (cDoes t c).2).length ≤ 217 := by
  rw [OL.told_len]
  have o : ∀ v : Int, (Km355.only v).out.length + 1 ≤ 217 := fun v => by show 0 + 1 ≤ 217; decide
  cases c with
  | cStart k n =>
    show (if Km355.okK k = false ∨ n = 0 ∨ Km355.STATIONS < n then (t, Km355.only (-22)) else (Km355.centre0 k n, Km355.only 0)).2.out.length + 1 ≤ 217
    split <;> exact o _
  | cHeard l =>
    show (match messageOf l with
      | none => (t, Km355.only (-71))
      | some m => if m.k ≠ t.k ∨ t.stations ≤ m.station then (t, Km355.only (-71)) else if m.summary.n ≤ (t.got.getD m.station Km355.nothing).n then (t, Km355.only 0) else ({ t with got := t.got.set m.station m.summary }, Km355.only 1)).2.out.length + 1 ≤ 217
    cases messageOf l with
    | none => exact o _
    | some m =>
      show (if m.k ≠ t.k ∨ t.stations ≤ m.station then (t, Km355.only (-71)) else if m.summary.n ≤ (t.got.getD m.station Km355.nothing).n then (t, Km355.only 0) else ({ t with got := t.got.set m.station m.summary }, Km355.only 1)).2.out.length + 1 ≤ 217
      split
      · exact o _
      · split <;> exact o _
  | cOf x => show 3 + 1 ≤ 217; decide
  | cOften p =>
    by_cases h : p = 0
    · show (if p = 0 then Km355.only (-22) else _).out.length + 1 ≤ 217
      rw [if_pos h]
      exact o _
    · show (if p = 0 then Km355.only (-22) else { value := _, out := _ }).out.length + 1 ≤ 217
      rw [if_neg h]
      show (List.take Km355.COUNTERS _).length + 1 ≤ 217
      have := List.length_take_le Km355.COUNTERS (((t.all.counts.filter fun y => decide (t.all.n < p * y.2)).map Prod.fst) ++ List.replicate Km355.COUNTERS 0)
      unfold Km355.COUNTERS at this ⊢
      omega
  | sStart k n => exact o _
  | sRead x => exact o _
  | sSay => exact o _
  | sOf x => exact o _
theorem step_len {E B C Z : Addr} {H : Hp} {D L : Addr} {pt : Nat → List Addr} {st : S} (A : DeskAt E B C Z H D L pt st) (q : Cl) : (step st q.neutral).2.length ≤ 217 := by
  have hw : Km355.whose q.call = 0 ∨ Km355.whose q.call = 1 := by cases q <;> first | exact .inl rfl | exact .inr rfl
  rcases hw with hw | hw
  · rw [OL.step_station st hw]
    unfold Km355Neutral.step0
    by_cases hj : 4 ≤ q.ix
    · rw [if_pos hj]; exact Nat.zero_le _
    · rw [if_neg hj]
      cases e : st.1.getD q.ix none with
      | some t =>
        show (told (sDoes t q.call).2).length ≤ 217
        obtain ⟨xs, _, _, hs⟩ := A.lst
        have so := hs q.ix (by omega)
        rw [e] at so
        rcases so with ⟨_, z, _⟩ | ⟨a, s, d, t', _, e2, _, sa⟩
        · cases z
        · cases e2
          exact s_len (Nat.le_trans sa.few sa.k16) _
      | none =>
        show ((if Km355.isStart q.call = true then (_, told (sDoes ⟨0, 1, Km355.nothing⟩ q.call).2) else ((st, []) : S × List Int)).2).length ≤ 217
        split
        · exact s_len (Nat.zero_le _) _
        · exact Nat.zero_le _
  · rw [OL.step_centre st hw]
    unfold Km355Neutral.step1
    by_cases hj : 1 ≤ q.ix
    · rw [if_pos hj]; exact Nat.zero_le _
    · rw [if_neg hj]
      cases e : st.2.getD q.ix none with
      | some t =>
        show (told (cDoes t q.call).2).length ≤ 217
        exact c_len _ _
      | none =>
        show ((if Km355.isStart q.call = true then (_, told (cDoes (Km355.centre0 1 1) q.call).2) else ((st, []) : S × List Int)).2).length ≤ 217
        split
        · exact c_len _ _
        · exact Nat.zero_le _
theorem sz_app {d n L : Nat} (h1 : d ≤ 218 * n) (h2 : n < L) (h3 : L ≤ 30000) : d < sizeLine := Nat.lt_of_le_of_lt (show d ≤ 218 * 30000 by omega) (by decide)
theorem sz_ext {d n L m : Nat} (h1 : d ≤ 218 * n) (h2 : n < L) (h3 : L ≤ 30000) (h4 : m ≤ 217) : d + 1 + m ≤ sizeLine := Nat.le_trans (show d + 1 + m ≤ 218 * 30000 + 218 by omega) (by decide)
theorem sz_next {d n m f : Nat} (h1 : d ≤ 218 * n) (h4 : m ≤ 217) (h5 : 2 ≤ f) : d + (m + 1) ≤ 218 * (n + f) := by omega
theorem sz_less {n f L : Nat} (h2 : n < L) (h5 : 2 ≤ f) : L - (n + f) < L - n := by omega
theorem sz_end {n f L r : Nat} (h : L - n = f + r) (h2 : n < L) : n + f ≤ L := by omega
structure TxtA (K : PySem.W.Frag) (mg : Str → Option Value) : Prop where
  len : mg "len" = none
  lens : ∃ u, mg "LENGTHS" = some (.ref u) ∧ ∀ H : Hp, SqT K H u (OL.lens.map iv)
section
variable {P : Program} {w : World} {K : PySem.W.Frag} {mg : Str → Option Value} {base : Heap}
noncomputable def spAns (K : PySem.W.Frag) : Sp := fun vs H Q _ => ∃ (a : Addr) (l : List Nat), vs = [.ref a] ∧ SqL K H a (l.map iv) ∧ l.length ≤ 30000 ∧ PyKm355.answers_asked (OL.toZ l) = true ∧
  ∀ (H' : Hp) (p : Addr), H' p = some (.lst ((PyKm355.answers (OL.toZ l)).map V.int)) → Q (.ref p) H'
theorem scAns : FnScope ["calls", "desk", "given", "at", "end", "numbers"] ["calls"] (defScope sAns) := ⟨rfl, rfl, rfl, by decide +kernel, rfl, by decide +kernel, by decide +kernel⟩
/-- the state of the loop -/
structure Loop (E B C Z : Addr) (H0 : Hp) (l : List Nat) (D L g : Addr) (at_ : Nat) (H : Hp) : Prop where
  same : Same H0 H
  le : at_ ≤ l.length
  more : ∃ (st : S) (pt : Nat → List Addr) (cs : List (List (List Int))) (done : List Int), DeskAt E B C Z H D L pt st ∧ g ∉ owns D L pt ∧ (∀ b ∈ owns D L pt, H0 b = none) ∧ OL.Left st (l.drop at_) cs ∧ H g = some (.lst (done.map V.int)) ∧ done.length ≤ 218 * at_ ∧
    done ++ PyFlat.told (PyFlat.played step st cs) = PyKm355.answers (OL.toZ l)
theorem ok_ans {f g1 g2 E B C Z : Addr} {fd d1 d2 : FuncData} (F : Fun K "answers" "answers" sAns f fd) (TA : TxtA K mg) (T : TxtE K mg E)
    (M : Mk K E g1) (O1 : FnOk P w K mg base CX0 1 g1 d1 ["self"] (spDInit E B C Z)) (b1 : Binds K d1 ["self"] [])
    (O2 : FnOk P w K mg base CX0 7 g2 d2 ["self", "call"] (spAnswer E B C Z)) (m2 : Meth K E "answer" g2) (b2 : Binds K d2 ["self", "call"] []) : FnOk P w K mg base CX0 8 f fd ["calls"] (spAns K) := by
  refine F.ok scAns (fun vs H Q E h => ?_) (fun cdv A outer s0 H vs Q E' hr h => ?_)
  · obtain ⟨a, l, rfl, _⟩ := h
    rfl
  · obtain ⟨a, l, rfl, hS, hlen, hask, kk⟩ := h
    have hr2 : Room 2 _ := hr.mono (by decide)
    obtain ⟨u, hu, hT⟩ := TA.lens
    have nd := scAns.nd
    refine ⟨_, pss_cons (ps_set (i := 1) nd rfl (Or.inl rfl) (pe_make0 M O1 hr2 rfl T.mgE b1 .nil pass0))
      (pss_cons (ps_set (i := 2) nd rfl (Or.inl rfl) (pe_lst pa_nil))
      (pss_cons (ps_set (i := 3) nd rfl (Or.inl rfl) pe_int)
      (pss_cons (ps_while PassesOwn.never (pt_cmpR on_lt (pv 3) (pe_callB call_len_seq rfl TA.len PySem.boot_len (pa_cons (pv 0) pa_nil)) (nomark _))
        (pss_cons (ps_set (i := 4) nd rfl (Or.inl rfl) (pe_op on_add (pv 3) (pe_ix ix_tup (pe_glob (v := .ref u) rfl hu rfl) (pe_ix ix_list (pv 0) (pv 3) (fun _ _ => rfl)) (fun _ _ => rfl))))
        (pss_cons (ps_set (i := 5) nd rfl (Or.inl rfl) (pe_meth (pv 1) T.cl m2 O2 hr b2 .nil pass0 (pa_cons (pe_slice sl_list (pv 0) (po_some (pv 3)) (po_some (pv 4))) pa_nil)))
        (pss_cons (ps_expr (pe_bm PySem.F.plainAttrs_list PySem.F.slot_list_append PySem.F.type_list_append mt_append (pv 2) (pa_cons (pe_callB call_len_seq rfl TA.len PySem.boot_len (pa_cons (pv 5) pa_nil)) pa_nil)))
        (pss_cons (ps_expr (pe_bm PySem.F.plainAttrs_list PySem.F.slot_list_extend PySem.F.type_list_extend mt_extend (pv 2) (pa_cons (pv 5) pa_nil)))
        (pss_one (ps_set (i := 3) nd rfl (Or.inl rfl) (pv 4))))))))
      (pss_one (ps_ret (pv 2)))))), ?_⟩
    -- desk = Desk()
    intro D dx hD hdx ndx
    refine ⟨D, dx, rfl, upd_same, fun H1 L hL da k1 => ⟨rfl, ?_⟩⟩
    have s1 : Same H H1 := fun b o hb => by
      refine k1.keep b o ?_ (by simpa using ne_of_none hb hD)
      rw [upd_ne (ne_of_none hb hD), upd_ne (ne_of_none hb hdx)]
      exact hb
    have hL0 : H L = none := by
      have h1 : L ≠ D := fun e => by subst e; rw [upd_same] at hL; cases hL
      have h2 : L ≠ dx := fun e => by subst e; rw [upd_ne h1, upd_same] at hL; cases hL
      rw [upd_ne h1, upd_ne h2] at hL
      exact hL
    -- given = []
    refine ⟨Nat.zero_le _, fun g hg => ?_⟩
    obtain ⟨cs0, left0, hans⟩ := OL.answers_eq hask
    have g0 : H g = none := s1.free hg
    have lp0 : Loop E B C Z H l D L g 0 (upd H1 g (.lst [])) := by
      refine ⟨s1.trans (same_new hg _), Nat.zero_le _, Km355Neutral.start, fun _ => [], cs0, [], da.same (same_new hg _), fun z => ?_, fun b hb => ?_, by rw [List.drop_zero]; exact left0, upd_same, Nat.zero_le _, by rw [List.nil_append]; exact hans.symm⟩
      · rcases of_owns z with e | e | ⟨i, _, e⟩
        · subst e; exact da.liveD hg
        · subst e; exact da.liveL hg
        · simp at e
      · rcases of_owns hb with e | e | ⟨i, _, e⟩
        · subst e; exact hD
        · subst e; exact hL0
        · simp at e
    generalize upd H1 g (.lst []) = H2 at lp0 ⊢
    refine while_by (fun σ H' => ∃ (n : Nat) (v4 v5 : Option V), σ = [some (.ref a), some (.ref D), some (.ref g), some (iv n), v4, v5] ∧ Loop E B C Z H l D L g n H') (fun (σ : L2.St) _ => match (σ[3]? : Option (Option V)) with | some (some (V.int z)) => l.length - z.toNat | _ => 0) ⟨0, none, none, rfl, lp0⟩ ?_ ?_
    · rintro σ H' ⟨n, v4, v5, rfl, lp⟩
      obtain ⟨sm, hle, st, pt, cs, done, da, hgo, hfr, left, hgd, hdl, hans⟩ := id lp
      refine ⟨_, rfl, _, rfl, a, _, rfl, .inl (sm.seq hS), n, l.length, rfl, by rw [List.length_map], _, rfl, ?_⟩
      refine ite2 (fun hc => ?_) fun hc => ?_
      · have hlt : n < l.length := of_decide_eq_true hc
        rcases left.cases with ⟨e, _⟩ | ⟨q, l', cs', e1, e2, hok, hne, left'⟩
        · have := congrArg List.length e
          rw [List.length_drop, List.length_nil] at this
          omega
        · subst e2
          obtain ⟨o, fl, ho, hlo, ho8, hl2⟩ := OL.flat_len hok
          have hdl' : (l.drop n).length = q.flat.length + l'.length := by rw [e1, List.length_append]
          rw [List.length_drop] at hdl'
          have hend : n + q.flat.length ≤ l.length := sz_end hdl' hlt
          have hdrop : l.drop (n + q.flat.length) = l' := by
            rw [← List.drop_drop, e1, List.drop_left]
          have htake : (l.drop n).take (n + q.flat.length - n) = q.flat := by
            rw [e1, Nat.add_sub_cancel_left, List.take_left]
          have hat : (l.map iv)[n]? = some (iv o) := by
            rw [List.getElem?_map]
            have : l[n]? = some o := by
              have h1 : (l.drop n)[0]? = some o := by rw [e1, ho]; rfl
              rw [List.getElem?_drop, Nat.add_zero] at h1
              exact h1
            rw [this]
            rfl
          have hatT : atI (OL.lens.map iv) (o : Int) = some (iv q.flat.length) := atI_nat (by rw [List.getElem?_map, hlo]; rfl)
          -- end = at + LENGTHS[calls[at]]
          refine ⟨_, rfl, _, rfl, _, rfl, a, _, _, _, rfl, rfl, sm.seq hS, atI_nat hat, u, _, _, _, rfl, rfl, hT H', hatT, n, q.flat.length, rfl, rfl, ?_⟩
          -- numbers = desk.answer(calls[at:end])
          obtain ⟨⟨ex, cv, hDx, _⟩, _⟩ := id da
          refine ⟨_, rfl, D, ex, _, rfl, hDx, df_no _ _ (by decide +kernel) (by decide +kernel), _, rfl, _, rfl, _, rfl, _, rfl, _, rfl, a, _, rfl, sm.seq hS, fun c hcn => ?_⟩
          rw [cut_iv l (Nat.le_add_right n q.flat.length) hend, htake]
          have s3 := same_new hcn (.lst (q.flat.map iv))
          have hc3 : upd H' c (.lst (q.flat.map iv)) c = some (.lst (q.flat.map iv)) := upd_same
          generalize upd H' c (.lst (q.flat.map iv)) = H3 at s3 hc3 ⊢
          refine ⟨D, L, c, pt, st, q, rfl, da.same s3, hc3, hok, hne, fun H4 p pt' da4 hpt' hp hpl ch => ?_⟩
          have hg3 := s3 _ _ hgd
          have hg4 : H4 g = some (.lst (done.map V.int)) := ch.keep _ _ hg3 hgo
          have hgp : g ≠ p := ne_of_none hg3 hp
          have hlen4 := step_len da q
          have hdl : done.length ≤ 218 * n := hdl
          have sm4 : Same H H4 := fun b o hb => ch.keep _ _ (s3 _ _ (sm _ _ hb)) fun z => by rw [hfr b z] at hb; cases hb
          have fr' : ∀ b ∈ owns D L pt', b ∈ owns D L pt ∨ H3 b = none := fun b hb => by
            rcases of_owns hb with e | e | ⟨i, hi, e⟩
            · exact .inl (by rw [e]; simp [owns])
            · exact .inl (by rw [e]; simp [owns])
            · rcases hpt' i hi b e with z | z
              · exact .inl (owns_pt hi z)
              · exact .inr z
          have hgo' : g ∉ owns D L pt' := fun z => by
            rcases fr' g z with z | z
            · exact hgo z
            · rw [hg3] at z; cases z
          -- given.append(len(numbers))
          refine ⟨_, rfl, .inl ⟨rfl, _, SqL.of hg4⟩, _, rfl, p, _, rfl, .inl (SqL.of hpl), g, _, _, rfl, rfl, hg4, by rw [List.length_map]; exact sz_app hdl hlt hlen, ?_⟩
          have hp5 : upd H4 g (.lst (done.map V.int ++ [V.int (((step st q.neutral).2.map V.int).length : Nat)])) p = some (.lst ((step st q.neutral).2.map V.int)) := by rw [upd_ne (Ne.symm hgp)]; exact hpl
          -- given.extend(numbers)
          refine ⟨_, rfl, .inl ⟨rfl, _, SqL.of upd_same⟩, _, rfl, g, p, _, _, rfl, rfl, upd_same, hp5, by rw [List.length_append, List.length_map, List.length_map]; exact sz_ext hdl hlt hlen hlen4, ?_⟩
          rw [upd_upd]
          -- at = end
          refine ⟨_, rfl, ⟨n + q.flat.length, _, _, rfl, ?_⟩, ?_⟩
          · have kpg : ∀ b o, H4 b = some o → b ≠ g → upd H4 g (.lst (done.map V.int ++ [V.int (((step st q.neutral).2.map V.int).length : Nat)] ++ (step st q.neutral).2.map V.int)) b = some o := fun b o hb nb => by rw [upd_ne nb]; exact hb
            refine ⟨fun b o hb => kpg _ _ (sm4 _ _ hb) (ne_of_none hb g0), hend, (step st q.neutral).1, pt', cs', done ++ (((step st q.neutral).2.length : Int) :: (step st q.neutral).2), ?_, hgo', fun b hb => ?_, by rw [hdrop]; exact left', ?_, ?_, ?_⟩
            · have hne' : ∀ i, i ≤ 4 → ∀ b ∈ pt' i, b ≠ g := fun i hi b hb z => hgo' (z ▸ owns_pt hi hb)
              obtain ⟨⟨ey, cw, h1, h2⟩, ⟨xs, h3, h4, h5⟩, l1, l2, ap, ou⟩ := da4
              exact ⟨⟨ey, cw, kpg _ _ h1 (fun z => hgo' (by rw [← z]; simp [owns])), h2.keep fun b hb o ho => kpg _ _ ho (hne' 4 (by omega) b hb)⟩, ⟨xs, kpg _ _ h3 (fun z => hgo' (by rw [← z]; simp [owns])), h4, fun i hi => (h5 i hi).keep fun b hb o ho => kpg _ _ ho (hne' i (by omega) b hb)⟩, l1, l2, ap, ou⟩
            · rcases fr' b hb with z | z
              · exact hfr b z
              · exact sm.free (s3.free z)
            · rw [upd_same, List.map_append, List.map_cons, List.length_map, List.append_assoc]
              rfl
            · rw [List.length_append, List.length_cons]
              exact sz_next hdl hlen4 hl2
            · rw [List.append_assoc, List.cons_append, ← hans, OL.told_cons]
          · show l.length - ((n + q.flat.length : Nat) : Int).toNat < l.length - ((n : Nat) : Int).toNat
            rw [Int.toNat_natCast, Int.toNat_natCast]
            exact sz_less hlt hl2
      · have hge : ¬ n < l.length := fun z => hc (decide_eq_true z)
        have hn : n = l.length := Nat.le_antisymm hle (Nat.le_of_not_lt hge)
        subst hn
        rw [List.drop_length] at left
        rcases left.cases with ⟨_, e⟩ | ⟨q, l', cs', e1, _, hok, _, _⟩
        · subst e
          have hans : done ++ [] = PyKm355.answers (OL.toZ l) := hans
          rw [List.append_nil] at hans
          rw [hans] at hgd
          exact ⟨_, rfl, kk _ g hgd⟩
        · obtain ⟨o, fl, ho, _⟩ := OL.flat_len hok
          rw [ho] at e1
          cases e1
    · rintro σ H' Q1 Q2 hq ⟨v, h1, w, h2, p, ys, e, hs, n, m, e1, e2, c, e3, q⟩
      exact ⟨v, h1, w, h2, p, ys, e, hs, n, m, e1, e2, c, e3, hq _ _ q⟩
end
end Of

end
section
set_option Elab.async false
set_option linter.all false
set_option maxRecDepth 100000
set_option maxHeartbeats 2000000
namespace Of
open PySem PySem.Spec PyProof.Rows L2
open PySem.W (Codec WData)
theorem sp_len {ns : List Int} (hw : (Codec.inLen 0 30000 ns && ns.all (Codec.inInt 0 4294967295)) = true) : ns.length ≤ 30000 := by
  rw [Bool.and_eq_true] at hw
  exact (Codec.inNat_iff.mp hw.1).2
theorem sp_ans {K : PySem.W.Frag} {H : Hp} {b : Addr} {ns : List Int} (hw : (Codec.inLen 0 30000 ns && ns.all (Codec.inInt 0 4294967295)) = true) (ha : PyKm355.answers_asked ns = true) (hs : SqL K H b (ns.map V.int)) :
    spAns K [.ref b] H (fun v H' => ∃ q, v = .ref q ∧ H' q = some (.lst ((PyKm355.answers ns).map V.int))) fun _ _ _ => False := by
  have hl := sp_len hw
  rw [Bool.and_eq_true, List.all_eq_true] at hw
  have en : OL.toZ (ns.map Int.toNat) = ns := OL.toZ_toNat fun z hz => (Codec.inInt_iff.mp (hw.2 z hz)).1
  have e2 : (ns.map Int.toNat).map iv = ns.map V.int := by
    conv => rhs; rw [← en]
    unfold OL.toZ
    rw [List.map_map, List.map_map, List.map_map]
    rfl
  exact ⟨b, ns.map Int.toNat, rfl, by rw [e2]; exact hs, by rw [List.length_map]; exact hl, by rw [en]; exact ha, fun H' p hp => ⟨p, rfl, by rw [en] at hp; exact hp⟩⟩
/-! how the parameters of a def are bound, by their number -/
theorem len_one {us : List Value} (h : us.length = 1) : ∃ u, us = [u] := by
  match us, h with
  | [u], _ => exact ⟨u, rfl⟩
theorem len_more {us : List Value} {n : Nat} (h : us.length = n + 1) : ∃ u vs, us = u :: vs ∧ vs.length = n := by
  match us, h with
  | u :: vs, h => exact ⟨u, vs, rfl, Nat.succ.inj h⟩
section
variable {K : PySem.W.Frag} {x qual : Str} {st : Stmt} {f : Addr} {fd : FuncData} {p0 p1 p2 p3 : Str}
theorem binds1 (F : Fun K x qual st f fd) (h : ∀ (kV doc pm : Value) (an : Option Addr) (cdv ct u0 : Value), bindArgs (PySem.W.fnOf x qual (defArgs st) (defBody st) (defScope st) .none kV doc pm an cdv ct) ⟨[u0], []⟩ = pure (([p0] : List Str).zip [u0])) : L2.Binds K fd [p0] [] :=
  F.binds fun kV doc pm an cdv ct us hl => by
    obtain ⟨u0, rfl⟩ := len_one hl
    exact h kV doc pm an cdv ct u0
theorem binds2 (F : Fun K x qual st f fd) (h : ∀ (kV doc pm : Value) (an : Option Addr) (cdv ct u0 u1 : Value), bindArgs (PySem.W.fnOf x qual (defArgs st) (defBody st) (defScope st) .none kV doc pm an cdv ct) ⟨[u0, u1], []⟩ = pure (([p0, p1] : List Str).zip [u0, u1])) : L2.Binds K fd [p0, p1] [] :=
  F.binds fun kV doc pm an cdv ct us hl => by
    obtain ⟨u0, v0, rfl, h0⟩ := len_more (n := 1) hl
    obtain ⟨u1, rfl⟩ := len_one h0
    exact h kV doc pm an cdv ct u0 u1
theorem binds3 (F : Fun K x qual st f fd) (h : ∀ (kV doc pm : Value) (an : Option Addr) (cdv ct u0 u1 u2 : Value), bindArgs (PySem.W.fnOf x qual (defArgs st) (defBody st) (defScope st) .none kV doc pm an cdv ct) ⟨[u0, u1, u2], []⟩ = pure (([p0, p1, p2] : List Str).zip [u0, u1, u2])) : L2.Binds K fd [p0, p1, p2] [] :=
  F.binds fun kV doc pm an cdv ct us hl => by
    obtain ⟨u0, v0, rfl, h0⟩ := len_more (n := 2) hl
    obtain ⟨u1, v1, rfl, h1⟩ := len_more (n := 1) h0
    obtain ⟨u2, rfl⟩ := len_one h1
    exact h kV doc pm an cdv ct u0 u1 u2
theorem binds4 (F : Fun K x qual st f fd) (h : ∀ (kV doc pm : Value) (an : Option Addr) (cdv ct u0 u1 u2 u3 : Value), bindArgs (PySem.W.fnOf x qual (defArgs st) (defBody st) (defScope st) .none kV doc pm an cdv ct) ⟨[u0, u1, u2, u3], []⟩ = pure (([p0, p1, p2, p3] : List Str).zip [u0, u1, u2, u3])) : L2.Binds K fd [p0, p1, p2, p3] [] :=
  F.binds fun kV doc pm an cdv ct us hl => by
    obtain ⟨u0, v0, rfl, h0⟩ := len_more (n := 3) hl
    obtain ⟨u1, v1, rfl, h1⟩ := len_more (n := 2) h0
    obtain ⟨u2, v2, rfl, h2⟩ := len_more (n := 1) h1
    obtain ⟨u3, rfl⟩ := len_one h2
    exact h kV doc pm an cdv ct u0 u1 u2 u3
end
end Of

end
theorem PySem.W.Fast.te12754360335802008824 : True := trivial
section
set_option linter.all false
set_option maxRecDepth 100000
set_option maxHeartbeats 8000000
namespace Of
open PySem PySem.Spec PyProof.Rows L2
theorem all_mk {P : Program} {w : World} {K : PySem.W.Frag} {h : Heap} {mg : Str → Option Value} {fa C Z B E fCrc fSI fTk fTo fOf fMc fLd fSu fGr fPt fLow fNu fMsg fSt fSo fEn fCo fRi fHd fCk fCr fRe fAd fMz fZI fHe fTg fZT fZO fMy fTI fRd fSy fTl fDI fAw fAS fAC fSS fSC fAns u_LENGTHS : Addr} (X : K.In h) (G : h.Ns mainGlobals mg) (hfa : mg "answers" = some (.ref fa))
    {odCrc anCrc : Option Addr} {slCrc : Array (Option Value)} {ocCrc kVCrc dcCrc pmCrc cdCrc ctCrc : Value} {odSI anSI : Option Addr} {slSI : Array (Option Value)} {ocSI kVSI dcSI pmSI cdSI ctSI : Value} {odTk anTk : Option Addr} {slTk : Array (Option Value)} {ocTk kVTk dcTk pmTk cdTk ctTk : Value} {odTo anTo : Option Addr} {slTo : Array (Option Value)} {ocTo kVTo dcTo pmTo cdTo ctTo : Value} {odOf anOf : Option Addr} {slOf : Array (Option Value)} {ocOf kVOf dcOf pmOf cdOf ctOf : Value} {odMc anMc : Option Addr} {slMc : Array (Option Value)} {ocMc kVMc dcMc pmMc cdMc ctMc : Value} {odLd anLd : Option Addr} {slLd : Array (Option Value)} {ocLd kVLd dcLd pmLd cdLd ctLd : Value} {odSu anSu : Option Addr} {slSu : Array (Option Value)} {ocSu kVSu dcSu pmSu cdSu ctSu : Value} {odGr anGr : Option Addr} {slGr : Array (Option Value)} {ocGr kVGr dcGr pmGr cdGr ctGr : Value} {odPt anPt : Option Addr} {slPt : Array (Option Value)} {ocPt kVPt dcPt pmPt cdPt ctPt : Value} {odLow anLow : Option Addr} {slLow : Array (Option Value)} {ocLow kVLow dcLow pmLow cdLow ctLow : Value} {odNu anNu : Option Addr} {slNu : Array (Option Value)} {ocNu kVNu dcNu pmNu cdNu ctNu : Value} {odMsg anMsg : Option Addr} {slMsg : Array (Option Value)} {ocMsg kVMsg dcMsg pmMsg cdMsg ctMsg : Value} {odSt anSt : Option Addr} {slSt : Array (Option Value)} {ocSt kVSt dcSt pmSt cdSt ctSt : Value} {odSo anSo : Option Addr} {slSo : Array (Option Value)} {ocSo kVSo dcSo pmSo cdSo ctSo : Value} {odEn anEn : Option Addr} {slEn : Array (Option Value)} {ocEn kVEn dcEn pmEn cdEn ctEn : Value} {odCo anCo : Option Addr} {slCo : Array (Option Value)} {ocCo kVCo dcCo pmCo cdCo ctCo : Value} {odRi anRi : Option Addr} {slRi : Array (Option Value)} {ocRi kVRi dcRi pmRi cdRi ctRi : Value} {odHd anHd : Option Addr} {slHd : Array (Option Value)} {ocHd kVHd dcHd pmHd cdHd ctHd : Value} {odCk anCk : Option Addr} {slCk : Array (Option Value)} {ocCk kVCk dcCk pmCk cdCk ctCk : Value} {odCr anCr : Option Addr} {slCr : Array (Option Value)} {ocCr kVCr dcCr pmCr cdCr ctCr : Value} {odRe anRe : Option Addr} {slRe : Array (Option Value)} {ocRe kVRe dcRe pmRe cdRe ctRe : Value} {odAd anAd : Option Addr} {slAd : Array (Option Value)} {ocAd kVAd dcAd pmAd cdAd ctAd : Value} {odMz anMz : Option Addr} {slMz : Array (Option Value)} {ocMz kVMz dcMz pmMz cdMz ctMz : Value} {odZI anZI : Option Addr} {slZI : Array (Option Value)} {ocZI kVZI dcZI pmZI cdZI ctZI : Value} {odHe anHe : Option Addr} {slHe : Array (Option Value)} {ocHe kVHe dcHe pmHe cdHe ctHe : Value} {odTg anTg : Option Addr} {slTg : Array (Option Value)} {ocTg kVTg dcTg pmTg cdTg ctTg : Value} {odZT anZT : Option Addr} {slZT : Array (Option Value)} {ocZT kVZT dcZT pmZT cdZT ctZT : Value} {odZO anZO : Option Addr} {slZO : Array (Option Value)} {ocZO kVZO dcZO pmZO cdZO ctZO : Value} {odMy anMy : Option Addr} {slMy : Array (Option Value)} {ocMy kVMy dcMy pmMy cdMy ctMy : Value} {odTI anTI : Option Addr} {slTI : Array (Option Value)} {ocTI kVTI dcTI pmTI cdTI ctTI : Value} {odRd anRd : Option Addr} {slRd : Array (Option Value)} {ocRd kVRd dcRd pmRd cdRd ctRd : Value} {odSy anSy : Option Addr} {slSy : Array (Option Value)} {ocSy kVSy dcSy pmSy cdSy ctSy : Value} {odTl anTl : Option Addr} {slTl : Array (Option Value)} {ocTl kVTl dcTl pmTl cdTl ctTl : Value} {odDI anDI : Option Addr} {slDI : Array (Option Value)} {ocDI kVDI dcDI pmDI cdDI ctDI : Value} {odAw anAw : Option Addr} {slAw : Array (Option Value)} {ocAw kVAw dcAw pmAw cdAw ctAw : Value} {odAS anAS : Option Addr} {slAS : Array (Option Value)} {ocAS kVAS dcAS pmAS cdAS ctAS : Value} {odAC anAC : Option Addr} {slAC : Array (Option Value)} {ocAC kVAC dcAC pmAC cdAC ctAC : Value} {odSS anSS : Option Addr} {slSS : Array (Option Value)} {ocSS kVSS dcSS pmSS cdSS ctSS : Value} {odSC anSC : Option Addr} {slSC : Array (Option Value)} {ocSC kVSC dcSC pmSC cdSC ctSC : Value} {odAns anAns : Option Addr} {slAns : Array (Option Value)} {ocAns kVAns dcAns pmAns cdAns ctAns : Value} {w_LENGTHS : Option Addr} {x_LENGTHS : Nat} {y_LENGTHS : Array (Option Value)}
    {t_POLYNOMIAL t_ONES t_MOST_COUNTERS t_MOST_READINGS t_FORM t_MOST_STATIONS t_READINGS_PLACE t_WRONG_PLACE t_COUNTERS_PLACE t_COUNTER_SIZE t_CHECK_PLACE t_NOT_TAKEN t_NO_PART t_NO_ROOM t_OS_START t_OS_READ t_OS_SAY t_OS_OF t_OC_START t_OC_HEARD t_OC_OF t_BAD_START q_LENGTHS_0 q_LENGTHS_1 q_LENGTHS_2 q_LENGTHS_3 q_LENGTHS_4 q_LENGTHS_5 q_LENGTHS_6 q_LENGTHS_7 : Tok}
    (aC : PySem.W.nsIn K mainGlobals "Stream" = some (some (.ref C)))
    (pgC : PySem.W.plainGet K C Str.empty = true)
    (hdC : PySem.W.hasDictIn K C = true)
    (poC : PySem.W.plainOver K C = true)
    (saC : PySem.W.findIn K (.ref C) "__setattr__" = some (some (.builtin "object.__setattr__")))
    (mkC : PySem.W.makesIn K C = true)
    (kcC : PySem.W.keepIn K (.ref C) = true)
    (nC_k : PySem.W.findIn K (.ref C) "k" = some none)
    (nC_readings : PySem.W.findIn K (.ref C) "readings" = some none)
    (nC_counts : PySem.W.findIn K (.ref C) "counts" = some none)
    (nC_wrong : PySem.W.findIn K (.ref C) "wrong" = some none)
    (aZ : PySem.W.nsIn K mainGlobals "Centre" = some (some (.ref Z)))
    (pgZ : PySem.W.plainGet K Z Str.empty = true)
    (hdZ : PySem.W.hasDictIn K Z = true)
    (poZ : PySem.W.plainOver K Z = true)
    (saZ : PySem.W.findIn K (.ref Z) "__setattr__" = some (some (.builtin "object.__setattr__")))
    (mkZ : PySem.W.makesIn K Z = true)
    (kcZ : PySem.W.keepIn K (.ref Z) = true)
    (nZ_k : PySem.W.findIn K (.ref Z) "k" = some none)
    (nZ_heard : PySem.W.findIn K (.ref Z) "heard" = some none)
    (aB : PySem.W.nsIn K mainGlobals "Station" = some (some (.ref B)))
    (pgB : PySem.W.plainGet K B Str.empty = true)
    (hdB : PySem.W.hasDictIn K B = true)
    (poB : PySem.W.plainOver K B = true)
    (saB : PySem.W.findIn K (.ref B) "__setattr__" = some (some (.builtin "object.__setattr__")))
    (mkB : PySem.W.makesIn K B = true)
    (kcB : PySem.W.keepIn K (.ref B) = true)
    (nB_me : PySem.W.findIn K (.ref B) "me" = some none)
    (nB_stream : PySem.W.findIn K (.ref B) "stream" = some none)
    (aE : PySem.W.nsIn K mainGlobals "Desk" = some (some (.ref E)))
    (pgE : PySem.W.plainGet K E Str.empty = true)
    (hdE : PySem.W.hasDictIn K E = true)
    (poE : PySem.W.plainOver K E = true)
    (saE : PySem.W.findIn K (.ref E) "__setattr__" = some (some (.builtin "object.__setattr__")))
    (mkE : PySem.W.makesIn K E = true)
    (kcE : PySem.W.keepIn K (.ref E) = true)
    (nE_stations : PySem.W.findIn K (.ref E) "stations" = some none)
    (nE_centre : PySem.W.findIn K (.ref E) "centre" = some none)
    (aCrc : PySem.W.nsIn K mainGlobals "crc32c" = some (some (.ref fCrc)))
    (lCrc : K.lookup fCrc = some ⟨ocCrc, odCrc, .func (PySem.W.fnOf "crc32c" "crc32c" (defArgs sCrc) (defBody sCrc) (defScope sCrc) .none kVCrc dcCrc pmCrc anCrc cdCrc ctCrc), slCrc⟩)
    (cCrc : PySem.W.codeIn K cdCrc "crc32c" = true)
    (kCrc : PySem.W.keepIn K (.ref fCrc) = true)
    (aSI : PySem.W.findIn K (.ref C) "__init__" = some (some (.ref fSI)))
    (iSI : PySem.W.isFn K (.ref fSI) = true)
    (lSI : K.lookup fSI = some ⟨ocSI, odSI, .func (PySem.W.fnOf "__init__" "Stream.__init__" (defArgs sSInit) (defBody sSInit) (defScope sSInit) .none kVSI dcSI pmSI anSI cdSI ctSI), slSI⟩)
    (cSI : PySem.W.codeIn K cdSI "Stream.__init__" = true)
    (kSI : PySem.W.keepIn K (.ref fSI) = true)
    (aTk : PySem.W.findIn K (.ref C) "take" = some (some (.ref fTk)))
    (iTk : PySem.W.isFn K (.ref fTk) = true)
    (lTk : K.lookup fTk = some ⟨ocTk, odTk, .func (PySem.W.fnOf "take" "Stream.take" (defArgs sTake) (defBody sTake) (defScope sTake) .none kVTk dcTk pmTk anTk cdTk ctTk), slTk⟩)
    (cTk : PySem.W.codeIn K cdTk "Stream.take" = true)
    (kTk : PySem.W.keepIn K (.ref fTk) = true)
    (aTo : PySem.W.findIn K (.ref C) "told" = some (some (.ref fTo)))
    (iTo : PySem.W.isFn K (.ref fTo) = true)
    (lTo : K.lookup fTo = some ⟨ocTo, odTo, .func (PySem.W.fnOf "told" "Stream.told" (defArgs sTold) (defBody sTold) (defScope sTold) .none kVTo dcTo pmTo anTo cdTo ctTo), slTo⟩)
    (cTo : PySem.W.codeIn K cdTo "Stream.told" = true)
    (kTo : PySem.W.keepIn K (.ref fTo) = true)
    (aOf : PySem.W.findIn K (.ref C) "oftener" = some (some (.ref fOf)))
    (iOf : PySem.W.isFn K (.ref fOf) = true)
    (lOf : K.lookup fOf = some ⟨ocOf, odOf, .func (PySem.W.fnOf "oftener" "Stream.oftener" (defArgs sOften) (defBody sOften) (defScope sOften) .none kVOf dcOf pmOf anOf cdOf ctOf), slOf⟩)
    (cOf : PySem.W.codeIn K cdOf "Stream.oftener" = true)
    (kOf : PySem.W.keepIn K (.ref fOf) = true)
    (aMc : PySem.W.nsIn K mainGlobals "may_count" = some (some (.ref fMc)))
    (lMc : K.lookup fMc = some ⟨ocMc, odMc, .func (PySem.W.fnOf "may_count" "may_count" (defArgs sMayC) (defBody sMayC) (defScope sMayC) .none kVMc dcMc pmMc anMc cdMc ctMc), slMc⟩)
    (cMc : PySem.W.codeIn K cdMc "may_count" = true)
    (kMc : PySem.W.keepIn K (.ref fMc) = true)
    (aLd : PySem.W.nsIn K mainGlobals "lowered" = some (some (.ref fLd)))
    (lLd : K.lookup fLd = some ⟨ocLd, odLd, .func (PySem.W.fnOf "lowered" "lowered" (defArgs sLowered) (defBody sLowered) (defScope sLowered) .none kVLd dcLd pmLd anLd cdLd ctLd), slLd⟩)
    (cLd : PySem.W.codeIn K cdLd "lowered" = true)
    (kLd : PySem.W.keepIn K (.ref fLd) = true)
    (aSu : PySem.W.nsIn K mainGlobals "summed" = some (some (.ref fSu)))
    (lSu : K.lookup fSu = some ⟨ocSu, odSu, .func (PySem.W.fnOf "summed" "summed" (defArgs sSummed) (defBody sSummed) (defScope sSummed) .none kVSu dcSu pmSu anSu cdSu ctSu), slSu⟩)
    (cSu : PySem.W.codeIn K cdSu "summed" = true)
    (kSu : PySem.W.keepIn K (.ref fSu) = true)
    (aGr : PySem.W.nsIn K mainGlobals "greatest_but" = some (some (.ref fGr)))
    (lGr : K.lookup fGr = some ⟨ocGr, odGr, .func (PySem.W.fnOf "greatest_but" "greatest_but" (defArgs sGreat) (defBody sGreat) (defScope sGreat) .none kVGr dcGr pmGr anGr cdGr ctGr), slGr⟩)
    (cGr : PySem.W.codeIn K cdGr "greatest_but" = true)
    (kGr : PySem.W.keepIn K (.ref fGr) = true)
    (aPt : PySem.W.nsIn K mainGlobals "put_together" = some (some (.ref fPt)))
    (lPt : K.lookup fPt = some ⟨ocPt, odPt, .func (PySem.W.fnOf "put_together" "put_together" (defArgs sPut) (defBody sPut) (defScope sPut) .none kVPt dcPt pmPt anPt cdPt ctPt), slPt⟩)
    (cPt : PySem.W.codeIn K cdPt "put_together" = true)
    (kPt : PySem.W.keepIn K (.ref fPt) = true)
    (aLow : PySem.W.nsIn K mainGlobals "low_first" = some (some (.ref fLow)))
    (lLow : K.lookup fLow = some ⟨ocLow, odLow, .func (PySem.W.fnOf "low_first" "low_first" (defArgs sLow) (defBody sLow) (defScope sLow) .none kVLow dcLow pmLow anLow cdLow ctLow), slLow⟩)
    (cLow : PySem.W.codeIn K cdLow "low_first" = true)
    (kLow : PySem.W.keepIn K (.ref fLow) = true)
    (aNu : PySem.W.nsIn K mainGlobals "number_at" = some (some (.ref fNu)))
    (lNu : K.lookup fNu = some ⟨ocNu, odNu, .func (PySem.W.fnOf "number_at" "number_at" (defArgs sNum) (defBody sNum) (defScope sNum) .none kVNu dcNu pmNu anNu cdNu ctNu), slNu⟩)
    (cNu : PySem.W.codeIn K cdNu "number_at" = true)
    (kNu : PySem.W.keepIn K (.ref fNu) = true)
    (aMsg : PySem.W.nsIn K mainGlobals "message_of" = some (some (.ref fMsg)))
    (lMsg : K.lookup fMsg = some ⟨ocMsg, odMsg, .func (PySem.W.fnOf "message_of" "message_of" (defArgs sMsg) (defBody sMsg) (defScope sMsg) .none kVMsg dcMsg pmMsg anMsg cdMsg ctMsg), slMsg⟩)
    (cMsg : PySem.W.codeIn K cdMsg "message_of" = true)
    (kMsg : PySem.W.keepIn K (.ref fMsg) = true)
    (aSt : PySem.W.nsIn K mainGlobals "station_of" = some (some (.ref fSt)))
    (lSt : K.lookup fSt = some ⟨ocSt, odSt, .func (PySem.W.fnOf "station_of" "station_of" (defArgs sStaOf) (defBody sStaOf) (defScope sStaOf) .none kVSt dcSt pmSt anSt cdSt ctSt), slSt⟩)
    (cSt : PySem.W.codeIn K cdSt "station_of" = true)
    (kSt : PySem.W.keepIn K (.ref fSt) = true)
    (aSo : PySem.W.nsIn K mainGlobals "stream_of" = some (some (.ref fSo)))
    (lSo : K.lookup fSo = some ⟨ocSo, odSo, .func (PySem.W.fnOf "stream_of" "stream_of" (defArgs sStrOf) (defBody sStrOf) (defScope sStrOf) .none kVSo dcSo pmSo anSo cdSo ctSo), slSo⟩)
    (cSo : PySem.W.codeIn K cdSo "stream_of" = true)
    (kSo : PySem.W.keepIn K (.ref fSo) = true)
    (aEn : PySem.W.nsIn K mainGlobals "counters_end" = some (some (.ref fEn)))
    (lEn : K.lookup fEn = some ⟨ocEn, odEn, .func (PySem.W.fnOf "counters_end" "counters_end" (defArgs sEnd) (defBody sEnd) (defScope sEnd) .none kVEn dcEn pmEn anEn cdEn ctEn), slEn⟩)
    (cEn : PySem.W.codeIn K cdEn "counters_end" = true)
    (kEn : PySem.W.keepIn K (.ref fEn) = true)
    (aCo : PySem.W.nsIn K mainGlobals "counters_of" = some (some (.ref fCo)))
    (lCo : K.lookup fCo = some ⟨ocCo, odCo, .func (PySem.W.fnOf "counters_of" "counters_of" (defArgs sCntOf) (defBody sCntOf) (defScope sCntOf) .none kVCo dcCo pmCo anCo cdCo ctCo), slCo⟩)
    (cCo : PySem.W.codeIn K cdCo "counters_of" = true)
    (kCo : PySem.W.keepIn K (.ref fCo) = true)
    (aRi : PySem.W.nsIn K mainGlobals "is_right" = some (some (.ref fRi)))
    (lRi : K.lookup fRi = some ⟨ocRi, odRi, .func (PySem.W.fnOf "is_right" "is_right" (defArgs sRight) (defBody sRight) (defScope sRight) .none kVRi dcRi pmRi anRi cdRi ctRi), slRi⟩)
    (cRi : PySem.W.codeIn K cdRi "is_right" = true)
    (kRi : PySem.W.keepIn K (.ref fRi) = true)
    (aHd : PySem.W.nsIn K mainGlobals "head_is_right" = some (some (.ref fHd)))
    (lHd : K.lookup fHd = some ⟨ocHd, odHd, .func (PySem.W.fnOf "head_is_right" "head_is_right" (defArgs sHead) (defBody sHead) (defScope sHead) .none kVHd dcHd pmHd anHd cdHd ctHd), slHd⟩)
    (cHd : PySem.W.codeIn K cdHd "head_is_right" = true)
    (kHd : PySem.W.keepIn K (.ref fHd) = true)
    (aCk : PySem.W.nsIn K mainGlobals "check_is_right" = some (some (.ref fCk)))
    (lCk : K.lookup fCk = some ⟨ocCk, odCk, .func (PySem.W.fnOf "check_is_right" "check_is_right" (defArgs sCheck) (defBody sCheck) (defScope sCheck) .none kVCk dcCk pmCk anCk cdCk ctCk), slCk⟩)
    (cCk : PySem.W.codeIn K cdCk "check_is_right" = true)
    (kCk : PySem.W.keepIn K (.ref fCk) = true)
    (aCr : PySem.W.nsIn K mainGlobals "counters_are_right" = some (some (.ref fCr)))
    (lCr : K.lookup fCr = some ⟨ocCr, odCr, .func (PySem.W.fnOf "counters_are_right" "counters_are_right" (defArgs sCntR) (defBody sCntR) (defScope sCntR) .none kVCr dcCr pmCr anCr cdCr ctCr), slCr⟩)
    (cCr : PySem.W.codeIn K cdCr "counters_are_right" = true)
    (kCr : PySem.W.keepIn K (.ref fCr) = true)
    (aRe : PySem.W.nsIn K mainGlobals "rest_is_0" = some (some (.ref fRe)))
    (lRe : K.lookup fRe = some ⟨ocRe, odRe, .func (PySem.W.fnOf "rest_is_0" "rest_is_0" (defArgs sRest) (defBody sRest) (defScope sRest) .none kVRe dcRe pmRe anRe cdRe ctRe), slRe⟩)
    (cRe : PySem.W.codeIn K cdRe "rest_is_0" = true)
    (kRe : PySem.W.keepIn K (.ref fRe) = true)
    (aAd : PySem.W.nsIn K mainGlobals "adds_up" = some (some (.ref fAd)))
    (lAd : K.lookup fAd = some ⟨ocAd, odAd, .func (PySem.W.fnOf "adds_up" "adds_up" (defArgs sAdds) (defBody sAdds) (defScope sAdds) .none kVAd dcAd pmAd anAd cdAd ctAd), slAd⟩)
    (cAd : PySem.W.codeIn K cdAd "adds_up" = true)
    (kAd : PySem.W.keepIn K (.ref fAd) = true)
    (aMz : PySem.W.nsIn K mainGlobals "may_start_centre" = some (some (.ref fMz)))
    (lMz : K.lookup fMz = some ⟨ocMz, odMz, .func (PySem.W.fnOf "may_start_centre" "may_start_centre" (defArgs sMayZ) (defBody sMayZ) (defScope sMayZ) .none kVMz dcMz pmMz anMz cdMz ctMz), slMz⟩)
    (cMz : PySem.W.codeIn K cdMz "may_start_centre" = true)
    (kMz : PySem.W.keepIn K (.ref fMz) = true)
    (aZI : PySem.W.findIn K (.ref Z) "__init__" = some (some (.ref fZI)))
    (iZI : PySem.W.isFn K (.ref fZI) = true)
    (lZI : K.lookup fZI = some ⟨ocZI, odZI, .func (PySem.W.fnOf "__init__" "Centre.__init__" (defArgs sZInit) (defBody sZInit) (defScope sZInit) .none kVZI dcZI pmZI anZI cdZI ctZI), slZI⟩)
    (cZI : PySem.W.codeIn K cdZI "Centre.__init__" = true)
    (kZI : PySem.W.keepIn K (.ref fZI) = true)
    (aHe : PySem.W.findIn K (.ref Z) "hear" = some (some (.ref fHe)))
    (iHe : PySem.W.isFn K (.ref fHe) = true)
    (lHe : K.lookup fHe = some ⟨ocHe, odHe, .func (PySem.W.fnOf "hear" "Centre.hear" (defArgs sHear) (defBody sHear) (defScope sHear) .none kVHe dcHe pmHe anHe cdHe ctHe), slHe⟩)
    (cHe : PySem.W.codeIn K cdHe "Centre.hear" = true)
    (kHe : PySem.W.keepIn K (.ref fHe) = true)
    (aTg : PySem.W.findIn K (.ref Z) "together" = some (some (.ref fTg)))
    (iTg : PySem.W.isFn K (.ref fTg) = true)
    (lTg : K.lookup fTg = some ⟨ocTg, odTg, .func (PySem.W.fnOf "together" "Centre.together" (defArgs sTog) (defBody sTog) (defScope sTog) .none kVTg dcTg pmTg anTg cdTg ctTg), slTg⟩)
    (cTg : PySem.W.codeIn K cdTg "Centre.together" = true)
    (kTg : PySem.W.keepIn K (.ref fTg) = true)
    (aZT : PySem.W.findIn K (.ref Z) "tell" = some (some (.ref fZT)))
    (iZT : PySem.W.isFn K (.ref fZT) = true)
    (lZT : K.lookup fZT = some ⟨ocZT, odZT, .func (PySem.W.fnOf "tell" "Centre.tell" (defArgs sZTell) (defBody sZTell) (defScope sZTell) .none kVZT dcZT pmZT anZT cdZT ctZT), slZT⟩)
    (cZT : PySem.W.codeIn K cdZT "Centre.tell" = true)
    (kZT : PySem.W.keepIn K (.ref fZT) = true)
    (aZO : PySem.W.findIn K (.ref Z) "often" = some (some (.ref fZO)))
    (iZO : PySem.W.isFn K (.ref fZO) = true)
    (lZO : K.lookup fZO = some ⟨ocZO, odZO, .func (PySem.W.fnOf "often" "Centre.often" (defArgs sZOften) (defBody sZOften) (defScope sZOften) .none kVZO dcZO pmZO anZO cdZO ctZO), slZO⟩)
    (cZO : PySem.W.codeIn K cdZO "Centre.often" = true)
    (kZO : PySem.W.keepIn K (.ref fZO) = true)
    (aMy : PySem.W.nsIn K mainGlobals "may_start_station" = some (some (.ref fMy)))
    (lMy : K.lookup fMy = some ⟨ocMy, odMy, .func (PySem.W.fnOf "may_start_station" "may_start_station" (defArgs sMay) (defBody sMay) (defScope sMay) .none kVMy dcMy pmMy anMy cdMy ctMy), slMy⟩)
    (cMy : PySem.W.codeIn K cdMy "may_start_station" = true)
    (kMy : PySem.W.keepIn K (.ref fMy) = true)
    (aTI : PySem.W.findIn K (.ref B) "__init__" = some (some (.ref fTI)))
    (iTI : PySem.W.isFn K (.ref fTI) = true)
    (lTI : K.lookup fTI = some ⟨ocTI, odTI, .func (PySem.W.fnOf "__init__" "Station.__init__" (defArgs sTInit) (defBody sTInit) (defScope sTInit) .none kVTI dcTI pmTI anTI cdTI ctTI), slTI⟩)
    (cTI : PySem.W.codeIn K cdTI "Station.__init__" = true)
    (kTI : PySem.W.keepIn K (.ref fTI) = true)
    (aRd : PySem.W.findIn K (.ref B) "read" = some (some (.ref fRd)))
    (iRd : PySem.W.isFn K (.ref fRd) = true)
    (lRd : K.lookup fRd = some ⟨ocRd, odRd, .func (PySem.W.fnOf "read" "Station.read" (defArgs sRead) (defBody sRead) (defScope sRead) .none kVRd dcRd pmRd anRd cdRd ctRd), slRd⟩)
    (cRd : PySem.W.codeIn K cdRd "Station.read" = true)
    (kRd : PySem.W.keepIn K (.ref fRd) = true)
    (aSy : PySem.W.findIn K (.ref B) "say" = some (some (.ref fSy)))
    (iSy : PySem.W.isFn K (.ref fSy) = true)
    (lSy : K.lookup fSy = some ⟨ocSy, odSy, .func (PySem.W.fnOf "say" "Station.say" (defArgs sSay) (defBody sSay) (defScope sSay) .none kVSy dcSy pmSy anSy cdSy ctSy), slSy⟩)
    (cSy : PySem.W.codeIn K cdSy "Station.say" = true)
    (kSy : PySem.W.keepIn K (.ref fSy) = true)
    (aTl : PySem.W.findIn K (.ref B) "tell" = some (some (.ref fTl)))
    (iTl : PySem.W.isFn K (.ref fTl) = true)
    (lTl : K.lookup fTl = some ⟨ocTl, odTl, .func (PySem.W.fnOf "tell" "Station.tell" (defArgs sTell) (defBody sTell) (defScope sTell) .none kVTl dcTl pmTl anTl cdTl ctTl), slTl⟩)
    (cTl : PySem.W.codeIn K cdTl "Station.tell" = true)
    (kTl : PySem.W.keepIn K (.ref fTl) = true)
    (aDI : PySem.W.findIn K (.ref E) "__init__" = some (some (.ref fDI)))
    (iDI : PySem.W.isFn K (.ref fDI) = true)
    (lDI : K.lookup fDI = some ⟨ocDI, odDI, .func (PySem.W.fnOf "__init__" "Desk.__init__" (defArgs sDInit) (defBody sDInit) (defScope sDInit) .none kVDI dcDI pmDI anDI cdDI ctDI), slDI⟩)
    (cDI : PySem.W.codeIn K cdDI "Desk.__init__" = true)
    (kDI : PySem.W.keepIn K (.ref fDI) = true)
    (aAw : PySem.W.findIn K (.ref E) "answer" = some (some (.ref fAw)))
    (iAw : PySem.W.isFn K (.ref fAw) = true)
    (lAw : K.lookup fAw = some ⟨ocAw, odAw, .func (PySem.W.fnOf "answer" "Desk.answer" (defArgs sAnswer) (defBody sAnswer) (defScope sAnswer) .none kVAw dcAw pmAw anAw cdAw ctAw), slAw⟩)
    (cAw : PySem.W.codeIn K cdAw "Desk.answer" = true)
    (kAw : PySem.W.keepIn K (.ref fAw) = true)
    (aAS : PySem.W.findIn K (.ref E) "answer_of_station" = some (some (.ref fAS)))
    (iAS : PySem.W.isFn K (.ref fAS) = true)
    (lAS : K.lookup fAS = some ⟨ocAS, odAS, .func (PySem.W.fnOf "answer_of_station" "Desk.answer_of_station" (defArgs sAnsS) (defBody sAnsS) (defScope sAnsS) .none kVAS dcAS pmAS anAS cdAS ctAS), slAS⟩)
    (cAS : PySem.W.codeIn K cdAS "Desk.answer_of_station" = true)
    (kAS : PySem.W.keepIn K (.ref fAS) = true)
    (aAC : PySem.W.findIn K (.ref E) "answer_of_centre" = some (some (.ref fAC)))
    (iAC : PySem.W.isFn K (.ref fAC) = true)
    (lAC : K.lookup fAC = some ⟨ocAC, odAC, .func (PySem.W.fnOf "answer_of_centre" "Desk.answer_of_centre" (defArgs sAnsC) (defBody sAnsC) (defScope sAnsC) .none kVAC dcAC pmAC anAC cdAC ctAC), slAC⟩)
    (cAC : PySem.W.codeIn K cdAC "Desk.answer_of_centre" = true)
    (kAC : PySem.W.keepIn K (.ref fAC) = true)
    (aSS : PySem.W.findIn K (.ref E) "start_station" = some (some (.ref fSS)))
    (iSS : PySem.W.isFn K (.ref fSS) = true)
    (lSS : K.lookup fSS = some ⟨ocSS, odSS, .func (PySem.W.fnOf "start_station" "Desk.start_station" (defArgs sStartS) (defBody sStartS) (defScope sStartS) .none kVSS dcSS pmSS anSS cdSS ctSS), slSS⟩)
    (cSS : PySem.W.codeIn K cdSS "Desk.start_station" = true)
    (kSS : PySem.W.keepIn K (.ref fSS) = true)
    (aSC : PySem.W.findIn K (.ref E) "start_centre" = some (some (.ref fSC)))
    (iSC : PySem.W.isFn K (.ref fSC) = true)
    (lSC : K.lookup fSC = some ⟨ocSC, odSC, .func (PySem.W.fnOf "start_centre" "Desk.start_centre" (defArgs sStartC) (defBody sStartC) (defScope sStartC) .none kVSC dcSC pmSC anSC cdSC ctSC), slSC⟩)
    (cSC : PySem.W.codeIn K cdSC "Desk.start_centre" = true)
    (kSC : PySem.W.keepIn K (.ref fSC) = true)
    (aAns : PySem.W.nsIn K mainGlobals "answers" = some (some (.ref fAns)))
    (lAns : K.lookup fAns = some ⟨ocAns, odAns, .func (PySem.W.fnOf "answers" "answers" (defArgs sAns) (defBody sAns) (defScope sAns) .none kVAns dcAns pmAns anAns cdAns ctAns), slAns⟩)
    (cAns : PySem.W.codeIn K cdAns "answers" = true)
    (kAns : PySem.W.keepIn K (.ref fAns) = true)
    (g_POLYNOMIAL : PySem.W.nsIn K mainGlobals "POLYNOMIAL" = some (some (.int (2197175160) t_POLYNOMIAL)))
    (g_ONES : PySem.W.nsIn K mainGlobals "ONES" = some (some (.int (4294967295) t_ONES)))
    (g_MOST_COUNTERS : PySem.W.nsIn K mainGlobals "MOST_COUNTERS" = some (some (.int (16) t_MOST_COUNTERS)))
    (g_MOST_READINGS : PySem.W.nsIn K mainGlobals "MOST_READINGS" = some (some (.int (4294967295) t_MOST_READINGS)))
    (g_FORM : PySem.W.nsIn K mainGlobals "FORM" = some (some (.int (1) t_FORM)))
    (g_MOST_STATIONS : PySem.W.nsIn K mainGlobals "MOST_STATIONS" = some (some (.int (16) t_MOST_STATIONS)))
    (g_READINGS_PLACE : PySem.W.nsIn K mainGlobals "READINGS_PLACE" = some (some (.int (4) t_READINGS_PLACE)))
    (g_WRONG_PLACE : PySem.W.nsIn K mainGlobals "WRONG_PLACE" = some (some (.int (12) t_WRONG_PLACE)))
    (g_COUNTERS_PLACE : PySem.W.nsIn K mainGlobals "COUNTERS_PLACE" = some (some (.int (20) t_COUNTERS_PLACE)))
    (g_COUNTER_SIZE : PySem.W.nsIn K mainGlobals "COUNTER_SIZE" = some (some (.int (12) t_COUNTER_SIZE)))
    (g_CHECK_PLACE : PySem.W.nsIn K mainGlobals "CHECK_PLACE" = some (some (.int (212) t_CHECK_PLACE)))
    (g_NOT_TAKEN : PySem.W.nsIn K mainGlobals "NOT_TAKEN" = some (some (.int (-71) t_NOT_TAKEN)))
    (g_NO_PART : PySem.W.nsIn K mainGlobals "NO_PART" = some (some (.int (-22) t_NO_PART)))
    (g_NO_ROOM : PySem.W.nsIn K mainGlobals "NO_ROOM" = some (some (.int (-28) t_NO_ROOM)))
    (g_OS_START : PySem.W.nsIn K mainGlobals "OS_START" = some (some (.int (0) t_OS_START)))
    (g_OS_READ : PySem.W.nsIn K mainGlobals "OS_READ" = some (some (.int (1) t_OS_READ)))
    (g_OS_SAY : PySem.W.nsIn K mainGlobals "OS_SAY" = some (some (.int (2) t_OS_SAY)))
    (g_OS_OF : PySem.W.nsIn K mainGlobals "OS_OF" = some (some (.int (3) t_OS_OF)))
    (g_OC_START : PySem.W.nsIn K mainGlobals "OC_START" = some (some (.int (4) t_OC_START)))
    (g_OC_HEARD : PySem.W.nsIn K mainGlobals "OC_HEARD" = some (some (.int (5) t_OC_HEARD)))
    (g_OC_OF : PySem.W.nsIn K mainGlobals "OC_OF" = some (some (.int (6) t_OC_OF)))
    (g_BAD_START : PySem.W.nsIn K mainGlobals "BAD_START" = some (some (.int (-22) t_BAD_START)))
    (z_len : PySem.W.nsIn K mainGlobals "len" = some none)
    (z_range : PySem.W.nsIn K mainGlobals "range" = some none)
    (z_sorted : PySem.W.nsIn K mainGlobals "sorted" = some none)
    (z_dict : PySem.W.nsIn K mainGlobals "dict" = some none)
    (z_sum : PySem.W.nsIn K mainGlobals "sum" = some none)
    (z_list : PySem.W.nsIn K mainGlobals "list" = some none)
    (z_any : PySem.W.nsIn K mainGlobals "any" = some none)
    (g_LENGTHS : PySem.W.nsIn K mainGlobals "LENGTHS" = some (some (.ref u_LENGTHS)))
    (h_LENGTHS : K.lookup u_LENGTHS = some ⟨.type "tuple", w_LENGTHS, .seq #[.int (4) q_LENGTHS_0, .int (3) q_LENGTHS_1, .int (2) q_LENGTHS_2, .int (3) q_LENGTHS_3, .int (4) q_LENGTHS_4, .int (219) q_LENGTHS_5, .int (3) q_LENGTHS_6, .int (3) q_LENGTHS_7] x_LENGTHS, y_LENGTHS⟩)
    : ∃ fd : FuncData, (∀ (s : Shared) (u : Value), BindsTo s fd ⟨[u], []⟩ [("calls", u)]) ∧ ∀ base : Heap, K.In base → base.Ns mainGlobals mg → FnOk P w K mg base CX0 8 fa fd ["calls"] (spAns K) := by
  have e := hfa.symm.trans (PySem.W.mg_of X G aAns)
  cases e
  have clC : Cls K C := ⟨pgC, hdC, poC, saC⟩
  have mgC := PySem.W.mg_of X G aC
  have clZ : Cls K Z := ⟨pgZ, hdZ, poZ, saZ⟩
  have mgZ := PySem.W.mg_of X G aZ
  have clB : Cls K B := ⟨pgB, hdB, poB, saB⟩
  have mgB := PySem.W.mg_of X G aB
  have clE : Cls K E := ⟨pgE, hdE, poE, saE⟩
  have mgE := PySem.W.mg_of X G aE
  have FCrc := fun_mk (st := sCrc) lCrc cCrc kCrc
  have bCrc := binds1 (p0 := "octets") FCrc fun _ _ _ _ _ _ _ => rfl
  have mCrc := PySem.W.mg_of X G aCrc
  have FSI := fun_mk (st := sSInit) lSI cSI kSI
  have bSI := binds2 (p0 := "self") (p1 := "k") FSI fun _ _ _ _ _ _ _ _ => rfl
  have mSI : Mk K C fSI := ⟨mkC, aSI, iSI, kcC⟩
  have FTk := fun_mk (st := sTake) lTk cTk kTk
  have bTk := binds2 (p0 := "self") (p1 := "x") FTk fun _ _ _ _ _ _ _ _ => rfl
  have mTk : Meth K C "take" fTk := ⟨aTk, iTk, kTk⟩
  have FTo := fun_mk (st := sTold) lTo cTo kTo
  have bTo := binds2 (p0 := "self") (p1 := "x") FTo fun _ _ _ _ _ _ _ _ => rfl
  have mTo : Meth K C "told" fTo := ⟨aTo, iTo, kTo⟩
  have FOf := fun_mk (st := sOften) lOf cOf kOf
  have bOf := binds2 (p0 := "self") (p1 := "p") FOf fun _ _ _ _ _ _ _ _ => rfl
  have mOf : Meth K C "oftener" fOf := ⟨aOf, iOf, kOf⟩
  have FMc := fun_mk (st := sMayC) lMc cMc kMc
  have bMc := binds1 (p0 := "k") FMc fun _ _ _ _ _ _ _ => rfl
  have mMc := PySem.W.mg_of X G aMc
  have FLd := fun_mk (st := sLowered) lLd cLd kLd
  have bLd := binds2 (p0 := "counts") (p1 := "by") FLd fun _ _ _ _ _ _ _ _ => rfl
  have mLd := PySem.W.mg_of X G aLd
  have FSu := fun_mk (st := sSummed) lSu cSu kSu
  have bSu := binds2 (p0 := "one") (p1 := "other") FSu fun _ _ _ _ _ _ _ _ => rfl
  have mSu := PySem.W.mg_of X G aSu
  have FGr := fun_mk (st := sGreat) lGr cGr kGr
  have bGr := binds2 (p0 := "counts") (p1 := "k") FGr fun _ _ _ _ _ _ _ _ => rfl
  have mGr := PySem.W.mg_of X G aGr
  have FPt := fun_mk (st := sPut) lPt cPt kPt
  have bPt := binds2 (p0 := "one") (p1 := "other") FPt fun _ _ _ _ _ _ _ _ => rfl
  have mPt := PySem.W.mg_of X G aPt
  have FLow := fun_mk (st := sLow) lLow cLow kLow
  have bLow := binds2 (p0 := "number") (p1 := "size") FLow fun _ _ _ _ _ _ _ _ => rfl
  have mLow := PySem.W.mg_of X G aLow
  have FNu := fun_mk (st := sNum) lNu cNu kNu
  have bNu := binds3 (p0 := "message") (p1 := "place") (p2 := "size") FNu fun _ _ _ _ _ _ _ _ _ => rfl
  have mNu := PySem.W.mg_of X G aNu
  have FMsg := fun_mk (st := sMsg) lMsg cMsg kMsg
  have bMsg := binds2 (p0 := "me") (p1 := "stream") FMsg fun _ _ _ _ _ _ _ _ => rfl
  have mMsg := PySem.W.mg_of X G aMsg
  have FSt := fun_mk (st := sStaOf) lSt cSt kSt
  have bSt := binds1 (p0 := "message") FSt fun _ _ _ _ _ _ _ => rfl
  have mSt := PySem.W.mg_of X G aSt
  have FSo := fun_mk (st := sStrOf) lSo cSo kSo
  have bSo := binds1 (p0 := "message") FSo fun _ _ _ _ _ _ _ => rfl
  have mSo := PySem.W.mg_of X G aSo
  have FEn := fun_mk (st := sEnd) lEn cEn kEn
  have bEn := binds1 (p0 := "message") FEn fun _ _ _ _ _ _ _ => rfl
  have mEn := PySem.W.mg_of X G aEn
  have FCo := fun_mk (st := sCntOf) lCo cCo kCo
  have bCo := binds1 (p0 := "message") FCo fun _ _ _ _ _ _ _ => rfl
  have mCo := PySem.W.mg_of X G aCo
  have FRi := fun_mk (st := sRight) lRi cRi kRi
  have bRi := binds1 (p0 := "message") FRi fun _ _ _ _ _ _ _ => rfl
  have mRi := PySem.W.mg_of X G aRi
  have FHd := fun_mk (st := sHead) lHd cHd kHd
  have bHd := binds1 (p0 := "message") FHd fun _ _ _ _ _ _ _ => rfl
  have mHd := PySem.W.mg_of X G aHd
  have FCk := fun_mk (st := sCheck) lCk cCk kCk
  have bCk := binds1 (p0 := "message") FCk fun _ _ _ _ _ _ _ => rfl
  have mCk := PySem.W.mg_of X G aCk
  have FCr := fun_mk (st := sCntR) lCr cCr kCr
  have bCr := binds1 (p0 := "message") FCr fun _ _ _ _ _ _ _ => rfl
  have mCr := PySem.W.mg_of X G aCr
  have FRe := fun_mk (st := sRest) lRe cRe kRe
  have bRe := binds1 (p0 := "message") FRe fun _ _ _ _ _ _ _ => rfl
  have mRe := PySem.W.mg_of X G aRe
  have FAd := fun_mk (st := sAdds) lAd cAd kAd
  have bAd := binds1 (p0 := "stream") FAd fun _ _ _ _ _ _ _ => rfl
  have mAd := PySem.W.mg_of X G aAd
  have FMz := fun_mk (st := sMayZ) lMz cMz kMz
  have bMz := binds2 (p0 := "k") (p1 := "stations") FMz fun _ _ _ _ _ _ _ _ => rfl
  have mMz := PySem.W.mg_of X G aMz
  have FZI := fun_mk (st := sZInit) lZI cZI kZI
  have bZI := binds3 (p0 := "self") (p1 := "k") (p2 := "stations") FZI fun _ _ _ _ _ _ _ _ _ => rfl
  have mZI : Mk K Z fZI := ⟨mkZ, aZI, iZI, kcZ⟩
  have FHe := fun_mk (st := sHear) lHe cHe kHe
  have bHe := binds2 (p0 := "self") (p1 := "message") FHe fun _ _ _ _ _ _ _ _ => rfl
  have mHe : Meth K Z "hear" fHe := ⟨aHe, iHe, kHe⟩
  have FTg := fun_mk (st := sTog) lTg cTg kTg
  have bTg := binds1 (p0 := "self") FTg fun _ _ _ _ _ _ _ => rfl
  have mTg : Meth K Z "together" fTg := ⟨aTg, iTg, kTg⟩
  have FZT := fun_mk (st := sZTell) lZT cZT kZT
  have bZT := binds2 (p0 := "self") (p1 := "x") FZT fun _ _ _ _ _ _ _ _ => rfl
  have mZT : Meth K Z "tell" fZT := ⟨aZT, iZT, kZT⟩
  have FZO := fun_mk (st := sZOften) lZO cZO kZO
  have bZO := binds2 (p0 := "self") (p1 := "p") FZO fun _ _ _ _ _ _ _ _ => rfl
  have mZO : Meth K Z "often" fZO := ⟨aZO, iZO, kZO⟩
  have FMy := fun_mk (st := sMay) lMy cMy kMy
  have bMy := binds2 (p0 := "me") (p1 := "k") FMy fun _ _ _ _ _ _ _ _ => rfl
  have mMy := PySem.W.mg_of X G aMy
  have FTI := fun_mk (st := sTInit) lTI cTI kTI
  have bTI := binds3 (p0 := "self") (p1 := "me") (p2 := "k") FTI fun _ _ _ _ _ _ _ _ _ => rfl
  have mTI : Mk K B fTI := ⟨mkB, aTI, iTI, kcB⟩
  have FRd := fun_mk (st := sRead) lRd cRd kRd
  have bRd := binds2 (p0 := "self") (p1 := "x") FRd fun _ _ _ _ _ _ _ _ => rfl
  have mRd : Meth K B "read" fRd := ⟨aRd, iRd, kRd⟩
  have FSy := fun_mk (st := sSay) lSy cSy kSy
  have bSy := binds1 (p0 := "self") FSy fun _ _ _ _ _ _ _ => rfl
  have mSy : Meth K B "say" fSy := ⟨aSy, iSy, kSy⟩
  have FTl := fun_mk (st := sTell) lTl cTl kTl
  have bTl := binds2 (p0 := "self") (p1 := "x") FTl fun _ _ _ _ _ _ _ _ => rfl
  have mTl : Meth K B "tell" fTl := ⟨aTl, iTl, kTl⟩
  have FDI := fun_mk (st := sDInit) lDI cDI kDI
  have bDI := binds1 (p0 := "self") FDI fun _ _ _ _ _ _ _ => rfl
  have mDI : Mk K E fDI := ⟨mkE, aDI, iDI, kcE⟩
  have FAw := fun_mk (st := sAnswer) lAw cAw kAw
  have bAw := binds2 (p0 := "self") (p1 := "call") FAw fun _ _ _ _ _ _ _ _ => rfl
  have mAw : Meth K E "answer" fAw := ⟨aAw, iAw, kAw⟩
  have FAS := fun_mk (st := sAnsS) lAS cAS kAS
  have bAS := binds2 (p0 := "self") (p1 := "call") FAS fun _ _ _ _ _ _ _ _ => rfl
  have mAS : Meth K E "answer_of_station" fAS := ⟨aAS, iAS, kAS⟩
  have FAC := fun_mk (st := sAnsC) lAC cAC kAC
  have bAC := binds2 (p0 := "self") (p1 := "call") FAC fun _ _ _ _ _ _ _ _ => rfl
  have mAC : Meth K E "answer_of_centre" fAC := ⟨aAC, iAC, kAC⟩
  have FSS := fun_mk (st := sStartS) lSS cSS kSS
  have bSS := binds4 (p0 := "self") (p1 := "place") (p2 := "me") (p3 := "k") FSS fun _ _ _ _ _ _ _ _ _ _ => rfl
  have mSS : Meth K E "start_station" fSS := ⟨aSS, iSS, kSS⟩
  have FSC := fun_mk (st := sStartC) lSC cSC kSC
  have bSC := binds3 (p0 := "self") (p1 := "k") (p2 := "stations") FSC fun _ _ _ _ _ _ _ _ _ => rfl
  have mSC : Meth K E "start_centre" fSC := ⟨aSC, iSC, kSC⟩
  have FAns := fun_mk (st := sAns) lAns cAns kAns
  have bAns := binds1 (p0 := "calls") FAns fun _ _ _ _ _ _ _ => rfl
  have v_POLYNOMIAL : ∃ t, mg "POLYNOMIAL" = some (.int (2197175160) t) := ⟨_, PySem.W.mg_of X G g_POLYNOMIAL⟩
  have v_ONES : ∃ t, mg "ONES" = some (.int (4294967295) t) := ⟨_, PySem.W.mg_of X G g_ONES⟩
  have v_MOST_COUNTERS : ∃ t, mg "MOST_COUNTERS" = some (.int (16) t) := ⟨_, PySem.W.mg_of X G g_MOST_COUNTERS⟩
  have v_MOST_READINGS : ∃ t, mg "MOST_READINGS" = some (.int (4294967295) t) := ⟨_, PySem.W.mg_of X G g_MOST_READINGS⟩
  have v_FORM : ∃ t, mg "FORM" = some (.int (1) t) := ⟨_, PySem.W.mg_of X G g_FORM⟩
  have v_MOST_STATIONS : ∃ t, mg "MOST_STATIONS" = some (.int (16) t) := ⟨_, PySem.W.mg_of X G g_MOST_STATIONS⟩
  have v_READINGS_PLACE : ∃ t, mg "READINGS_PLACE" = some (.int (4) t) := ⟨_, PySem.W.mg_of X G g_READINGS_PLACE⟩
  have v_WRONG_PLACE : ∃ t, mg "WRONG_PLACE" = some (.int (12) t) := ⟨_, PySem.W.mg_of X G g_WRONG_PLACE⟩
  have v_COUNTERS_PLACE : ∃ t, mg "COUNTERS_PLACE" = some (.int (20) t) := ⟨_, PySem.W.mg_of X G g_COUNTERS_PLACE⟩
  have v_COUNTER_SIZE : ∃ t, mg "COUNTER_SIZE" = some (.int (12) t) := ⟨_, PySem.W.mg_of X G g_COUNTER_SIZE⟩
  have v_CHECK_PLACE : ∃ t, mg "CHECK_PLACE" = some (.int (212) t) := ⟨_, PySem.W.mg_of X G g_CHECK_PLACE⟩
  have v_NOT_TAKEN : ∃ t, mg "NOT_TAKEN" = some (.int (-71) t) := ⟨_, PySem.W.mg_of X G g_NOT_TAKEN⟩
  have v_NO_PART : ∃ t, mg "NO_PART" = some (.int (-22) t) := ⟨_, PySem.W.mg_of X G g_NO_PART⟩
  have v_NO_ROOM : ∃ t, mg "NO_ROOM" = some (.int (-28) t) := ⟨_, PySem.W.mg_of X G g_NO_ROOM⟩
  have v_OS_START : ∃ t, mg "OS_START" = some (.int (0) t) := ⟨_, PySem.W.mg_of X G g_OS_START⟩
  have v_OS_READ : ∃ t, mg "OS_READ" = some (.int (1) t) := ⟨_, PySem.W.mg_of X G g_OS_READ⟩
  have v_OS_SAY : ∃ t, mg "OS_SAY" = some (.int (2) t) := ⟨_, PySem.W.mg_of X G g_OS_SAY⟩
  have v_OS_OF : ∃ t, mg "OS_OF" = some (.int (3) t) := ⟨_, PySem.W.mg_of X G g_OS_OF⟩
  have v_OC_START : ∃ t, mg "OC_START" = some (.int (4) t) := ⟨_, PySem.W.mg_of X G g_OC_START⟩
  have v_OC_HEARD : ∃ t, mg "OC_HEARD" = some (.int (5) t) := ⟨_, PySem.W.mg_of X G g_OC_HEARD⟩
  have v_OC_OF : ∃ t, mg "OC_OF" = some (.int (6) t) := ⟨_, PySem.W.mg_of X G g_OC_OF⟩
  have v_BAD_START : ∃ t, mg "BAD_START" = some (.int (-22) t) := ⟨_, PySem.W.mg_of X G g_BAD_START⟩
  have e_len := PySem.W.mg_none_of X G z_len
  have e_range := PySem.W.mg_none_of X G z_range
  have e_sorted := PySem.W.mg_none_of X G z_sorted
  have e_dict := PySem.W.mg_none_of X G z_dict
  have e_sum := PySem.W.mg_none_of X G z_sum
  have e_list := PySem.W.mg_none_of X G z_list
  have e_any := PySem.W.mg_none_of X G z_any
  have v_LENGTHS : ∃ u, mg "LENGTHS" = some (.ref u) ∧ ∀ H : Hp, SqT K H u [V.int (4), V.int (3), V.int (2), V.int (3), V.int (4), V.int (219), V.int (3), V.int (3)] := ⟨_, PySem.W.mg_of X G g_LENGTHS, fun H => .inr ⟨_, _, _, h_LENGTHS, rfl, rfl, (by show 8 ≤ sizeLine; decide), (.cons ⟨_, rfl⟩ (.cons ⟨_, rfl⟩ (.cons ⟨_, rfl⟩ (.cons ⟨_, rfl⟩ (.cons ⟨_, rfl⟩ (.cons ⟨_, rfl⟩ (.cons ⟨_, rfl⟩ (.cons ⟨_, rfl⟩ .nil))))))))⟩⟩
  have TC : TxtC mg := ⟨v_ONES, v_POLYNOMIAL, e_range, e_sum⟩
  have TM : TxtM mg := ⟨v_FORM, v_CHECK_PLACE, e_len, e_sorted⟩
  have TD : TxtD mg := ⟨e_len, e_sorted, e_dict⟩
  have TS : TxtS K mg C := ⟨clC, nC_k, nC_readings, nC_counts, nC_wrong, mgC, e_len⟩
  have TN : TxtN mg := ⟨v_FORM, v_MOST_STATIONS, v_READINGS_PLACE, v_WRONG_PLACE, v_COUNTERS_PLACE, v_COUNTER_SIZE, v_CHECK_PLACE, v_MOST_COUNTERS, v_MOST_READINGS, e_range, e_sum, e_list, e_dict, e_any⟩
  have TT : TxtT K mg B := ⟨clB, nB_me, nB_stream, mgB, v_MOST_STATIONS, v_MOST_READINGS, v_NO_ROOM⟩
  have TZ : TxtZ K mg Z := ⟨clZ, nZ_k, nZ_heard, mgZ, v_MOST_STATIONS, v_MOST_COUNTERS, v_NOT_TAKEN, v_NO_PART, e_len, e_range⟩
  have TE : TxtE K mg E := ⟨clE, nE_stations, nE_centre, mgE, v_BAD_START, v_OS_START, v_OS_READ, v_OS_SAY, v_OS_OF, v_OC_START, v_OC_HEARD, v_OC_OF⟩
  have TA : TxtA K mg := ⟨e_len, v_LENGTHS⟩
  exact ⟨PySem.W.fnOf "answers" "answers" (defArgs sAns) (defBody sAns) (defScope sAns) .none kVAns dcAns pmAns anAns cdAns ctAns, fun _ _ => .of_eq rfl, fun base _ _ => (by have OMsg : FnOk P w K mg base CX0 2 _ _ _ _ := ok_msg FMsg TS TM TC FLow bLow mLow FCrc bCrc mCrc; have OTk : FnOk P w K mg base CX0 2 _ _ _ _ := ok_take FTk TS FLd bLd mLd; have OTo : FnOk P w K mg base CX0 1 _ _ _ _ := ok_told FTo TS; have OOf : FnOk P w K mg base CX0 1 _ _ _ _ := ok_often FOf TS TD; have OPt : FnOk P w K mg base CX0 3 _ _ _ _ := ok_put FPt TS TD FSu bSu mSu FGr bGr mGr FLd bLd mLd mSI FSI bSI; have OCo : FnOk P w K mg base CX0 2 _ _ _ _ := ok_cntOf FCo TN FEn bEn mEn FNu bNu mNu; have OSo : FnOk P w K mg base CX0 3 _ _ _ _ := ok_strOf FSo TN TS OCo kCo bCo mCo FNu bNu mNu mSI FSI bSI; have OHd : FnOk P w K mg base CX0 2 _ _ _ _ := ok_head FHd TN FMc bMc mMc; have OCk : FnOk P w K mg base CX0 2 _ _ _ _ := ok_check FCk TN TC FNu bNu mNu FCrc bCrc mCrc; have ORe : FnOk P w K mg base CX0 2 _ _ _ _ := ok_rest FRe TN FEn bEn mEn; have OAd : FnOk P w K mg base CX0 1 _ _ _ _ := ok_adds FAd TN TS; have OCr : FnOk P w K mg base CX0 3 _ _ _ _ := ok_cntR FCr TN OCo kCo bCo mCo; have ORi : FnOk P w K mg base CX0 4 _ _ _ _ := ok_right FRi OHd kHd bHd mHd OCk kCk bCk mCk OCr kCr bCr mCr ORe kRe bRe mRe OSo kSo bSo mSo OAd kAd bAd mAd; have OSt : FnOk P w K mg base CX0 1 _ _ _ _ := ok_staOf FSt; have OHe : FnOk P w K mg base CX0 5 _ _ _ _ := ok_hear FHe TZ TS ORi kRi bRi mRi OSt kSt bSt mSt OSo kSo bSo mSo; have OTg : FnOk P w K mg base CX0 4 _ _ _ _ := ok_tog FTg TZ TS mSI FSI bSI OPt kPt bPt mPt; have OZT : FnOk P w K mg base CX0 5 _ _ _ _ := ok_zTell FZT TZ TS OTg mTg bTg OTo mTo bTo; have OZO : FnOk P w K mg base CX0 5 _ _ _ _ := ok_zOften FZO TZ TS OTg mTg bTg OOf mOf bOf; have OMz : FnOk P w K mg base CX0 2 _ _ _ _ := ok_mayZ FMz TZ TN FMc bMc mMc; have OZI : FnOk P w K mg base CX0 3 _ _ _ _ := ok_zInit FZI TZ TS mSI FSI bSI; have OMy : FnOk P w K mg base CX0 2 _ _ _ _ := ok_may FMy TT TN FMc bMc mMc; have OTI : FnOk P w K mg base CX0 3 _ _ _ _ := ok_tInit FTI TT TS mSI FSI bSI; have ORd : FnOk P w K mg base CX0 3 _ _ _ _ := ok_read FRd TT TS OTk mTk bTk; have OSy : FnOk P w K mg base CX0 3 _ _ _ _ := ok_say FSy TT OMsg kMsg mMsg bMsg; have OTl : FnOk P w K mg base CX0 2 _ _ _ _ := ok_tell FTl TT TS OTo mTo bTo; have OSS : FnOk P w K mg base CX0 5 _ _ _ _ := ok_startS (Z := Z) FSS TE TT OMy kMy bMy mMy mTI OTI bTI; have OSC : FnOk P w K mg base CX0 5 _ _ _ _ := ok_startC (B := B) FSC TE TZ OMz kMz bMz mMz mZI OZI bZI; have OAS : FnOk P w K mg base CX0 6 _ _ _ _ := ok_ansS FAS TE TT OSS mSS bSS ORd mRd bRd OSy mSy bSy OTl mTl bTl; have OAC : FnOk P w K mg base CX0 6 _ _ _ _ := ok_ansC FAC TE TZ OSC mSC bSC OHe mHe bHe OZT mZT bZT OZO mZO bZO; have OAw : FnOk P w K mg base CX0 7 _ _ _ _ := ok_answer FAw TE OAS mAS bAS OAC mAC bAC; exact ok_ans FAns TA TE mDI (ok_dInit FDI TE) bDI OAw mAw bAw)⟩
end Of
end
open PySem PySem.W PyProof.Rows
set_option maxRecDepth 100000 in
set_option maxHeartbeats 0 in
theorem PySem.Challenge.cw_oftenest_s01_answers_holds : PySem.Challenge.rw_oftenest_s01_answers.Holds := by
  w_on; k_headS; (case hw => exact ⟨[.list [.int 0, .int 0, .int 0, .int 1]], by decide +kernel, by decide +kernel⟩)
  k_fillS
  refine Of.walk_one (r := PySem.Challenge.rw_oftenest_s01_answers) (k := 8) (p := "calls") (sp := Of.spAns) (fun a => a.1) (fun a => PyKm355.answers a.1) (fun _ => rfl) (fun _ => rfl) ?L (by decide +kernel) rfl ⟨rfl, by decide, by decide⟩ (fun w h Y => PySem.W.kIn_of Y) ?F ?S
  case F =>
    intro w mg fa h Y KX G hmg
    refine' Of.all_mk KX G hmg ?aC ?pgC ?hdC ?poC ?saC ?mkC ?kcC ?nC_k ?nC_readings ?nC_counts ?nC_wrong ?aZ ?pgZ ?hdZ ?poZ ?saZ ?mkZ ?kcZ ?nZ_k ?nZ_heard ?aB ?pgB ?hdB ?poB ?saB ?mkB ?kcB ?nB_me ?nB_stream ?aE ?pgE ?hdE ?poE ?saE ?mkE ?kcE ?nE_stations ?nE_centre ?aCrc ?lCrc ?cCrc ?kCrc ?aSI ?iSI ?lSI ?cSI ?kSI ?aTk ?iTk ?lTk ?cTk ?kTk ?aTo ?iTo ?lTo ?cTo ?kTo ?aOf ?iOf ?lOf ?cOf ?kOf ?aMc ?lMc ?cMc ?kMc ?aLd ?lLd ?cLd ?kLd ?aSu ?lSu ?cSu ?kSu ?aGr ?lGr ?cGr ?kGr ?aPt ?lPt ?cPt ?kPt ?aLow ?lLow ?cLow ?kLow ?aNu ?lNu ?cNu ?kNu ?aMsg ?lMsg ?cMsg ?kMsg ?aSt ?lSt ?cSt ?kSt ?aSo ?lSo ?cSo ?kSo ?aEn ?lEn ?cEn ?kEn ?aCo ?lCo ?cCo ?kCo ?aRi ?lRi ?cRi ?kRi ?aHd ?lHd ?cHd ?kHd ?aCk ?lCk ?cCk ?kCk ?aCr ?lCr ?cCr ?kCr ?aRe ?lRe ?cRe ?kRe ?aAd ?lAd ?cAd ?kAd ?aMz ?lMz ?cMz ?kMz ?aZI ?iZI ?lZI ?cZI ?kZI ?aHe ?iHe ?lHe ?cHe ?kHe ?aTg ?iTg ?lTg ?cTg ?kTg ?aZT ?iZT ?lZT ?cZT ?kZT ?aZO ?iZO ?lZO ?cZO ?kZO ?aMy ?lMy ?cMy ?kMy ?aTI ?iTI ?lTI ?cTI ?kTI ?aRd ?iRd ?lRd ?cRd ?kRd ?aSy ?iSy ?lSy ?cSy ?kSy ?aTl ?iTl ?lTl ?cTl ?kTl ?aDI ?iDI ?lDI ?cDI ?kDI ?aAw ?iAw ?lAw ?cAw ?kAw ?aAS ?iAS ?lAS ?cAS ?kAS ?aAC ?iAC ?lAC ?cAC ?kAC ?aSS ?iSS ?lSS ?cSS ?kSS ?aSC ?iSC ?lSC ?cSC ?kSC ?aAns ?lAns ?cAns ?kAns ?g_POLYNOMIAL ?g_ONES ?g_MOST_COUNTERS ?g_MOST_READINGS ?g_FORM ?g_MOST_STATIONS ?g_READINGS_PLACE ?g_WRONG_PLACE ?g_COUNTERS_PLACE ?g_COUNTER_SIZE ?g_CHECK_PLACE ?g_NOT_TAKEN ?g_NO_PART ?g_NO_ROOM ?g_OS_START ?g_OS_READ ?g_OS_SAY ?g_OS_OF ?g_OC_START ?g_OC_HEARD ?g_OC_OF ?g_BAD_START ?z_len ?z_range ?z_sorted ?z_dict ?z_sum ?z_list ?z_any ?g_LENGTHS ?h_LENGTHS
    (case aC => k_is)
    (case pgC => k_is)
    (case hdC => k_is)
    (case poC => k_is)
    (case saC => k_is)
    (case mkC => k_is)
    (case kcC => k_is)
    (case nC_k => k_is)
    (case nC_readings => k_is)
    (case nC_counts => k_is)
    (case nC_wrong => k_is)
    (case aZ => k_is)
    (case pgZ => k_is)
    (case hdZ => k_is)
    (case poZ => k_is)
    (case saZ => k_is)
    (case mkZ => k_is)
    (case kcZ => k_is)
    (case nZ_k => k_is)
    (case nZ_heard => k_is)
    (case aB => k_is)
    (case pgB => k_is)
    (case hdB => k_is)
    (case poB => k_is)
    (case saB => k_is)
    (case mkB => k_is)
    (case kcB => k_is)
    (case nB_me => k_is)
    (case nB_stream => k_is)
    (case aE => k_is)
    (case pgE => k_is)
    (case hdE => k_is)
    (case poE => k_is)
    (case saE => k_is)
    (case mkE => k_is)
    (case kcE => k_is)
    (case nE_stations => k_is)
    (case nE_centre => k_is)
    (case aCrc => k_is)
    (case lCrc => k_is)
    (case cCrc => k_is)
    (case kCrc => k_is)
    (case aSI => k_is)
    (case iSI => k_is)
    (case lSI => k_is)
    (case cSI => k_is)
    (case kSI => k_is)
    (case aTk => k_is)
    (case iTk => k_is)
    (case lTk => k_is)
    (case cTk => k_is)
    (case kTk => k_is)
    (case aTo => k_is)
    (case iTo => k_is)
    (case lTo => k_is)
    (case cTo => k_is)
    (case kTo => k_is)
    (case aOf => k_is)
    (case iOf => k_is)
    (case lOf => k_is)
    (case cOf => k_is)
    (case kOf => k_is)
    (case aMc => k_is)
    (case lMc => k_is)
    (case cMc => k_is)
    (case kMc => k_is)
    (case aLd => k_is)
    (case lLd => k_is)
    (case cLd => k_is)
    (case kLd => k_is)
    (case aSu => k_is)
    (case lSu => k_is)
    (case cSu => k_is)
    (case kSu => k_is)
    (case aGr => k_is)
    (case lGr => k_is)
    (case cGr => k_is)
    (case kGr => k_is)
    (case aPt => k_is)
    (case lPt => k_is)
    (case cPt => k_is)
    (case kPt => k_is)
    (case aLow => k_is)
    (case lLow => k_is)
    (case cLow => k_is)
    (case kLow => k_is)
    (case aNu => k_is)
    (case lNu => k_is)
    (case cNu => k_is)
    (case kNu => k_is)
    (case aMsg => k_is)
    (case lMsg => k_is)
    (case cMsg => k_is)
    (case kMsg => k_is)
    (case aSt => k_is)
    (case lSt => k_is)
    (case cSt => k_is)
    (case kSt => k_is)
    (case aSo => k_is)
    (case lSo => k_is)
    (case cSo => k_is)
    (case kSo => k_is)
    (case aEn => k_is)
    (case lEn => k_is)
    (case cEn => k_is)
    (case kEn => k_is)
    (case aCo => k_is)
    (case lCo => k_is)
    (case cCo => k_is)
    (case kCo => k_is)
    (case aRi => k_is)
    (case lRi => k_is)
    (case cRi => k_is)
    (case kRi => k_is)
    (case aHd => k_is)
    (case lHd => k_is)
    (case cHd => k_is)
    (case kHd => k_is)
    (case aCk => k_is)
    (case lCk => k_is)
    (case cCk => k_is)
    (case kCk => k_is)
    (case aCr => k_is)
    (case lCr => k_is)
    (case cCr => k_is)
    (case kCr => k_is)
    (case aRe => k_is)
    (case lRe => k_is)
    (case cRe => k_is)
    (case kRe => k_is)
    (case aAd => k_is)
    (case lAd => k_is)
    (case cAd => k_is)
    (case kAd => k_is)
    (case aMz => k_is)
    (case lMz => k_is)
    (case cMz => k_is)
    (case kMz => k_is)
    (case aZI => k_is)
    (case iZI => k_is)
    (case lZI => k_is)
    (case cZI => k_is)
    (case kZI => k_is)
    (case aHe => k_is)
    (case iHe => k_is)
    (case lHe => k_is)
    (case cHe => k_is)
    (case kHe => k_is)
    (case aTg => k_is)
    (case iTg => k_is)
    (case lTg => k_is)
    (case cTg => k_is)
    (case kTg => k_is)
    (case aZT => k_is)
    (case iZT => k_is)
    (case lZT => k_is)
    (case cZT => k_is)
    (case kZT => k_is)
    (case aZO => k_is)
    (case iZO => k_is)
    (case lZO => k_is)
    (case cZO => k_is)
    (case kZO => k_is)
    (case aMy => k_is)
    (case lMy => k_is)
    (case cMy => k_is)
    (case kMy => k_is)
    (case aTI => k_is)
    (case iTI => k_is)
    (case lTI => k_is)
    (case cTI => k_is)
    (case kTI => k_is)
    (case aRd => k_is)
    (case iRd => k_is)
    (case lRd => k_is)
    (case cRd => k_is)
    (case kRd => k_is)
    (case aSy => k_is)
    (case iSy => k_is)
    (case lSy => k_is)
    (case cSy => k_is)
    (case kSy => k_is)
    (case aTl => k_is)
    (case iTl => k_is)
    (case lTl => k_is)
    (case cTl => k_is)
    (case kTl => k_is)
    (case aDI => k_is)
    (case iDI => k_is)
    (case lDI => k_is)
    (case cDI => k_is)
    (case kDI => k_is)
    (case aAw => k_is)
    (case iAw => k_is)
    (case lAw => k_is)
    (case cAw => k_is)
    (case kAw => k_is)
    (case aAS => k_is)
    (case iAS => k_is)
    (case lAS => k_is)
    (case cAS => k_is)
    (case kAS => k_is)
    (case aAC => k_is)
    (case iAC => k_is)
    (case lAC => k_is)
    (case cAC => k_is)
    (case kAC => k_is)
    (case aSS => k_is)
    (case iSS => k_is)
    (case lSS => k_is)
    (case cSS => k_is)
    (case kSS => k_is)
    (case aSC => k_is)
    (case iSC => k_is)
    (case lSC => k_is)
    (case cSC => k_is)
    (case kSC => k_is)
    (case aAns => k_is)
    (case lAns => k_is)
    (case cAns => k_is)
    (case kAns => k_is)
    (case g_POLYNOMIAL => k_is)
    (case g_ONES => k_is)
    (case g_MOST_COUNTERS => k_is)
    (case g_MOST_READINGS => k_is)
    (case g_FORM => k_is)
    (case g_MOST_STATIONS => k_is)
    (case g_READINGS_PLACE => k_is)
    (case g_WRONG_PLACE => k_is)
    (case g_COUNTERS_PLACE => k_is)
    (case g_COUNTER_SIZE => k_is)
    (case g_CHECK_PLACE => k_is)
    (case g_NOT_TAKEN => k_is)
    (case g_NO_PART => k_is)
    (case g_NO_ROOM => k_is)
    (case g_OS_START => k_is)
    (case g_OS_READ => k_is)
    (case g_OS_SAY => k_is)
    (case g_OS_OF => k_is)
    (case g_OC_START => k_is)
    (case g_OC_HEARD => k_is)
    (case g_OC_OF => k_is)
    (case g_BAD_START => k_is)
    (case z_len => k_is)
    (case z_range => k_is)
    (case z_sorted => k_is)
    (case z_dict => k_is)
    (case z_sum => k_is)
    (case z_list => k_is)
    (case z_any => k_is)
    (case g_LENGTHS => k_is)
    (case h_LENGTHS => k_is)
  case L =>
    intro a hwi
    have q : ((PySem.W.Codec.inLen 0 30000 a.1 && a.1.all (PySem.W.Codec.inInt 0 4294967295)) && true) = true := hwi
    rw [Bool.and_eq_true] at q
    exact Nat.le_trans (Of.sp_len q.1) (by decide)
  case S =>
    intro K H b a hwi hask hs
    have q : ((PySem.W.Codec.inLen 0 30000 a.1 && a.1.all (PySem.W.Codec.inInt 0 4294967295)) && true) = true := hwi
    rw [Bool.and_eq_true] at q
    exact Of.sp_ans q.1 hask hs
