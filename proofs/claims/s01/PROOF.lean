import PyProof.Rows.All
import Wide.All
import OpenK.AllK
import Wide.FinOn
import PyProof.EqAt
import PyProof.EqKinds
import PyProof.TupleCall
import KE.BitLaws
import Open.SpecLaws
import KE.OsHead
import KE.OsGo
import PyProof.Rows.SetFrom
import PyProof.SetRoads
import PySem.Challenge.RW_volleysheet_s01_answers
set_option Elab.async false
set_option linter.all false
section
-- CHANGE: your row's module here, as the last of these rows
set_option Elab.async false
set_option linter.all false
set_option maxRecDepth 100000
/-! THE HAND LAYER, for ints, bools, texts, own classes, lists, tuples, dicts, comprehensions, walks over dicts, enumerate, zip, reversed, texts, calls, loops. Paste it whole ahead of your own text; what your proof does not reach may be deleted. -/
namespace L2
open PySem PySem.Spec PyProof.Rows
/-- a key: an int or a str -/
abbrev Key := Sum Int Str
def keyIs : Key → Value → Bool
  | .inl k, v => Value.isInt k v
  | .inr x, v => Value.isStrOf x v
def keyH (w : World) : Key → Int
  | .inl k => hashInt k
  | .inr x => hashStr w x
theorem keyIs_shape : ∀ {k : Key} {v : Value}, keyIs k v = true → (∃ i t, k = Sum.inl i ∧ v = Value.int i t) ∨ (∃ x t, k = Sum.inr x ∧ v = Value.str x t)
  | .inl i, v, h => by
    obtain ⟨t, e⟩ := Value.isInt_shape (k := i) (v := v) h
    exact .inl ⟨i, t, rfl, e⟩
  | .inr x, v, h => by
    obtain ⟨t, e⟩ := Value.isStrOf_shape (x := x) (v := v) h
    exact .inr ⟨x, t, rfl, e⟩
theorem keyIs_int (i : Int) (t : Tok) : keyIs (.inl i) (.int i t) = true := by simp [keyIs, Value.isInt]
theorem keyIs_str (x : Str) (t : Tok) : keyIs (.inr x) (.str x t) = true := by simp [keyIs, Value.isStrOf]
theorem key_ll (a b : Int) : decide ((Sum.inl a : Key) = Sum.inl b) = (a == b) := by
  by_cases e : a = b
  · subst e; simp
  · have h : ¬ (Sum.inl a : Key) = Sum.inl b := fun q => e (Sum.inl.inj q)
    rw [decide_eq_false h]
    exact (beq_eq_false_iff_ne.mpr e).symm
theorem key_rr (a b : Str) : decide ((Sum.inr a : Key) = Sum.inr b) = decide (a = b) := by
  by_cases e : a = b
  · subst e; simp
  · have h : ¬ (Sum.inr a : Key) = Sum.inr b := fun q => e (Sum.inr.inj q)
    rw [decide_eq_false h, decide_eq_false e]
theorem key_lr (a : Int) (b : Str) : decide ((Sum.inl a : Key) = Sum.inr b) = false := decide_eq_false (fun q => nomatch q)
theorem key_rl (a : Str) (b : Int) : decide ((Sum.inr a : Key) = Sum.inl b) = false := decide_eq_false (fun q => nomatch q)
def mixKind (prog : Program) (w : World) : PySem.KeyKind prog w Key where
  is := keyIs
  hash := keyH w
  inj := fun v a b ha hb => by
    rcases keyIs_shape ha with ⟨i, t, rfl, rfl⟩ | ⟨x, t, rfl, rfl⟩
    · rcases keyIs_shape hb with ⟨j, u, rfl, e⟩ | ⟨y, u, rfl, e⟩
      · injection e with e1 _; rw [e1]
      · exact nomatch e
    · rcases keyIs_shape hb with ⟨j, u, rfl, e⟩ | ⟨y, u, rfl, e⟩
      · exact nomatch e
      · injection e with e1 _; rw [e1]
  byValue := fun k v h => by
    rcases keyIs_shape h with ⟨i, t, rfl, rfl⟩ | ⟨x, t, rfl, rfl⟩ <;> rfl
  pyHash := fun hv h => by
    rcases keyIs_shape hv with ⟨i, t, rfl, rfl⟩ | ⟨x, t, rfl, rfl⟩
    · exact wpAny_pyHash_int h
    · exact wpAny_pyHash_str h
  eqBool := fun hu hv h => by
    rcases keyIs_shape hu with ⟨i, t, rfl, rfl⟩ | ⟨x, t, rfl, rfl⟩
    · rcases keyIs_shape hv with ⟨j, u, rfl, rfl⟩ | ⟨y, u, rfl, rfl⟩
      · rw [key_ll] at h; exact wpAny_eqBool_int h
      · rw [key_lr] at h; exact SeqAt.EqAt.int_str i t y u _ _ _ _ h
    · rcases keyIs_shape hv with ⟨j, u, rfl, rfl⟩ | ⟨y, u, rfl, rfl⟩
      · rw [key_rl] at h; exact SeqAt.EqAt.str_int x t j u _ _ _ _ h
      · rw [key_rr] at h; exact wpAny_eqBool_str h
  «strs» := fun k x t v h => by
    rcases keyIs_shape h with ⟨i, u, rfl, e⟩ | ⟨y, u, rfl, e⟩
    · exact nomatch e
    · injection e with e1 _
      subst e1
      cases v <;> rfl
theorem mixKind_int (prog : Program) (w : World) (i : Int) (t : Tok) : (mixKind prog w).is (.inl i) (.int i t) = true := keyIs_int i t
theorem mixKind_str (prog : Program) (w : World) (x : Str) (t : Tok) : (mixKind prog w).is (.inr x) (.str x t) = true := keyIs_str x t
end L2
namespace L2
open PySem PySem.Spec PyProof.Rows
/-- a value, without the heap -/
inductive V where
  | non | bl (b : Bool) | int (i : Int) | str (x : Str) | byt (b : Array UInt8) | flt (b : UInt64) | ref (a : Addr) | ty (n : String)
  deriving DecidableEq
def RelV : V → Value → Prop
  | .non, u => u = Value.none
  | .bl b, u => u = Value.bool b
  | .int i, u => ∃ t, u = Value.int i t
  | .str x, u => ∃ t, u = Value.str x t
  | .byt b, u => ∃ t, u = Value.bytes b t
  | .flt b, u => ∃ t, u = Value.float b t
  | .ref a, u => u = Value.ref a
  | .ty n, u => u = Value.type n
abbrev Vals : List V → List Value → Prop := Paired RelV
theorem Vals.length {xs : List V} {us : List Value} (r : Vals xs us) : xs.length = us.length := Paired.length r
theorem Vals.get : ∀ {xs : List V} {us : List Value} {i : Nat} {x : V}, Vals xs us → xs[i]? = some x → ∃ u, us[i]? = some u ∧ RelV x u
  | _, _, _, _, .nil, e => by simp at e
  | _, _, 0, _, .cons r _, e => by simp at e; subst e; exact ⟨_, rfl, r⟩
  | _, _, i + 1, x, .cons _ t, e => by
    obtain ⟨u, h1, h2⟩ := Vals.get (i := i) (x := x) t (by simpa using e)
    exact ⟨u, by simpa using h1, h2⟩
theorem Vals.set {x : V} {u : Value} (r : RelV x u) : ∀ {xs : List V} {us : List Value} (i : Nat), Vals xs us → Vals (xs.set i x) (us.set i u)
  | _, _, _, .nil => .nil
  | _, _, 0, .cons _ t => .cons r t
  | _, _, i + 1, .cons q t => .cons q (Vals.set r i t)
theorem Vals.append : ∀ {xs ys : List V} {us ws : List Value}, Vals xs us → Vals ys ws → Vals (xs ++ ys) (us ++ ws)
  | _, _, _, _, .nil, s => s
  | _, _, _, _, .cons r t, s => .cons r (Vals.append t s)
theorem Vals.take : ∀ {xs : List V} {us : List Value} (n : Nat), Vals xs us → Vals (xs.take n) (us.take n)
  | _, _, 0, _ => .nil
  | _, _, _ + 1, .nil => .nil
  | _, _, n + 1, .cons r t => .cons r (Vals.take n t)
theorem Vals.drop : ∀ {xs : List V} {us : List Value} (n : Nat), Vals xs us → Vals (xs.drop n) (us.drop n)
  | _, _, 0, r => r
  | _, _, _ + 1, .nil => .nil
  | _, _, n + 1, .cons _ t => Vals.drop n t
def RelO : Option V → Option Value → Prop
  | some v, some u => RelV v u
  | none, none => True
  | _, _ => False
def KV {κ : Type} : List (κ × V) → List (κ × Value) → Prop := Paired fun (p : κ × V) (q : κ × Value) => p.1 = q.1 ∧ RelV p.2 q.2
/-- a key of a dict (00_mix): an int or a text -/
def kV : Key → V
  | .inl i => .int i
  | .inr x => .str x
/-- what stands at a tracked address -/
inductive HO where
  /-- a list -/
  | lst (xs : List V)
  /-- a tuple (never changes) -/
  | tup (xs : List V)
  /-- a dict whose keys are ints and texts; one whose keys are tuples of ints and texts (the empty one is both) -/
  | dK (kvs : List (Key × V)) | dT (kvs : List (List Key × V))
  /-- a set of ints: its members, its size -/
  | set (S : Int → Bool) (n : Nat)
  /-- an instance of the class at C, its dict at dx, its attributes -/
  | ins (C dx : Addr) (fs : List (Str × V))
  /-- the dict of the instance at x -/
  | own (x : Addr)
  /-- the dict of an exception -/
  | xd (fs : List (Str × V))
  /-- a bound method, f of x -/
  | met (f x : Addr)
  /-- a range object lo, lo + 1, .. below hi -/
  | rng (lo hi : Int)
  /-- a thing that is known to the object (the script; a dict while a loop walks it): read, never written while it is so -/
  | frz (o : Obj) (u : HO)
  /-- a code object's table -/
  | tbl (ps : Array Value)
  /-- any other thing, by what is true of its one object (a def of one's own: SetO a S n := HO.ext fun h => ..) -/
  | ext (φ : Heap → Prop)
abbrev Hp := Addr → Option HO
def upd (H : Hp) (a : Addr) (o : HO) : Hp := fun b => if b = a then some o else H b
theorem upd_same {H : Hp} {a : Addr} {o : HO} : upd H a o a = some o := by unfold upd; rw [if_pos rfl]
theorem upd_ne {H : Hp} {a b : Addr} {o : HO} (h : b ≠ a) : upd H a o b = H b := by unfold upd; rw [if_neg h]
theorem upd_upd {H : Hp} {a : Addr} {o u : HO} : upd (upd H a o) a u = upd H a u := by
  funext b; unfold upd; split <;> rfl
/-- two objects of different content stand apart -/
theorem ne_of {H : Hp} {a b : Addr} {o u : HO} (h : H a = some o) (h' : H b = some u) (d : o ≠ u) : a ≠ b := by
  intro e; subst e; rw [h] at h'; exact d (Option.some.inj h')
theorem ne_of_none {H : Hp} {a b : Addr} {o : HO} (h : H a = some o) (h' : H b = none) : a ≠ b := by
  intro e; subst e; rw [h] at h'; cases h'
section
variable (P : Program) (w : World)
def ObjOk (H : Hp) (h : Heap) (a : Addr) : HO → Prop
  | .lst xs => xs.length ≤ sizeLine ∧ ∃ (its : List Value) (n : Nat), Vals xs its ∧ h.get? a = some { cls := .type "list", data := .seq its.toArray n }
  | .tup xs => xs.length ≤ sizeLine ∧ ∃ its : List Value, Vals xs its ∧ IsTup h a its.toArray
  | .dK kvs => kvs.length ≤ sizeLine ∧ (a == sysModules) = false ∧ ∃ vs, KV kvs vs ∧ h.DictOf (mixKind P w) a vs
  | .dT kvs => kvs.length ≤ sizeLine ∧ (a == sysModules) = false ∧ ∃ xs : List (List Key × Addr × Value),
      Paired (fun (p : List Key × V) (q : List Key × Addr × Value) => p.1 = q.1 ∧ H q.2.1 = some (.tup (p.1.map kV)) ∧ RelV p.2 q.2.2) kvs xs ∧
      ∃ o es ep, h.get? a = some o ∧ o.ExactDict ∧ o.data = .dict es ep ∧ es.toList = xs.map (entryOfKey (tupleKind (mixKind P w))) ∧ (xs.map (·.1)).Nodup
  | .set S n => h.SetOf (intKind P w) a S n
  | .ins C dx fs => H dx = some (.own a) ∧ fs.length ≤ 1000 ∧ dx ≠ a ∧ h.get? a = some (PySem.W.instObj C dx) ∧
      ∃ mA, h.Ns1 dx mA ∧ (∀ f, RelO (fs.lookup f) (mA f)) ∧ PySem.Within mA (fs.map (·.1))
  | .own _ => ∃ o, h.get? a = some o
  | .xd fs => ∃ mA, h.Ns1 a mA ∧ ∀ f, RelO (fs.lookup f) (mA f)
  | .rng lo hi => ∃ t u v, h.get? a = some { cls := .type "range", data := .fields #[.int lo t, .int hi u, .int 1 v] }
  | .frz o u => h.get? a = some o ∧ ObjOk H h a u
  | .tbl ps => h.get? a = some { cls := .none, data := .fields ps }
  | .met f x => h.get? a = some (PySem.W.methodObj (.ref f) (.ref x))
  | .ext φ => φ h ∧ (∃ o, h.get? a = some o) ∧ ∀ h1 h2 : Heap, φ h1 → (∀ o, h1.get? a = some o → h2.get? a = some o) → φ h2
/-- the abstract heap is held -/
def HOk (H : Hp) (h : Heap) : Prop := ∀ a o, H a = some o → ObjOk P w H h a o
end
section
variable {P : Program} {w : World} {H H' : Hp} {h h' : Heap} {a : Addr} {o : HO}
theorem ObjOk.lt (x : ObjOk P w H h a o) : a < h.objs.size := by
  cases o with
  | lst xs => obtain ⟨_, _, _, _, e⟩ := x; exact Heap.lt_size e
  | tup xs => obtain ⟨_, _, _, p⟩ := x; exact p.lt
  | dK kvs => obtain ⟨_, _, _, _, o, _, _, e, _⟩ := x; exact Heap.lt_size e
  | dT kvs => obtain ⟨_, _, _, _, o, _, _, e, _⟩ := x; exact Heap.lt_size e
  | set S n => obtain ⟨o, _, _, _, e, _⟩ := x; exact Heap.lt_size e
  | ins C dx fs => obtain ⟨_, _, _, e, _⟩ := x; exact Heap.lt_size e
  | own y => obtain ⟨_, e⟩ := x; exact Heap.lt_size e
  | xd fs => obtain ⟨_, ⟨_, _, _, e, _⟩, _⟩ := x; exact Heap.lt_size e
  | rng lo hi => obtain ⟨_, _, _, e⟩ := x; exact Heap.lt_size e
  | frz ob u => obtain ⟨e, _⟩ := x; exact Heap.lt_size e
  | tbl ps => exact Heap.lt_size (show h.get? a = some _ from x)
  | met f y => exact Heap.lt_size (show h.get? a = some _ from x)
  | ext φ => obtain ⟨_, ⟨_, e⟩, _⟩ := x; exact Heap.lt_size e
theorem Paired.mapP {α β : Type} {F G : α → β → Prop} : ∀ {l₁ : List α} {l₂ : List β}, Paired F l₁ l₂ → (∀ a b, F a b → G a b) → Paired G l₁ l₂
  | _, _, .nil, _ => .nil
  | _, _, .cons r t, f => .cons (f _ _ r) (Paired.mapP t f)
/-- what an object's description leans on: its own object, its own dict, the tuples -/
theorem ObjOk.stay (x : ObjOk P w H h a o) (k : ∀ b u, (b = a ∨ H b = some (.own a)) → h.get? b = some u → h'.get? b = some u)
    (ho : ∀ b, H b = some (.own a) → H' b = some (.own a)) (ht : ∀ b xs, H b = some (.tup xs) → H' b = some (.tup xs)) : ObjOk P w H' h' a o := by
  induction o with
  | lst xs => obtain ⟨z, its, n, r, e⟩ := x; exact ⟨z, its, n, r, k _ _ (.inl rfl) e⟩
  | tup xs => obtain ⟨z, its, r, ob, e, c⟩ := x; exact ⟨z, its, r, ob, k _ _ (.inl rfl) e, c⟩
  | dK kvs => obtain ⟨z, y, vs, r, ob, es, ep, e, c⟩ := x; exact ⟨z, y, vs, r, ob, es, ep, k _ _ (.inl rfl) e, c⟩
  | dT kvs =>
    obtain ⟨z, y, xs, r, ob, es, ep, e, c⟩ := x
    exact ⟨z, y, xs, Paired.mapP r fun p q z => ⟨z.1, ht _ _ z.2.1, z.2.2⟩, ob, es, ep, k _ _ (.inl rfl) e, c⟩
  | set S n => obtain ⟨ob, es, ep, t, e, c⟩ := x; exact ⟨ob, es, ep, t, k _ _ (.inl rfl) e, c⟩
  | ins C dx fs =>
    obtain ⟨d, z, ne, e, mA, ⟨od, es, ep, e2, c⟩, r⟩ := x
    exact ⟨ho _ d, z, ne, k _ _ (.inl rfl) e, mA, ⟨od, es, ep, k _ _ (.inr d) e2, c⟩, r⟩
  | own y => obtain ⟨ob, e⟩ := x; exact ⟨ob, k _ _ (.inl rfl) e⟩
  | xd fs => obtain ⟨mA, ⟨od, es, ep, e, c⟩, r⟩ := x; exact ⟨mA, ⟨od, es, ep, k _ _ (.inl rfl) e, c⟩, r⟩
  | rng lo hi => obtain ⟨t, u, v, e⟩ := x; exact ⟨t, u, v, k _ _ (.inl rfl) e⟩
  | frz ob u ih => obtain ⟨e, q⟩ := x; exact ⟨k _ _ (.inl rfl) e, ih q⟩
  | tbl ps =>
    have e : h.get? a = some { cls := .none, data := .fields ps } := x
    show h'.get? a = some { cls := .none, data := .fields ps }
    exact k a _ (.inl rfl) e
  | met f y =>
    have e : h.get? a = some (PySem.W.methodObj (.ref f) (.ref y)) := x
    show h'.get? a = some (PySem.W.methodObj (.ref f) (.ref y))
    exact k a _ (.inl rfl) e
  | ext φ => obtain ⟨p, ⟨o, e⟩, st⟩ := x; exact ⟨st _ _ p fun o q => k _ _ (.inl rfl) q, ⟨o, k _ _ (.inl rfl) e⟩, st⟩
theorem HOk.lt (x : HOk P w H h) (e : H a = some o) : a < h.objs.size := (x a o e).lt
theorem HOk.fresh (x : HOk P w H h) (e : h.objs.size ≤ a) : H a = none := by
  cases q : H a with
  | none => rfl
  | some u => exact absurd (Nat.lt_of_lt_of_le (x.lt q) e) (Nat.lt_irrefl _)
/-- every object of the heap is kept -/
theorem HOk.kept (x : HOk P w H h) (k : ∀ b u, h.get? b = some u → h'.get? b = some u) : HOk P w H h' := fun a o e =>
  (x a o e).stay (fun b u _ q => k b u q) (fun _ q => q) fun _ _ q => q
/-- a new object is laid and tracked -/
theorem HOk.laid (x : HOk P w H h) (k : ∀ b u, h.get? b = some u → h'.get? b = some u) (hp : h.objs.size ≤ a) (new : ObjOk P w (upd H a o) h' a o) : HOk P w (upd H a o) h' := fun b u e => by
  have hn := x.fresh hp
  by_cases hb : b = a
  · subst hb; rw [upd_same] at e; cases e; exact new
  · rw [upd_ne hb] at e
    exact (x b u e).stay (fun c v _ q => k c v q) (fun c q => by rw [upd_ne (ne_of_none q hn)]; exact q) fun c xs q => by rw [upd_ne (ne_of_none q hn)]; exact q
end
/-- what may be read as u: it is u, or a known u -/
def Rd (H : Hp) (a : Addr) (u : HO) : Prop := H a = some u ∨ ∃ o, H a = some (.frz o u)
theorem Rd.ok {P : Program} {w : World} {H : Hp} {h : Heap} {a : Addr} {u : HO} (r : Rd H a u) (x : HOk P w H h) : ObjOk P w H h a u := by
  rcases r with r | ⟨o, r⟩
  · exact x a u r
  · obtain ⟨_, q⟩ := x a _ r
    exact q
/-- what may be written -/
def Mut : Option HO → Prop
  | some (.lst _) => True
  | some (.dK _) => True
  | some (.dT _) => True
  | some (.set _ _) => True
  | some (.ins _ _ _) => True
  | some (.ext _) => True
  | _ => False
section
variable {P : Program} {w : World} {H : Hp} {h h' : Heap} {x e : Addr} {o' : HO}
/-- the object at e is changed: x itself, or the dict of the instance x -/
theorem HOk.write (ok : HOk P w H h) (mu : Mut (H x)) (he : e = x ∨ H e = some (.own x)) (k : ∀ b u, b ≠ e → h.get? b = some u → h'.get? b = some u) (heo : ∃ u, h'.get? e = some u)
    (new : ObjOk P w (upd H x o') h' x o') : HOk P w (upd H x o') h' := fun b u q => by
  have nown : ∀ c y, H c = some (.own y) → c ≠ x := fun c y r z => by subst z; rw [r] at mu; exact mu
  have ntup : ∀ c xs, H c = some (.tup xs) → c ≠ x := fun c xs r z => by subst z; rw [r] at mu; exact mu
  by_cases hb : b = x
  · subst hb; rw [upd_same] at q; cases q; exact new
  · rw [upd_ne hb] at q
    by_cases hbe : b = e
    · have q' : H b = some (.own x) := by
        rcases he with z | z
        · exact absurd (hbe.trans z) hb
        · rw [hbe]; exact z
      rw [q] at q'; cases q'
      obtain ⟨v, hv⟩ := heo
      exact ⟨v, by rw [hbe]; exact hv⟩
    · refine (ok b u q).stay (fun c v hc r => k c v ?_ r) (fun c r => by rw [upd_ne (nown c b r)]; exact r) fun c xs r => by rw [upd_ne (ntup c xs r)]; exact r
      rcases hc with rfl | hc
      · exact hbe
      · rintro rfl
        rcases he with z | z
        · exact nown c b hc z
        · rw [hc] at z; cases z; exact hb rfl
end
/-! ### kept unless tracked; of the frames at fs (the callers') the slots may change (an exception that passes writes there); of the records at ex (iterators) nothing is said -/
structure Un (fs ex : List Addr) (H H' : Hp) (h h' : Heap) : Prop where
  keep : ∀ b o, h.get? b = some o → H b = none → b ∉ fs → b ∉ ex → h'.get? b = some o
  slot : ∀ b o, h.get? b = some o → H b = none → b ∈ fs → b ∉ ex → ∃ sl, h'.get? b = some { o with slots := sl }
  free : ∀ b o, h.get? b = some o → H b = none → b ∉ ex → H' b = none
  there : ∀ b o, h.get? b = some o → b ∉ ex → ∃ o', h'.get? b = some o'
  tups : ∀ b xs, H b = some (.tup xs) → H' b = some (.tup xs)
  frzs : ∀ b o u, H b = some (.frz o u) → H' b = some (.frz o u)
  tbls : ∀ b ps, H b = some (.tbl ps) → ∃ more, H' b = some (.tbl (ps ++ more))
section
variable {fs fs' ex ex' : List Addr} {H H1 H2 : Hp} {h h1 h2 h' : Heap} {a x e : Addr} {o : HO}
theorem Un.any (u : Un fs ex H H1 h h1) {b : Addr} {ob : Obj} (q : h.get? b = some ob) (n : H b = none) (hx : b ∉ ex) : ∃ sl, h1.get? b = some { ob with slots := sl } := by
  by_cases hb : b ∈ fs
  · exact u.slot b ob q n hb hx
  · exact ⟨ob.slots, u.keep b ob q n hb hx⟩
theorem Un.kept (k : ∀ b u, h.get? b = some u → h'.get? b = some u) : Un fs ex H H h h' :=
  ⟨fun b ob q _ _ _ => k b ob q, fun b ob q _ _ _ => ⟨ob.slots, k b ob q⟩, fun _ _ _ n _ => n, fun b ob q _ => ⟨ob, k b ob q⟩, fun _ _ q => q, fun _ _ _ q => q, fun _ ps q => ⟨#[], by rw [q]; simp⟩⟩
theorem Un.refl : Un fs ex H H h h := Un.kept fun _ _ q => q
theorem Un.laid (k : ∀ b u, h.get? b = some u → h'.get? b = some u) (hp : h.objs.size ≤ a) (hn : H a = none) : Un fs ex H (upd H a o) h h' where
  keep := fun b u q _ _ _ => k b u q
  slot := fun b u q _ _ _ => ⟨u.slots, k b u q⟩
  free := fun b u q n _ => by rw [upd_ne (Nat.ne_of_lt (Nat.lt_of_lt_of_le (Heap.lt_size q) hp))]; exact n
  there := fun b u q _ => ⟨u, k b u q⟩
  tups := fun b xs q => by rw [upd_ne (ne_of_none q hn)]; exact q
  frzs := fun b u xs q => by rw [upd_ne (ne_of_none q hn)]; exact q
  tbls := fun b ps q => ⟨#[], by rw [upd_ne (ne_of_none q hn), q]; simp⟩
theorem Un.write (mu : Mut (H x)) (he : e = x ∨ H e = some (.own x)) (k : ∀ b u, b ≠ e → h.get? b = some u → h'.get? b = some u) (heo : ∃ u, h'.get? e = some u) : Un fs ex H (upd H x o) h h' := by
  have hx : ∀ b, H b = none → b ≠ x := fun b n z => by subst z; rw [n] at mu; exact mu
  have hb : ∀ b, H b = none → b ≠ e := fun b n z => by
    subst z
    rcases he with r | r
    · exact hx b n r
    · rw [n] at r; cases r
  have hm : ∀ b u, H b = some u → ¬ Mut (some u) → b ≠ x := fun b u q nm z => by subst z; rw [q] at mu; exact nm mu
  refine ⟨fun b u q n _ _ => k b u (hb b n) q, fun b u q n _ _ => ⟨u.slots, k b u (hb b n) q⟩, fun b u q n _ => by rw [upd_ne (hx b n)]; exact n, fun b u q _ => ?_,
    fun b xs q => by rw [upd_ne (hm b _ q fun z => z)]; exact q, fun b u xs q => by rw [upd_ne (hm b _ q fun z => z)]; exact q, fun b ps q => ⟨#[], by rw [upd_ne (hm b _ q fun z => z), q]; simp⟩⟩
  by_cases hbe : b = e
  · subst hbe; exact heo
  · exact ⟨u, k b u hbe q⟩
end
/-! ### the heap without what is tracked -/
def trk (h : Heap) (H : Hp) : List Addr := (List.range h.objs.size).filter fun a => (H a).isSome
def hidT (h : Heap) (H : Hp) : Heap := PySem.W.hideAll h (trk h H)
theorem hidT_size (h : Heap) (H : Hp) : (hidT h H).objs.size = h.objs.size := PySem.W.hideAll_size _ _
theorem hidT_get {h : Heap} {H : Hp} {b : Addr} {o : Obj} (e : h.get? b = some o) (n : H b = none) : (hidT h H).get? b = some o :=
  PySem.W.hideAll_get _ e fun hm => by
    have q : (H b).isSome = true := (List.mem_filter.mp hm).2
    rw [n] at q; simp at q
theorem of_hidT {h : Heap} {H : Hp} {b : Addr} {o : Obj} (e : (hidT h H).get? b = some o) : h.get? b = some o ∧ H b = none := by
  have e' : h.get? b = some o := PySem.W.of_hideAll (trk h H) e
  refine ⟨e', ?_⟩
  cases q : H b with
  | none => rfl
  | some x =>
    have hm : b ∈ trk h H := List.mem_filter.mpr ⟨List.mem_range.mpr (Heap.lt_size e'), by simp [q]⟩
    have z : (hidT h H).get? b = none := PySem.W.hideAll_none (trk h H) hm
    rw [z] at e; cases e
/-! ### OpenK's ledger, filled with every new object but one -/
end L2
namespace L2
open PySem PySem.Spec PyProof.Rows
/-- the module's facts, over the base: the heap at the law's entry without what is tracked there -/
structure Mod (K : PySem.W.Frag) (mg : Str → Option Value) (base : Heap) : Prop where
  kin : K.In base
  glob : base.Ns mainGlobals mg
  blt : ∃ mb, base.Ns builtinsNs mb ∧ ∀ x : Str, x ≠ "__name__" → mb x = bootBuiltins x
  nolimit : base.NoLimit
/-- the context: a def's body (or a comprehension's block) running. base: fixed through the whole law; s₀, H₀: the entry; outer: the frames whose slots others may change (a def's callers); stack: all frames that run;
   ex: iterators that were made ahead of the entry and are walked here (a comprehension's); fn: the names whose cells were made at the entry (a def: all; a comprehension's block: its own); calm: not within an except suite; pn: pins that every state bears; xe: what is wanted of an exception that leaves the code -/
structure Cx where
  prog : Program
  w : World
  K : PySem.W.Frag
  mg : Str → Option Value
  base : Heap
  A : Around
  N : List Str
  s_0 : Shared
  H_0 : Hp
  env : Env
  outer : List Env
  stack : List Env
  ex : List Addr
  fn : Str → Bool
  calm : Bool
  pn : List (Addr × Obj)
  xe : Value → Shared → Prop
/-- the callers' frames -/
def frs (l : List Env) : List Addr := l.filterMap (·.frame)
abbrev Cx.fs (X : Cx) : List Addr := frs X.outer
def Vis (sc : Scope) (x : Str) : Prop := sc.names.lookup x = some .local ∨ sc.names.lookup x = some .cell ∨ sc.names.lookup x = some .free
def Loc (sc : Scope) (x : Str) : Prop := sc.names.lookup x = some .local ∨ sc.names.lookup x = some .cell
def Look (env : Env) (h : Heap) (m : Str → Option Value) (x : Str) (u : Value) : Prop :=
  (env.kindOf x = some .local ∧ m x = some u) ∨ ((env.kindOf x = some .cell ∨ env.kindOf x = some .free) ∧ ∃ c, env.cells.lookup x = some c ∧ h.IsCell c (some u))
structure Cx.Ok (X : Cx) : Prop where
  mod : Mod X.K X.mg X.base
  kind : X.env.scope.kind = .function
  glob : X.env.globals = mainGlobals
  blt : X.env.builtins = builtinsNs
  above : X.s_0.heap.objs.size ≤ X.env.locals
  inj : ∀ x y c, X.env.cells.lookup x = some c → X.env.cells.lookup y = some c → x = y
  has : ∀ x, (X.env.kindOf x = some .cell ∨ X.env.kindOf x = some .free) → ∃ c, X.env.cells.lookup x = some c
  cab : ∀ x c, X.fn x = true → X.env.cells.lookup x = some c → X.s_0.heap.objs.size ≤ c
  hd : X.calm = true → X.A.handled = none
  frames : X.A.frames = some X.stack
  stk : X.stack = X.outer ∨ (X.stack = X.env :: X.outer ∧ X.env.frame = some X.env.locals)
  exf : ∀ b ∈ X.ex, b ≠ X.env.locals ∧ ∀ x c, X.env.cells.lookup x = some c → c ≠ b
  bs : ∀ b o, X.base.get? b = some o → X.s_0.heap.get? b = some o ∧ X.H_0 b = none
  bsz : X.base.objs.size ≤ X.s_0.heap.objs.size
  noex : ∀ b o, X.base.get? b = some o → b ∉ X.ex
  exfs : ∀ b ∈ X.ex, b ∉ X.fs
  funs : X.s_0.heap.FunFrames X.base X.outer
  frf : ∀ b ∈ X.fs, X.H_0 b = none
structure Inv (X : Cx) (pins : List (Addr × Obj)) (σ : List (Option V)) (H : Hp) (s : Shared) : Prop where
  ok : X.Ok
  os : s.os = X.s_0.os
  bare : AllBare s.gens
  base : Un X.fs X.ex X.H_0 H X.s_0.heap s.heap
  loc : ∃ m, s.heap.Ns X.env.locals m ∧ ∀ (i : Nat) (x : Str) (v : V), X.N[i]? = some x → σ[i]? = some (some v) → Vis X.env.scope x → ∃ u, RelV v u ∧ Look X.env s.heap m x u
  cell : ∀ x c, X.env.cells.lookup x = some c → ∃ v, s.heap.IsCell c v
  free : H X.env.locals = none
  freeC : ∀ x c, X.env.cells.lookup x = some c → H c = none
  pin : ∀ p ∈ X.pn ++ pins, s.heap.get? p.1 = some p.2 ∧ H p.1 = none ∧ p.1 ≠ X.env.locals ∧ p.1 ∉ X.fs ∧ ∀ v, p.2.data ≠ .cell v
  hok : HOk X.prog X.w H s.heap
  len : σ.length = X.N.length
section
variable {X : Cx} {pins : List (Addr × Obj)} {σ : List (Option V)} {H H' : Hp} {s : Shared} {h' : Heap}
theorem Cx.Ok.nofr (ok : X.Ok) {b : Addr} {o : Obj} (e : X.base.get? b = some o) : b ∉ X.fs := fun hb => by
  have := (ok.funs.mem hb).1
  rw [e] at this; cases this
theorem Inv.bs (I : Inv X pins σ H s) : ∀ b o, X.base.get? b = some o → s.heap.get? b = some o ∧ H b = none := fun b o e =>
  ⟨I.base.keep b o (I.ok.bs b o e).1 (I.ok.bs b o e).2 (I.ok.nofr e) (I.ok.noex b o e), I.base.free b o (I.ok.bs b o e).1 (I.ok.bs b o e).2 (I.ok.noex b o e)⟩
theorem Inv.bk (I : Inv X pins σ H s) : ∀ b o, X.base.get? b = some o → s.heap.get? b = some o := fun b o e => (I.bs b o e).1
theorem Inv.mod (I : Inv X pins σ H s) : Mod X.K X.mg X.base := I.ok.mod
theorem Inv.kIn (I : Inv X pins σ H s) : X.K.In s.heap := I.ok.mod.kin.keeps I.bk
theorem Inv.lt (I : Inv X pins σ H s) : X.env.locals < s.heap.objs.size := let ⟨_, hn, _⟩ := I.loc; hn.lt
theorem Inv.sz (I : Inv X pins σ H s) : X.s_0.heap.objs.size ≤ s.heap.objs.size := Nat.le_trans I.ok.above (Nat.le_of_lt I.lt)
theorem Inv.nofs (I : Inv X pins σ H s) {a : Addr} (h : s.heap.objs.size ≤ a) : a ∉ X.fs := fun hb => by
  obtain ⟨_, o, ho, _⟩ := I.ok.funs.mem hb
  exact absurd (Nat.lt_of_lt_of_le (Heap.lt_size ho) (Nat.le_trans I.sz h)) (Nat.lt_irrefl _)
theorem Inv.cne (I : Inv X pins σ H s) : ∀ x c, X.env.cells.lookup x = some c → c ≠ X.env.locals := fun x c e z => by
  obtain ⟨v, o, ho, hd⟩ := I.cell x c e
  obtain ⟨m, ⟨o', es, ep, ho', hd', _⟩, _⟩ := I.loc
  rw [z, ho'] at ho; cases ho; rw [hd'] at hd; cases hd
theorem Inv.funs (I : Inv X pins σ H s) : s.heap.FunFrames X.base X.outer := by
  have all : ∀ (l : List Env), (∀ b ∈ frs l, b ∈ X.fs) → X.s_0.heap.FunFrames X.base l → s.heap.FunFrames X.base l := by
    intro l
    induction l with
    | nil => intro _ _; trivial
    | cons env r ih =>
      intro hs hl
      obtain ⟨hk, ⟨L, o, hf, hn, ho, hd⟩, hr⟩ := hl
      have hL : L ∈ X.fs := hs L (by unfold frs; rw [List.filterMap_cons, hf]; exact List.mem_cons_self)
      obtain ⟨sl, e⟩ := I.base.slot L o ho (I.ok.frf L hL) hL fun z => I.ok.exfs L z hL
      exact ⟨hk, ⟨L, _, hf, hn, e, hd⟩, ih (fun b hb => hs b (by unfold frs; rw [List.filterMap_cons, hf]; exact List.mem_cons_of_mem _ hb)) hr⟩
  exact all X.outer (fun _ hb => hb) I.ok.funs
/-- the frames that run, for a call -/
theorem Inv.stack (I : Inv X pins σ H s) : s.heap.FunFrames X.base X.stack := by
  rcases I.ok.stk with e | ⟨e, hf⟩
  · rw [e]; exact I.funs
  · rw [e]
    obtain ⟨m, hn, _⟩ := I.loc
    refine .cons (by rw [I.ok.kind]; decide) hf hn ?_ I.funs
    exact Heap.get?_none_of_le (Nat.le_trans I.ok.bsz I.ok.above)
theorem Inv.stkSub (I : Inv X pins σ H s) : ∀ b ∈ frs X.stack, b ∈ X.env.locals :: X.fs := fun b hb => by
  rcases I.ok.stk with e | ⟨e, hf⟩
  · rw [e] at hb; exact List.mem_cons_of_mem _ hb
  · rw [e] at hb
    unfold frs at hb
    rw [List.filterMap_cons, hf] at hb
    exact hb
theorem Inv.stkFree (I : Inv X pins σ H s) : ∀ b ∈ frs X.stack, H b = none := fun b hb => by
  rcases List.mem_cons.mp (I.stkSub b hb) with e | hb
  · rw [e]; exact I.free
  · obtain ⟨_, o, ho, _⟩ := I.ok.funs.mem hb
    exact I.base.free b o ho (I.ok.frf b hb) fun z => I.ok.exfs b z hb
/-- THE STEP: the untracked objects but the frame and the records at ch are kept (the callers' frames up to slots), the frame's map is kept, the new abstract heap is held -/
theorem Inv.step {g' : Array GenState} {t' : Nat} {d' : Drawn} {ch : List Addr} (I : Inv X pins σ H s)
    (hch : ∀ b ∈ ch, (b ∈ X.ex ∨ X.s_0.heap.objs.size ≤ b) ∧ b ≠ X.env.locals ∧ (∀ x c, X.env.cells.lookup x = some c → c ≠ b) ∧ ∀ p ∈ X.pn ++ pins, p.1 ≠ b)
    (keep : ∀ b o, b ≠ X.env.locals → b ∉ X.fs → b ∉ ch → s.heap.get? b = some o → H b = none → h'.get? b = some o)
    (slot : ∀ b o, b ≠ X.env.locals → b ∈ X.fs → b ∉ ch → s.heap.get? b = some o → H b = none → ∃ sl, h'.get? b = some { o with slots := sl }) (free : ∀ b o, b ∉ ch → s.heap.get? b = some o → H b = none → H' b = none)
    (there : ∀ b o, b ∉ ch → s.heap.get? b = some o → ∃ o', h'.get? b = some o')
    (tups : ∀ b xs, H b = some (.tup xs) → H' b = some (.tup xs)) (frzs : ∀ b o u, H b = some (.frz o u) → H' b = some (.frz o u)) (tbls : ∀ b ps, H b = some (.tbl ps) → ∃ more, H' b = some (.tbl (ps ++ more)))
    (ns : ∀ m, s.heap.Ns X.env.locals m → h'.Ns X.env.locals m) (hok : HOk X.prog X.w H' h') (hg : AllBare g') :
    Inv X pins σ H' { s with heap := h', gens := g', drawn := d', toks := t' } := by
  have neL : ∀ b o, X.s_0.heap.get? b = some o → b ≠ X.env.locals := fun b o e => Nat.ne_of_lt (Nat.lt_of_lt_of_le (Heap.lt_size e) I.ok.above)
  have neC : ∀ b o, X.s_0.heap.get? b = some o → b ∉ X.ex → b ∉ ch := fun b o e hx hb => by
    rcases (hch b hb).1 with z | z
    · exact hx z
    · exact absurd (Nat.lt_of_lt_of_le (Heap.lt_size e) z) (Nat.lt_irrefl _)
  have cellK : ∀ x c, X.env.cells.lookup x = some c → ∀ v, s.heap.IsCell c v → h'.IsCell c v := fun x c e v ⟨o, ho, hd⟩ => by
    have nch : c ∉ ch := fun z => (hch c z).2.2.1 x c e rfl
    by_cases hc : c ∈ X.fs
    · obtain ⟨sl, q⟩ := slot c o (I.cne x c e) hc nch ho (I.freeC x c e)
      exact ⟨_, q, hd⟩
    · exact ⟨o, keep c o (I.cne x c e) hc nch ho (I.freeC x c e), hd⟩
  refine ⟨I.ok, I.os, hg, ⟨fun b o e n hb hx => ?_, fun b o e n hb hx => ?_, fun b o e n hx => ?_, fun b o e hx => ?_, fun b xs e => tups b xs (I.base.tups b xs e), fun b o xs e => frzs b o xs (I.base.frzs b o xs e), fun b ps e => ?_⟩, ?_, fun x c e => ?_, ?_, fun x c e => ?_, fun p hp => ?_, hok, I.len⟩
  · exact keep b o (neL b o e) hb (neC b o e hx) (I.base.keep b o e n hb hx) (I.base.free b o e n hx)
  · obtain ⟨sl, e1⟩ := I.base.slot b o e n hb hx
    obtain ⟨sl', e2⟩ := slot b _ (neL b o e) hb (neC b o e hx) e1 (I.base.free b o e n hx)
    exact ⟨sl', e2⟩
  · obtain ⟨o', e1⟩ := I.base.there b o e hx
    exact free b o' (neC b o e hx) e1 (I.base.free b o e n hx)
  · obtain ⟨o', e1⟩ := I.base.there b o e hx
    exact there b o' (neC b o e hx) e1
  · obtain ⟨m1, e1⟩ := I.base.tbls b ps e
    obtain ⟨m2, e2⟩ := tbls b _ e1
    exact ⟨m1 ++ m2, by rw [e2, Array.append_assoc]⟩
  · obtain ⟨m, hn, hl⟩ := I.loc
    refine ⟨m, ns m hn, fun i x v e1 e2 e3 => ?_⟩
    obtain ⟨u, r, l⟩ := hl i x v e1 e2 e3
    refine ⟨u, r, ?_⟩
    rcases l with l | ⟨k, c, e, z⟩
    · exact .inl l
    · exact .inr ⟨k, c, e, cellK x c e _ z⟩
  · obtain ⟨v, z⟩ := I.cell x c e
    exact ⟨v, cellK x c e v z⟩
  · obtain ⟨m, ⟨o, _, _, ho, _⟩, _⟩ := I.loc
    exact free _ o (fun z => (hch _ z).2.1 rfl) ho I.free
  · obtain ⟨v, o, ho, hd⟩ := I.cell x c e
    exact free c o (fun z => (hch c z).2.2.1 x c e rfl) ho (I.freeC x c e)
  · obtain ⟨e, n, ne, nf, d⟩ := I.pin p hp
    have nch : p.1 ∉ ch := fun z => (hch p.1 z).2.2.2 p hp rfl
    exact ⟨keep p.1 p.2 ne nf nch e n, free p.1 p.2 nch e n, ne, nf, d⟩
/-- .. where the frame's own object is kept too -/
theorem Inv.un {t' : Nat} (I : Inv X pins σ H s) (u : Un X.fs [] H H' s.heap h') (hok : HOk X.prog X.w H' h') : Inv X pins σ H' { s with heap := h', toks := t' } := by
  obtain ⟨m, ⟨o, es, ep, ho, r⟩, _⟩ := id I.loc
  obtain ⟨sl, hL⟩ := u.any ho I.free (by simp)
  exact I.step (g' := s.gens) (d' := s.drawn) (ch := []) (fun _ z => nomatch z) (fun b o _ hb _ e n => u.keep b o e n hb (by simp)) (fun b o _ hb _ e n => u.slot b o e n hb (by simp)) (fun b o _ e n => u.free b o e n (by simp)) (fun b o _ e => u.there b o e (by simp)) u.tups u.frzs u.tbls (fun m' hm => by
    obtain ⟨o', es', ep', ho', r'⟩ := hm
    rw [ho] at ho'; cases ho'
    exact ⟨_, es', ep', hL, r'⟩) hok I.bare
/-- behind a call (or a comprehension's block): the slots of this frame may have changed too, the records at ch may have turned -/
theorem Inv.call {g' : Array GenState} {t' : Nat} {d' : Drawn} {ch : List Addr} (I : Inv X pins σ H s) (u : Un (frs X.stack) ch H H' s.heap h') (hok : HOk X.prog X.w H' h') (hg : AllBare g')
    (hch : ∀ b ∈ ch, (b ∈ X.ex ∨ X.s_0.heap.objs.size ≤ b) ∧ b ≠ X.env.locals ∧ (∀ x c, X.env.cells.lookup x = some c → c ≠ b) ∧ ∀ p ∈ X.pn ++ pins, p.1 ≠ b) :
    Inv X pins σ H' { s with heap := h', gens := g', drawn := d', toks := t' } := by
  obtain ⟨m, ⟨o, es, ep, ho, r⟩, _⟩ := id I.loc
  obtain ⟨sl, hL⟩ := u.any ho I.free fun z => (hch _ z).2.1 rfl
  exact I.step (ch := ch) hch (fun b o hL hb hc e n => u.keep b o e n (fun z => (List.mem_cons.mp (I.stkSub b z)).elim hL hb) hc) (fun b o _ _ hc e n => u.any e n hc) (fun b o hc e n => u.free b o e n hc) (fun b o hc e => u.there b o e hc) u.tups u.frzs u.tbls (fun m' hm => by
    obtain ⟨o', es', ep', ho', r'⟩ := hm
    rw [ho] at ho'; cases ho'
    exact ⟨_, es', ep', hL, r'⟩) hok hg
/-- an untracked record of ours (an iterator) has turned -/
theorem Inv.turned {t' : Nat} {it : Addr} (I : Inv X pins σ H s) (k : ∀ b o, b ≠ it → s.heap.get? b = some o → h'.get? b = some o) (hn : H it = none) (hL : it ≠ X.env.locals)
    (h1 : it ∈ X.ex ∨ X.s_0.heap.objs.size ≤ it) (h2 : ∀ x c, X.env.cells.lookup x = some c → c ≠ it) (h3 : ∀ p ∈ X.pn ++ pins, p.1 ≠ it) : Inv X pins σ H { s with heap := h', toks := t' } := by
  have nit : ∀ b u, H b = some u → b ≠ it := fun b u e z => by rw [z, hn] at e; cases e
  refine I.step (g' := s.gens) (d' := s.drawn) (ch := [it]) (fun b hb => ?_) (fun b o _ _ hc e _ => k b o (fun z => hc (by simp [z])) e) (fun b o _ _ hc e _ => ⟨o.slots, k b o (fun z => hc (by simp [z])) e⟩) (fun _ _ _ _ n => n)
    (fun b o hc e => ⟨o, k b o (fun z => hc (by simp [z])) e⟩) (fun _ _ e => e) (fun _ _ _ e => e) (fun b ps e => ⟨#[], by rw [e]; simp⟩) (fun m hm => ?_) (fun b u e => ?_) I.bare
  · have e : b = it := by simpa using hb
    subst e
    exact ⟨h1, hL, h2, h3⟩
  · obtain ⟨o, es, ep, ho, r⟩ := hm
    exact ⟨o, es, ep, k _ o (Ne.symm hL) ho, r⟩
  · refine (I.hok b u e).stay (fun c v hc q => k c v ?_ q) (fun _ q => q) fun _ _ q => q
    rcases hc with z | z
    · rw [z]; exact nit b u e
    · exact nit c _ z
theorem Inv.tok (I : Inv X pins σ H s) (t : Nat) : Inv X pins σ H { s with toks := t } := I.un (h' := s.heap) (t' := t) Un.refl I.hok
/-- all objects kept -/
theorem Inv.kept {t' : Nat} (I : Inv X pins σ H s) (k : ∀ b u, s.heap.get? b = some u → h'.get? b = some u) : Inv X pins σ H { s with heap := h', toks := t' } := I.un (Un.kept k) (I.hok.kept k)
/-- a new object laid and tracked -/
theorem Inv.laid {a : Addr} {o : HO} {t' : Nat} (I : Inv X pins σ H s) (k : ∀ b u, s.heap.get? b = some u → h'.get? b = some u) (hp : s.heap.objs.size ≤ a) (new : ObjOk X.prog X.w (upd H a o) h' a o) :
    Inv X pins σ (upd H a o) { s with heap := h', toks := t' } := I.un (Un.laid k hp (I.hok.fresh hp)) (I.hok.laid k hp new)
/-- an object written -/
theorem Inv.write {x e : Addr} {o : HO} {t' : Nat} (I : Inv X pins σ H s) (mu : Mut (H x)) (he : e = x ∨ H e = some (.own x)) (k : ∀ b u, b ≠ e → s.heap.get? b = some u → h'.get? b = some u) (heo : ∃ u, h'.get? e = some u)
    (new : ObjOk X.prog X.w (upd H x o) h' x o) : Inv X pins σ (upd H x o) { s with heap := h', toks := t' } := I.un (Un.write mu he k heo) (I.hok.write mu he k heo new)
/-- forgetting slots, pins -/
theorem Inv.weak {σ' : List (Option V)} (I : Inv X pins σ H s) (hl : σ'.length = σ.length) (w : ∀ (i : Nat) v, σ'[i]? = some (some v) → σ[i]? = some (some v)) : Inv X pins σ' H s :=
  ⟨I.ok, I.os, I.bare, I.base, let ⟨m, hn, hl'⟩ := I.loc; ⟨m, hn, fun i x v e1 e2 e3 => hl' i x v e1 (w i v e2) e3⟩, I.cell, I.free, I.freeC, I.pin, I.hok, hl.trans I.len⟩
theorem Inv.pins_of {pins' : List (Addr × Obj)} (I : Inv X pins σ H s) (h : ∀ p ∈ pins', s.heap.get? p.1 = some p.2 ∧ H p.1 = none ∧ p.1 ≠ X.env.locals ∧ p.1 ∉ X.fs ∧ ∀ v, p.2.data ≠ .cell v) : Inv X pins' σ H s :=
  ⟨I.ok, I.os, I.bare, I.base, I.loc, I.cell, I.free, I.freeC, fun p hp => (List.mem_append.mp hp).elim (fun z => I.pin p (List.mem_append_left _ z)) (h p), I.hok, I.len⟩
theorem nodup_ix {N : List Str} (hN : N.Nodup) {i j : Nat} {x : Str} (a : N[i]? = some x) (b : N[j]? = some x) : i = j := by
  obtain ⟨h1, e1⟩ := List.getElem?_eq_some_iff.mp a
  obtain ⟨h2, e2⟩ := List.getElem?_eq_some_iff.mp b
  exact (List.getElem_inj hN).mp (e1.trans e2.symm)
/-- a name is stored; what changed -/
theorem store_ok2 {M : Model} {A : Around} {E : Value → Shared → Prop} {i : Nat} {x : Str} {v : V} {u : Value} {Q : Unit → Shared → Prop} (I : Inv X pins σ H s) (hN : X.N.Nodup) (hi : X.N[i]? = some x) (hx : Loc X.env.scope x) (r : RelV v u)
    (h : ∀ s', Inv X pins (σ.set i (some v)) H s' → (∃ a, Heap.SameBut a s.heap s'.heap ∧ (a = X.env.locals ∨ X.env.cells.lookup x = some a)) → Q () s') (hf : X.fn x = true ∨ X.env.scope.names.lookup x = some .local := by first | exact .inl rfl | exact .inr rfl | assumption) : wpAny M A (storeName X.env x u) Q E s := by
  obtain ⟨m, hn, hl⟩ := id I.loc
  have hcls : (X.env.scope.kind == .class || (X.env.scope.kind == .module && X.env.locals != X.env.globals)) = false := by rw [I.ok.kind]; rfl
  have hiσ : i < σ.length := by rw [I.len]; exact (List.getElem?_eq_some_iff.mp hi).1
  have cne := I.cne
  have tracked : ∀ {a : Addr} {h' : Heap}, (∃ o, s.heap.get? a = some o ∧ H a = none) → Heap.SameBut a s.heap h' → HOk X.prog X.w H h' := fun {a h'} ha hs b ob e => by
    obtain ⟨_, _, hfree⟩ := ha
    refine (I.hok b ob e).stay (fun c w' hc q => (hs.2 c ?_).trans q) (fun _ q => q) fun _ _ q => q
    rintro rfl
    rcases hc with rfl | hc
    · rw [hfree] at e; cases e
    · rw [hfree] at hc; cases hc
  rcases hx with hk | hk
  · refine wpAny_storeName_local hk hn (fun h' hn' hs => ?_) hcls
    obtain ⟨oL, _, _, hoL, _⟩ := id hn
    refine h _ ⟨I.ok, I.os, I.bare, ⟨fun b o e n hb hx => ?_, fun b o e n hb hx => ?_, I.base.free, fun b o e hx => ?_, I.base.tups, I.base.frzs, I.base.tbls⟩, ⟨_, hn', fun j y v' e1 e2 e3 => ?_⟩, fun y c e => ?_, I.free, I.freeC, fun p hp => ?_, tracked ⟨oL, hoL, I.free⟩ hs, by simpa using I.len⟩ ⟨_, hs, .inl rfl⟩
    · exact (hs.2 b (Nat.ne_of_lt (Nat.lt_of_lt_of_le (Heap.lt_size e) I.ok.above))).trans (I.base.keep b o e n hb hx)
    · obtain ⟨sl, e1⟩ := I.base.slot b o e n hb hx
      exact ⟨sl, (hs.2 b (Nat.ne_of_lt (Nat.lt_of_lt_of_le (Heap.lt_size e) I.ok.above))).trans e1⟩
    · obtain ⟨o', e1⟩ := I.base.there b o e hx
      exact ⟨o', (hs.2 b (Nat.ne_of_lt (Nat.lt_of_lt_of_le (Heap.lt_size e) I.ok.above))).trans e1⟩
    · by_cases hj : j = i
      · subst hj
        rw [hi] at e1; cases e1
        rw [List.getElem?_set_self hiσ] at e2
        cases e2
        exact ⟨u, r, .inl ⟨hk, by simp⟩⟩
      · rw [List.getElem?_set_ne (Ne.symm hj)] at e2
        obtain ⟨u', r', q⟩ := hl j y v' e1 e2 e3
        refine ⟨u', r', ?_⟩
        rcases q with ⟨k, e⟩ | ⟨k, c, e, z⟩
        · refine .inl ⟨k, ?_⟩
          have : y ≠ x := fun e => hj (nodup_ix hN e1 (e ▸ hi))
          simp [this, e]
        · exact .inr ⟨k, c, e, z.sameBut hs (cne y c e)⟩
    · obtain ⟨w', z⟩ := I.cell y c e
      exact ⟨w', z.sameBut hs (cne y c e)⟩
    · obtain ⟨e, n, ne, nf, d⟩ := I.pin p hp
      exact ⟨(hs.2 p.1 ne).trans e, n, ne, nf, d⟩
  · have hfn : X.fn x = true := by
      rcases hf with z | z
      · exact z
      · rw [z] at hk; cases hk
    obtain ⟨c, hc⟩ := I.ok.has x (.inl hk)
    obtain ⟨w', z⟩ := I.cell x c hc
    refine wpAny_storeName_cell I.ok.kind hk hc z (fun h' hc' hs => ?_)
    obtain ⟨oc, hoc, hocd⟩ := id z
    refine h { s with heap := h' } ⟨I.ok, I.os, I.bare, ⟨fun b o e n hb hx => ?_, fun b o e n hb hx => ?_, I.base.free, fun b o e hx => ?_, I.base.tups, I.base.frzs, I.base.tbls⟩, ⟨m, hn.sameBut hs (Ne.symm (cne x c hc)), fun j y v' e1 e2 e3 => ?_⟩, fun y c' e => ?_, I.free, I.freeC, fun p hp => ?_, tracked ⟨oc, hoc, I.freeC x c hc⟩ hs, by simpa using I.len⟩ ⟨c, hs, .inr hc⟩
    · exact (hs.2 b (Nat.ne_of_lt (Nat.lt_of_lt_of_le (Heap.lt_size e) (I.ok.cab x c hfn hc)))).trans (I.base.keep b o e n hb hx)
    · obtain ⟨sl, e1⟩ := I.base.slot b o e n hb hx
      exact ⟨sl, (hs.2 b (Nat.ne_of_lt (Nat.lt_of_lt_of_le (Heap.lt_size e) (I.ok.cab x c hfn hc)))).trans e1⟩
    · obtain ⟨o', e1⟩ := I.base.there b o e hx
      exact ⟨o', (hs.2 b (Nat.ne_of_lt (Nat.lt_of_lt_of_le (Heap.lt_size e) (I.ok.cab x c hfn hc)))).trans e1⟩
    · by_cases hj : j = i
      · subst hj
        rw [hi] at e1; cases e1
        rw [List.getElem?_set_self hiσ] at e2
        cases e2
        exact ⟨u, r, .inr ⟨.inl hk, c, hc, hc'⟩⟩
      · rw [List.getElem?_set_ne (Ne.symm hj)] at e2
        obtain ⟨u', r', q⟩ := hl j y v' e1 e2 e3
        refine ⟨u', r', ?_⟩
        rcases q with q | ⟨k, c', e, z'⟩
        · exact .inl q
        · refine .inr ⟨k, c', e, z'.sameBut hs ?_⟩
          rintro rfl
          exact hj (nodup_ix hN e1 (I.ok.inj _ _ _ e hc ▸ hi))
    · by_cases hcc : c' = c
      · subst hcc; exact ⟨_, hc'⟩
      · obtain ⟨w2, z2⟩ := I.cell y c' e
        exact ⟨w2, z2.sameBut hs hcc⟩
    · obtain ⟨e, n, ne, nf, d⟩ := I.pin p hp
      refine ⟨(hs.2 p.1 ?_).trans e, n, ne, nf, d⟩
      intro q
      rw [q, hoc] at e
      have q' : oc = p.2 := Option.some.inj e
      exact d w' (by rw [← q']; exact hocd)
theorem store_ok {M : Model} {A : Around} {E : Value → Shared → Prop} {i : Nat} {x : Str} {v : V} {u : Value} {Q : Unit → Shared → Prop} (I : Inv X pins σ H s) (hN : X.N.Nodup) (hi : X.N[i]? = some x) (hx : Loc X.env.scope x) (r : RelV v u)
    (h : ∀ s', Inv X pins (σ.set i (some v)) H s' → Q () s') (hf : X.fn x = true ∨ X.env.scope.names.lookup x = some .local := by first | exact .inl rfl | exact .inr rfl | assumption) : wpAny M A (storeName X.env x u) Q E s :=
  store_ok2 I hN hi hx r (fun s' I' _ => h s' I') hf
/-- behind a call or a block, the state as it is -/
theorem Inv.call' {s' : Shared} {ch : List Addr} (I : Inv X pins σ H s) (ho : s'.os = s.os) (u : Un (frs X.stack) ch H H' s.heap s'.heap) (hok : HOk X.prog X.w H' s'.heap) (hg : AllBare s'.gens)
    (hch : ∀ b ∈ ch, (b ∈ X.ex ∨ X.s_0.heap.objs.size ≤ b) ∧ b ≠ X.env.locals ∧ (∀ x c, X.env.cells.lookup x = some c → c ≠ b) ∧ ∀ p ∈ X.pn ++ pins, p.1 ≠ b) : Inv X pins σ H' s' := by
  obtain ⟨h', g', d', t', o'⟩ := s'
  have e : o' = s.os := ho
  subst e
  exact I.call (g' := g') (t' := t') (d' := d') u hok hg hch
end
/-! ### the judgements -/
/-- an exception: its class, its own dict's address (where it has one), the abstract heap behind it -/
abbrev XK := Value → Option Addr → Hp → Prop
abbrev St := List (Option V)
abbrev VK := V → Hp → Prop
/-- an expression's reading; a test's; an argument list's -/
abbrev TE := St → Hp → VK → Prop
abbrev TT := St → Hp → (Bool → Hp → Prop) → Prop
abbrev TA := St → Hp → (List V → Hp → Prop) → Prop
/-- what is wanted behind a statement -/
structure Ends where
  nx : St → Hp → Prop
  rt : VK
  bk : St → Hp → Prop := fun _ _ => False
  ct : St → Hp → Prop := fun _ _ => False
abbrev TS := Ends → St → Hp → Prop
def EP (X : Cx) (pins : List (Addr × Obj)) (σ : St) (Q : VK) (u : Value) (s' : Shared) : Prop := ∃ v H', Inv X pins σ H' s' ∧ RelV v u ∧ Q v H'
def TP (X : Cx) (pins : List (Addr × Obj)) (σ : St) (Q : Bool → Hp → Prop) (b : Bool) (s' : Shared) : Prop := ∃ H', Inv X pins σ H' s' ∧ Q b H'
def AP (X : Cx) (pins : List (Addr × Obj)) (σ : St) (Q : List V → Hp → Prop) (us : List Value) (s' : Shared) : Prop := ∃ vs H', Inv X pins σ H' s' ∧ Vals vs us ∧ Q vs H'
def SP (X : Cx) (pins : List (Addr × Obj)) (D : Ends) (f : Flow) (s' : Shared) : Prop :=
  match f with
  | .next => ∃ σ' H', Inv X pins σ' H' s' ∧ D.nx σ' H'
  | .brk => ∃ σ' H', Inv X pins σ' H' s' ∧ D.bk σ' H'
  | .cont => ∃ σ' H', Inv X pins σ' H' s' ∧ D.ct σ' H'
  | .ret u => ∃ v σ' H', Inv X pins σ' H' s' ∧ RelV v u ∧ D.rt v H'
def PE (X : Cx) (e : Expr) (t : TE) : Prop :=
  ∀ (pins : List (Addr × Obj)) (s : Shared) (σ : St) (H : Hp) (Q : VK), Inv X pins σ H s → t σ H Q → wpAny (model X.prog X.w) X.A (eval e X.env) (EP X pins σ Q) X.xe s
def PT (X : Cx) (e : Expr) (t : TT) : Prop :=
  ∀ (pins : List (Addr × Obj)) (s : Shared) (σ : St) (H : Hp) (Q : Bool → Hp → Prop), Inv X pins σ H s → t σ H Q → wpAny (model X.prog X.w) X.A (isTrue e X.env (eval e X.env)) (TP X pins σ Q) X.xe s
/-- a test whatever its 'whole' is (and, or) -/
def PW (X : Cx) (e : Expr) (t : TT) : Prop :=
  ∀ (whole : Sem Value) (pins : List (Addr × Obj)) (s : Shared) (σ : St) (H : Hp) (Q : Bool → Hp → Prop), Inv X pins σ H s → t σ H Q → wpAny (model X.prog X.w) X.A (isTrue e X.env whole) (TP X pins σ Q) X.xe s
theorem PW.pt {X : Cx} {e : Expr} {t : TT} (h : PW X e t) : PT X e t := h _
/-- an argument list (no star), from the left -/
def PA (X : Cx) (es : List Expr) (t : TA) : Prop :=
  ∀ (pos : Pos) (pins : List (Addr × Obj)) (s : Shared) (σ : St) (H : Hp) (Q : List V → Hp → Prop), Inv X pins σ H s → t σ H Q → wpAny (model X.prog X.w) X.A (spliced (backTo pos (starEach es X.env))) (AP X pins σ Q) X.xe s
def PS (X : Cx) (st : Stmt) (t : TS) : Prop :=
  ∀ (pins : List (Addr × Obj)) (s : Shared) (σ : St) (H : Hp) (D : Ends), Inv X pins σ H s → t D σ H → wpAny (model X.prog X.w) X.A (exec st X.env) (SP X pins D) X.xe s
def PSs (X : Cx) (st : List Stmt) (t : TS) : Prop :=
  ∀ (pins : List (Addr × Obj)) (s : Shared) (σ : St) (H : Hp) (D : Ends), Inv X pins σ H s → t D σ H → wpAny (model X.prog X.w) X.A (execs st X.env) (SP X pins D) X.xe s
/-- weaken the end -/
theorem thn {α : Type} {t : Sem α} {Q Q' : α → Shared → Prop} {M : Model} {A : Around} {E : Value → Shared → Prop} {s : Shared} (h : wpAny M A t Q E s) (hQ : ∀ a s, Q a s → Q' a s) : wpAny M A t Q' E s := wpAny_mono h hQ fun _ _ x => x
end L2
namespace L2
open PySem PySem.Spec PyProof.Rows
section
variable {X : Cx}
/-! ### names and constants -/
def tVar (i : Nat) : TE := fun σ H Q => ∃ v, σ[i]? = some (some v) ∧ Q v H
def tC (v : V) : TE := fun _ H Q => Q v H
theorem pe_var {i : Nat} {x : Str} {pos : Pos} (hN : X.N[i]? = some x) (hv : Vis X.env.scope x) (hd : (x == ("__debug__" : Str)) = false := by decide) (hcd : (x == ("__classdict__" : Str)) = false := by decide) : PE X (.Name x pos) (tVar i) := by
  intro pins s σ H Q I h
  obtain ⟨v, e, h⟩ := h
  obtain ⟨m, hn, hl⟩ := I.loc
  obtain ⟨u, r, l⟩ := hl i x v hN e hv
  have fin : EP X pins σ Q u s := ⟨v, H, I, r, h⟩
  rcases l with ⟨hk, hm⟩ | ⟨hk, c, hc, hcell⟩
  · exact wpAny_Name (wpAny_loadName_local I.ok.kind hk hn hm fin) hd
  · rcases hk with hk | hk
    · exact wpAny_Name (wpAny_loadName_cell I.ok.kind hk hc hcell fin) hd
    · exact wpAny_Name (wpAny_loadName_free I.ok.kind hk hc hcell fin hcd) hd
theorem pe_int {i j pos} : PE X (.Constant (.int i) j pos) (tC (.int i)) := fun _ _ _ H _ I h => wpAny_Constant_int ⟨.int i, H, I.tok _, ⟨_, rfl⟩, h⟩
theorem pe_bl {b j pos} : PE X (.Constant (.bool b) j pos) (tC (.bl b)) := fun _ _ _ H _ I h => Constant_bool ⟨.bl b, H, I, rfl, h⟩
theorem pe_non {j pos} : PE X (.Constant .none j pos) (tC .non) := fun _ _ _ H _ I h => Constant_none ⟨.non, H, I, rfl, h⟩
/-- a global name of the def -/
def Gl (X : Cx) (x : Str) : Prop := X.env.kindOf x = some .globalImplicit
theorem ld_glob {E : Value → Shared → Prop} {pins : List (Addr × Obj)} {s : Shared} {σ : St} {H : Hp} {x : Str} {u : Value} {pos : Pos} {Q : Value → Shared → Prop} (I : Inv X pins σ H s) (hg : Gl X x) (hm : X.mg x = some u) (h : Q u s)
    (hd : (x == ("__debug__" : Str)) = false := by decide) : wpAny (model X.prog X.w) X.A (eval (.Name x pos) X.env) Q E s :=
  Calls.Name_function_global I.ok.kind hg (Calls.loadGlobal_global (by rw [I.ok.glob]; exact I.mod.glob.keeps I.bk) hm h) hd
theorem ld_blt {E : Value → Shared → Prop} {pins : List (Addr × Obj)} {s : Shared} {σ : St} {H : Hp} {x : Str} {u : Value} {pos : Pos} {Q : Value → Shared → Prop} (I : Inv X pins σ H s) (hg : Gl X x) (hm : X.mg x = none) (hv : bootBuiltins x = some u) (h : Q u s)
    (hn : x ≠ "__name__" := by decide) (hd : (x == ("__debug__" : Str)) = false := by decide) : wpAny (model X.prog X.w) X.A (eval (.Name x pos) X.env) Q E s := by
  obtain ⟨mb, h1, h2⟩ := I.mod.blt
  exact Calls.Name_function_global I.ok.kind hg (Calls.loadGlobal_builtin (by rw [I.ok.glob]; exact I.mod.glob.keeps I.bk) hm (by rw [I.ok.blt]; exact h1.keeps I.bk) ((h2 x hn).trans hv) h) hd
/-- a module's constant, a class, a function, as a value -/
theorem pe_glob {x : Str} {v : V} {u : Value} {pos : Pos} (hg : Gl X x) (hm : X.mg x = some u) (r : RelV v u) (hd : (x == ("__debug__" : Str)) = false := by decide) : PE X (.Name x pos) (tC v) :=
  fun _ _ _ H _ I h => ld_glob I hg hm ⟨v, H, I, r, h⟩ hd
/-! ### arithmetic -/
variable {a b : Expr} {ta tb : TE} {pos : Pos}
/-! ### comparisons -/
def PC (X : Cx) (op : CmpOp) (a b : Expr) (t : TE) : Prop :=
  ∀ (pins : List (Addr × Obj)) (s : Shared) (σ : St) (H : Hp) (Q : VK), Inv X pins σ H s → t σ H Q →
    wpAny (model X.prog X.w) X.A (eval a X.env) (fun v s₁ => wpAny (model X.prog X.w) X.A (eval b X.env) (fun u s₂ => wpAny (model X.prog X.w) X.A (compareOp op v u) (EP X pins σ Q) X.xe s₂) X.xe s₁) X.xe s
/-- a comparison as a value, as a test -/
def tB (t : TE) : TT := fun σ H Q => t σ H fun x H1 => ∃ c, x = .bl c ∧ Q c H1
theorem pe_cmp {op : CmpOp} {t : TE} (h : PC X op a b t) (h1 : behindInMarks op b = false := by first | exact nobehind _ (by decide) (by decide) | rfl) : PE X (.Compare a [op] [b] pos) t := fun pins s σ H Q I hw => wpAny_Compare1 (h pins s σ H Q I hw) h1
/-- an expression whose value is a bool, as a test -/
theorem pt_val {e : Expr} {t : TE} (h : PE X e t) (he : ∀ whole, isTrue e X.env whole = (do let v ← whole; standAt e.pos; holding [v] (truthy v)) := by intro _; rfl) : PT X e (tB t) := by
  intro pins s σ H Q I hw
  refine isTrue_plain (thn (h pins s σ H _ I hw) fun v s1 ⟨x, H1, I1, r1, q1⟩ => ?_) (he _)
  obtain ⟨d, rfl, q⟩ := q1
  cases r1
  exact wpAny_truthy_bool ⟨H1, I1, q⟩
/-! ### and, or, not -/
variable {tA tB' : TT} {rest : List Expr}
def tAnd (t u : TT) : TT := fun σ H Q => t σ H fun c H1 => if c = true then u σ H1 Q else Q false H1
def tOr (t u : TT) : TT := fun σ H Q => t σ H fun c H1 => if c = true then Q true H1 else u σ H1 Q
def tNot (t : TT) : TT := fun σ H Q => t σ H fun c H1 => Q (!c) H1
theorem pw_and1 (ha : PT X a tA) : PW X (.BoolOp .And [a] pos) tA := by
  intro wh pins s σ H Q I h
  refine isTrue_and (thn (ha pins s σ H Q I h) fun c s1 e => ?_)
  cases c with
  | true => exact isTrue_and_nil e
  | false => exact e
theorem pw_or1 (ha : PT X a tA) : PW X (.BoolOp .Or [a] pos) tA := by
  intro wh pins s σ H Q I h
  refine isTrue_or (thn (ha pins s σ H Q I h) fun c s1 e => ?_)
  cases c with
  | false => exact isTrue_or_nil e
  | true => exact e
theorem pw_and (ha : PT X a tA) (hb : PW X (.BoolOp .And (b :: rest) pos) tB') : PW X (.BoolOp .And (a :: b :: rest) pos) (tAnd tA tB') := by
  intro wh pins s σ H Q I h
  refine isTrue_and (thn (ha pins s σ H _ I h) fun c s1 ⟨H1, I1, q1⟩ => ?_)
  cases c with
  | true => exact hb wh pins s1 σ H1 Q I1 q1
  | false => exact ⟨H1, I1, q1⟩
theorem pw_or (ha : PT X a tA) (hb : PW X (.BoolOp .Or (b :: rest) pos) tB') : PW X (.BoolOp .Or (a :: b :: rest) pos) (tOr tA tB') := by
  intro wh pins s σ H Q I h
  refine isTrue_or (thn (ha pins s σ H _ I h) fun c s1 ⟨H1, I1, q1⟩ => ?_)
  cases c with
  | true => exact ⟨H1, I1, q1⟩
  | false => exact hb wh pins s1 σ H1 Q I1 q1
theorem pt_not (ha : PT X a tA) : PT X (.UnaryOp .Not a pos) (tNot tA) := by
  intro pins s σ H Q I h
  exact isTrue_not (ha pins s σ H (fun c H1 => Q (!c) H1) I h)
/-- .. as values (bools) -/
def tAndV (ta tb : TE) : TE := fun σ H Q => ta σ H fun x H1 => ∃ c, x = .bl c ∧ if c = true then tb σ H1 Q else Q (.bl false) H1
def tOrV (ta tb : TE) : TE := fun σ H Q => ta σ H fun x H1 => ∃ c, x = .bl c ∧ if c = true then Q (.bl true) H1 else tb σ H1 Q
def tNotV (ta : TE) : TE := fun σ H Q => ta σ H fun x H1 => ∃ c, x = .bl c ∧ Q (.bl (!c)) H1
theorem pe_one {op} {t : TE} (h : PE X a t) : PE X (.BoolOp op [a] pos) t := fun pins s σ H Q I hw => BoolOp_one (h pins s σ H Q I hw)
theorem pe_and (ha : PE X a ta) (hb : PE X (.BoolOp .And (b :: rest) pos) tb) : PE X (.BoolOp .And (a :: b :: rest) pos) (tAndV ta tb) := by
  intro pins s σ H Q I h
  refine BoolOp_and (thn (ha pins s σ H _ I h) fun v s1 ⟨x, H1, I1, r1, q1⟩ => ?_)
  obtain ⟨c, rfl, q1⟩ := q1
  cases r1
  refine wpAny_truthy_bool ?_
  cases c with
  | true => exact hb pins s1 σ H1 Q I1 q1
  | false => exact ⟨.bl false, H1, I1, rfl, q1⟩
theorem pe_or (ha : PE X a ta) (hb : PE X (.BoolOp .Or (b :: rest) pos) tb) : PE X (.BoolOp .Or (a :: b :: rest) pos) (tOrV ta tb) := by
  intro pins s σ H Q I h
  refine BoolOp_or (thn (ha pins s σ H _ I h) fun v s1 ⟨x, H1, I1, r1, q1⟩ => ?_)
  obtain ⟨c, rfl, q1⟩ := q1
  cases r1
  refine wpAny_truthy_bool ?_
  cases c with
  | false => exact hb pins s1 σ H1 Q I1 q1
  | true => exact ⟨.bl true, H1, I1, rfl, q1⟩
theorem pe_not (ha : PE X a ta) : PE X (.UnaryOp .Not a pos) (tNotV ta) := by
  intro pins s σ H Q I h
  refine UnaryOp_ (thn (ha pins s σ H _ I h) fun v s1 ⟨x, H1, I1, r1, q1⟩ => ?_)
  obtain ⟨c, rfl, q1⟩ := q1
  cases r1
  exact not_of (wpAny_truthy_bool ⟨.bl (!c), H1, I1, rfl, q1⟩)
/-- a if t else b -/
def tIf (t : TT) (ta tb : TE) : TE := fun σ H Q => t σ H fun c H1 => if c = true then ta σ H1 Q else tb σ H1 Q
theorem pe_ifExp {c : Expr} (hc : PT X c tA) (ha : PE X a ta) (hb : PE X b tb) : PE X (.IfExp c a b pos) (tIf tA ta tb) := by
  intro pins s σ H Q I h
  refine wpAny_IfExp (thn (hc pins s σ H _ I h) fun d s1 ⟨H1, I1, q1⟩ => ?_)
  cases d with
  | true => exact ha pins s1 σ H1 Q I1 q1
  | false => exact hb pins s1 σ H1 Q I1 q1
end
end L2
namespace L2
open PySem PySem.Spec PyProof.Rows
/-! ### a list, a tuple that is read: tracked, frozen, or an object of the module -/
def SqL (K : PySem.W.Frag) (H : Hp) (a : Addr) (xs : List V) : Prop :=
  Rd H a (.lst xs) ∨
    ∃ (o : Obj) (its : Array Value) (n : Nat), K.lookup a = some o ∧ o.cls = .type "list" ∧ o.dict = none ∧ o.data = .seq its n ∧ its.size ≤ sizeLine ∧ Vals xs its.toList
def SqT (K : PySem.W.Frag) (H : Hp) (a : Addr) (xs : List V) : Prop :=
  Rd H a (.tup xs) ∨
    ∃ (o : Obj) (its : Array Value) (n : Nat), K.lookup a = some o ∧ o.cls = .type "tuple" ∧ o.data = .seq its n ∧ its.size ≤ sizeLine ∧ Vals xs its.toList
def absV : Value → Option V
  | .none => some .non
  | .bool b => some (.bl b)
  | .int i _ => some (.int i)
  | .str x _ => some (.str x)
  | .bytes b _ => some (.byt b)
  | .float b _ => some (.flt b)
  | .ref a => some (.ref a)
  | .type n => some (.ty n)
  | _ => none
theorem RelV.abs {x : V} {u : Value} (r : RelV x u) : absV u = some x := by
  cases x with
  | non => cases r; rfl
  | bl _ => cases r; rfl
  | int _ => obtain ⟨t, rfl⟩ := r; rfl
  | str _ => obtain ⟨t, rfl⟩ := r; rfl
  | byt _ => obtain ⟨t, rfl⟩ := r; rfl
  | flt _ => obtain ⟨t, rfl⟩ := r; rfl
  | ref _ => cases r; rfl
  | ty _ => cases r; rfl
theorem RelV.inj {x y : V} {u : Value} (r : RelV x u) (q : RelV y u) : x = y := Option.some.inj (r.abs.symm.trans q.abs)
theorem Vals.inj : ∀ {xs ys : List V} {us : List Value}, Vals xs us → Vals ys us → xs = ys
  | _, _, _, .nil, .nil => rfl
  | _, _, _, .cons r t, .cons r' t' => by rw [r.inj r', Vals.inj t t']
section
variable {X : Cx} {pins : List (Addr × Obj)} {σ : St} {H : Hp} {s : Shared} {a : Addr} {xs ys : List V}
theorem SqL.of {K : PySem.W.Frag} (h : H a = some (.lst xs)) : SqL K H a xs := .inl (.inl h)
theorem SqT.of {K : PySem.W.Frag} (h : H a = some (.tup xs)) : SqT K H a xs := .inl (.inl h)
theorem Inv.list (I : Inv X pins σ H s) (h : SqL X.K H a xs) : ∃ its : List Value, Vals xs its ∧ PlainL s.heap a its.toArray ∧ xs.length ≤ sizeLine := by
  rcases h with h | ⟨o, its, n, hk, hc, hd, hs, hz, r⟩
  · obtain ⟨z, its, n, r, e⟩ := h.ok I.hok
    exact ⟨its, r, ⟨_, n, e, rfl, rfl, rfl⟩, z⟩
  · refine ⟨its.toList, r, ⟨o, n, I.kIn a o hk, hc, hd, by simpa using hs⟩, ?_⟩
    have e := r.length
    simp only [Array.length_toList] at e
    omega
theorem Inv.tuple (I : Inv X pins σ H s) (h : SqT X.K H a xs) : ∃ its : List Value, Vals xs its ∧ IsTup s.heap a its.toArray ∧ xs.length ≤ sizeLine := by
  rcases h with h | ⟨o, its, n, hk, hc, hs, hz, r⟩
  · obtain ⟨z, its, r, p⟩ := h.ok I.hok
    exact ⟨its, r, p, z⟩
  · refine ⟨its.toList, r, ⟨o, I.kIn a o hk, hc, n, by simpa using hs⟩, ?_⟩
    have e := r.length
    simp only [Array.length_toList] at e
    omega
theorem Inv.list_inj (I : Inv X pins σ H s) (h : SqL X.K H a xs) (h' : SqL X.K H a ys) : xs = ys := by
  obtain ⟨its, r, ⟨o, n, e, _, _, d⟩, _⟩ := I.list h
  obtain ⟨its', r', ⟨o', n', e', _, _, d'⟩, _⟩ := I.list h'
  rw [e] at e'; cases e'
  rw [d] at d'
  injection d' with d1 _
  have : its = its' := by simpa using congrArg Array.toList d1
  subst this
  exact r.inj r'
theorem Inv.tuple_inj (I : Inv X pins σ H s) (h : SqT X.K H a xs) (h' : SqT X.K H a ys) : xs = ys := by
  obtain ⟨its, r, ⟨o, e, _, n, d⟩, _⟩ := I.tuple h
  obtain ⟨its', r', ⟨o', e', _, n', d'⟩, _⟩ := I.tuple h'
  rw [e] at e'; cases e'
  rw [d] at d'
  injection d' with d1 _
  have : its = its' := by simpa using congrArg Array.toList d1
  subst this
  exact r.inj r'
end
/-! ### another wish about exceptions -/
abbrev Cx.wish (X : Cx) (E : Value → Shared → Prop) : Cx := { X with xe := E }
/-- no exception leaves -/
abbrev Cx.nox (X : Cx) : Cx := X.wish fun _ _ => False
theorem Cx.Ok.wish {X : Cx} (ok : X.Ok) (E : Value → Shared → Prop) : (X.wish E).Ok :=
  ⟨ok.mod, ok.kind, ok.glob, ok.blt, ok.above, ok.inj, ok.has, ok.cab, ok.hd, ok.frames, ok.stk, ok.exf, ok.bs, ok.bsz, ok.noex, ok.exfs, ok.funs, ok.frf⟩
theorem Cx.Ok.unwish {X : Cx} {E : Value → Shared → Prop} (ok : (X.wish E).Ok) : X.Ok :=
  ⟨ok.mod, ok.kind, ok.glob, ok.blt, ok.above, ok.inj, ok.has, ok.cab, ok.hd, ok.frames, ok.stk, ok.exf, ok.bs, ok.bsz, ok.noex, ok.exfs, ok.funs, ok.frf⟩
section
variable {X : Cx} {pins : List (Addr × Obj)} {σ : St} {H : Hp} {s : Shared} {E : Value → Shared → Prop}
theorem Inv.wish (I : Inv X pins σ H s) (E : Value → Shared → Prop) : Inv (X.wish E) pins σ H s := ⟨I.ok.wish E, I.os, I.bare, I.base, I.loc, I.cell, I.free, I.freeC, I.pin, I.hok, I.len⟩
theorem Inv.unwish (I : Inv (X.wish E) pins σ H s) : Inv X pins σ H s := ⟨I.ok.unwish, I.os, I.bare, I.base, I.loc, I.cell, I.free, I.freeC, I.pin, I.hok, I.len⟩
theorem SP.unwish {D : Ends} {f : Flow} {s' : Shared} (h : SP (X.wish E) pins D f s') : SP X pins D f s' := by
  cases f with
  | next => obtain ⟨σ', H', I, q⟩ := h; exact ⟨σ', H', I.unwish, q⟩
  | brk => obtain ⟨σ', H', I, q⟩ := h; exact ⟨σ', H', I.unwish, q⟩
  | cont => obtain ⟨σ', H', I, q⟩ := h; exact ⟨σ', H', I.unwish, q⟩
  | ret u => obtain ⟨v, σ', H', I, r, q⟩ := h; exact ⟨v, σ', H', I.unwish, r, q⟩
theorem PSs.nox {st : List Stmt} {t : TS} (h : PSs X.nox st t) : PSs X st t := fun pins s σ H D I hw =>
  wpAny_mono (h pins s σ H D (I.wish _) hw) (fun _ _ q => q.unwish) fun _ _ z => False.elim z
end
/-! ### blocks and small statements -/
section
variable {X : Cx} {st : Stmt} {rest : List Stmt} {t u : TS} {e : Expr} {te : TE} {pos : Pos}
def tNext : TS := fun D σ H => D.nx σ H
def tSeq (t u : TS) : TS := fun D σ H => t { D with nx := u D } σ H
theorem pss_nil : PSs X [] tNext := fun _ _ σ H _ I h => wpAny_execs_nil ⟨σ, H, I, h⟩
theorem pss_cons (h1 : PS X st t) (h2 : PSs X rest u) : PSs X (st :: rest) (tSeq t u) := by
  intro pins s σ H D I h
  refine wpAny_execs_cons (thn (h1 pins s σ H { D with nx := u D } I h) fun f s1 q => ?_)
  cases f with
  | next =>
    obtain ⟨σ', H', I', q⟩ := q
    exact h2 pins s1 σ' H' D I' q
  | ret v => exact q
  | brk => exact q
  | cont => exact q
theorem pss_one (h1 : PS X st t) : PSs X [st] t := by
  intro pins s σ H D I h
  refine wpAny_execs_cons (thn (h1 pins s σ H D I h) fun f s1 q => ?_)
  cases f with
  | next => exact wpAny_execs_nil q
  | ret v => exact q
  | brk => exact q
  | cont => exact q
/-- in a def's body nothing is shown -/
theorem Inv.quiet {pins : List (Addr × Obj)} {σ : St} {H : Hp} {s : Shared} (I : Inv X pins σ H s) : interactive X.env = false := by simp [interactive, I.ok.kind]
/-- an expression whose value is dropped -/
def tDrop (te : TE) : TS := fun D σ H => te σ H fun _ H1 => D.nx σ H1
theorem ps_expr (he : PE X e te) (hs : swapsWith e none pos.line X.env = pure false := by rfl) : PS X (.Expr e pos) (tDrop te) := by
  intro pins s σ H D I h
  exact wpAny_Expr_any (thn (he pins s σ H _ I h) fun v s1 ⟨x, H1, I1, r1, q1⟩ => ⟨σ, H1, I1, q1⟩) I.quiet hs
def tRet (te : TE) : TS := fun D σ H => te σ H D.rt
theorem ps_ret (he : PE X e te) : PS X (.Return (some e) pos) (tRet te) := by
  intro pins s σ H D I h
  exact wpAny_Return_some (thn (he pins s σ H _ I h) fun v s1 ⟨x, H1, I1, r1, q1⟩ => ⟨x, σ, H1, I1, r1, q1⟩)
def tIfS (c : TT) (t u : TS) : TS := fun D σ H => c σ H fun b H1 => if b = true then t D σ H1 else u D σ H1
theorem ps_if {c : Expr} {a b : List Stmt} {tc : TT} (hc : PT X c tc) (ha : PSs X a t) (hb : PSs X b u) : PS X (.If c a b pos) (tIfS tc t u) := by
  intro pins s σ H D I h
  refine wpAny_If (thn (hc pins s σ H _ I h) fun d s1 ⟨H1, I1, q1⟩ => ?_)
  cases d with
  | true => exact ha pins s1 σ H1 D I1 q1
  | false => exact hb pins s1 σ H1 D I1 q1
end
/-! ### targets -/
abbrev TG := V → St → Hp → (St → Hp → Prop) → Prop
def PG (X : Cx) (target : Expr) (t : TG) : Prop :=
  ∀ (pins : List (Addr × Obj)) (s : Shared) (σ : St) (H : Hp) (v : V) (u : Value) (Q : St → Hp → Prop), Inv X pins σ H s → RelV v u → t v σ H Q →
    wpAny (model X.prog X.w) X.A (assign target X.env u) (fun _ s' => ∃ σ' H', Inv X pins σ' H' s' ∧ Q σ' H') X.xe s
/-- o[i] = v, by values -/
abbrev TSet := V → V → V → Hp → (Hp → Prop) → Prop
def PSet (X : Cx) (t : TSet) : Prop :=
  ∀ (pins : List (Addr × Obj)) (s : Shared) (σ : St) (H : Hp) (o i v : V) (ov iv u : Value) (Q : Hp → Prop), Inv X pins σ H s → RelV o ov → RelV i iv → RelV v u → t o i v H Q →
    wpAny (model X.prog X.w) X.A (setItem ov iv u) (fun _ s' => ∃ H', Inv X pins σ H' s' ∧ Q H') X.xe s
/-- a op= b, by values -/
abbrev TIp := V → V → Hp → VK → Prop
def PIp (X : Cx) (op : Operator) (t : TIp) : Prop :=
  ∀ (pins : List (Addr × Obj)) (s : Shared) (σ : St) (H : Hp) (x y : V) (v u : Value) (Q : VK), Inv X pins σ H s → RelV x v → RelV y u → t x y H Q →
    wpAny (model X.prog X.w) X.A (inplaceOp op v u) (EP X pins σ Q) X.xe s
section
variable {X : Cx} {pos : Pos}
def gName (i : Nat) : TG := fun v σ H Q => Q (σ.set i (some v)) H
theorem pg_name {i : Nat} {x : Str} (hN : X.N.Nodup) (hi : X.N[i]? = some x) (hx : Loc X.env.scope x) (hf : X.fn x = true ∨ X.env.scope.names.lookup x = some .local := by first | exact .inl rfl | exact .inr rfl | assumption) : PG X (.Name x pos) (gName i) := by
  intro pins s σ H v u Q I r h
  exact wpAny_assign_Name (store_ok I hN hi hx r (fun s' I' => ⟨_, H, I', h⟩) hf)
/-- o[i] = .. -/
def gSub (to ti : TE) (t : TSet) : TG := fun v σ H Q => to σ H fun o H1 => ti σ H1 fun i H2 => t o i v H2 fun H3 => Q σ H3
theorem pg_sub {o i : Expr} {to ti : TE} {t : TSet} (ho : PE X o to) (hi : PE X i ti) (hs : PSet X t)
    (ha : ∀ v, assign (.Subscript o i pos) X.env v = (do
      let ov ← holding [v] (eval o X.env)
      let iv ← holding [v, ov] (eval i X.env)
      standAt pos
      holding [v, ov, iv] (setItem ov iv v)
      release [v, ov, iv] []) := by intro _; rfl) : PG X (.Subscript o i pos) (gSub to ti t) := by
  intro pins s σ H v u Q I r h
  rw [ha]
  refine wpAny_bind (wpAny_holding (thn (ho pins s σ H _ I h) fun ov s1 ⟨x, H1, I1, r1, q1⟩ => ?_))
  refine wpAny_bind (wpAny_holding (thn (hi pins s1 σ H1 _ I1 q1) fun iv s2 ⟨y, H2, I2, r2, q2⟩ => ?_))
  refine wpAny_bind (wpAny_standAt (wpAny_bind (wpAny_holding (thn (hs pins s2 σ H2 x y v ov iv u _ I2 r1 r2 r q2) fun _ s3 ⟨H3, I3, q3⟩ => ?_))))
  exact wpAny_release ⟨σ, H3, I3, q3⟩
/-- target = value -/
def tAsg (te : TE) (g : TG) : TS := fun D σ H => te σ H fun x H1 => g x σ H1 D.nx
theorem ps_asg {tg e : Expr} {te : TE} {g : TG} (he : PE X e te) (hg : PG X tg g) (hs : swapsWithSole [tg] e pos.line X.env = pure false := by rfl) (hw : swappedStores [tg] e X.env = pure none := by rfl)
    (h1 : (assignEach [tg] X.env).map (·.2) = [assign tg X.env] := by rfl) : PS X (.Assign [tg] e pos) (tAsg te g) := by
  intro pins s σ H D I h
  refine wpAny_Assign_stores (thn (he pins s σ H _ I h) fun v s1 ⟨x, H1, I1, r1, q1⟩ => ?_) hs hw
  rw [h1]
  exact thn (hg pins s1 σ H1 x v _ I1 r1 q1) fun _ s2 q => q
/-- name = value -/
theorem ps_set {i : Nat} {x : Str} {e : Expr} {te : TE} {pos' : Pos} (hN : X.N.Nodup) (hi : X.N[i]? = some x) (hx : Loc X.env.scope x) (he : PE X e te) (hs : swapsWith e (some (.Name x pos')) pos.line X.env = pure false := by rfl) (hf : X.fn x = true ∨ X.env.scope.names.lookup x = some .local := by first | exact .inl rfl | exact .inr rfl | assumption) :
    PS X (.Assign [.Name x pos'] e pos) (tAsg te (gName i)) := by
  intro pins s σ H D I h
  refine wpAny_Assign_Name (thn (he pins s σ H _ I h) fun v s1 ⟨y, H1, I1, r1, q1⟩ => ?_) hs
  exact store_ok I1 hN hi hx r1 (fun s2 I2 => ⟨_, H1, I2, q1⟩) hf
/-- o[i] op= e -/
def tAugS (to ti te : TE) (tget : V → V → Hp → VK → Prop) (tip : TIp) (tset : TSet) : TS := fun D σ H => to σ H fun o H1 => ti σ H1 fun i H2 => tget o i H2 fun x H3 => te σ H3 fun y H4 => tip x y H4 fun z H5 => tset o i z H5 fun H6 => D.nx σ H6
/-- o[i], by values -/
def PGet (X : Cx) (t : V → V → Hp → VK → Prop) : Prop :=
  ∀ (pins : List (Addr × Obj)) (s : Shared) (σ : St) (H : Hp) (o i : V) (ov iv : Value) (Q : VK), Inv X pins σ H s → RelV o ov → RelV i iv → t o i H Q →
    wpAny (model X.prog X.w) X.A (getItem ov iv) (EP X pins σ Q) X.xe s
theorem ps_augS {o i e : Expr} {to ti te : TE} {tget : V → V → Hp → VK → Prop} {tip : TIp} {tset : TSet} {op : Operator} {tpos : Pos} (ho : PE X o to) (hi : PE X i ti) (hg : PGet X tget) (he : PE X e te) (hp : PIp X op tip) (hs : PSet X tset)
    (ha : ∀ ov iv new, augStore i ov iv new = (do holding [new, ov, iv] (setItem ov iv new); release [new, ov, iv] []; pure .next) := by intros; rfl) : PS X (.AugAssign (.Subscript o i tpos) op e pos) (tAugS to ti te tget tip tset) := by
  intro pins s σ H D I h
  refine wpAny_AugAssign_SubscriptAny (thn (ho pins s σ H _ I h) fun ov s1 ⟨x1, H1, I1, r1, q1⟩ => ?_) ha
  refine thn (hi pins s1 σ H1 _ I1 q1) fun iv s2 ⟨x2, H2, I2, r2, q2⟩ => ?_
  refine thn (hg pins s2 σ H2 x1 x2 ov iv _ I2 r1 r2 q2) fun old s3 ⟨x3, H3, I3, r3, q3⟩ => ?_
  refine thn (he pins s3 σ H3 _ I3 q3) fun v s4 ⟨x4, H4, I4, r4, q4⟩ => ?_
  refine thn (hp pins s4 σ H4 x3 x4 old v _ I4 r3 r4 q4) fun new s5 ⟨x5, H5, I5, r5, q5⟩ => ?_
  exact thn (hs pins s5 σ H5 x1 x2 x5 ov iv new _ I5 r1 r2 r5 q5) fun _ s6 ⟨H6, I6, q6⟩ => ⟨σ, H6, I6, q6⟩
/-- ints -/
def ipI (f : Int → Int → Int) : TIp := fun x y H Q => ∃ i j, x = .int i ∧ y = .int j ∧ Q (.int (f i j)) H
theorem ip_add : PIp X .Add (ipI fun i j => i + j) := by
  intro pins s σ H x y v u Q I r1 r2 h
  obtain ⟨i, j, e1, e2, q⟩ := h
  subst e1; subst e2
  obtain ⟨t, rfl⟩ := r1
  obtain ⟨t', rfl⟩ := r2
  exact iadd_int ⟨.int _, H, I.tok _, ⟨_, rfl⟩, q⟩
end
/-! ### while -/
section
variable {X : Cx} {pos : Pos}
/-- the invariant W with its measure -/
def tWhile (c : TT) (tb : TS) : TS := fun D σ H => ∃ W : Nat → St → Hp → Prop, (∃ m, W m σ H) ∧ ∀ m σ H, W m σ H →
  c σ H fun b H1 => if b = true then ∃ N : St → Hp → Prop, (∀ σ' H', N σ' H' → ∃ m', m' < m ∧ W m' σ' H') ∧ tb { D with nx := N, ct := N, bk := D.nx } σ H1 else D.nx σ H1
theorem ps_while {c : Expr} {body : List Stmt} {tc : TT} {tb : TS} (hp : PassesOwn (model X.prog X.w) X.A X.env X.xe) (hc : PT X c tc) (hb : PSs X body tb) : PS X (.While c body [] pos) (tWhile tc tb) := by
  intro pins s σ H D I h
  obtain ⟨W, ⟨m0, w0⟩, turn⟩ := h
  refine wpAny_While (codeAny_whileLoop (fun n s' => ∃ σ' H', Inv X pins σ' H' s' ∧ W n σ' H') ?_ m0 ⟨σ, H, I, w0⟩)
  rintro n s1 ⟨σ1, H1, I1, w1⟩
  refine wpAny_passesOwn hp (thn (hc pins s1 σ1 H1 _ I1 (turn n σ1 H1 w1)) fun b s2 ⟨H2, I2, q2⟩ => ?_)
  cases b with
  | true =>
    obtain ⟨N, hN, q2⟩ := q2
    rw [if_pos rfl]
    refine wpAny_passesOwn hp (thn (hb pins s2 σ1 H2 _ I2 q2) fun f s3 q3 => ?_)
    cases f with
    | next =>
      obtain ⟨σ3, H3, I3, n3⟩ := q3
      obtain ⟨m', hm, w3⟩ := hN σ3 H3 n3
      exact ⟨m', hm, σ3, H3, I3, w3⟩
    | cont =>
      obtain ⟨σ3, H3, I3, n3⟩ := q3
      obtain ⟨m', hm, w3⟩ := hN σ3 H3 n3
      exact ⟨m', hm, σ3, H3, I3, w3⟩
    | brk => exact q3
    | ret v => exact q3
  | false =>
    rw [if_neg Bool.false_ne_true]
    exact wpAny_execs_nil ⟨σ1, H2, I2, q2⟩
end
/-! ### what a loop or a comprehension walks -/
/-- at turn i: it yields x (the heap may grow), or it stops -/
structure It where
  go : Nat → Hp → Prop
  yld : Nat → Hp → V → Hp → Prop
  stop : Nat → Hp → Prop
/-- the iterator's own objects may turn: they are not the frame's, not pinned, younger than the entry (or a comprehension's own) -/
def FpOk (X : Cx) (pins : List (Addr × Obj)) (H : Hp) (b : Addr) : Prop :=
  H b = none ∧ b ≠ X.env.locals ∧ b ∉ X.fs ∧ (b ∈ X.ex ∨ X.s_0.heap.objs.size ≤ b) ∧ (∀ x c, X.env.cells.lookup x = some c → c ≠ b) ∧ ∀ p ∈ X.pn ++ pins, p.1 ≠ b
theorem Inv.fpOk {X : Cx} {pins : List (Addr × Obj)} {σ : St} {H H' : Hp} {s : Shared} {b : Addr} (I : Inv X pins σ H s) (hb : s.heap.objs.size ≤ b) (hn : H' b = none) : FpOk X pins H' b := by
  refine ⟨hn, Nat.ne_of_gt (Nat.lt_of_lt_of_le I.lt hb), I.nofs hb, .inr (Nat.le_trans I.sz hb), fun x c e z => ?_, fun p hp z => ?_⟩
  · obtain ⟨v, q⟩ := I.cell x c e
    exact absurd (Nat.lt_of_lt_of_le q.lt (by rw [z]; exact hb)) (Nat.lt_irrefl _)
  · exact absurd (Nat.lt_of_lt_of_le (Heap.lt_size (I.pin p hp).1) (by rw [z]; exact hb)) (Nat.lt_irrefl _)
structure Turn (P : Program) (w : World) (K : PySem.W.Frag) (tg : Expr) (J : It) (fp : List Addr) (it : Addr) (tn : Nat → Heap → Prop) : Prop where
  mem : it ∈ fp
  obj : ∀ i h, tn i h → ∀ b ∈ fp, ∃ o, h.get? b = some o ∧ ∀ v, o.data ≠ .cell v
  keep : ∀ i h h', tn i h → (∀ b ∈ fp, ∀ o, h.get? b = some o → h'.get? b = some o) → tn i h'
  item : ∀ (X : Cx), X.prog = P → X.w = w → X.K = K → X.calm = true → ∀ (i : Nat) (pins : List (Addr × Obj)) (s : Shared) (σ : St) (H : Hp) (E : Value → Shared → Prop), Inv X pins σ H s → (∀ b ∈ fp, FpOk X pins H b) → tn i s.heap → J.go i H →
    wpAny (model P w) X.A (pyNext (.ref it)) (fun r s1 => ∃ u, r = some u ∧
      wpAny (model P w) X.A (letOwnedTupleGo tg (.ref it) u) (fun _ s2 => ∃ x H', Inv X pins σ H' s2 ∧ RelV x u ∧ J.yld i H x H' ∧ tn (i + 1) s2.heap ∧ ∀ b ∈ fp, H' b = none) E s1) E s
  done : ∀ (X : Cx), X.prog = P → X.w = w → X.K = K → X.calm = true → ∀ (i : Nat) (pins : List (Addr × Obj)) (s : Shared) (σ : St) (H : Hp) (E : Value → Shared → Prop), Inv X pins σ H s → (∀ b ∈ fp, FpOk X pins H b) → tn i s.heap → J.stop i H →
    wpAny (model P w) X.A (pyNext (.ref it)) (fun r s1 => r = none ∧ Inv X pins σ H s1) E s
  self : ∀ (A : Around) (i : Nat) (s : Shared) (Q : Value → Shared → Prop) (E : Value → Shared → Prop), tn i s.heap → Q (.ref it) s → wpAny (model P w) A (pyIter (.ref it)) Q E s
abbrev TI := St → Hp → (It → Hp → Prop) → Prop
/-- an iterator has come -/
def PIE (X : Cx) (pins : List (Addr × Obj)) (σ : St) (tg : Expr) (R : It → Hp → Prop) (itv : Value) (s2 : Shared) : Prop :=
  ∃ (it : Addr) (fp : List Addr) (tn : Nat → Heap → Prop) (J : It) (H' : Hp), itv = .ref it ∧ Inv X pins σ H' s2 ∧ Turn X.prog X.w X.K tg J fp it tn ∧ tn 0 s2.heap ∧ (∀ b ∈ fp, FpOk X pins H' b) ∧ R J H'
def PI (X : Cx) (tg iter : Expr) (wi : TI) : Prop :=
  ∀ (pins : List (Addr × Obj)) (s : Shared) (σ : St) (H : Hp) (R : It → Hp → Prop), Inv X pins σ H s → wi σ H R →
    wpAny (model X.prog X.w) X.A (eval iter X.env) (fun v s1 => wpAny (model X.prog X.w) X.A (pyIter v) (PIE X pins σ tg R) X.xe s1) X.xe s
/-- the step ahead of the store is nothing for an iterator that keeps no tuple -/
theorem go_of {M : Model} {A : Around} {E : Value → Shared → Prop} {s : Shared} {tg : Expr} {it : Addr} {u : Value} {o : Obj} {n : String} {vs : Array Value} {Q : Unit → Shared → Prop} (ho : s.heap.get? it = some o) (hc : o.cls = .type n) (hd : o.data = .fields vs)
    (hn : ["enumerate", "zip", "dict_itemiterator", "dict_reverseitemiterator", "odict_iterator", "itertools.zip_longest", "itertools.pairwise"].contains n = false) (hQ : Q () s) : wpAny M A (letOwnedTupleGo tg (.ref it) u) Q E s := by
  unfold letOwnedTupleGo
  cases tg <;> first
    | exact wpAny_pure hQ
    | (cases u <;> first
        | exact wpAny_pure hQ
        | (refine wpAny_bind (wpAny_load ho ?_)
           rw [hc, hd]
           show wpAny M A (if (["enumerate", "zip", "dict_itemiterator", "dict_reverseitemiterator", "odict_iterator", "itertools.zip_longest", "itertools.pairwise"].contains n && vs[0]? == some (rawInt _)) = true then _ else _) Q E s
           rw [if_neg (by intro h; rw [hn, Bool.false_and] at h; cases h)]
           exact wpAny_pure hQ))
/-- the list at a, as it stands at each turn (a loop may append to it) -/
def Itl (K : PySem.W.Frag) (a : Addr) : It :=
  ⟨fun i H => ∃ xs x, SqL K H a xs ∧ xs[i]? = some x, fun i H x H' => H' = H ∧ ∀ xs, SqL K H a xs → xs[i]? = some x, fun i H => ∃ xs, SqL K H a xs ∧ xs.length ≤ i⟩
def Itt (K : PySem.W.Frag) (a : Addr) : It :=
  ⟨fun i H => ∃ xs x, SqT K H a xs ∧ xs[i]? = some x, fun i H x H' => H' = H ∧ ∀ xs, SqT K H a xs → xs[i]? = some x, fun i H => ∃ xs, SqT K H a xs ∧ xs.length ≤ i⟩
/-- lo, lo + 1, .. (n of them) -/
def Itr (lo : Int) (n : Nat) : It := ⟨fun i _ => i < n, fun i H x H' => H' = H ∧ x = .int (lo + i), fun i _ => n ≤ i⟩
theorem turn_list {P : Program} {w : World} {K : PySem.W.Frag} {tg : Expr} (a it : Addr) : Turn P w K tg (Itl K a) [it] it (fun i h => h.IsListIter it a i) where
  mem := by simp
  obj := fun i h st b hb => by
    have e : b = it := by simpa using hb
    subst e
    obtain ⟨o, e, c, d⟩ := st
    exact ⟨o, e, fun v z => by rw [d] at z; cases z⟩
  keep := fun i h h' st k => st.at fun o e => k it (by simp) o e
  item := by
    intro X hP hw hK hc i pins s σ H E I hf st hg
    subst hP hw hK
    obtain ⟨xs, x, hq, hx⟩ := hg
    obtain ⟨its, rv, p, hz⟩ := I.list hq
    obtain ⟨u, hu, ru⟩ := rv.get hx
    obtain ⟨f0, f1, f2, f3, f4, f5⟩ := hf it (by simp)
    refine wpAny_pyNext_list_item st p.isList (x := u) (by simpa using hu) fun h' st' sb => ?_
    have I1 : Inv X pins σ H { s with heap := h' } := I.turned (t' := s.toks) (fun b o hb e => (sb.2 b hb).trans e) f0 f1 f3 f4 f5
    obtain ⟨o, e, c, d⟩ := id st'
    exact ⟨u, rfl, go_of (s := { s with heap := h' }) e c d (by decide) ⟨x, H, I1, ru, ⟨rfl, fun ys hy => by rw [I.list_inj hy hq]; exact hx⟩, st', fun b hb => (hf b hb).1⟩⟩
  done := by
    intro X hP hw hK hc i pins s σ H E I hf st hg
    subst hP hw hK
    obtain ⟨xs, hq, hx⟩ := hg
    obtain ⟨its, rv, p, hz⟩ := I.list hq
    obtain ⟨f0, f1, f2, f3, f4, f5⟩ := hf it (by simp)
    have hl := rv.length
    exact wpAny_pyNext_list_end (I.ok.hd hc) st p.isList (by simp; omega) fun h' eb => ⟨rfl, I.turned (t' := s.toks) (fun b o hb e => eb b o hb e) f0 f1 f3 f4 f5⟩
  self := fun _ _ _ _ _ st h => wpAny_pyIter_listiter st h
theorem turn_tuple {P : Program} {w : World} {K : PySem.W.Frag} {tg : Expr} (a it : Addr) : Turn P w K tg (Itt K a) [it] it (fun i h => h.IsTupleIter it a i) where
  mem := by simp
  obj := fun i h st b hb => by
    have e : b = it := by simpa using hb
    subst e
    obtain ⟨o, e, c, d⟩ := st
    exact ⟨o, e, fun v z => by rw [d] at z; cases z⟩
  keep := fun i h h' st k => st.at fun o e => k it (by simp) o e
  item := by
    intro X hP hw hK hc i pins s σ H E I hf st hg
    subst hP hw hK
    obtain ⟨xs, x, hq, hx⟩ := hg
    obtain ⟨its, rv, p, hz⟩ := I.tuple hq
    obtain ⟨u, hu, ru⟩ := rv.get hx
    obtain ⟨f0, f1, f2, f3, f4, f5⟩ := hf it (by simp)
    refine wpAny_pyNext_tuple_item st (show s.heap.IsTuple a its.toArray from p) (x := u) (by simpa using hu) fun h' st' sb => ?_
    have I1 : Inv X pins σ H { s with heap := h' } := I.turned (t' := s.toks) (fun b o hb e => (sb.2 b hb).trans e) f0 f1 f3 f4 f5
    obtain ⟨o, e, c, d⟩ := id st'
    exact ⟨u, rfl, go_of (s := { s with heap := h' }) e c d (by decide) ⟨x, H, I1, ru, ⟨rfl, fun ys hy => by rw [I.tuple_inj hy hq]; exact hx⟩, st', fun b hb => (hf b hb).1⟩⟩
  done := by
    intro X hP hw hK hc i pins s σ H E I hf st hg
    subst hP hw hK
    obtain ⟨xs, hq, hx⟩ := hg
    obtain ⟨its, rv, p, hz⟩ := I.tuple hq
    obtain ⟨f0, f1, f2, f3, f4, f5⟩ := hf it (by simp)
    have hl := rv.length
    exact wpAny_pyNext_tuple_end (I.ok.hd hc) st (show s.heap.IsTuple a its.toArray from p) (by simp; omega) fun h' eb => ⟨rfl, I.turned (t' := s.toks) (fun b o hb e => eb b o hb e) f0 f1 f3 f4 f5⟩
  self := fun _ _ _ _ _ st h => wpAny_pyIter_tupleiter st h
theorem turn_range {P : Program} {w : World} {K : PySem.W.Frag} {tg : Expr} (it : Addr) (lo : Int) (n : Nat) : Turn P w K tg (Itr lo n) [it] it (fun i h => IsRangeIter h it (lo + (i : Nat) * 1) ((n : Int) - (i : Nat)) 1) where
  mem := by simp
  obj := fun i h st b hb => by
    have e : b = it := by simpa using hb
    subst e
    exact ⟨_, st, fun v z => by
      have z' : Data.fields _ = Data.cell v := z
      cases z'⟩
  keep := fun i h h' st k => k it (by simp) _ st
  item := by
    intro X hP hw hK hc i pins s σ H E I hf st hg
    subst hP hw hK
    obtain ⟨f0, f1, f2, f3, f4, f5⟩ := hf it (by simp)
    have W := Walks.range (prog := X.prog) (w := X.w) (I.ok.hd hc) it lo 1 n
    refine W.item i s _ _ hg st fun v h' tk hv st' kk => ?_
    obtain ⟨t, rfl⟩ := hv
    have I1 : Inv X pins σ H { s with heap := h', toks := tk } := I.turned (fun b o hb e => kk b o (by simpa using hb) e) f0 f1 f3 f4 f5
    refine ⟨_, rfl, go_of (s := { s with heap := h', toks := tk }) (n := "range_iterator") st' rfl rfl (by decide) ⟨.int (lo + i), H, I1, ⟨t, ?_⟩, ⟨rfl, rfl⟩, st', fun b hb => (hf b hb).1⟩⟩
    rw [Int.mul_one]
  done := by
    intro X hP hw hK hc i pins s σ H E I hf st hg
    subst hP hw hK
    obtain ⟨f0, f1, f2, f3, f4, f5⟩ := hf it (by simp)
    exact wpAny_pyNext_range_end (I.ok.hd hc) st (by have : n ≤ i := hg; omega) fun h' eb => ⟨rfl, I.turned (t' := s.toks) (fun b o hb e => eb b o hb e) f0 f1 f3 f4 f5⟩
  self := fun _ _ _ _ _ st h => wpAny_pyIter_rangeiter st h
end L2
namespace L2
open PySem PySem.Spec PyProof.Rows
section
variable {X : Cx} {tg : Expr}
def iList (K : PySem.W.Frag) (tl : TE) : TI := fun σ H R => tl σ H fun x H1 => ∃ a, x = .ref a ∧ (∃ xs, SqL K H1 a xs) ∧ R (Itl K a) H1
def iTup (K : PySem.W.Frag) (tl : TE) : TI := fun σ H R => tl σ H fun x H1 => ∃ a, x = .ref a ∧ (∃ xs, SqT K H1 a xs) ∧ R (Itt K a) H1
theorem pi_list {l : Expr} {tl : TE} (hl : PE X l tl) : PI X tg l (iList X.K tl) := by
  intro pins s σ H R I h
  refine thn (hl pins s σ H _ I h) fun v s1 ⟨x, H1, I1, r1, q1⟩ => ?_
  obtain ⟨a, e, ⟨xs, hq⟩, q⟩ := q1
  subst e
  cases r1
  obtain ⟨its, rv, p, hz⟩ := I1.list hq
  refine wpAny_pyIter_list p.isList ?_
  refine ⟨s1.heap.objs.size, [s1.heap.objs.size], _, _, H1, rfl, I1.kept (t' := s1.toks) fun b o e => Heap.get?_push_of_some _ e, turn_list a _, ⟨_, Heap.get?_push_size _ rfl, rfl, rfl⟩, fun b hb => ?_, q⟩
  have e : b = s1.heap.objs.size := by simpa using hb
  subst e
  exact I1.fpOk (Nat.le_refl _) (I1.hok.fresh (Nat.le_refl _))
theorem pi_tup {l : Expr} {tl : TE} (hl : PE X l tl) : PI X tg l (iTup X.K tl) := by
  intro pins s σ H R I h
  refine thn (hl pins s σ H _ I h) fun v s1 ⟨x, H1, I1, r1, q1⟩ => ?_
  obtain ⟨a, e, ⟨xs, hq⟩, q⟩ := q1
  subst e
  cases r1
  obtain ⟨its, rv, p, hz⟩ := I1.tuple hq
  refine wpAny_pyIter_tuple (show s1.heap.IsTuple a its.toArray from p) ?_
  refine ⟨s1.heap.objs.size, [s1.heap.objs.size], _, _, H1, rfl, I1.kept (t' := s1.toks) fun b o e => Heap.get?_push_of_some _ e, turn_tuple a _, ⟨_, Heap.get?_push_size _ rfl, rfl, rfl⟩, fun b hb => ?_, q⟩
  have e : b = s1.heap.objs.size := by simpa using hb
  subst e
  exact I1.fpOk (Nat.le_refl _) (I1.hok.fresh (Nat.le_refl _))
/-- a range object just made, walked -/
theorem range_it {pins : List (Addr × Obj)} {σ : St} {H : Hp} {s : Shared} {R : It → Hp → Prop} {E : Value → Shared → Prop} {lo hi : Int} {t u v : Tok} {tk : Nat} (I : Inv X pins σ H s) (h1 : -(2 ^ 62) ≤ lo) (h2 : lo < 2 ^ 62) (h3 : -(2 ^ 62) ≤ hi) (h4 : hi < 2 ^ 62)
    (q : R (Itr lo (hi - lo).toNat) H) : wpAny (model X.prog X.w) X.A (pyIter (.ref s.heap.objs.size)) (PIE X pins σ tg R) E { s with heap := s.heap.push { cls := .type "range", data := .fields #[.int lo t, .int hi u, .int 1 v] }, toks := tk } := by
  refine wpAny_pyIter_range (IsRange.new ..) (small_one h1 h2 h3 h4) ?_
  have I1 : Inv X pins σ H { s with heap := s.heap.push { cls := .type "range", data := .fields #[.int lo t, .int hi u, .int 1 v] }, toks := tk } := I.kept fun b o e => Heap.get?_push_of_some _ e
  refine ⟨(s.heap.push { cls := .type "range", data := .fields #[.int lo t, .int hi u, .int 1 v] }).objs.size, [(s.heap.push { cls := .type "range", data := .fields #[.int lo t, .int hi u, .int 1 v] }).objs.size], _, _, H, rfl,
    I1.kept (t' := tk) fun b o e => Heap.get?_push_of_some _ e, turn_range _ lo (hi - lo).toNat, ?_, fun b hb => ?_, q⟩
  · have e1 : lo + ((0 : Nat) : Int) * 1 = lo := by simp
    have e2 : (((hi - lo).toNat : Nat) : Int) - ((0 : Nat) : Int) = Builtin.Range.rangeSize lo hi 1 := by rw [rangeSize_one]; split <;> omega
    show IsRangeIter _ _ (lo + ((0 : Nat) : Int) * 1) ((((hi - lo).toNat : Nat) : Int) - ((0 : Nat) : Int)) 1
    rw [e1, e2]
    exact Heap.get?_push_size _ rfl
  · have e : b = (s.heap.push { cls := .type "range", data := .fields #[.int lo t, .int hi u, .int 1 v] }).objs.size := by simpa using hb
    subst e
    exact I1.fpOk (Nat.le_refl _) (I1.hok.fresh (Nat.le_refl _))
def iRng1 (ta : TA) : TI := fun σ H R => ta σ H fun vs H1 => ∃ j : Int, vs = [.int j] ∧ -(2 ^ 62) ≤ j ∧ j < 2 ^ 62 ∧ R (Itr 0 j.toNat) H1
def iRng2 (ta : TA) : TI := fun σ H R => ta σ H fun vs H1 => ∃ i j : Int, vs = [.int i, .int j] ∧ (-(2 ^ 62) ≤ i ∧ i < 2 ^ 62 ∧ -(2 ^ 62) ≤ j ∧ j < 2 ^ 62) ∧ R (Itr i (j - i).toNat) H1
theorem pi_range1 {a : Expr} {ta : TA} {p pos : Pos} (hg : Gl X "range") (hm : X.mg "range" = none) (ha : PA X [a] ta) (hs : starEach [a] X.env = [(false, eval a X.env)] := by rfl) : PI X tg (.Call (.Name "range" p) [a] [] pos) (iRng1 ta) := by
  intro pins s σ H R I h
  refine Call_ (ld_blt I hg hm boot_range (PyProof.Rows.callWith_type1 (thn (ha pos pins s σ H _ I h) fun us s1 ⟨vs, H1, I1, r1, q1⟩ => ?_) hs rfl))
  obtain ⟨j, e, q1, q2, q⟩ := q1
  subst e
  cases r1 with
  | cons r rr =>
    cases rr
    obtain ⟨t, rfl⟩ := r
    exact call_range_1 (range_it I1 (by omega) (by omega) q1 q2 (by simpa using q))
theorem pi_range2 {a b : Expr} {ta : TA} {p pos : Pos} (hg : Gl X "range") (hm : X.mg "range" = none) (ha : PA X [a, b] ta) (hs : starEach [a, b] X.env = [(false, eval a X.env), (false, eval b X.env)] := by rfl) (hs2 : starEach [b] X.env = [(false, eval b X.env)] := by rfl) :
    PI X tg (.Call (.Name "range" p) [a, b] [] pos) (iRng2 ta) := by
  intro pins s σ H R I h
  refine Call_ (ld_blt I hg hm boot_range (PyProof.Rows.callWith_type1 (thn (ha pos pins s σ H _ I h) fun us s1 ⟨vs, H1, I1, r1, q1⟩ => ?_) (by rw [hs, hs2]) (by rw [hs2]; rfl)))
  obtain ⟨i, j, e, ⟨q1, q2, q3, q4⟩, q⟩ := q1
  subst e
  cases r1 with
  | cons r rr =>
    cases rr with
    | cons r' rr =>
      cases rr
      obtain ⟨t, rfl⟩ := r
      obtain ⟨t', rfl⟩ := r'
      exact call_range_2 (range_it I1 q1 q2 q3 q4 q)
/-! ### for -/
/-- W: the invariant by the turn and a measure; N: what the body is to reach -/
def tFor (wi : TI) (g : TG) (tb : TS) : TS := fun D σ H => wi σ H fun J H1 => ∃ W : Nat → Nat → St → Hp → Prop, (∃ m, W 0 m σ H1) ∧ ∀ i m σ H, W i m σ H →
  (J.stop i H ∧ D.nx σ H) ∨ (J.go i H ∧ ∃ N : St → Hp → Prop, (∀ σ' H', N σ' H' → ∃ m', m' < m ∧ W (i + 1) m' σ' H') ∧ ∀ x H', J.yld i H x H' → g x σ H' fun σ2 H2 => tb { D with nx := N, ct := N, bk := D.nx } σ2 H2)
/-- the records at fp as they stand -/
def pinsAt (fp : List Addr) (h : Heap) : List (Addr × Obj) := fp.filterMap fun b => (h.get? b).map fun o => (b, o)
theorem mem_pinsAt {fp : List Addr} {h : Heap} {b : Addr} {o : Obj} (hb : b ∈ fp) (e : h.get? b = some o) : (b, o) ∈ pinsAt fp h := List.mem_filterMap.mpr ⟨b, hb, by rw [e]; rfl⟩
theorem of_pinsAt {fp : List Addr} {h : Heap} {p : Addr × Obj} (hp : p ∈ pinsAt fp h) : p.1 ∈ fp ∧ h.get? p.1 = some p.2 := by
  obtain ⟨b, hb, e⟩ := List.mem_filterMap.mp hp
  cases q : h.get? b with
  | none => rw [q] at e; cases e
  | some o =>
    rw [q] at e
    have e' : (b, o) = p := Option.some.inj e
    subst e'
    exact ⟨hb, q⟩
theorem Inv.pinned {pins : List (Addr × Obj)} {σ : St} {H : Hp} {s : Shared} {fp : List Addr} (I : Inv X pins σ H s) (hf : ∀ b ∈ fp, FpOk X pins H b) (ho : ∀ b ∈ fp, ∃ o, s.heap.get? b = some o ∧ ∀ v, o.data ≠ .cell v) : Inv X (pins ++ pinsAt fp s.heap) σ H s :=
  I.pins_of fun p hp => (List.mem_append.mp hp).elim (fun z => I.pin p (List.mem_append_right _ z)) fun z => by
    obtain ⟨hb, e⟩ := of_pinsAt z
    obtain ⟨f0, f1, f2, _⟩ := hf p.1 hb
    obtain ⟨o, e', d⟩ := ho p.1 hb
    rw [e] at e'; cases e'
    exact ⟨e, f0, f1, f2, d⟩
theorem Inv.unpinned {pins pl : List (Addr × Obj)} {σ : St} {H : Hp} {s : Shared} (I : Inv X (pins ++ pl) σ H s) : Inv X pins σ H s := I.pins_of fun p hp => I.pin p (List.mem_append_right _ (List.mem_append_left _ hp))
theorem ps_for {iter : Expr} {body : List Stmt} {wi : TI} {g : TG} {tb : TS} {pos : Pos} (hp : PassesOwn (model X.prog X.w) X.A X.env X.xe) (hc : X.calm = true) (hi : PI X tg iter wi) (hg : PG X tg g) (hb : PSs X body tb)
    (hs : ∀ x, foldedSetIterable iter X.env x = pure x := by intro _; rfl) : PS X (.For tg iter body [] pos) (tFor wi g tb) := by
  intro pins s σ H D I h
  refine wpAny_For (thn (hi pins s σ H _ I h) fun v s1 h1 => thn h1 fun itv s2 h2 => ?_) hs
  obtain ⟨it, fp, tn, J, H2, e, I2, T, st2, f2, W, ⟨m0, w0⟩, turn⟩ := h2
  subst e
  -- what stays true of the iterator's objects through the loop
  have stat : ∀ {H' : Hp}, (∀ b ∈ fp, H' b = none) → ∀ b ∈ fp, FpOk X pins H' b := fun hn b hb => ⟨hn b hb, (f2 b hb).2⟩
  refine codeAny_forLoop_any (fun n s' => ∃ i σ' H', Inv X pins σ' H' s' ∧ tn i s'.heap ∧ (∀ b ∈ fp, H' b = none) ∧ W i n σ' H') ?_ m0 ⟨0, σ, H2, I2, st2, fun b hb => (f2 b hb).1, w0⟩
  rintro n s3 ⟨i, σ3, H3, I3, st3, fr3, w3⟩
  rcases turn i n σ3 H3 w3 with ⟨stop, qn⟩ | ⟨go, N, hN, step⟩
  · refine wpAny_passesOwn hp (thn (T.done X rfl rfl rfl hc i pins s3 σ3 H3 X.xe I3 (stat fr3) st3 stop) fun r s4 ⟨hr, I4⟩ => ?_)
    subst hr
    exact wpAny_execs_nil ⟨σ3, H3, I4, qn⟩
  · refine wpAny_passesOwn hp (thn (T.item X rfl rfl rfl hc i pins s3 σ3 H3 X.xe I3 (stat fr3) st3 go) fun r s4 ⟨u, hr, h4⟩ => ?_)
    subst hr
    refine wpAny_passesOwn hp (thn h4 fun _ s5 ⟨x, H5, I5, r5, y5, st5, fr5⟩ => ?_)
    have I5' := I5.pinned (stat fr5) (T.obj _ _ st5)
    refine wpAny_passesOwn hp (thn (hg _ s5 σ3 H5 x u _ I5' r5 (step x H5 y5)) fun _ s6 ⟨σ6, H6, I6, q6⟩ => ?_)
    refine wpAny_passesOwn hp (thn (hb _ s6 σ6 H6 _ I6 q6) fun f s7 q7 => ?_)
    have again : ∀ {σ7 : St} {H7 : Hp}, Inv X (pins ++ pinsAt fp s5.heap) σ7 H7 s7 → N σ7 H7 → ∃ m, m < n ∧ ∃ i σ' H', Inv X pins σ' H' s7 ∧ tn i s7.heap ∧ (∀ b ∈ fp, H' b = none) ∧ W i m σ' H' := fun {σ7 H7} I7 n7 => by
      obtain ⟨m', hm, w7⟩ := hN σ7 H7 n7
      refine ⟨m', hm, i + 1, σ7, H7, I7.unpinned, T.keep _ _ _ st5 fun b hb o e => (I7.pin (b, o) (List.mem_append_right _ (List.mem_append_right _ (mem_pinsAt hb e)))).1, fun b hb => ?_, w7⟩
      obtain ⟨o, e, d⟩ := T.obj _ _ st5 b hb
      exact (I7.pin (b, o) (List.mem_append_right _ (List.mem_append_right _ (mem_pinsAt hb e)))).2.1
    cases f with
    | next => obtain ⟨σ7, H7, I7, n7⟩ := q7; exact again I7 n7
    | cont => obtain ⟨σ7, H7, I7, n7⟩ := q7; exact again I7 n7
    | brk => obtain ⟨σ7, H7, I7, q7⟩ := q7; exact ⟨σ7, H7, I7.unpinned, q7⟩
    | ret v => obtain ⟨x7, σ7, H7, I7, r7, q7⟩ := q7; exact ⟨x7, σ7, H7, I7.unpinned, r7, q7⟩
end
/-! ### the forms one uses -/
/-- over a list that the body leaves as it is -/
theorem for_list {K : PySem.W.Frag} {a : Addr} {xs : List V} {g : TG} {tb : TS} {D : Ends} {σ : St} {H : Hp} (Pv : Nat → St → Hp → Prop) (h0 : Pv 0 σ H) (hl : ∀ i σ H, i ≤ xs.length → Pv i σ H → SqL K H a xs)
    (hs : ∀ i x σ H, xs[i]? = some x → Pv i σ H → g x σ H fun σ2 H2 => tb { D with nx := Pv (i + 1), ct := Pv (i + 1), bk := D.nx } σ2 H2) (hd : ∀ σ H, Pv xs.length σ H → D.nx σ H) :
    ∃ W : Nat → Nat → St → Hp → Prop, (∃ m, W 0 m σ H) ∧ ∀ i m σ H, W i m σ H →
      ((Itl K a).stop i H ∧ D.nx σ H) ∨ ((Itl K a).go i H ∧ ∃ N : St → Hp → Prop, (∀ σ' H', N σ' H' → ∃ m', m' < m ∧ W (i + 1) m' σ' H') ∧ ∀ x H', (Itl K a).yld i H x H' → g x σ H' fun σ2 H2 => tb { D with nx := N, ct := N, bk := D.nx } σ2 H2) := by
  refine ⟨fun i m σ H => m = xs.length - i ∧ i ≤ xs.length ∧ Pv i σ H, ⟨xs.length, by simp, Nat.zero_le _, h0⟩, ?_⟩
  rintro i m σ H ⟨rfl, hi, p⟩
  have q := hl i σ H hi p
  by_cases hlt : i < xs.length
  · refine .inr ⟨⟨xs, xs[i], q, by simp [hlt]⟩, Pv (i + 1), fun σ' H' p' => ⟨xs.length - (i + 1), by omega, rfl, hlt, p'⟩, fun x H' y => ?_⟩
    obtain ⟨e, y⟩ := y
    subst e
    exact hs i x σ _ (y xs q) p
  · have e : i = xs.length := by omega
    subst e
    exact .inl ⟨⟨xs, q, Nat.le_refl _⟩, hd σ H p⟩
theorem for_tup {K : PySem.W.Frag} {a : Addr} {xs : List V} {g : TG} {tb : TS} {D : Ends} {σ : St} {H : Hp} (Pv : Nat → St → Hp → Prop) (h0 : Pv 0 σ H) (hl : ∀ i σ H, i ≤ xs.length → Pv i σ H → SqT K H a xs)
    (hs : ∀ i x σ H, xs[i]? = some x → Pv i σ H → g x σ H fun σ2 H2 => tb { D with nx := Pv (i + 1), ct := Pv (i + 1), bk := D.nx } σ2 H2) (hd : ∀ σ H, Pv xs.length σ H → D.nx σ H) :
    ∃ W : Nat → Nat → St → Hp → Prop, (∃ m, W 0 m σ H) ∧ ∀ i m σ H, W i m σ H →
      ((Itt K a).stop i H ∧ D.nx σ H) ∨ ((Itt K a).go i H ∧ ∃ N : St → Hp → Prop, (∀ σ' H', N σ' H' → ∃ m', m' < m ∧ W (i + 1) m' σ' H') ∧ ∀ x H', (Itt K a).yld i H x H' → g x σ H' fun σ2 H2 => tb { D with nx := N, ct := N, bk := D.nx } σ2 H2) := by
  refine ⟨fun i m σ H => m = xs.length - i ∧ i ≤ xs.length ∧ Pv i σ H, ⟨xs.length, by simp, Nat.zero_le _, h0⟩, ?_⟩
  rintro i m σ H ⟨rfl, hi, p⟩
  have q := hl i σ H hi p
  by_cases hlt : i < xs.length
  · refine .inr ⟨⟨xs, xs[i], q, by simp [hlt]⟩, Pv (i + 1), fun σ' H' p' => ⟨xs.length - (i + 1), by omega, rfl, hlt, p'⟩, fun x H' y => ?_⟩
    obtain ⟨e, y⟩ := y
    subst e
    exact hs i x σ _ (y xs q) p
  · have e : i = xs.length := by omega
    subst e
    exact .inl ⟨⟨xs, q, Nat.le_refl _⟩, hd σ H p⟩
theorem for_range {lo : Int} {n : Nat} {g : TG} {tb : TS} {D : Ends} {σ : St} {H : Hp} (Pv : Nat → St → Hp → Prop) (h0 : Pv 0 σ H)
    (hs : ∀ i σ H, i < n → Pv i σ H → g (.int (lo + i)) σ H fun σ2 H2 => tb { D with nx := Pv (i + 1), ct := Pv (i + 1), bk := D.nx } σ2 H2) (hd : ∀ σ H, Pv n σ H → D.nx σ H) :
    ∃ W : Nat → Nat → St → Hp → Prop, (∃ m, W 0 m σ H) ∧ ∀ i m σ H, W i m σ H →
      ((Itr lo n).stop i H ∧ D.nx σ H) ∨ ((Itr lo n).go i H ∧ ∃ N : St → Hp → Prop, (∀ σ' H', N σ' H' → ∃ m', m' < m ∧ W (i + 1) m' σ' H') ∧ ∀ x H', (Itr lo n).yld i H x H' → g x σ H' fun σ2 H2 => tb { D with nx := N, ct := N, bk := D.nx } σ2 H2) := by
  refine ⟨fun i m σ H => m = n - i ∧ i ≤ n ∧ Pv i σ H, ⟨n, by simp, Nat.zero_le _, h0⟩, ?_⟩
  rintro i m σ H ⟨rfl, hi, p⟩
  by_cases hlt : i < n
  · refine .inr ⟨hlt, Pv (i + 1), fun σ' H' p' => ⟨n - (i + 1), by omega, rfl, hlt, p'⟩, fun x H' y => ?_⟩
    obtain ⟨e, y⟩ := y
    subst e y
    exact hs i σ _ hlt p
  · have e : i = n := by omega
    subst e
    exact .inl ⟨Nat.le_refl _, hd σ H p⟩
end L2
namespace L2
open PySem PySem.Spec PyProof.Rows
abbrev R2 := V → V → Hp → VK → Prop
/-- a two-place operation on values: f is binaryOp op, inplaceOp op or compareOp op -/
def OpR (X : Cx) (f : Value → Value → Sem Value) (r : R2) : Prop :=
  ∀ (pins : List (Addr × Obj)) (s : Shared) (σ : St) (H : Hp) (x y : V) (v u : Value) (Q : VK), Inv X pins σ H s → RelV x v → RelV y u → r x y H Q →
    wpAny (model X.prog X.w) X.A (f v u) (EP X pins σ Q) X.xe s
/-- a one-place operation -/
def UnR (X : Cx) (f : Value → Sem Value) (r : V → Hp → VK → Prop) : Prop :=
  ∀ (pins : List (Addr × Obj)) (s : Shared) (σ : St) (H : Hp) (x : V) (v : Value) (Q : VK), Inv X pins σ H s → RelV x v → r x H Q →
    wpAny (model X.prog X.w) X.A (f v) (EP X pins σ Q) X.xe s
/-- a call of a value that is known (a builtin, a type) with values -/
def CallR (X : Cx) (f : Value) (r : List V → Hp → VK → Prop) : Prop :=
  ∀ (pins : List (Addr × Obj)) (s : Shared) (σ : St) (H : Hp) (xs : List V) (us : List Value) (Q : VK), Inv X pins σ H s → Vals xs us → r xs H Q →
    wpAny (model X.prog X.w) X.A (call f us) (EP X pins σ Q) X.xe s
def tOp (r : R2) (ta tb : TE) : TE := fun σ H Q => ta σ H fun x H1 => tb σ H1 fun y H2 => r x y H2 Q
def tUn (r : V → Hp → VK → Prop) (ta : TE) : TE := fun σ H Q => ta σ H fun x H1 => r x H1 Q
/-- ints in, under C, and a value out -/
def rI (C : Int → Int → Prop) (g : Int → Int → V) : R2 := fun x y H Q => ∃ i j, x = .int i ∧ y = .int j ∧ C i j ∧ Q (g i j) H
def rI0 (g : Int → Int → V) : R2 := fun x y H Q => ∃ i j, x = .int i ∧ y = .int j ∧ Q (g i j) H
def rU (g : Int → V) : V → Hp → VK → Prop := fun x H Q => ∃ i, x = .int i ∧ Q (g i) H
section
variable {X : Cx} {a b c : Expr} {ta tb tc : TE} {pos : Pos}
theorem binT (ha : PE X a ta) (hb : PE X b tb) {pins : List (Addr × Obj)} {s : Shared} {σ : St} {H : Hp} {R : V → V → Hp → Prop} (I : Inv X pins σ H s)
    (h : ta σ H fun x H1 => tb σ H1 fun y H2 => R x y H2) {Q : Value → Shared → Prop} {f : Value → Value → Sem Value}
    (hf : ∀ v u s2 x y H2, Inv X pins σ H2 s2 → RelV x v → RelV y u → R x y H2 → wpAny (model X.prog X.w) X.A (f v u) Q X.xe s2) :
    wpAny (model X.prog X.w) X.A (eval a X.env) (fun v s₁ => wpAny (model X.prog X.w) X.A (eval b X.env) (fun u s₂ => wpAny (model X.prog X.w) X.A (f v u) Q X.xe s₂) X.xe s₁) X.xe s := by
  refine thn (ha pins s σ H _ I h) fun v s1 ⟨x, H1, I1, r1, q1⟩ => ?_
  refine thn (hb pins s1 σ H1 _ I1 q1) fun u s2 ⟨y, H2, I2, r2, q2⟩ => ?_
  exact hf v u s2 x y H2 I2 r1 r2 q2
theorem pe_op {op : Operator} {r : R2} (ho : OpR X (binaryOp op) r) (ha : PE X a ta) (hb : PE X b tb) : PE X (.BinOp a op b pos) (tOp r ta tb) := by
  intro pins s σ H Q I h
  exact wpAny_BinOp (binT ha hb I h fun v u s2 x y H2 I2 rx ry q => ho pins s2 σ H2 x y v u Q I2 rx ry q)
theorem pe_un {op : UnaryOp} {r : V → Hp → VK → Prop} (ho : UnR X (unaryOp op) r) (ha : PE X a ta) : PE X (.UnaryOp op a pos) (tUn r ta) := by
  intro pins s σ H Q I h
  exact UnaryOp_ (thn (ha pins s σ H _ I h) fun v s1 ⟨x, H1, I1, r1, q1⟩ => ho pins s1 σ H1 x v Q I1 r1 q1)
/-! ### ints -/
theorem opI {f : Value → Value → Sem Value} {C : Int → Int → Prop} {g : Int → Int → Int}
    (rule : ∀ (i j : Int) (t u : Tok) (s : Shared) (Q : Value → Shared → Prop) (E : Value → Shared → Prop), C i j → Q (.int (g i j) s.toks) { s with toks := s.toks + 1 } → wpAny (model X.prog X.w) X.A (f (.int i t) (.int j u)) Q E s) :
    OpR X f (rI C fun i j => .int (g i j)) := by
  intro pins s σ H x y v u Q I rx ry h
  obtain ⟨i, j, rfl, rfl, hc, q⟩ := h
  obtain ⟨t, rfl⟩ := rx
  obtain ⟨t', rfl⟩ := ry
  exact rule i j t t' s _ _ hc ⟨.int (g i j), H, I.tok _, ⟨_, rfl⟩, q⟩
theorem opI0 {f : Value → Value → Sem Value} {g : Int → Int → Int}
    (rule : ∀ (i j : Int) (t u : Tok) (s : Shared) (Q : Value → Shared → Prop) (E : Value → Shared → Prop), Q (.int (g i j) s.toks) { s with toks := s.toks + 1 } → wpAny (model X.prog X.w) X.A (f (.int i t) (.int j u)) Q E s) :
    OpR X f (rI0 fun i j => .int (g i j)) := by
  intro pins s σ H x y v u Q I rx ry h
  obtain ⟨i, j, rfl, rfl, q⟩ := h
  obtain ⟨t, rfl⟩ := rx
  obtain ⟨t', rfl⟩ := ry
  exact rule i j t t' s _ _ ⟨.int (g i j), H, I.tok _, ⟨_, rfl⟩, q⟩
theorem opB0 {f : Value → Value → Sem Value} {g : Int → Int → Bool}
    (rule : ∀ (i j : Int) (t u : Tok) (s : Shared) (Q : Value → Shared → Prop) (E : Value → Shared → Prop), Q (.bool (g i j)) s → wpAny (model X.prog X.w) X.A (f (.int i t) (.int j u)) Q E s) :
    OpR X f (rI0 fun i j => .bl (g i j)) := by
  intro pins s σ H x y v u Q I rx ry h
  obtain ⟨i, j, rfl, rfl, q⟩ := h
  obtain ⟨t, rfl⟩ := rx
  obtain ⟨t', rfl⟩ := ry
  exact rule i j t t' s _ _ ⟨.bl (g i j), H, I, rfl, q⟩
theorem op_add : OpR X (binaryOp .Add) (rI0 fun i j => .int (i + j)) := opI0 fun _ _ _ _ _ _ _ q => add_int q
theorem op_sub : OpR X (binaryOp .Sub) (rI0 fun i j => .int (i - j)) := opI0 fun _ _ _ _ _ _ _ q => sub_int q
/-- % by a positive divisor of any size -/
theorem op_mod : OpR X (binaryOp .Mod) (rI (fun _ j => 0 < j) fun i j => .int (i % j)) := opI fun i j _ _ _ _ _ hc q => by
  have h1 : (0 : Int) < j := hc
  exact mod_int' (by omega) (by rw [Int.fmod_eq_emod_of_nonneg i (by omega)]; exact q)
theorem unI {f : Value → Sem Value} {g : Int → Int}
    (rule : ∀ (i : Int) (t : Tok) (s : Shared) (Q : Value → Shared → Prop) (E : Value → Shared → Prop), Q (.int (g i) s.toks) { s with toks := s.toks + 1 } → wpAny (model X.prog X.w) X.A (f (.int i t)) Q E s) :
    UnR X f (rU fun i => .int (g i)) := by
  intro pins s σ H x v Q I rx h
  obtain ⟨i, rfl, q⟩ := h
  obtain ⟨t, rfl⟩ := rx
  exact rule i t s _ _ ⟨.int (g i), H, I.tok _, ⟨_, rfl⟩, q⟩
theorem un_neg : UnR X (unaryOp .USub) (rU fun i => .int (-i)) := unI fun _ _ _ _ _ q => neg_int q
/-! ### bools among ints: n += (a < b) -/
end
/-! ### comparisons -/
/-- the scalars that == tells apart as data does -/
def scal : V → V → Bool
  | .non, .non => true | .non, .int _ => true | .int _, .non => true | .non, .bl _ => true | .bl _, .non => true | .non, .str _ => true | .str _, .non => true
  | .int _, .int _ => true | .bl _, .bl _ => true | .str _, .str _ => true | .byt _, .byt _ => true
  | .int _, .str _ => true | .str _, .int _ => true | .bl _, .str _ => true | .str _, .bl _ => true
  | _, _ => false
def rEq : R2 := fun x y H Q => scal x y = true ∧ Q (.bl (decide (x = y))) H
def rNe : R2 := fun x y H Q => scal x y = true ∧ Q (.bl (!decide (x = y))) H
theorem dec_int {i j : Int} : decide (V.int i = V.int j) = (i == j) := by
  rw [Bool.eq_iff_iff]
  simp
theorem dec_bl {i j : Bool} : decide (V.bl i = V.bl j) = (i == j) := by
  rw [Bool.eq_iff_iff]
  simp
theorem dec_str {i j : Str} : decide (V.str i = V.str j) = (i == j) := by
  rw [Bool.eq_iff_iff]
  simp
theorem dec_byt {i j : Array UInt8} : decide (V.byt i = V.byt j) = (i.toList == j.toList) := by
  rw [Bool.eq_iff_iff]
  cases i
  cases j
  simp
section
variable {X : Cx} {a b c : Expr} {ta tb tc : TE} {pos : Pos}
theorem fin_bl {pins : List (Addr × Obj)} {σ : St} {H : Hp} {s : Shared} {Q : VK} {k k' : Bool} (I : Inv X pins σ H s) (q : Q (.bl k) H) (e : k = k') : EP X pins σ Q (.bool k') s := by
  subst e
  exact ⟨.bl k, H, I, rfl, q⟩
theorem op_eq : OpR X (compareOp .Eq) rEq := by
  intro pins s σ H x y v u Q I rx ry h
  obtain ⟨hs, q⟩ := h
  cases x with
  | non =>
    cases rx
    cases y with
    | non => cases ry; exact PySem.EqNone.eq_none_none (fin_bl I q (by simp))
    | bl j => cases ry; exact PySem.EqNone.eq_none_bool (fin_bl I q (by simp))
    | int j => obtain ⟨t', rfl⟩ := ry; exact PySem.EqNone.eq_none_int (fin_bl I q (by simp))
    | str j => obtain ⟨t', rfl⟩ := ry; exact PySem.EqNone.eq_none_str (fin_bl I q (by simp))
    | _ => exact absurd (show false = true from hs) Bool.false_ne_true
  | bl i =>
    cases rx
    cases y with
    | non => cases ry; exact PySem.EqNone.eq_bool_none (fin_bl I q (by simp))
    | bl j => cases ry; exact eq_bool (fin_bl I q dec_bl)
    | str j => obtain ⟨t', rfl⟩ := ry; exact PySem.EqMixed.eq_bool_str (fin_bl I q (by simp))
    | _ => exact absurd (show false = true from hs) Bool.false_ne_true
  | int i =>
    obtain ⟨t, rfl⟩ := rx
    cases y with
    | non => cases ry; exact PySem.EqNone.eq_int_none (fin_bl I q (by simp))
    | int j => obtain ⟨t', rfl⟩ := ry; exact eq_int (fin_bl I q dec_int)
    | str j => obtain ⟨t', rfl⟩ := ry; exact PySem.EqMixed.eq_int_str (fin_bl I q (by simp))
    | _ => exact absurd (show false = true from hs) Bool.false_ne_true
  | str i =>
    obtain ⟨t, rfl⟩ := rx
    cases y with
    | non => cases ry; exact PySem.EqNone.eq_str_none (fin_bl I q (by simp))
    | bl j => cases ry; exact PySem.EqMixed.eq_str_bool (fin_bl I q (by simp))
    | int j => obtain ⟨t', rfl⟩ := ry; exact PySem.EqMixed.eq_str_int (fin_bl I q (by simp))
    | str j => obtain ⟨t', rfl⟩ := ry; exact eq_str (fin_bl I q dec_str)
    | _ => exact absurd (show false = true from hs) Bool.false_ne_true
  | byt i =>
    obtain ⟨t, rfl⟩ := rx
    cases y with
    | byt j => obtain ⟨t', rfl⟩ := ry; exact PySem.W.eq_bytes (fin_bl I q dec_byt)
    | _ => exact absurd (show false = true from hs) Bool.false_ne_true
  | _ => cases y <;> exact absurd (show false = true from hs) Bool.false_ne_true
theorem op_ne : OpR X (compareOp .NotEq) rNe := by
  intro pins s σ H x y v u Q I rx ry h
  obtain ⟨hs, q⟩ := h
  cases x with
  | non =>
    cases rx
    cases y with
    | non => cases ry; exact PySem.EqNone.ne_none_none (fin_bl I q (by simp))
    | bl j => cases ry; exact PySem.EqNone.ne_none_bool (fin_bl I q (by simp))
    | int j => obtain ⟨t', rfl⟩ := ry; exact PySem.EqNone.ne_none_int (fin_bl I q (by simp))
    | str j => obtain ⟨t', rfl⟩ := ry; exact PySem.EqNone.ne_none_str (fin_bl I q (by simp))
    | _ => exact absurd (show false = true from hs) Bool.false_ne_true
  | bl i =>
    cases rx
    cases y with
    | non => cases ry; exact PySem.EqNone.ne_bool_none (fin_bl I q (by simp))
    | bl j => cases ry; exact ne_bool (fin_bl I q (congrArg not dec_bl))
    | str j => obtain ⟨t', rfl⟩ := ry; exact PySem.EqMixed.ne_bool_str (fin_bl I q (by simp))
    | _ => exact absurd (show false = true from hs) Bool.false_ne_true
  | int i =>
    obtain ⟨t, rfl⟩ := rx
    cases y with
    | non => cases ry; exact PySem.EqNone.ne_int_none (fin_bl I q (by simp))
    | int j => obtain ⟨t', rfl⟩ := ry; exact ne_int (fin_bl I q (congrArg not dec_int))
    | str j => obtain ⟨t', rfl⟩ := ry; exact PySem.EqMixed.ne_int_str (fin_bl I q (by simp))
    | _ => exact absurd (show false = true from hs) Bool.false_ne_true
  | str i =>
    obtain ⟨t, rfl⟩ := rx
    cases y with
    | non => cases ry; exact PySem.EqNone.ne_str_none (fin_bl I q (by simp))
    | bl j => cases ry; exact PySem.EqMixed.ne_str_bool (fin_bl I q (by simp))
    | int j => obtain ⟨t', rfl⟩ := ry; exact PySem.EqMixed.ne_str_int (fin_bl I q (by simp))
    | str j => obtain ⟨t', rfl⟩ := ry; exact ne_str (fin_bl I q (congrArg not dec_str))
    | _ => exact absurd (show false = true from hs) Bool.false_ne_true
  | byt i =>
    obtain ⟨t, rfl⟩ := rx
    cases y with
    | byt j => obtain ⟨t', rfl⟩ := ry; exact PySem.W.ne_bytes (fin_bl I q (congrArg not dec_byt))
    | _ => exact absurd (show false = true from hs) Bool.false_ne_true
  | _ => cases y <;> exact absurd (show false = true from hs) Bool.false_ne_true
theorem op_lt : OpR X (compareOp .Lt) (rI0 fun i j => .bl (decide (i < j))) := opB0 fun _ _ _ _ _ _ _ q => lt_int q
theorem op_le : OpR X (compareOp .LtE) (rI0 fun i j => .bl (decide (i ≤ j))) := opB0 fun _ _ _ _ _ _ _ q => le_int q
theorem op_gt : OpR X (compareOp .Gt) (rI0 fun i j => .bl (decide (j < i))) := opB0 fun _ _ _ _ _ _ _ q => gt_int q
theorem op_ge : OpR X (compareOp .GtE) (rI0 fun i j => .bl (decide (j ≤ i))) := opB0 fun _ _ _ _ _ _ _ q => ge_int q
/-- is None, is not None: the right side a value none -/
theorem op_isN : OpR X (compareOp .Is) (fun x y H Q => y = .non ∧ Q (.bl (decide (x = .non))) H) := by
  intro pins s σ H x y v u Q I rx ry h
  obtain ⟨rfl, q⟩ := h
  cases ry
  refine is_none_gen (fin_bl I q ?_)
  cases x <;> first
    | (cases rx; rfl)
    | (obtain ⟨t, rfl⟩ := rx; rfl)
theorem nomark (b : Expr) {op : CmpOp} (h : op ≠ .In := by decide) (h2 : op ≠ .NotIn := by decide) : behindInMarks op b = false := by
  have e1 : (op == CmpOp.In) = false := by cases op <;> first | rfl | exact absurd rfl h
  have e2 : (op == CmpOp.NotIn) = false := by cases op <;> first | rfl | exact absurd rfl h2
  cases b <;> simp [behindInMarks, e1, e2]
/-- a comparison as a value; hm: nomark b, or (for in, not in) by with_unfolding_all rfl -/
theorem pe_cmpR {op : CmpOp} {r : R2} (ho : OpR X (compareOp op) r) (ha : PE X a ta) (hb : PE X b tb) (hm : behindInMarks op b = false) : PE X (.Compare a [op] [b] pos) (tOp r ta tb) := by
  intro pins s σ H Q I h
  exact wpAny_Compare1 (binT ha hb I h fun v u s2 x y H2 I2 rx ry q => ho pins s2 σ H2 x y v u Q I2 rx ry q) hm
/-- a reading of a value as a test -/
def tTest (t : TE) : TT := fun σ H Q => t σ H fun x H' => ∃ k, x = .bl k ∧ Q k H'
theorem pt_cmpR {op : CmpOp} {r : R2} (ho : OpR X (compareOp op) r) (ha : PE X a ta) (hb : PE X b tb) (hm : behindInMarks op b = false) : PT X (.Compare a [op] [b] pos) (tTest (tOp r ta tb)) := by
  intro pins s σ H Q I h
  refine wpAny_isTrue_Compare1 (thn (ha pins s σ H _ I h) fun v s1 ⟨x, H1, I1, r1, q1⟩ => thn (hb pins s1 σ H1 _ I1 q1) fun u s2 ⟨y, H2, I2, r2, q2⟩ =>
    thn (ho pins s2 σ H2 x y v u _ I2 r1 r2 q2) fun c s3 ⟨z, H3, I3, r3, k, e, q3⟩ => ?_) hm
  subst e
  cases r3
  exact wpAny_truthy_bool ⟨H3, I3, q3⟩
/-- a op1 b op2 c -/
def tChain (r r' : R2) (ta tb tc : TE) : TE := fun σ H Q => ta σ H fun x H1 => tb σ H1 fun y H2 => r x y H2 fun z H3 => ∃ k, z = .bl k ∧
  (if k = true then tc σ H3 fun w' H4 => r' y w' H4 Q else Q (.bl false) H3)
theorem pe_chain {op op' : CmpOp} {r r' : R2} (ho : OpR X (compareOp op) r) (ho' : OpR X (compareOp op') r') (ha : PE X a ta) (hb : PE X b tb) (hc : PE X c tc)
    (hm : lastMarks [op, op'] [b, c] = false := by with_unfolding_all rfl) : PE X (.Compare a [op, op'] [b, c] pos) (tChain r r' ta tb tc) := by
  intro pins s σ H Q I h
  refine Compare_chain (thn (ha pins s σ H _ I h) fun v s1 ⟨x, H1, I1, r1, q1⟩ => chain_link (thn (hb pins s1 σ H1 _ I1 q1) fun u s2 ⟨y, H2, I2, r2, q2⟩ =>
    thn (ho pins s2 σ H2 x y v u _ I2 r1 r2 q2) fun d s3 ⟨z, H3, I3, r3, k, e, q3⟩ => ?_)) hm
  subst e
  cases r3
  refine wpAny_truthy_bool ?_
  cases k with
  | false => exact ite_ff ⟨.bl false, H3, I3, rfl, q3⟩
  | true => exact ite_tt (chain_last (thn (hc pins s3 σ H3 _ I3 q3) fun w' s4 ⟨z', H4, I4, r4, q4⟩ => ho' pins s4 σ H4 y z' u w' Q I4 r2 r4 q4))
theorem pt_chain {op op' : CmpOp} {r r' : R2} (ho : OpR X (compareOp op) r) (ho' : OpR X (compareOp op') r') (ha : PE X a ta) (hb : PE X b tb) (hc : PE X c tc)
    (hm : lastMarks [op, op'] [b, c] = false := by with_unfolding_all rfl) : PT X (.Compare a [op, op'] [b, c] pos) (tTest (tChain r r' ta tb tc)) := by
  intro pins s σ H Q I h
  refine isTrue_chain (thn (ha pins s σ H _ I h) fun v s1 ⟨x, H1, I1, r1, q1⟩ => test_link (thn (hb pins s1 σ H1 _ I1 q1) fun u s2 ⟨y, H2, I2, r2, q2⟩ =>
    thn (ho pins s2 σ H2 x y v u _ I2 r1 r2 q2) fun d s3 ⟨z, H3, I3, r3, k, e, q3⟩ => ?_)) hm
  subst e
  cases r3
  refine wpAny_truthy_bool ?_
  cases k with
  | false =>
    obtain ⟨k', e', q'⟩ := q3
    cases e'
    exact ite_ff ⟨H3, I3, q'⟩
  | true =>
    refine ite_tt (test_last (thn (hc pins s3 σ H3 _ I3 q3) fun w' s4 ⟨z', H4, I4, r4, q4⟩ => thn (ho' pins s4 σ H4 y z' u w' _ I4 r2 r4 q4) fun d' s5 ⟨z2, H5, I5, r5, k2, e2, q5⟩ => ?_))
    subst e2
    cases r5
    exact wpAny_truthy_bool ⟨H5, I5, q5⟩
/-! ### truth -/
theorem line63 : (sizeLine : Nat) < 2 ^ 63 := by rw [sizeLine_eq]; decide
/-! ### strs and bytes -/
/-! ### scalar builtins, by CallR -/
theorem vals1 {x : V} {us : List Value} (r : Vals [x] us) : ∃ u, us = [u] ∧ RelV x u := by
  cases r with
  | cons r1 r2 => cases r2; exact ⟨_, rfl, r1⟩
end
end L2
namespace L2
open PySem PySem.Spec PyProof.Rows
/-! ### an instance, its attributes a map -/
structure ObjM (h : Heap) (x dx C : Addr) (mA : Str → Option Value) : Prop where
  obj : h.get? x = some (PySem.W.instObj C dx)
  ns : h.Ns1 dx mA
  ne : dx ≠ x
theorem lookIn_ns {h : Heap} {dx : Addr} {mA : Str → Option Value} (n : h.Ns1 dx mA) : ∃ od, h.get? dx = some od ∧ ∀ name, PySem.W.lookIn name od = some (mA name) := by
  obtain ⟨o, es, ep, ho, hd, hk, _, hm⟩ := n
  refine ⟨o, ho, fun name => ?_⟩
  have e := hm name
  unfold nsFind findBy at e
  rw [← Array.find?_toList] at e
  unfold PySem.W.lookIn
  rw [hd]
  dsimp only
  split
  · rename_i y q
    rw [q] at e
    exact congrArg some e
  · rename_i q
    rw [q] at e
    have a : es.toList.any (·.refKey) = false := by
      rw [List.any_eq_false]
      intro y hy
      obtain ⟨z, t, hkey⟩ := hk y (Array.mem_toList_iff.mp hy)
      simp [DictEntry.refKey, hkey]
    have a' : ¬ es.toList.any (·.refKey) = true := by rw [a]; exact Bool.false_ne_true
    rw [if_neg a']
    exact congrArg some e
theorem ObjM.look {h : Heap} {x dx C : Addr} {mA : Str → Option Value} (I : ObjM h x dx C mA) : ∃ od, PySem.W.InstAt h x (PySem.W.instObj C dx) C (some od) ∧ ∀ name, PySem.W.lookIn name od = some (mA name) :=
  let ⟨od, ho, hl⟩ := lookIn_ns I.ns
  ⟨od, ⟨I.obj, rfl, rfl, ho⟩, hl⟩
section
variable {prog : Program} {w : World} {A : Around} {E : Value → Shared → Prop} {s : Shared} {K : PySem.W.Frag} {x dx C f : Addr} {mA : Str → Option Value} {name : Str} {v : Value}
theorem get_map {expr : Bool} {Q : Value → Shared → Prop} (X : K.In s.heap) (I : ObjM s.heap x dx C mA) (hg : PySem.W.plainGet K C name = true) (hh : PySem.W.hasDictIn K C = true)
    (ha : PySem.W.findIn K (.ref C) name = some none) (hv : mA name = some v) (hv' : PySem.W.handedIn v = true) (h : Q v { s with toks := s.toks + 1 }) :
    wpAny (model prog w) A (getAttr (.ref x) name expr) Q E s := by
  obtain ⟨od, J, hl⟩ := I.look
  exact PySem.W.get_value X J (PySem.W.plainGet_of hg).1 (PySem.W.findObj_own hh ha rfl (by rw [hl, hv])) hv' h
theorem get_meth {pl : Sem Bool} {Q : Value × List Value → Shared → Prop} (X : K.In s.heap) (I : ObjM s.heap x dx C mA) (hg : PySem.W.plainGet K C name = true)
    (hf : PySem.W.findIn K (.ref C) name = some (some (.ref f))) (ht : PySem.W.isFn K (.ref f) = true) (hv : mA name = none) (h : Q (.ref f, [.ref x]) s) :
    wpAny (model prog w) A (getMethod (.ref x) name pl) Q E s := by
  obtain ⟨od, J, hl⟩ := I.look
  exact PySem.W.method_fn X J (PySem.W.plainGet_of hg).1 (PySem.W.plainGet_of hg).2 hf (beq_iff_eq.mp ht) (by show (PySem.W.lookIn name od).map (·.isSome) = some false; rw [hl, hv]; rfl) h
theorem set_map {ns : List Str} {Q : Unit → Shared → Prop} (X : K.In s.heap) (I : ObjM s.heap x dx C mA)
    (hs : PySem.W.findIn K (.ref C) "__setattr__" = some (some (.builtin "object.__setattr__"))) (hp : PySem.W.plainOver K C = true) (ht : PySem.W.takerIn K C name = some none) (hh : PySem.W.hasDictIn K C = true)
    (hw : PySem.Within mA ns) (hsz : ns.length ≤ sizeLine)
    (h : ∀ h', ObjM h' x dx C (fun y => if y = name then some v else mA y) → Heap.SameBut dx s.heap h' → Q () { s with heap := h', toks := s.toks + 2 }) :
    wpAny (model prog w) A (setAttr (.ref x) name v) Q E s := by
  obtain ⟨od, J, hl⟩ := I.look
  refine PySem.W.set_plain X J hs (PySem.W.osa_open (s := { s with toks := s.toks + 1 }) (r := none) X J hp ht fun b => ?_)
  obtain ⟨cd, hc, hd'⟩ := PySem.W.any_some hh
  have hx : s.heap.get? x = some ⟨.ref C, some dx, .plain, #[]⟩ := I.obj
  refine wpAny_bind (wpAny_pure (wpAny_bind (wpAny_bind (wpAny_loadPart hx (wpAny_bind (PySem.W.Looks.here (s := { s with toks := s.toks + 1 }) (PySem.W.looks_clsIn X hc) ?_))))))
  rw [hd']
  refine wpAny_pure (a := some dx) (wpAny_bind (wpAny_pure (wpAny_bind ?_)))
  refine wpAny_nsSet1 (s := { s with toks := s.toks + 1 }) I.ns fun h' hn2 hs2 => ?_
  obtain ⟨oD, esD, epD, hoD, hdD, hcD⟩ := hn2.count (PySem.Within.cons name v hw)
  refine wpAny_bind (wpAny_lookBehind hoD (by rw [hdD]; exact pastItsLine_dict (Nat.le_trans hcD (by rw [List.length_cons]; omega))) ?_)
  exact wpAny_pure (h _ ⟨(hs2.2 _ (Ne.symm I.ne)).trans I.obj, hn2, I.ne⟩ hs2)
/-- C(..): the dict at the heap's end, the instance behind it; then its __init__ -/
theorem make_map {R : Result → Shared → Prop} {vs : List Value} {kw : List (Str × Value)} (X : K.In s.heap) (hm : PySem.W.makesIn K C = true)
    (hi : PySem.W.findIn K (.ref C) "__init__" = some (some (.ref f))) (hf : PySem.W.typeIn K (.ref f) = some (.type "function"))
    (h : codeAny (model prog w) (A.under (.builtin "type.__call__" ⟨.ref C :: vs, kw⟩)) (.call (.ref f) ⟨.ref (s.heap.objs.size + 1) :: vs, kw⟩) (PySem.W.InitBack (s.heap.objs.size + 1) R)
      { s with heap := (s.heap.push PySem.W.emptyDict).push (PySem.W.instObj C s.heap.objs.size) }) :
    codeAny (model prog w) A (.call (.ref C) ⟨vs, kw⟩) R s := by
  obtain ⟨hh, g, d, t, os⟩ := s
  exact PySem.W.make_core (PySem.W.makes_of X hm) (PySem.W.looks_findIn X hi) (fun self => PySem.W.bind_fn X self hf) (.inl rfl) h
end
/-! ### the attributes as a list of pairs -/
def putF (f : Str) (v : V) : List (Str × V) → List (Str × V)
  | [] => [(f, v)]
  | (g, x) :: r => if g = f then (g, v) :: r else (g, x) :: putF f v r
theorem lookup_putF (f g : Str) (v : V) : ∀ fs : List (Str × V), (putF f v fs).lookup g = if g = f then some v else fs.lookup g
  | [] => by
    show List.lookup g [(f, v)] = _
    by_cases h : g = f
    · have hb : (g == f) = true := beq_iff_eq.mpr h
      simp only [List.lookup, hb, if_pos h]
    · have hb : (g == f) = false := beq_eq_false_iff_ne.mpr h
      simp only [List.lookup, hb, if_neg h]
  | (k, x) :: r => by
    have ih := lookup_putF f g v r
    rw [show putF f v ((k, x) :: r) = (if k = f then (k, v) :: r else (k, x) :: putF f v r) from rfl]
    by_cases hk : k = f
    · rw [if_pos hk]
      by_cases h : g = k
      · have hb : (g == k) = true := beq_iff_eq.mpr h
        simp only [List.lookup, hb, if_pos (h.trans hk)]
      · have hb : (g == k) = false := beq_eq_false_iff_ne.mpr h
        simp only [List.lookup, hb, if_neg (fun e : g = f => h (e.trans hk.symm))]
    · rw [if_neg hk]
      by_cases h : g = k
      · have hb : (g == k) = true := beq_iff_eq.mpr h
        simp only [List.lookup, hb, if_neg (fun e : g = f => hk (h.symm.trans e))]
      · have hb : (g == k) = false := beq_eq_false_iff_ne.mpr h
        simp only [List.lookup, hb]
        exact ih
theorem keys_putF (f : Str) (v : V) : ∀ fs : List (Str × V), f ∈ (putF f v fs).map (·.1) ∧ ∀ g, g ∈ fs.map (·.1) → g ∈ (putF f v fs).map (·.1)
  | [] => ⟨by simp [putF], fun g h => by simp at h⟩
  | (k, x) :: r => by
    obtain ⟨i1, i2⟩ := keys_putF f v r
    rw [show putF f v ((k, x) :: r) = (if k = f then (k, v) :: r else (k, x) :: putF f v r) from rfl]
    by_cases hk : k = f
    · rw [if_pos hk]
      subst hk
      exact ⟨by simp, fun g h => by simpa using h⟩
    · rw [if_neg hk]
      refine ⟨?_, fun g h => ?_⟩
      · rw [List.map_cons]
        exact List.mem_cons_of_mem _ i1
      · rw [List.map_cons] at h ⊢
        rcases List.mem_cons.mp h with e | e
        · exact List.mem_cons.mpr (.inl e)
        · exact List.mem_cons_of_mem _ (i2 g e)
theorem length_putF (f : Str) (v : V) : ∀ fs : List (Str × V), (putF f v fs).length ≤ fs.length + 1
  | [] => by simp [putF]
  | (k, x) :: r => by
    have ih := length_putF f v r
    rw [show putF f v ((k, x) :: r) = (if k = f then (k, v) :: r else (k, x) :: putF f v r) from rfl]
    by_cases hk : k = f
    · rw [if_pos hk, List.length_cons, List.length_cons]; omega
    · rw [if_neg hk, List.length_cons, List.length_cons]; omega
theorem RelO.some_of {v : V} {o : Option Value} (r : RelO (some v) o) : ∃ u, o = some u ∧ RelV v u := by
  cases o with
  | none => exact (show False from r).elim
  | some u => exact ⟨u, rfl, r⟩
theorem RelO.none_of {o : Option Value} (r : RelO none o) : o = none := by
  cases o with
  | none => rfl
  | some u => exact (show False from r).elim
theorem handed_of {v : V} {u : Value} (r : RelV v u) : PySem.W.handedIn u = true := by
  cases v with
  | non => cases (show u = Value.none from r); rfl
  | bl b => cases (show u = Value.bool b from r); rfl
  | int i => obtain ⟨t, e⟩ := (show ∃ t, u = Value.int i t from r); cases e; rfl
  | str x => obtain ⟨t, e⟩ := (show ∃ t, u = Value.str x t from r); cases e; rfl
  | byt b => obtain ⟨t, e⟩ := (show ∃ t, u = Value.bytes b t from r); cases e; rfl
  | flt b => obtain ⟨t, e⟩ := (show ∃ t, u = Value.float b t from r); cases e; rfl
  | ref a => cases (show u = Value.ref a from r); rfl
  | ty n => cases (show u = Value.type n from r); rfl
section
variable {P : Program} {w : World} {H H' : Hp} {h h' : Heap} {a C dx : Addr} {fs fs' : List (Str × V)}
theorem ins_get (hok : HOk P w H h) (e : H a = some (.ins C dx fs)) : ∃ mA, ObjM h a dx C mA ∧ (∀ f, RelO (fs.lookup f) (mA f)) ∧ PySem.Within mA (fs.map (·.1)) ∧ fs.length ≤ 1000 ∧ H dx = some (.own a) := by
  obtain ⟨d, z, ne, ob, mA, n, r, q⟩ := (show ObjOk P w H h a (.ins C dx fs) from hok a _ e)
  exact ⟨mA, ⟨ob, n, ne⟩, r, q, z, d⟩
end
/-! ### what of the text a class must have -/
structure Cls (K : PySem.W.Frag) (C : Addr) : Prop where
  pg : PySem.W.plainGet K C Str.empty = true
  hd : PySem.W.hasDictIn K C = true
  po : PySem.W.plainOver K C = true
  sa : PySem.W.findIn K (.ref C) "__setattr__" = some (some (.builtin "object.__setattr__"))
theorem Cls.get {K : PySem.W.Frag} {C : Addr} (c : Cls K C) (f : Str) : PySem.W.plainGet K C f = true := c.pg
/-- no class of it has the name -/
def NoAttr (K : PySem.W.Frag) (C : Addr) (f : Str) : Prop := PySem.W.findIn K (.ref C) f = some none
theorem NoAttr.taker {K : PySem.W.Frag} {C : Addr} {f : Str} (n : NoAttr K C f) : PySem.W.takerIn K C f = some none := by
  unfold PySem.W.takerIn
  rw [show PySem.W.findIn K (.ref C) f = some none from n]
  rfl
/-- a method: a plain def of the class or of one above it -/
structure Meth (K : PySem.W.Frag) (C : Addr) (m : Str) (f : Addr) : Prop where
  at_ : PySem.W.findIn K (.ref C) m = some (some (.ref f))
  fn : PySem.W.isFn K (.ref f) = true
  kp : PySem.W.keepIn K (.ref f) = true
section
variable {X : Cx} {pins : List (Addr × Obj)} {σ : St} {H : Hp} {s : Shared} {a C dx : Addr} {fs : List (Str × V)} {f : Str} {v : V} {A : Around} {E : Value → Shared → Prop}
theorem getattr_ok {b : Bool} {Q : Value → Shared → Prop} (I : Inv X pins σ H s) (e : H a = some (.ins C dx fs)) (c : Cls X.K C) (n : NoAttr X.K C f) (l : fs.lookup f = some v)
    (h : ∀ u s', Inv X pins σ H s' → RelV v u → Q u s') : wpAny (model X.prog X.w) A (getAttr (.ref a) f b) Q E s := by
  obtain ⟨mA, O, r, _, _, _⟩ := ins_get I.hok e
  obtain ⟨u, hu, ru⟩ := RelO.some_of (v := v) (o := mA f) (by rw [← l]; exact r f)
  exact get_map I.kIn O (c.get f) c.hd n hu (handed_of ru) (h u _ (I.tok _) ru)
theorem getmeth_ok {m : Str} {g : Addr} {pl : Sem Bool} {Q : Value × List Value → Shared → Prop} (I : Inv X pins σ H s) (e : H a = some (.ins C dx fs)) (c : Cls X.K C) (k : Meth X.K C m g) (l : fs.lookup m = none)
    (h : Q (.ref g, [.ref a]) s) : wpAny (model X.prog X.w) A (getMethod (.ref a) m pl) Q E s := by
  obtain ⟨mA, O, r, _, _, _⟩ := ins_get I.hok e
  have hn : mA m = none := RelO.none_of (by rw [← l]; exact r m)
  exact get_meth I.kIn O (c.get m) k.at_ k.fn hn h
theorem setattr_ok {y : V} {u : Value} {Q : Unit → Shared → Prop} (I : Inv X pins σ H s) (e : H a = some (.ins C dx fs)) (c : Cls X.K C) (n : NoAttr X.K C f) (hl : fs.length < 1000) (ry : RelV y u)
    (h : ∀ s', Inv X pins σ (upd H a (.ins C dx (putF f y fs))) s' → Q () s') : wpAny (model X.prog X.w) A (setAttr (.ref a) f u) Q E s := by
  obtain ⟨mA, O, r, wi, _, ho⟩ := ins_get I.hok e
  have hz : (fs.map (·.1)).length ≤ sizeLine := by rw [List.length_map, sizeLine_eq]; omega
  refine set_map I.kIn O c.sa c.po n.taker c.hd wi hz fun h' O' sb => h _ ?_
  have hd : ∃ o, h'.get? dx = some o := let ⟨o, _, _, e', _⟩ := O'.ns; ⟨o, e'⟩
  refine I.write (x := a) (e := dx) (by rw [e]; exact True.intro) (.inr ho) (fun b q hb z => (sb.2 b hb).trans z) hd ?_
  refine ⟨by rw [upd_ne O.ne]; exact ho, ?_, O.ne, O'.obj, _, O'.ns, fun g => ?_, fun g hg => ?_⟩
  · have := length_putF f y fs; omega
  · show RelO ((putF f y fs).lookup g) (if g = f then some u else mA g)
    rw [lookup_putF]
    by_cases q : g = f
    · rw [if_pos q, if_pos q]; exact ry
    · rw [if_neg q, if_neg q]; exact r g
  · by_cases q : g = f
    · rw [q]; exact (keys_putF f y fs).1
    · refine (keys_putF f y fs).2 g (wi g fun z => hg ?_)
      show (if g = f then some u else mA g) = none
      rw [if_neg q]; exact z
/-- a new instance, tracked, without attributes -/
theorem Inv.made (I : Inv X pins σ H s) : Inv X pins σ (upd (upd H s.heap.objs.size (.own (s.heap.objs.size + 1))) (s.heap.objs.size + 1) (.ins C s.heap.objs.size []))
    { s with heap := (s.heap.push PySem.W.emptyDict).push (PySem.W.instObj C s.heap.objs.size) } := by
  have e1 : (s.heap.push PySem.W.emptyDict).get? s.heap.objs.size = some PySem.W.emptyDict := Heap.get?_push_size s.heap rfl
  have e2 : ((s.heap.push PySem.W.emptyDict).push (PySem.W.instObj C s.heap.objs.size)).get? (s.heap.objs.size + 1) = some (PySem.W.instObj C s.heap.objs.size) := by
    have := Heap.get?_push_size (s.heap.push PySem.W.emptyDict) (o := PySem.W.instObj C s.heap.objs.size) rfl
    rwa [Heap.size_push] at this
  have e3 : (s.heap.push PySem.W.emptyDict).Ns s.heap.objs.size (fun _ => none) := ⟨PySem.W.emptyDict, #[], _, e1, rfl, (fun e he => absurd he (by simp)), fun _ => rfl⟩
  have I1 := I.laid (a := s.heap.objs.size) (o := .own (s.heap.objs.size + 1)) (h' := s.heap.push PySem.W.emptyDict) (t' := s.toks) (fun b u q => Heap.get?_push_of_some _ q) (Nat.le_refl _) ⟨_, e1⟩
  refine I1.laid (a := s.heap.objs.size + 1) (o := .ins C s.heap.objs.size []) (t' := s.toks) (fun b u q => Heap.get?_push_of_some _ q) (Nat.le_of_eq (Heap.size_push _ _)) ?_
  have ne : s.heap.objs.size ≠ s.heap.objs.size + 1 := Nat.ne_of_lt (Nat.lt_succ_self _)
  refine ⟨by rw [upd_ne ne, upd_same], Nat.zero_le _, ne, e2, fun _ => none, (Heap.Ns1.of_empty e3).at fun o q => Heap.get?_push_of_some _ q, fun _ => True.intro, fun y hy => absurd rfl hy⟩
/-- e.f where nothing but the object is asked: through attributeBase (super) and the last hold -/
theorem attr_of {prog : Program} {w : World} {env : Env} {e : Expr} {f : Str} {pos : Pos} {s : Shared} {Q : Value → Shared → Prop} (hb : attributeBase e f env (eval e env) = eval e env)
    (h : wpAny (model prog w) A (eval e env) (fun o s₁ => wpAny (model prog w) A (getAttr o f true) Q E s₁) E s) : wpAny (model prog w) A (eval (.Attribute e f pos) env) Q E s :=
  Attribute_any_ h (by rw [arm_eval_Attribute, hb])
end
/-! ### readings and rules -/
/-- e.f, an attribute of the instance -/
def tFld (K : PySem.W.Frag) (ta : TE) (f : Str) : TE := fun σ H Q => ta σ H fun x H1 => ∃ a C dx fs v, x = .ref a ∧ H1 a = some (.ins C dx fs) ∧ Cls K C ∧ NoAttr K C f ∧ fs.lookup f = some v ∧ Q v H1
/-- e.f = value -/
def sFld (K : PySem.W.Frag) (ta tv : TE) (f : Str) : TS := fun D σ H => tv σ H fun y H1 => ta σ H1 fun x H2 => ∃ a C dx fs, x = .ref a ∧ H2 a = some (.ins C dx fs) ∧ Cls K C ∧ NoAttr K C f ∧ fs.length < 1000 ∧
  D.nx σ (upd H2 a (.ins C dx (putF f y fs)))
/-- an augmented operator on two values -/
def InOp (X : Cx) (op : Operator) (rd : V → V → Hp → VK → Prop) : Prop :=
  ∀ (pins : List (Addr × Obj)) (s : Shared) (σ : St) (H : Hp) (x y : V) (u v : Value) (Q : VK), Inv X pins σ H s → RelV x u → RelV y v → rd x y H Q → wpAny (model X.prog X.w) X.A (inplaceOp op u v) (EP X pins σ Q) X.xe s
/-- e.f op= value -/
def sFldAug (K : PySem.W.Frag) (ta tv : TE) (rd : V → V → Hp → VK → Prop) (f : Str) : TS := fun D σ H => ta σ H fun x H1 => ∃ a C dx fs v, x = .ref a ∧ H1 a = some (.ins C dx fs) ∧ Cls K C ∧ NoAttr K C f ∧ fs.lookup f = some v ∧
  tv σ H1 fun y H2 => rd v y H2 fun z H3 => ∃ dx' fs', H3 a = some (.ins C dx' fs') ∧ fs'.length < 1000 ∧ D.nx σ (upd H3 a (.ins C dx' (putF f z fs')))
section
variable {X : Cx} {o e value : Expr} {f : Str} {pos pos' tpos : Pos} {ta tv : TE}
theorem pe_fld (he : PE X e ta) (hb : attributeBase e f X.env (eval e X.env) = eval e X.env) : PE X (.Attribute e f pos) (tFld X.K ta f) := by
  intro pins s σ H Q I h
  refine attr_of hb (thn (he pins s σ H _ I h) fun u s1 ⟨x, H1, I1, rx, a, C, dx, fs, v, ex, ea, c, n, l, q⟩ => ?_)
  subst ex
  obtain rfl : u = Value.ref a := rx
  exact getattr_ok I1 ea c n l fun u' s2 I2 ru => ⟨v, H1, I2, ru, q⟩
theorem ps_fld (ha : PE X o ta) (hv : PE X value tv) (hs : swapsWith value (some (.Attribute o f pos')) pos.line X.env = pure false) : PS X (.Assign [.Attribute o f pos'] value pos) (sFld X.K ta tv f) := by
  intro pins s σ H D I h
  refine plainObj_wpAny_Assign_Attribute (thn (hv pins s σ H _ I h) fun u s1 ⟨y, H1, I1, ry, q⟩ => thn (ha pins s1 σ H1 _ I1 q) fun ov s2 ⟨x, H2, I2, rx, a, C, dx, fs, ex, ea, c, n, l, q2⟩ => ?_) hs
  subst ex
  obtain rfl : ov = Value.ref a := rx
  exact setattr_ok I2 ea c n l ry fun s3 I3 => ⟨σ, _, I3, q2⟩
theorem ps_fldaug {op : Operator} {rd : V → V → Hp → VK → Prop} (ha : PE X o ta) (hv : PE X value tv) (hop : InOp X op rd) : PS X (.AugAssign (.Attribute o f tpos) op value pos) (sFldAug X.K ta tv rd f) := by
  intro pins s σ H D I h
  refine wpAny_AugAssign_AttributeAny (thn (ha pins s σ H _ I h) fun ov s1 ⟨x, H1, I1, rx, a, C, dx, fs, v, ex, ea, c, n, l, q⟩ => ?_)
  subst ex
  obtain rfl : ov = Value.ref a := rx
  refine getattr_ok I1 ea c n l fun u s2 I2 ru => thn (hv pins s2 σ H1 _ I2 q) fun w3 s3 ⟨y, H2, I3, ry, q3⟩ => thn (hop pins s3 σ H2 v y u w3 _ I3 ru ry q3) fun w4 s4 ⟨z, H3, I4, rz, dx', fs', ea', l', q4⟩ => ?_
  exact setattr_ok I4 ea' c n l' rz fun s5 I5 => ⟨σ, _, I5, q4⟩
def rAdd : V → V → Hp → VK → Prop := fun x y H Q => ∃ i j, x = .int i ∧ y = .int j ∧ Q (.int (i + j)) H
theorem in_add : InOp X .Add rAdd := by
  rintro pins s σ H x y u v Q I rx ry ⟨i, j, rfl, rfl, q⟩
  obtain ⟨t, rfl⟩ := (show ∃ t, u = Value.int i t from rx)
  obtain ⟨t', rfl⟩ := (show ∃ t', v = Value.int j t' from ry)
  exact PyProof.Rows.iadd_int ⟨.int (i + j), H, I.tok _, ⟨_, rfl⟩, q⟩
end
/-! ### isinstance -/
section
variable {X : Cx} {pins : List (Addr × Obj)} {σ : St} {H : Hp} {s : Shared} {A : Around} {E : Value → Shared → Prop} {Q : Value → Shared → Prop} {c : Value} {b : Bool}
end
end L2
namespace L2
open PySem PySem.Spec PyProof.Rows
/-! ### room -/
structure Room (k : Nat) (A : Around) : Prop where
  hd : A.handled = none
  dp : A.depth + 3 * k + 5 < recursionLimit
  un : A.units + 16 * k + 200 < cLine
theorem Room.mono {j k : Nat} {A : Around} (r : Room k A) (h : j ≤ k) : Room j A := ⟨r.hd, by have := r.dp; omega, by have := r.un; omega⟩
theorem Room.deeper {k : Nat} {A : Around} (r : Room (k + 1) A) (env : Env) : Room k (A.deeper env) :=
  ⟨r.hd, by have := r.dp; show A.depth + 1 + 3 * k + 5 < _; omega, by have := r.un; show A.units + 3 + 16 * k + 200 < _; omega⟩
theorem make_depth {A : Around} {C : Addr} {us : List Value} {kw : List (Str × Value)} : (A.under (.builtin "type.__call__" ⟨.ref C :: us, kw⟩)).depth = A.depth + 1 := by
  first | rfl | simp [Around.under, Code.weight, Code.isCreation, Code.isGuard, Code.isCaller, Code.frames, Code.isFrame, guardIds]
theorem make_units {A : Around} {C : Addr} {us : List Value} {kw : List (Str × Value)} : (A.under (.builtin "type.__call__" ⟨.ref C :: us, kw⟩)).units = A.units + 1 := by
  first | rfl | simp [Around.under, Code.cUnits, Code.frames, Code.isFrame]
theorem Room.make {k : Nat} {A : Around} (r : Room (k + 1) A) (C : Addr) (us : List Value) (kw : List (Str × Value)) : Room k (A.under (.builtin "type.__call__" ⟨.ref C :: us, kw⟩)) :=
  ⟨r.hd, by have := r.dp; rw [make_depth]; omega, by have := r.un; rw [make_units]; omega⟩
theorem Room.depth {k : Nat} {A : Around} (r : Room k A) : A.depth < recursionLimit := by have := r.dp; omega
theorem Room.units {k : Nat} {A : Around} (r : Room k A) : A.units + 64 < cLine := by have := r.un; omega
/-! ### argument lists and displays -/
def tNil : TA := fun _ H Q => Q [] H
def tCons (ta : TE) (tr : TA) : TA := fun σ H Q => ta σ H fun x H1 => tr σ H1 fun xs H2 => Q (x :: xs) H2
section
variable {X : Cx} {e : Expr} {es : List Expr} {te : TE} {t : TA} {pos : Pos}
theorem pa_nil : PA X [] tNil := fun _ _ _ _ H Q I h => Calls.spliced_nil ⟨[], H, I, .nil, h⟩
theorem pa_cons (ha : PE X e te) (hr : PA X es t) (hs : starEach (e :: es) X.env = (false, eval e X.env) :: starEach es X.env := by rfl) : PA X (e :: es) (tCons te t) := by
  intro pos pins s σ H Q I h
  rw [hs]
  show wpAny _ _ (spliced ((false, eval e X.env) :: backTo pos (starEach es X.env))) _ _ s
  refine Calls.spliced_cons (thn (ha pins s σ H _ I h) fun u s1 ⟨x, H1, I1, r1, q1⟩ => ?_)
  exact thn (hr pos pins s1 σ H1 _ I1 q1) fun us s2 ⟨xs, H2, I2, r2, q2⟩ => ⟨x :: xs, H2, I2, .cons r1 r2, q2⟩
/-- a tuple, a list of written items -/
def tTup (t : TA) : TE := fun σ H Q => t σ H fun xs H1 => xs.length ≤ sizeLine ∧ ∀ p, H1 p = none → Q (.ref p) (upd H1 p (.tup xs))
def tLst (t : TA) : TE := fun σ H Q => t σ H fun xs H1 => xs.length ≤ sizeLine ∧ ∀ p, H1 p = none → Q (.ref p) (upd H1 p (.lst xs))
theorem pe_tup {x1} (h : PA X es t) : PE X (.Tuple es x1 pos) (tTup t) := by
  intro pins s σ H Q I hq
  refine wpAny_Tuple_spliced (thn (h pos pins s σ H _ I hq) fun us s1 ⟨xs, H1, I1, r, z, q⟩ => ⟨by rw [← r.length]; exact z, ?_⟩)
  have hf : H1 s1.heap.objs.size = none := I1.hok.fresh (Nat.le_refl _)
  refine ⟨.ref s1.heap.objs.size, upd H1 s1.heap.objs.size (.tup xs), I1.laid (t' := s1.toks) (fun b u e => Heap.get?_push_of_some _ e) (Nat.le_refl _) ?_, rfl, q _ hf⟩
  exact ⟨z, us, r, ⟨_, Heap.get?_push_size _ rfl, rfl, _, rfl⟩⟩
theorem pe_lst (h : PA X es t) : PE X (.List es pos) (tLst t) := by
  intro pins s σ H Q I hq
  refine wpAny_List_spliced (thn (h pos pins s σ H _ I hq) fun us s1 ⟨xs, H1, I1, r, z, q⟩ => ⟨by rw [← r.length]; exact z, ?_⟩)
  have hf : H1 s1.heap.objs.size = none := I1.hok.fresh (Nat.le_refl _)
  refine ⟨.ref s1.heap.objs.size, upd H1 s1.heap.objs.size (.lst xs), I1.laid (t' := s1.toks) (fun b u e => Heap.get?_push_of_some _ e) (Nat.le_refl _) ?_, rfl, q _ hf⟩
  exact ⟨z, us, 0, r, Heap.get?_push_size _ rfl⟩
end
/-! ### what a def promises -/
/-- a def's promise: the bound arguments in the parameters' order, the heap, the wanted end, the wanted exception -/
abbrev Sp := List V → Hp → VK → XK → Prop
/-- how an exception lies behind a call (file 08 gives it): the callers' frames, abstract heap and state ahead of the call, the wish, the exception, the state -/
abbrev CXT := List Env → Hp → Shared → XK → Value → Shared → Prop
/-- the state at a call -/
structure Env0 (P : Program) (w : World) (K : PySem.W.Frag) (mg : Str → Option Value) (base : Heap) (A : Around) (outer : List Env) (s : Shared) (H : Hp) : Prop where
  frames : A.frames = some outer
  mod : Mod K mg base
  bs : ∀ b o, base.get? b = some o → s.heap.get? b = some o ∧ H b = none
  bsz : base.objs.size ≤ s.heap.objs.size
  funs : s.heap.FunFrames base outer
  frf : ∀ b ∈ frs outer, H b = none
  hok : HOk P w H s.heap
  bare : AllBare s.gens
/-- a call's end -/
def CE (outer : List Env) (P : Program) (w : World) (H : Hp) (s : Shared) (Q : VK) (u : Value) (s' : Shared) : Prop :=
  ∃ v H', s'.os = s.os ∧ AllBare s'.gens ∧ Un (frs outer) [] H H' s.heap s'.heap ∧ HOk P w H' s'.heap ∧ RelV v u ∧ Q v H'
def CR (CX : CXT) (outer : List Env) (P : Program) (w : World) (H : Hp) (s : Shared) (Q : VK) (E : XK) (r : Result) (s' : Shared) : Prop :=
  match r with
  | .ok (.ret u) => CE outer P w H s Q u s'
  | .ok _ => False
  | .error e => CX outer H s E e s'
structure FnOk (P : Program) (w : World) (K : PySem.W.Frag) (mg : Str → Option Value) (base : Heap) (CX : CXT) (k : Nat) (f : Addr) (fd : FuncData) (ps : List Str) (sp : Sp) : Prop where
  len : ∀ vs H Q E, sp vs H Q E → vs.length = ps.length
  run : ∀ (A : Around) (outer : List Env) (s : Shared) (H : Hp) (args : Args) (us : List Value) (vs : List V) (Q : VK) (E : XK), Room k A → Env0 P w K mg base A outer s H → BindsTo s fd args (ps.zip us) → Vals vs us → sp vs H Q E →
    codeAny (model P w) A (.call (.ref f) args) (CR CX outer P w H s Q E) s
theorem Env0.make {P : Program} {w : World} {K : PySem.W.Frag} {mg : Str → Option Value} {base : Heap} {A : Around} {outer : List Env} {s : Shared} {H : Hp} (e : Env0 P w K mg base A outer s H) (C : Addr) (us : List Value) (kw : List (Str × Value)) :
    Env0 P w K mg base (A.under (.builtin "type.__call__" ⟨.ref C :: us, kw⟩)) outer s H := ⟨by first | exact e.frames | (simpa [Around.under, Code.envs, Code.isFrame, pushEnvs] using e.frames), e.mod, e.bs, e.bsz, e.funs, e.frf, e.hok, e.bare⟩
section
variable {X : Cx} {pins : List (Addr × Obj)} {σ : St} {H : Hp} {s s' : Shared}
/-- from a body: what a callee wants -/
theorem Inv.env0 (I : Inv X pins σ H s) : Env0 X.prog X.w X.K X.mg X.base X.A X.stack s H :=
  ⟨I.ok.frames, I.ok.mod, I.bs, Nat.le_trans I.ok.bsz I.sz, I.stack, I.stkFree, I.hok, I.bare⟩
/-- behind a call -/
theorem Inv.after {Q : VK} {u : Value} (I : Inv X pins σ H s) (h : CE X.stack X.prog X.w H s Q u s') : EP X pins σ Q u s' := by
  obtain ⟨v, H', os, bare, un, hok, r, q⟩ := h
  obtain ⟨hh, g, d, t, os'⟩ := s'
  obtain rfl : os' = s.os := os
  exact ⟨v, H', I.call (h' := hh) (g' := g) (d' := d) (t' := t) (ch := []) un hok bare (fun b z => absurd z (by simp)), r, q⟩
end
/-! ### calls -/
/-- f(..): the written arguments, then the defaults dvs; E: what is wanted of an exception -/
def tCall (sp : Sp) (dvs : List V) (E : XK) (t : TA) : TE := fun σ H Q => t σ H fun vs H1 => sp (vs ++ dvs) H1 Q E
/-- o.m(..) of an instance of the class at C -/
def tMeth (C : Addr) (m : Str) (sp : Sp) (dvs : List V) (E : XK) (ta : TE) (t : TA) : TE := fun σ H Q => ta σ H fun x H1 => ∃ a dx fs, x = .ref a ∧ H1 a = some (.ins C dx fs) ∧ fs.lookup m = none ∧
  t σ H1 fun vs H2 => sp (x :: (vs ++ dvs)) H2 Q E
/-- C(..): a new instance and its dict, then __init__ -/
def tMake (C : Addr) (sp : Sp) (dvs : List V) (E : XK) (t : TA) : TE := fun σ H Q => t σ H fun vs H1 => ∀ x dx, H1 x = none → H1 dx = none → dx ≠ x →
  sp (.ref x :: (vs ++ dvs)) (upd (upd H1 dx (.own x)) x (.ins C dx [])) (fun v H2 => v = .non ∧ Q (.ref x) H2) E
/-- how the parameters are bound: us the positional arguments, kw the keywords' values by name, ds the defaults that fill up -/
def Binds (K : PySem.W.Frag) (fd : FuncData) (ps : List Str) (ds : List Value) : Prop :=
  ∀ (s : Shared) (us : List Value), K.In s.heap → (us ++ ds).length = ps.length → BindsTo s fd ⟨us, []⟩ (ps.zip (us ++ ds))
/-- every parameter is given -/
theorem Binds.all {K : PySem.W.Frag} {fd : FuncData} {ps : List Str} (h : ∀ us : List Value, us.length = ps.length → bindArgs fd ⟨us, []⟩ = pure (ps.zip us)) : Binds K fd ps [] := fun s us _ hl => by
  rw [List.append_nil] at hl ⊢
  exact .of_eq (h us hl)
/-- an exception of a callee reaches what this body wants of exceptions -/
def Passes (CX : CXT) (X : Cx) (E : XK) : Prop := ∀ (pins : List (Addr × Obj)) (σ : St) (H : Hp) (s : Shared) (e : Value) (s' : Shared), Inv X pins σ H s → CX X.stack H s E e s' → X.xe e s'
section
variable {X : Cx} {CX : CXT} {k : Nat} {f C : Addr} {fd : FuncData} {ps : List Str} {sp : Sp} {dvs : List V} {ds : List Value} {E : XK} {x m : Str} {p pos apos : Pos} {e o : Expr} {es : List Expr} {ta : TE} {t : TA}
/-- the callee runs -/
theorem run_fn {pins : List (Addr × Obj)} {σ : St} {H : Hp} {s : Shared} {Q : VK} {us : List Value} {vs : List V} (F : FnOk X.prog X.w X.K X.mg X.base CX k f fd ps sp) (hr : Room k X.A) (hb : Binds X.K fd ps ds) (hd : Vals dvs ds) (hx : Passes CX X E)
    (I : Inv X pins σ H s) (r : Vals vs us) (h : sp (vs ++ dvs) H Q E) : wpAny (model X.prog X.w) X.A (call (.ref f) us) (EP X pins σ Q) X.xe s := by
  have r2 : Vals (vs ++ dvs) (us ++ ds) := r.append hd
  have hl : (us ++ ds).length = ps.length := by rw [← r2.length]; exact F.len _ _ _ _ h
  refine wpAny_call (codeAny_mono (F.run X.A X.stack s H ⟨us, []⟩ (us ++ ds) (vs ++ dvs) Q E hr I.env0 (hb s us I.kIn hl) r2 h) fun r s' hq => ?_)
  cases r with
  | error e => exact hx pins σ H s e s' I hq
  | ok fl =>
    cases fl with
    | ret u => exact I.after hq
    | next => exact False.elim hq
    | brk => exact False.elim hq
    | cont => exact False.elim hq
theorem pe_call (F : FnOk X.prog X.w X.K X.mg X.base CX k f fd ps sp) (hr : Room k X.A) (hg : Gl X x) (hm : X.mg x = some (.ref f)) (hk : PySem.W.keepIn X.K (.ref f) = true) (hb : Binds X.K fd ps ds) (hd : Vals dvs ds) (hx : Passes CX X E)
    (ha : PA X (e :: es) t) (hdb : (x == ("__debug__" : Str)) = false := by decide) (he : starEach (e :: es) X.env = (false, eval e X.env) :: starEach es X.env := by rfl) (hpl : (backTo pos (starEach es X.env)).any (·.1) = false := by rfl) :
    PE X (.Call (.Name x p) (e :: es) [] pos) (tCall sp dvs E t) := by
  intro pins s σ H Q I h
  refine wpAny_Call_Name_kw (ld_glob I hg hm ?_ hdb)
  refine PySem.W.callWith_K (h₀ := X.base) I.ok.mod.kin hk (thn (ha pos pins s σ H _ I h) fun us s1 ⟨vs, H1, I1, r, q⟩ => ⟨I1.kIn, ?_⟩) he hpl
  exact run_fn F hr hb hd hx I1 r q
/-- o.m(e, ..) -/
theorem pe_meth {pl : Sem Bool} (he : PE X o ta) (c : Cls X.K C) (hm : Meth X.K C m f) (F : FnOk X.prog X.w X.K X.mg X.base CX k f fd ps sp) (hr : Room k X.A) (hb : Binds X.K fd ps ds) (hd : Vals dvs ds) (hx : Passes CX X E) (ha : PA X (e :: es) t)
    (hst : starEach (e :: es) X.env = (false, eval e X.env) :: starEach es X.env := by rfl) (hpl : (backTo pos (starEach es X.env)).any (·.1) = false := by rfl)
    (ht : eval (.Call (.Attribute o m apos) (e :: es) [] pos) X.env = (do
      let ov ← eval o X.env
      standAt apos.atName
      let (f, first) ← holding [ov] (getMethod ov m pl)
      callWith pos f first (backTo pos (starEach (e :: es) X.env)) (backToKw pos (keywordEach [] X.env))) := by rfl) :
    PE X (.Call (.Attribute o m apos) (e :: es) [] pos) (tMeth C m sp dvs E ta t) := by
  intro pins s σ H Q I h
  refine PySem.W.methodCall_KW (pl := pl) (thn (he pins s σ H _ I h) fun u s1 ⟨x, H1, I1, rx, a, dx, fs, ex, ea, l, q⟩ => ?_) ht
  subst ex
  obtain rfl : u = Value.ref a := rx
  refine getmeth_ok I1 ea c hm l ?_
  refine PySem.W.callWith_K (first := [.ref a]) (h₀ := X.base) I.ok.mod.kin hm.kp (thn (ha pos pins s1 σ H1 _ I1 q) fun us s2 ⟨vs, H2, I2, r, q2⟩ => ⟨I2.kIn, ?_⟩) hst hpl
  exact run_fn (us := .ref a :: us) (vs := .ref a :: vs) F hr hb hd hx I2 (.cons rfl r) q2
/-- o.m() -/
theorem pe_meth0 {pl : Sem Bool} (he : PE X o ta) (c : Cls X.K C) (hm : Meth X.K C m f) (F : FnOk X.prog X.w X.K X.mg X.base CX k f fd ps sp) (hr : Room k X.A) (hb : Binds X.K fd ps ds) (hd : Vals dvs ds) (hx : Passes CX X E)
    (ht : eval (.Call (.Attribute o m apos) [] [] pos) X.env = (do
      let ov ← eval o X.env
      standAt apos.atName
      let (f, first) ← holding [ov] (getMethod ov m pl)
      callWith pos f first (backTo pos (starEach [] X.env)) (backToKw pos (keywordEach [] X.env))) := by rfl) :
    PE X (.Call (.Attribute o m apos) [] [] pos) (tMeth C m sp dvs E ta tNil) := by
  intro pins s σ H Q I h
  refine PySem.W.methodCall_KW (pl := pl) (thn (he pins s σ H _ I h) fun u s1 ⟨x, H1, I1, rx, a, dx, fs, ex, ea, l, q⟩ => ?_) ht
  subst ex
  obtain rfl : u = Value.ref a := rx
  refine getmeth_ok I1 ea c hm l ?_
  exact PySem.W.callWith_K0 (first := [.ref a]) I1.kIn hm.kp (run_fn (us := [.ref a]) (vs := [.ref a]) F hr hb hd hx I1 (.cons rfl .nil) q)
/-- what a class must have to be made -/
structure Mk (K : PySem.W.Frag) (C f : Addr) : Prop where
  makes : PySem.W.makesIn K C = true
  init : PySem.W.findIn K (.ref C) "__init__" = some (some (.ref f))
  fn : PySem.W.isFn K (.ref f) = true
  kp : PySem.W.keepIn K (.ref C) = true
theorem run_make {pins : List (Addr × Obj)} {σ : St} {H : Hp} {s : Shared} {Q : VK} {us : List Value} {vs : List V} (M : Mk X.K C f) (F : FnOk X.prog X.w X.K X.mg X.base CX k f fd ps sp) (hr : Room (k + 1) X.A) (hb : Binds X.K fd ps ds) (hd : Vals dvs ds)
    (hx : Passes CX X E) (I : Inv X pins σ H s) (r : Vals vs us)
    (h : ∀ x dx, H x = none → H dx = none → dx ≠ x → sp (.ref x :: (vs ++ dvs)) (upd (upd H dx (.own x)) x (.ins C dx [])) (fun v H2 => v = .non ∧ Q (.ref x) H2) E) :
    wpAny (model X.prog X.w) X.A (call (.ref C) us) (EP X pins σ Q) X.xe s := by
  have hq := h (s.heap.objs.size + 1) s.heap.objs.size (I.hok.fresh (Nat.le_succ _)) (I.hok.fresh (Nat.le_refl _)) (Nat.ne_of_lt (Nat.lt_succ_self _))
  have I2 := Inv.made (C := C) I
  have r2 : Vals (V.ref (s.heap.objs.size + 1) :: (vs ++ dvs)) (Value.ref (s.heap.objs.size + 1) :: (us ++ ds)) := .cons rfl (r.append hd)
  have hl : (Value.ref (s.heap.objs.size + 1) :: us ++ ds).length = ps.length := by
    have e := r2.length
    rw [F.len _ _ _ _ hq] at e
    exact e.symm
  refine wpAny_call (make_map (f := f) I.kIn M.makes M.init (beq_iff_eq.mp M.fn) (codeAny_mono (F.run _ X.stack _ _ ⟨Value.ref (s.heap.objs.size + 1) :: us, []⟩ (Value.ref (s.heap.objs.size + 1) :: (us ++ ds)) _ _ E (hr.make C us [])
    (I2.env0.make C us []) (hb _ (Value.ref (s.heap.objs.size + 1) :: us) I2.kIn hl) r2 hq) fun r s' hq' => ?_))
  cases r with
  | error e => exact hx pins σ _ _ e s' I2 hq'
  | ok fl =>
    cases fl with
    | ret u =>
      obtain ⟨v, H', I3, rv, ev, q3⟩ := I2.after hq'
      subst ev
      exact ⟨rv, ⟨V.ref (s.heap.objs.size + 1), H', I3, rfl, q3⟩⟩
    | next => exact False.elim hq'
    | brk => exact False.elim hq'
    | cont => exact False.elim hq'
theorem pe_make (M : Mk X.K C f) (F : FnOk X.prog X.w X.K X.mg X.base CX k f fd ps sp) (hr : Room (k + 1) X.A) (hg : Gl X x) (hm : X.mg x = some (.ref C)) (hb : Binds X.K fd ps ds) (hd : Vals dvs ds) (hx : Passes CX X E)
    (ha : PA X (e :: es) t) (hdb : (x == ("__debug__" : Str)) = false := by decide) (he : starEach (e :: es) X.env = (false, eval e X.env) :: starEach es X.env := by rfl) (hpl : (backTo pos (starEach es X.env)).any (·.1) = false := by rfl) :
    PE X (.Call (.Name x p) (e :: es) [] pos) (tMake C sp dvs E t) := by
  intro pins s σ H Q I h
  refine wpAny_Call_Name_kw (ld_glob I hg hm ?_ hdb)
  refine PySem.W.callWith_K (h₀ := X.base) I.ok.mod.kin M.kp (thn (ha pos pins s σ H _ I h) fun us s1 ⟨vs, H1, I1, r, q⟩ => ⟨I1.kIn, ?_⟩) he hpl
  exact run_make M F hr hb hd hx I1 r q
theorem pe_make0 (M : Mk X.K C f) (F : FnOk X.prog X.w X.K X.mg X.base CX k f fd ps sp) (hr : Room (k + 1) X.A) (hg : Gl X x) (hm : X.mg x = some (.ref C)) (hb : Binds X.K fd ps ds) (hd : Vals dvs ds) (hx : Passes CX X E)
    (hdb : (x == ("__debug__" : Str)) = false := by decide) : PE X (.Call (.Name x p) [] [] pos) (tMake C sp dvs E tNil) := by
  intro pins s σ H Q I h
  refine wpAny_Call_Name_kw (ld_glob I hg hm ?_ hdb)
  exact PySem.W.callWith_K0 I.kIn M.kp (run_make (us := []) M F hr hb hd hx I .nil h)
end
/-! ### keywords -/
section
variable {X : Cx} {CX : CXT} {k : Nat} {f C : Addr} {fd : FuncData} {ps ks : List Str} {sp : Sp} {E : XK} {x m : Str} {p pos apos kpos : Pos} {e o : Expr} {es : List Expr} {kws : List Keyword} {te ta : TE} {t tk : TA} {nm : Option Str}
variable {g : List Value → List Value → List Value} {gV : List V → List V → List V}
end
/-! ### a def's body keeps its promise -/
/-- names: the parameters first -/
structure FnScope (N P : List Str) (sc : Scope) : Prop where
  kind : sc.kind = .function
  co : sc.isCoroutine = false
  gen : sc.isGenerator = false
  nd : N.Nodup
  pre : N.take P.length = P
  par : ∀ x ∈ P, sc.names.lookup x = some .local ∨ sc.names.lookup x = some .cell
  nofree : ∀ y ∈ sc.names, y.2 ≠ .free
theorem bindL_out {kindOf : Str → Option NameKind} {x : Str} : ∀ {binds : List (Str × Value)} {m : Str → Option Value}, (∀ v, (x, v) ∉ binds) → bindL kindOf binds m x = m x
  | [], _, _ => rfl
  | (n, v) :: r, m, h => by
    unfold bindL
    rw [bindL_out fun w hw => h w (List.mem_cons_of_mem _ hw)]
    split
    · have : x ≠ n := by rintro rfl; exact h v List.mem_cons_self
      simp [this]
    · rfl
theorem bindC_out {kindOf : Str → Option NameKind} {x : Str} : ∀ {binds : List (Str × Value)} {m : Str → Option Value}, (∀ v, (x, v) ∉ binds) → bindC kindOf binds m x = m x
  | [], _, _ => rfl
  | (n, v) :: r, m, h => by
    unfold bindC
    rw [bindC_out fun w hw => h w (List.mem_cons_of_mem _ hw)]
    split
    · rfl
    · have : x ≠ n := by rintro rfl; exact h v List.mem_cons_self
      simp [this]
theorem bindL_get {kindOf : Str → Option NameKind} {x : Str} {v : Value} : ∀ {P : List Str} {vs : List Value} {i : Nat} {m : Str → Option Value}, P.Nodup → P[i]? = some x → vs[i]? = some v → kindOf x = some .local →
    bindL kindOf (P.zip vs) m x = some v
  | [], _, _, _, _, h, _, _ => by simp at h
  | _ :: _, [], _, _, _, _, h, _ => by simp at h
  | p :: P, w :: vs, 0, m, nd, h1, h2, hk => by
    simp at h1 h2; subst h1; subst h2
    show bindL kindOf ((p, w) :: P.zip vs) m p = _
    unfold bindL
    rw [bindL_out fun v hv => (List.nodup_cons.mp nd).1 (List.of_mem_zip hv).1, if_pos hk]
    simp
  | p :: P, w :: vs, i + 1, m, nd, h1, h2, hk => by
    show bindL kindOf ((p, w) :: P.zip vs) m x = _
    unfold bindL
    exact bindL_get (i := i) (List.nodup_cons.mp nd).2 (by simpa using h1) (by simpa using h2) hk
theorem bindC_get {kindOf : Str → Option NameKind} {x : Str} {v : Value} : ∀ {P : List Str} {vs : List Value} {i : Nat} {m : Str → Option Value}, P.Nodup → P[i]? = some x → vs[i]? = some v → kindOf x ≠ some .local →
    bindC kindOf (P.zip vs) m x = some v
  | [], _, _, _, _, h, _, _ => by simp at h
  | _ :: _, [], _, _, _, _, h, _ => by simp at h
  | p :: P, w :: vs, 0, m, nd, h1, h2, hk => by
    simp at h1 h2; subst h1; subst h2
    show bindC kindOf ((p, w) :: P.zip vs) m p = _
    unfold bindC
    rw [bindC_out fun v hv => (List.nodup_cons.mp nd).1 (List.of_mem_zip hv).1, if_neg hk]
    simp
  | p :: P, w :: vs, i + 1, m, nd, h1, h2, hk => by
    show bindC kindOf ((p, w) :: P.zip vs) m x = _
    unfold bindC
    exact bindC_get (i := i) (List.nodup_cons.mp nd).2 (by simpa using h1) (by simpa using h2) hk
/-- the names' values at the entry -/
def start (N : List Str) (vs : List V) : St := vs.map some ++ List.replicate (N.length - vs.length) none
/-- the context of a def's body, at its entry; an exception leaves the frame, then lies as CX says -/
def cxOf (CX : CXT) (P : Program) (w : World) (K : PySem.W.Frag) (mg : Str → Option Value) (base : Heap) (N : List Str) (qual : Str) (scope : Scope) (f : Addr) (cd : Value) (A : Around) (outer : List Env) (s : Shared) (H : Hp) (E : XK) : Cx where
  prog := P
  w := w
  K := K
  mg := mg
  base := base
  A := A.deeper (envOfC qual scope s.heap.objs.size f cd)
  N := N
  s_0 := s
  H_0 := H
  env := envOfC qual scope s.heap.objs.size f cd
  outer := outer
  stack := envOfC qual scope s.heap.objs.size f cd :: outer
  ex := []
  calm := true
  fn := fun _ => true
  pn := []
  xe := fun e s' => wpAny (model P w) (A.deeper (envOfC qual scope s.heap.objs.size f cd)) (leaving (envOfC qual scope s.heap.objs.size f cd) e) (fun _ s'' => CX outer H s E e s'') (fun e' s'' => CX outer H s E e' s'') s'
theorem cell_has {sc : Scope} {n : Nat} {x : Str} (h : sc.names.lookup x = some .cell) : ∃ c, (cellsFrom n sc.names []).lookup x = some c := by
  have q := PySem.W.cellsFrom_some sc.names n [] (.inl h)
  exact Option.isSome_iff_exists.mp q
theorem inv_start {CX : CXT} {P : Program} {w : World} {K : PySem.W.Frag} {mg : Str → Option Value} {base : Heap} {N ps : List Str} {qual : Str} {scope : Scope} {f : Addr} {cd : Value} {A : Around} {outer : List Env} {s s1 : Shared} {H : Hp} {E : XK} {us : List Value} {vs : List V}
    (S : FnScope N ps scope) (hd : A.handled = none) (e0 : Env0 P w K mg base A outer s H) (hl : vs.length = ps.length) (r : Vals vs us)
    (x : InCallC s s.heap.objs.size (bindL (envOfC qual scope s.heap.objs.size f cd).kindOf (ps.zip us) fun _ => none) (cellsFrom (s.heap.objs.size + 1) scope.names []) (bindC (envOfC qual scope s.heap.objs.size f cd).kindOf (ps.zip us) fun _ => none) s1) :
    Inv (cxOf CX P w K mg base N qual scope f cd A outer s H E) [] (start N vs) H s1 := by
  have hpl : ps.length ≤ N.length := by have := congrArg List.length S.pre; rw [List.length_take] at this; omega
  obtain ⟨h1, tk, rfl, hk⟩ := x.done
  have noA : ∀ b : Addr, b ∉ (cxOf CX P w K mg base N qual scope f cd A outer s H E).ex := fun b z => absurd (show b ∈ ([] : List Addr) from z) (by simp)
  refine ⟨⟨e0.mod, S.kind, rfl, rfl, Nat.le_refl _, fun y z c h1 h2 => ?_, fun y hy => ?_, fun y c _ h => ?_, fun _ => hd, Around.frames_deeper e0.frames, .inr ⟨rfl, rfl⟩, fun b z => absurd z (noA b), e0.bs, e0.bsz, fun b _ _ => noA b, fun b z => absurd z (noA b), e0.funs, e0.frf⟩,
    rfl, e0.bare, Un.kept hk, ⟨_, x.toInCall.ns, fun i y v h1 h2 h3 => ?_⟩, fun y c h => ⟨_, x.cell y c h⟩, e0.hok.fresh (Nat.le_refl _), fun y c h => ?_, fun p hp => absurd (show p ∈ ([] : List (Addr × Obj)) from hp) (by simp), e0.hok.kept hk, ?_⟩
  · exact name_of_addr x.apart (PySem.mem_of_lookup h1) (PySem.mem_of_lookup h2)
  · have hy : scope.names.lookup y = some .cell ∨ scope.names.lookup y = some .free := hy
    rcases hy with hy | hy
    · exact cell_has hy
    · exact absurd rfl (S.nofree _ (PySem.mem_of_lookup hy))
  · exact Nat.le_of_lt (x.above y c (PySem.mem_of_lookup h))
  · have hi : i < vs.length := by
      unfold start at h2
      by_cases hi : i < vs.length
      · exact hi
      · rw [List.getElem?_append_right (by simpa using hi)] at h2
        rw [List.getElem?_replicate] at h2
        split at h2 <;> cases h2
    have ha : vs[i]? = some v := by
      unfold start at h2
      rw [List.getElem?_append_left (by simpa using hi), List.getElem?_map] at h2
      cases e : vs[i]? with
      | none => rw [e] at h2; cases h2
      | some a => rw [e] at h2; cases h2; rfl
    obtain ⟨u, hu, rv⟩ := r.get ha
    have hp : ps[i]? = some y := by
      rw [← S.pre, List.getElem?_take_of_lt (by omega)]; exact h1
    have ndP : ps.Nodup := by rw [← S.pre]; exact S.nd.sublist (List.take_sublist _ _)
    refine ⟨u, rv, ?_⟩
    rcases S.par y (List.mem_of_getElem? hp) with k | k
    · exact .inl ⟨k, bindL_get ndP hp hu k⟩
    · obtain ⟨c, e⟩ := cell_has (n := s.heap.objs.size + 1) k
      refine .inr ⟨.inl k, c, e, ?_⟩
      have q := x.cell y c e
      rw [bindC_get ndP hp hu (by show scope.names.lookup y ≠ _; rw [k]; decide)] at q
      exact q
  · exact e0.hok.fresh (Nat.le_of_lt (x.above y c (PySem.mem_of_lookup h)))
  · unfold start
    show _ = N.length
    rw [List.length_append, List.length_map, List.length_replicate]
    omega
/-- THE RULE: a def (or a method) of the text, by its body. The body's reading t is chosen for each entry; it is run at the parameters' values -/
theorem fn_of {CX : CXT} {P : Program} {w : World} {K : PySem.W.Frag} {mg : Str → Option Value} {base : Heap} {k : Nat} {f : Addr} {name qual : Str} {params : Arguments} {body : List Stmt} {scope : Scope} {dV kV doc pm cdv ct oc : Value} {an od : Option Addr}
    {osl : Array (Option Value)} {N ps : List Str} {sp : Sp} (lk : K.lookup f = some ⟨oc, od, .func (PySem.W.fnOf name qual params body scope dV kV doc pm an cdv ct), osl⟩) (hcd : PySem.W.codeIn K cdv qual = true) (S : FnScope N ps scope)
    (len : ∀ vs H Q E, sp vs H Q E → vs.length = ps.length)
    (hbody : ∀ (A : Around) (outer : List Env) (s : Shared) (H : Hp) (vs : List V) (Q : VK) (E : XK), Room k (A.deeper (envOfC qual scope s.heap.objs.size f cdv)) → sp vs H Q E →
      ∃ t, PSs (cxOf CX P w K mg base N qual scope f cdv A outer s H E) body t ∧ t { nx := fun _ H' => Q .non H', rt := Q } (start N vs) H) :
    FnOk P w K mg base CX (k + 1) f (PySem.W.fnOf name qual params body scope dV kV doc pm an cdv ct) ps sp := by
  refine ⟨len, fun A outer s H args us vs Q E hr e0 hb r hsp => ?_⟩
  have hl := len _ _ _ _ hsp
  have KX : K.In s.heap := e0.mod.kin.keeps fun b o e => (e0.bs b o e).1
  have lim : s.heap.NoLimit := e0.mod.nolimit.keeps fun b o e => (e0.bs b o e).1
  have hkind : ∀ y ∈ ps.zip us, scope.names.lookup y.1 = some .local ∨ (scope.names.lookup y.1 = some .cell ∧ ((cellsFrom (s.heap.objs.size + 1) scope.names []).lookup y.1).isSome = true) := fun ⟨n, v⟩ hy => by
    rcases S.par n (List.of_mem_zip hy).1 with q | q
    · exact .inl q
    · exact .inr ⟨q, PySem.W.cellsFrom_some _ _ _ (.inl q)⟩
  refine codeAny_call_function hr.depth (KX _ _ lk) rfl S.co S.gen rfl (PySem.W.codeRec_of KX hcd) (hb _ _ _ _ ?_)
  refine wpAny_newFunctionEnv_cells S.kind hkind fun env he s1 x => ?_
  subst he
  refine ⟨lim.keeps x.toInCall.keep, codeAny_func ?_⟩
  obtain ⟨t, ht, hq⟩ := hbody A outer s H vs Q E (hr.deeper _) hsp
  have I : Inv (cxOf CX P w K mg base N qual scope f cdv A outer s H E) [] (start N vs) H s1 := inv_start S hr.hd e0 hl r x
  refine wpAny_mono (ht [] s1 (start N vs) H _ I hq) (fun fl s' hs => ?_) fun e s' hs => hs
  have fin : ∀ {σ' : St} {H' : Hp} {v : V} {u : Value}, Inv (cxOf CX P w K mg base N qual scope f cdv A outer s H E) [] σ' H' s' → RelV v u → Q v H' → CE outer P w H s Q u s' :=
    fun {σ' H' v u} J rv q => ⟨v, H', J.os, J.bare, J.base, J.hok, rv, q⟩
  cases fl with
  | ret u =>
    obtain ⟨v, σ', H', J, rv, q⟩ := hs
    exact fin J rv q
  | next =>
    obtain ⟨σ', H', J, q⟩ := hs
    exact fin (v := V.non) (u := Value.none) J rfl q
  | brk =>
    obtain ⟨_, _, _, q⟩ := hs
    exact False.elim q
  | cont =>
    obtain ⟨_, _, _, q⟩ := hs
    exact False.elim q
end L2
namespace L2
open PySem PySem.Spec PyProof.Rows
section
variable {X : Cx} {x : Str} {p pos : Pos} {e : Expr} {es : List Expr} {t : TA} {id T : String} {r : List V → Hp → VK → Prop}
def tCB (r : List V → Hp → VK → Prop) (t : TA) : TE := fun σ H Q => t σ H fun vs H1 => r vs H1 Q
/-- f(e, ..), f a built-in function -/
theorem pe_callB (hc : CallR X (.builtin id) r) (hg : Gl X x) (hm : X.mg x = none) (hv : bootBuiltins x = some (.builtin id)) (ha : PA X (e :: es) t) (hn : x ≠ "__name__" := by decide) (hdb : (x == ("__debug__" : Str)) = false := by decide)
    (he : starEach (e :: es) X.env = (false, eval e X.env) :: starEach es X.env := by rfl) (hpl : (backTo pos (starEach es X.env)).any (·.1) = false := by rfl) : PE X (.Call (.Name x p) (e :: es) [] pos) (tCB r t) := by
  intro pins s σ H Q I h
  refine wpAny_Call_Name_kw (ld_blt I hg hm hv ?_ hn hdb)
  exact PyProof.Rows.callWith_builtin1 (thn (ha pos pins s σ H _ I h) fun us s1 ⟨vs, H1, I1, r1, q1⟩ => hc pins s1 σ H1 vs us Q I1 r1 q1) he hpl
/-- T(e, ..), T a built-in type -/
theorem pe_callTy (hc : CallR X (.type T) r) (hg : Gl X x) (hm : X.mg x = none) (hv : bootBuiltins x = some (.type T)) (ha : PA X (e :: es) t) (hn : x ≠ "__name__" := by decide) (hdb : (x == ("__debug__" : Str)) = false := by decide)
    (he : starEach (e :: es) X.env = (false, eval e X.env) :: starEach es X.env := by rfl) (hpl : (backTo pos (starEach es X.env)).any (·.1) = false := by rfl) : PE X (.Call (.Name x p) (e :: es) [] pos) (tCB r t) := by
  intro pins s σ H Q I h
  refine wpAny_Call_Name_kw (ld_blt I hg hm hv ?_ hn hdb)
  exact PyProof.Rows.callWith_type1 (thn (ha pos pins s σ H _ I h) fun us s1 ⟨vs, H1, I1, r1, q1⟩ => hc pins s1 σ H1 vs us Q I1 r1 q1) he hpl
end
end L2
namespace HT
open PySem PyProof.Rows
section
open PySem.SeqAt
open PySem.AutoSeq1 (wpAny_loadPart')
open PySem.MeetsSeq PySem.MeetsSeq2 PySem.MeetsSeq3
end
section
variable {prog : Program} {w : World} {A : Around} {E : Value → Shared → Prop} {s : Shared}
/-! ### t[a:b], not the whole -/
/-- a slice's bound as a place among n (d where it is left out) -/
def sIx (n d : Nat) : Option Int → Nat
  | none => d
  | some v => if v < 0 then (v + (n : Int)).toNat else min v.toNat n
theorem sIx_nat (n d k : Nat) : sIx n d (some (k : Int)) = min k n := by
  show (if (k : Int) < 0 then ((k : Int) + (n : Int)).toNat else min (k : Int).toNat n) = min k n
  rw [if_neg (by omega), Int.toNat_natCast]
end
end HT
namespace L2
open PySem PySem.Spec PyProof.Rows
/-! ### the parts of a slice -/
abbrev TO := St → Hp → (Option Int → Hp → Prop) → Prop
/-- a slice's part (left out, or an int) -/
def PO (X : Cx) (e : Option Expr) (t : TO) : Prop :=
  ∀ (pins : List (Addr × Obj)) (s : Shared) (σ : St) (H : Hp) (Q : Option Int → Hp → Prop), Inv X pins σ H s → t σ H Q →
    wpAny (model X.prog X.w) X.A (evalPart e X.env) (fun u s' => ∃ o H', Inv X pins σ H' s' ∧ IsPart u o ∧ Q o H') X.xe s
def tPart (t : TE) : TO := fun σ H Q => t σ H fun x H1 => ∃ i, x = .int i ∧ Q (some i) H1
section
variable {X : Cx} {e : Expr} {te : TE} {lo hi : Option Expr} {tl th : TO} {pos p2 : Pos}
theorem po_some (h : PE X e te) : PO X (some e) (tPart te) := by
  intro pins s σ H Q I hw
  rw [evalPart_some]
  refine thn (h pins s σ H _ I hw) fun u s1 ⟨x, H1, I1, r1, q1⟩ => ?_
  obtain ⟨i, rfl, q⟩ := q1
  obtain ⟨t, rfl⟩ := r1
  exact ⟨some i, H1, I1, .int i t, q⟩
/-- what a slice of a value is, by values: the slice object stands at sl -/
def SlR (X : Cx) (r : V → Option Int → Option Int → Hp → VK → Prop) : Prop :=
  ∀ (pins : List (Addr × Obj)) (s : Shared) (σ : St) (H : Hp) (x : V) (v vl vu : Value) (lo hi : Option Int) (sl : Addr) (Q : VK), Inv X pins σ H s → RelV x v → s.heap.IsSliceOf sl vl vu .none → IsPart vl lo → IsPart vu hi → r x lo hi H Q →
    ∃ T id, typeLookup (.type T) "__getitem__" = pure (some (.builtin id)) ∧ s.TypeIs v T ∧ wpAny (model X.prog X.w) X.A (getItem v (.ref sl)) (EP X pins σ Q) X.xe s
def tSl (r : V → Option Int → Option Int → Hp → VK → Prop) (te : TE) (tl th : TO) : TE := fun σ H Q => te σ H fun x H1 => tl σ H1 fun l H2 => th σ H2 fun u H3 => r x l u H3 Q
/-- a[lo:hi], any a -/
theorem pe_slice {r : V → Option Int → Option Int → Hp → VK → Prop} (hr : SlR X r) (he : PE X e te) (hl : PO X lo tl) (hu : PO X hi th) : PE X (.Subscript e (.Slice lo hi none p2) pos) (tSl r te tl th) := by
  intro pins s σ H Q I h
  refine Subscript_ (thn (he pins s σ H _ I h) fun v s1 ⟨x, H1, I1, r1, q1⟩ => ?_)
  refine wpAny_Slice (thn (hl pins s1 σ H1 _ I1 q1) fun vl s2 ⟨l, H2, I2, pl, q2⟩ => thn (hu pins s2 σ H2 _ I2 q2) fun vu s3 ⟨u, H3, I3, pu, q3⟩ => ?_)
  rw [evalPart_none]
  refine wpAny_pure ?_
  have I4 : Inv X pins σ H3 { s3 with heap := s3.heap.push { cls := .type "slice", data := .fields #[vl, vu, .none] } } := I3.kept (t' := s3.toks) fun b ob q => Heap.get?_push_of_some _ q
  obtain ⟨T, id, hT, ht, hg⟩ := hr pins { s3 with heap := s3.heap.push { cls := .type "slice", data := .fields #[vl, vu, .none] } } σ H3 x v vl vu l u s3.heap.objs.size Q I4 r1 (Heap.IsSliceOf.new ..) pl pu q3
  show wpAny (model X.prog X.w) X.A (subscriptTail e (.Slice lo hi none p2) v (.ref s3.heap.objs.size)) (EP X pins σ Q) X.xe { s3 with heap := s3.heap.push { cls := .type "slice", data := .fields #[vl, vu, .none] } }
  exact tail_any (ops := [.ref s3.heap.objs.size, v]) ht hT hg (by with_unfolding_all rfl)
/-- the items of xs[lo:hi] -/
def cutV (xs : List V) (lo hi : Option Int) : List V := (xs.drop (HT.sIx xs.length 0 lo)).take (HT.sIx xs.length xs.length hi - HT.sIx xs.length 0 lo)
theorem cutV_length (xs : List V) (lo hi : Option Int) : (cutV xs lo hi).length ≤ xs.length := by
  unfold cutV
  rw [List.length_take, List.length_drop]
  omega
/-! ### t < u, t + u -/
end
end L2
namespace L2
open PySem PySem.Spec PyProof.Rows
/-! ### places -/
/-- the place that an index of any sign means -/
def ixN (n : Nat) (i : Int) : Option Nat := if 0 ≤ i then (if i < n then some i.toNat else none) else if -(n : Int) ≤ i then some (i + n).toNat else none
def atI {α : Type} (xs : List α) (i : Int) : Option α := (ixN xs.length i).bind fun j => xs[j]?
theorem ixN_seq {n : Nat} {i : Int} {j : Nat} (h : ixN n i = some j) : seqIndex? i n = some j ∧ j < n ∧ -(n : Int) ≤ i ∧ i < n := by
  unfold ixN at h
  by_cases h0 : 0 ≤ i
  · rw [if_pos h0] at h
    by_cases h1 : i < n
    · rw [if_pos h1] at h
      have e : i.toNat = j := Option.some.inj h
      exact ⟨by rw [seqIndex_of h0 h1, e], by omega, by omega, h1⟩
    · rw [if_neg h1] at h; cases h
  · rw [if_neg h0] at h
    by_cases h1 : -(n : Int) ≤ i
    · rw [if_pos h1] at h
      have e : (i + n).toNat = j := Option.some.inj h
      exact ⟨by rw [seqIndex_neg (by omega) h1, e], by omega, h1, by omega⟩
    · rw [if_neg h1] at h; cases h
theorem atI_get {α : Type} {xs : List α} {i : Int} {v : α} (h : atI xs i = some v) : ∃ j, seqIndex? i xs.length = some j ∧ xs[j]? = some v ∧ j < xs.length ∧ -(xs.length : Int) ≤ i ∧ i < xs.length := by
  unfold atI at h
  cases e : ixN xs.length i with
  | none => rw [e] at h; cases h
  | some j =>
    rw [e] at h
    obtain ⟨h1, h2, h3, h4⟩ := ixN_seq e
    exact ⟨j, h1, h, h2, h3, h4⟩
theorem atI_nat {α : Type} {xs : List α} {j : Nat} {v : α} (h : xs[j]? = some v) : atI xs (j : Int) = some v := by
  have hj : j < xs.length := (List.getElem?_eq_some_iff.mp h).1
  have e : ixN xs.length (j : Int) = some j := by
    unfold ixN
    rw [if_pos (by omega), if_pos (by omega)]; simp
  unfold atI; rw [e]; exact h
/-! ### what may be subscripted -/
/-- what stands as an index of a plain subscript -/
def PlainIx (b : Expr) : Prop := ∀ o i, subscripted b false o i = operate [o, i] (getItem o i)
/-- a subscript by values -/
def IxR (X : Cx) (r : R2) : Prop :=
  ∀ (value slice : Expr) (pins : List (Addr × Obj)) (s : Shared) (σ : St) (H : Hp) (x y : V) (v u : Value) (Q : VK), Inv X pins σ H s → RelV x v → RelV y u → r x y H Q →
    subscripted slice false v u = operate [v, u] (getItem v u) → wpAny (model X.prog X.w) X.A (subscriptTail value slice v u) (EP X pins σ Q) X.xe s
/-- a call of a builtin's method by values: the receiver, the arguments -/
def MtR (X : Cx) (id : String) (r : V → List V → Hp → VK → Prop) : Prop :=
  ∀ (pins : List (Addr × Obj)) (s : Shared) (σ : St) (H : Hp) (x : V) (xs : List V) (v : Value) (us : List Value) (Q : VK), Inv X pins σ H s → RelV x v → Vals xs us → r x xs H Q →
    wpAny (model X.prog X.w) X.A (call (.builtin id) (v :: us)) (EP X pins σ Q) X.xe s
section
variable {X : Cx} {a b : Expr} {ta tb : TE} {pos : Pos}
/-- a[b] -/
theorem pe_ix {r : R2} (hr : IxR X r) (ha : PE X a ta) (hb : PE X b tb) (hs : PlainIx b) : PE X (.Subscript a b pos) (tOp r ta tb) := by
  intro pins s σ H Q I h
  exact Subscript_ (binT ha hb I h fun v u s2 x y H2 I2 rx ry q => hr a b pins s2 σ H2 x y v u Q I2 rx ry q (hs _ _))
def rIxL (K : PySem.W.Frag) : R2 := fun x y H Q => ∃ p xs i v, x = .ref p ∧ y = .int i ∧ SqL K H p xs ∧ atI xs i = some v ∧ Q v H
def rIxT (K : PySem.W.Frag) : R2 := fun x y H Q => ∃ p xs i v, x = .ref p ∧ y = .int i ∧ SqT K H p xs ∧ atI xs i = some v ∧ Q v H
theorem ix_list : IxR X (rIxL X.K) := by
  intro value slice pins s σ H x y v u Q I rx ry h hs
  obtain ⟨p, xs, i, z, rfl, rfl, hq, he, q⟩ := h
  cases rx
  obtain ⟨t, rfl⟩ := ry
  obtain ⟨its, r, pl, hz⟩ := I.list hq
  obtain ⟨j, h1, h2, h3, h4, h5⟩ := atI_get he
  obtain ⟨w, ew, rw'⟩ := r.get h2
  have hl := r.length
  have hn := line63
  have fin : EP X pins σ Q w s := ⟨z, H, I, rw', q⟩
  by_cases h0 : 0 ≤ i
  · have hj : i.toNat = j := by
      rw [seqIndex_of h0 h5] at h1
      exact Option.some.inj h1
    exact item_listR pl.isList h0 (by omega) (by rw [hj]; simpa using ew) fin hs
  · have hj : (i + (its.toArray.size : Int)).toNat = j := by
      rw [seqIndex_neg (by omega) h4] at h1
      rw [List.size_toArray, ← hl]
      exact Option.some.inj h1
    exact subscriptTail_builtinR (x := w) pl.isList.typeIs slot_list_getitem.lookup
      (wpAny_getItem_list_neg (Q := fun r s' => r = w ∧ EP X pins σ Q r s') pl.isList (by omega) (by rw [List.size_toArray] <;> omega) (by omega) (by rw [hj]; simpa using ew) ⟨rfl, fin⟩) hs
theorem ix_tup : IxR X (rIxT X.K) := by
  intro value slice pins s σ H x y v u Q I rx ry h hs
  obtain ⟨p, xs, i, z, rfl, rfl, hq, he, q⟩ := h
  cases rx
  obtain ⟨t, rfl⟩ := ry
  obtain ⟨its, r, pl, hz⟩ := I.tuple hq
  obtain ⟨j, h1, h2, h3, h4, h5⟩ := atI_get he
  obtain ⟨w, ew, rw'⟩ := r.get h2
  have hl := r.length
  have hn := line63
  have fin : EP X pins σ Q w s := ⟨z, H, I, rw', q⟩
  exact subscriptTail_builtinR (x := w) pl.typeIs slot_tuple_getitem.lookup
    (getItem_tuple (j := j) (Q := fun r s' => r = w ∧ EP X pins σ Q r s') pl (by omega) (by omega) (by rw [List.size_toArray, ← hl]; exact h1) (by simpa using ew) ⟨rfl, fin⟩) hs
/-! ### xs[i] = v, any sign -/
/-- the list's object behind a store -/
theorem mapSeq_set (its : List Value) (n j : Nat) (u : Value) : Obj.mapSeq (·.setIfInBounds j u) { cls := .type "list", data := .seq its.toArray n } = { cls := .type "list", data := .seq (its.set j u).toArray n } := by
  simp [Obj.mapSeq]
theorem Inv.lst {pins : List (Addr × Obj)} {σ : St} {H : Hp} {s : Shared} {p : Addr} {xs : List V} (I : Inv X pins σ H s) (h : H p = some (.lst xs)) :
    ∃ (its : List Value) (n : Nat), Vals xs its ∧ s.heap.get? p = some { cls := .type "list", data := .seq its.toArray n } ∧ xs.length ≤ sizeLine := by
  obtain ⟨z, its, n, r, e⟩ := I.hok p _ h
  exact ⟨its, n, r, e, z⟩
/-- the list at p is written by an update of its object -/
theorem Inv.lstUpd {pins : List (Addr × Obj)} {σ : St} {H : Hp} {s : Shared} {p : Addr} {xs ys : List V} {its its' : List Value} {n n' : Nat} {f : Obj → Obj} (I : Inv X pins σ H s) (h : H p = some (.lst xs))
    (ho : s.heap.get? p = some { cls := .type "list", data := .seq its.toArray n }) (hf : f { cls := .type "list", data := .seq its.toArray n } = { cls := .type "list", data := .seq its'.toArray n' }) (r : Vals ys its') (hz : ys.length ≤ sizeLine) (t : Nat) :
    Inv X pins σ (upd H p (.lst ys)) { s with heap := s.heap.update p f, toks := t } := by
  have e : (s.heap.update p f).get? p = some { cls := .type "list", data := .seq its'.toArray n' } := by
    rw [Heap.get?_update_self f ho (by rw [hf] <;> rfl), hf]
  refine I.write (x := p) (e := p) (by rw [h]; trivial) (.inl rfl) (fun b u hb q => (Heap.get?_update_other _ _ (Ne.symm hb)).trans q) ⟨_, e⟩ ?_
  exact ⟨hz, its', n', r, e⟩
def rSetL : V → V → V → Hp → (Hp → Prop) → Prop := fun o i v H Q => ∃ p xs k j, o = .ref p ∧ i = .int k ∧ H p = some (.lst xs) ∧ ixN xs.length k = some j ∧ Q (upd H p (.lst (xs.set j v)))
theorem set_list : PSet X rSetL := by
  intro pins s σ H o i v ov iv u Q I ro ri rv h
  obtain ⟨p, xs, k, j, rfl, rfl, hp, hj, q⟩ := h
  cases ro
  obtain ⟨t, rfl⟩ := ri
  obtain ⟨its, n, r, ho, hz⟩ := I.lst hp
  obtain ⟨h1, h2, h3, h4⟩ := ixN_seq hj
  have hl := r.length
  have hn := line63
  have I' : Inv X pins σ (upd H p (.lst (xs.set j v))) { s with heap := s.heap.update p (Obj.mapSeq (·.setIfInBounds j u)) } :=
    I.lstUpd hp ho (mapSeq_set its n j u) (r.set rv j) (by rw [List.length_set]; exact hz) s.toks
  by_cases h0 : 0 ≤ k
  · have hk : k.toNat = j := by
      rw [seqIndex_of h0 h4] at h1
      exact Option.some.inj h1
    exact PySem.W.ki_setAt ho h0 (by omega) (by rw [List.size_toArray, ← hl]; exact h4) (by rw [hk]; exact ⟨_, I', q⟩)
  · have hk : (k + (its.toArray.size : Int)).toNat = j := by
      rw [seqIndex_neg (by omega) h3] at h1
      rw [List.size_toArray, ← hl]
      exact Option.some.inj h1
    exact PySem.W.ki_setBack ho (by omega) (by rw [List.size_toArray, ← hl]; exact h3) (by omega) (by rw [hk]; exact ⟨_, I', q⟩)
/-! ### slices -/
theorem slice_bounds (lo hi : Option Int) (n : Nat) : (sliceBounds lo hi none n).1 = ((HT.sIx n 0 lo : Nat) : Int) ∧ (sliceBounds lo hi none n).2.1 = ((HT.sIx n n hi : Nat) : Int) ∧ (sliceBounds lo hi none n).2.2 = 1 := by
  refine ⟨?_, ?_, rfl⟩
  · cases lo with
    | none => simp [sliceBounds, HT.sIx]
    | some i =>
      simp only [sliceBounds, HT.sIx, Option.getD_none, show (1 : Int) > 0 by decide, if_true]
      by_cases h : i < 0
      · simp only [h, if_true] <;> omega
      · simp only [h, if_false] <;> omega
  · cases hi with
    | none => simp [sliceBounds, HT.sIx]
    | some i =>
      simp only [sliceBounds, HT.sIx, Option.getD_none, show (1 : Int) > 0 by decide, if_true]
      by_cases h : i < 0
      · simp only [h, if_true] <;> omega
      · simp only [h, if_false] <;> omega
theorem slicePick_cut (its : List Value) (lo hi : Option Int) : slicePick its.toArray lo hi none = ((its.drop (HT.sIx its.length 0 lo)).take (HT.sIx its.length its.length hi - HT.sIx its.length 0 lo)).toArray := by
  obtain ⟨h1, h2, h3⟩ := slice_bounds lo hi its.toArray.size
  unfold slicePick
  rw [h1, h2, h3]
  simp only [sliceRange_one, pick_run, List.size_toArray] <;> rfl
/-- xs[lo:hi] of a list: a new list -/
def rSlL (K : PySem.W.Frag) : V → Option Int → Option Int → Hp → VK → Prop := fun x lo hi H Q => ∃ a xs, x = .ref a ∧ SqL K H a xs ∧ ∀ p, H p = none → Q (.ref p) (upd H p (.lst (cutV xs lo hi)))
theorem sl_list : SlR X (rSlL X.K) := by
  intro pins s σ H x v vl vu lo hi sl Q I rx hs pl pu h
  obtain ⟨a, xs, rfl, hx, q⟩ := h
  cases rx
  obtain ⟨its, r, ht, hz⟩ := I.list hx
  have hlen := r.length
  refine ⟨"list", _, slot_list_getitem.lookup, ht.isList.typeIs, ?_⟩
  refine wpAny_getItem_list_slice ht.isList hs pl pu .none (by simp) ?_ (by rw [List.size_toArray] <;> omega)
  rw [slicePick_cut, ← hlen]
  refine ⟨.ref s.heap.objs.size, _, I.laid (t' := s.toks) (o := .lst (cutV xs lo hi)) (fun b ob q => Heap.get?_push_of_some _ q) (Nat.le_refl _) ?_, rfl, q _ (I.hok.fresh (Nat.le_refl _))⟩
  exact ⟨Nat.le_trans (cutV_length xs lo hi) hz, _, 0, (r.drop (HT.sIx xs.length 0 lo)).take (HT.sIx xs.length xs.length hi - HT.sIx xs.length 0 lo), Heap.get?_push_size _ rfl⟩
/-! ### in, not in: flat items -/
def flatV : V → Bool
  | .non => true
  | .bl _ => true
  | .int _ => true
  | .str _ => true
  | _ => false
/-- == of flat values -/
def eqV : V → V → Bool
  | .non, .non => true
  | .bl a, .bl b => a == b
  | .bl a, .int b => (if a then 1 else 0) == b
  | .int a, .bl b => a == (if b then 1 else 0)
  | .int a, .int b => a == b
  | .str a, .str b => a == b
  | _, _ => false
theorem eqAt_V {A : Around} {s : Shared} {y x : V} {u v : Value} (ry : RelV y u) (rx : RelV x v) (fy : flatV y = true) (fx : flatV x = true) : SeqAt.EqAt A s u v (eqV y x) := by
  cases y with
  | non =>
    cases ry
    cases x with
    | non => cases rx; exact SeqAt.EqAt.same _
    | bl b => cases rx; exact SeqAt.EqAt.none_bool b
    | int b => obtain ⟨t, rfl⟩ := rx; exact SeqAt.EqAt.none_int b t
    | str b => obtain ⟨t, rfl⟩ := rx; exact SeqAt.EqAt.none_str b t
    | _ => exact absurd (show false = true from fx) Bool.false_ne_true
  | bl a =>
    cases ry
    cases x with
    | non => cases rx; exact SeqAt.EqAt.bool_none a
    | bl b => cases rx; exact SeqAt.EqAt.bool_bool a b
    | int b => obtain ⟨t, rfl⟩ := rx; exact SeqAt.EqAt.bool_int a b t
    | str b => obtain ⟨t, rfl⟩ := rx; exact SeqAt.EqAt.bool_str a b t
    | _ => exact absurd (show false = true from fx) Bool.false_ne_true
  | int a =>
    obtain ⟨t', rfl⟩ := ry
    cases x with
    | non => cases rx; exact SeqAt.EqAt.int_none a t'
    | bl b => cases rx; exact SeqAt.EqAt.int_bool a t' b
    | int b => obtain ⟨t, rfl⟩ := rx; exact SeqAt.EqAt.int_int a t' b t
    | str b => obtain ⟨t, rfl⟩ := rx; exact SeqAt.EqAt.int_str a t' b t
    | _ => exact absurd (show false = true from fx) Bool.false_ne_true
  | str a =>
    obtain ⟨t', rfl⟩ := ry
    cases x with
    | non => cases rx; exact SeqAt.EqAt.str_none a t'
    | bl b => cases rx; exact SeqAt.EqAt.str_bool a t' b
    | int b => obtain ⟨t, rfl⟩ := rx; exact SeqAt.EqAt.str_int a t' b t
    | str b => obtain ⟨t, rfl⟩ := rx; exact SeqAt.EqAt.str_str a t' b t
    | _ => exact absurd (show false = true from fx) Bool.false_ne_true
  | _ => exact absurd (show false = true from fy) Bool.false_ne_true
/-- the items' answers, read off the values (a value's own answer does not lean on its token) -/
def eqU (x : V) (u : Value) : Bool := match u with
  | .none => eqV .non x
  | .bool b => eqV (.bl b) x
  | .int i _ => eqV (.int i) x
  | .str z _ => eqV (.str z) x
  | _ => false
theorem eqU_of {x y : V} {u : Value} (r : RelV y u) (f : flatV y = true) : eqU x u = eqV y x := by
  cases y with
  | non => cases r; rfl
  | bl b => cases r; rfl
  | int i => obtain ⟨t, rfl⟩ := r; rfl
  | str z => obtain ⟨t, rfl⟩ := r; rfl
  | _ => exact absurd (show false = true from f) Bool.false_ne_true
theorem any_eqU {x : V} : ∀ {xs : List V} {us : List Value}, Vals xs us → xs.all flatV = true → us.any (eqU x) = xs.any fun y => eqV y x
  | _, _, .nil, _ => rfl
  | y :: xs, u :: us, .cons r t, f => by
    rw [List.all_cons, Bool.and_eq_true] at f
    rw [List.any_cons, List.any_cons, eqU_of r f.1, any_eqU t f.2]
theorem mem_eqAt {A : Around} {s : Shared} {x : V} {v : Value} (rx : RelV x v) (fx : flatV x = true) : ∀ {xs : List V} {us : List Value}, Vals xs us → xs.all flatV = true → ∀ u ∈ us, SeqAt.EqAt A s u v (eqU x u)
  | _, _, .nil, _ => fun u hu => by cases hu
  | y :: xs, u :: us, .cons r t, f => fun u' hu => by
    rw [List.all_cons, Bool.and_eq_true] at f
    rcases List.mem_cons.mp hu with rfl | hu
    · rw [eqU_of r f.1]; exact eqAt_V r rx f.1 fx
    · exact mem_eqAt rx fx t f.2 u' hu
def inV (x : V) (xs : List V) : Bool := xs.any fun y => eqV y x
/-- x in a list or tuple of flat items -/
def rIn (K : PySem.W.Frag) (neg : Bool) : R2 := fun x y H Q => ∃ p xs, y = .ref p ∧ (SqL K H p xs ∨ SqT K H p xs) ∧ flatV x = true ∧ xs.all flatV = true ∧ Q (.bl (if neg then !inV x xs else inV x xs)) H
theorem op_in_seq : OpR X (compareOp .In) (rIn X.K false) := by
  intro pins s σ H x y v u Q I rx ry h
  obtain ⟨p, xs, rfl, hq, fx, fs, q⟩ := h
  cases ry
  rcases hq with hq | hq
  · obtain ⟨its, r, pl, hz⟩ := I.list hq
    refine SeqAt.in_listAt (eqU x) pl.isList (fun w hw => mem_eqAt rx fx r fs w (by simpa using hw)) ⟨.bl _, H, I, rfl, ?_⟩
    rw [show its.toArray.any (eqU x) = its.any (eqU x) by simp, any_eqU r fs]
    exact q
  · obtain ⟨its, r, pl, hz⟩ := I.tuple hq
    refine SeqAt.in_tupleAt (eqU x) pl (fun w hw => mem_eqAt rx fx r fs w (by simpa using hw)) ⟨.bl _, H, I, rfl, ?_⟩
    rw [show its.toArray.any (eqU x) = its.any (eqU x) by simp, any_eqU r fs]
    exact q
theorem op_notIn_seq : OpR X (compareOp .NotIn) (rIn X.K true) := by
  intro pins s σ H x y v u Q I rx ry h
  obtain ⟨p, xs, rfl, hq, fx, fs, q⟩ := h
  cases ry
  rcases hq with hq | hq
  · obtain ⟨its, r, pl, hz⟩ := I.list hq
    refine SeqAt.notIn_listAt (eqU x) pl.isList (fun w hw => mem_eqAt rx fx r fs w (by simpa using hw)) ⟨.bl _, H, I, rfl, ?_⟩
    rw [show its.toArray.any (eqU x) = its.any (eqU x) by simp, any_eqU r fs]
    exact q
  · obtain ⟨its, r, pl, hz⟩ := I.tuple hq
    refine SeqAt.notIn_tupleAt (eqU x) pl (fun w hw => mem_eqAt rx fx r fs w (by simpa using hw)) ⟨.bl _, H, I, rfl, ?_⟩
    rw [show its.toArray.any (eqU x) = its.any (eqU x) by simp, any_eqU r fs]
    exact q
/-! ### len, list(x), tuple(x) of any list or tuple that is read -/
theorem call_len_seq : CallR X (.builtin "len") (fun xs H Q => ∃ p ys, xs = [.ref p] ∧ (SqL X.K H p ys ∨ SqT X.K H p ys) ∧ Q (.int ys.length) H) := by
  intro pins s σ H xs us Q I r h
  obtain ⟨p, ys, rfl, hq, q⟩ := h
  obtain ⟨u, rfl, rx⟩ := vals1 r
  cases rx
  have hn := line63
  rcases hq with hq | hq
  · obtain ⟨its, r', pl, hz⟩ := I.list hq
    have hlen := r'.length
    exact Calls.call_len_list pl.isList (by simp only [List.size_toArray] <;> omega) ⟨.int ys.length, H, I.tok _, ⟨s.toks + 1, by rw [List.size_toArray, hlen]⟩, q⟩
  · obtain ⟨its, r', pl, hz⟩ := I.tuple hq
    have hlen := r'.length
    exact len_tuple pl (by simp only [List.size_toArray] <;> omega) ⟨.int ys.length, H, I.tok _, ⟨s.toks + 1, by rw [List.size_toArray, hlen]⟩, q⟩
/-! ### the call of a builtin's method: o.m(..) -/
/-- the value is of that builtin type -/
def tyV (K : PySem.W.Frag) (T : String) (x : V) (H : Hp) : Prop := match x with
  | .str _ => T = "str"
  | .int _ => T = "int"
  | .ref p => (T = "list" ∧ ∃ xs, SqL K H p xs) ∨ (T = "tuple" ∧ ∃ o, K.lookup p = some o ∧ o.cls = .type "tuple" ∧ o.dict = none) ∨
      (T = "dict" ∧ ((∃ kvs, H p = some (.dK kvs)) ∨ ∃ kvs, H p = some (.dT kvs))) ∨ (T = "set" ∧ ∃ S n, H p = some (.set S n))
  | _ => False
theorem tyV_is {pins : List (Addr × Obj)} {σ : St} {H : Hp} {s : Shared} {T : String} {x : V} {v : Value} (I : Inv X pins σ H s) (r : RelV x v) (ty : tyV X.K T x H) :
    s.TypeIs v T ∧ ∀ a, v = .ref a → ∃ ob, s.heap.get? a = some ob ∧ ob.dict = none := by
  cases x with
  | str z =>
    obtain ⟨t, rfl⟩ := r
    cases (show T = "str" from ty)
    exact ⟨typeIs_str s z t, fun _ e => nomatch e⟩
  | int i =>
    obtain ⟨t, rfl⟩ := r
    cases (show T = "int" from ty)
    exact ⟨typeIs_int s i t, fun _ e => nomatch e⟩
  | ref p =>
    cases r
    rcases ty with ⟨rfl, xs, hq⟩ | ⟨rfl, o, hk, hc, hd⟩ | ⟨rfl, hk⟩ | ⟨rfl, S, n, hk⟩
    · obtain ⟨its, _, pl, _⟩ := I.list hq
      refine ⟨pl.isList.typeIs, fun a e => ?_⟩
      cases e
      obtain ⟨o, n, e, c, hd, _⟩ := pl
      exact ⟨o, e, hd⟩
    · refine ⟨⟨o, I.kIn p o hk, hc⟩, fun a e => ?_⟩
      cases e
      exact ⟨o, I.kIn _ o hk, hd⟩
    · have z : ∃ o, s.heap.get? p = some o ∧ o.ExactDict := by
        rcases hk with ⟨kvs, hk⟩ | ⟨kvs, hk⟩
        · obtain ⟨_, _, _, _, o, _, _, e, ex, _⟩ := I.hok p _ hk
          exact ⟨o, e, ex⟩
        · obtain ⟨_, _, _, _, o, _, _, e, ex, _⟩ := I.hok p _ hk
          exact ⟨o, e, ex⟩
      obtain ⟨o, e, ex⟩ := z
      refine ⟨⟨o, e, ex.1⟩, fun a e2 => ?_⟩
      cases e2
      exact ⟨o, e, ex.2.1⟩
    · obtain ⟨o, _, _, _, e, ex, _⟩ := I.hok p _ hk
      refine ⟨⟨o, e, ex.1⟩, fun a e2 => ?_⟩
      cases e2
      exact ⟨o, e, ex.2.1⟩
  | _ => exact False.elim ty
def tBM (K : PySem.W.Frag) (T : String) (r : V → List V → Hp → VK → Prop) (to : TE) (t : TA) : TE := fun σ H Q => to σ H fun x H1 => tyV K T x H1 ∧ t σ H1 fun xs H2 => r x xs H2 Q
variable {o e : Expr} {es : List Expr} {to : TE} {t : TA} {name : Str} {apos cpos : Pos} {T id : String} {r : V → List V → Hp → VK → Prop}
theorem pe_bm (pa : PlainAttrs T) (slot : Slot T name id) (hty : typeOf (.builtin id) = pure (.type "method_descriptor")) (hm : MtR X id r) (ho : PE X o to) (ha : PA X (e :: es) t)
    (hbase : attributeBase o name X.env (eval o X.env) = eval o X.env := by rfl)
    (hfew : ((backTo cpos (starEach (e :: es) X.env)).all (fun x => !x.1) && (backToKw cpos (keywordEach [] X.env)).all (fun x => x.1.isSome)
      && decide ((e :: es).length + ([] : List Keyword).length + (if ([] : List Keyword).isEmpty then 0 else 1) < 30)) = true := by rfl)
    (hline : (apos.endLine == cpos.line) = true := by rfl) (hs : starEach (e :: es) X.env = (false, eval e X.env) :: starEach es X.env := by rfl) (hplain : (backTo cpos (starEach es X.env)).any (·.1) = false := by rfl) :
    PE X (.Call (.Attribute o name apos) (e :: es) [] cpos) (tBM X.K T r to t) := by
  intro pins s σ H Q I h
  refine wpAny_Call_method_late hbase hfew hline rfl (thn (ho pins s σ H _ I h) fun v s1 ⟨x, H1, I1, r1, ty, q1⟩ => ?_)
  obtain ⟨h1, h2⟩ := tyV_is I1 r1 ty
  refine ⟨T, id, pa, slot, hty, h1, h2, ?_⟩
  have hA := ha cpos pins s1 σ H1 _ I1 q1
  rw [hs] at hA ⊢
  refine Calls.callWith_builtin (by show (false || (backTo cpos (starEach es X.env)).any (·.1)) = false; rw [hplain] <;> rfl) (Calls.evalArgs_plain ?_)
  exact thn hA fun us s2 ⟨vs, H2, I2, r2, q2⟩ => hm pins s2 σ H2 x vs v us Q I2 r1 r2 q2
/- xs.append(e), list.index on a module's tuple .. are MtR facts of 06m -/
end
end L2
namespace L2
open PySem PySem.Spec PyProof.Rows
def MtM (X : Cx) (id : String) (r : V → List V → Hp → VK → Prop) : Prop :=
  ∀ (pins : List (Addr × Obj)) (s : Shared) (σ : St) (H : Hp) (x : V) (xs : List V) (v : Value) (us : List Value) (Q : VK), Inv X pins σ H s → RelV x v → Vals xs us → r x xs H Q →
    wpAny (model X.prog X.w) X.A (call (.builtin id) (v :: us)) (EP X pins σ Q) X.xe s
/-! ### lists of values -/
theorem Vals.one : ∀ {x : V} {us : List Value}, Vals [x] us → ∃ u, us = [u] ∧ RelV x u
  | _, _, .cons r .nil => ⟨_, rfl, r⟩
section
variable {X : Cx} {pins : List (Addr × Obj)} {σ : St} {H : Hp} {s : Shared} {l b : Addr} {xs ys zs : List V}
/-! ### the two steps: a tracked list is rewritten, a new list is laid -/
theorem Inv.lset {its its' : List Value} {n : Nat} {f : Array Value → Array Value} {t' : Nat} (I : Inv X pins σ H s) (hH : H l = some (.lst xs))
    (e : s.heap.get? l = some { cls := .type "list", data := .seq its.toArray n }) (hf : f its.toArray = its'.toArray) (hv : Vals ys its') (hz : ys.length ≤ sizeLine) :
    Inv X pins σ (upd H l (.lst ys)) { s with heap := s.heap.update l (Obj.mapSeq f), toks := t' } := by
  have q := PySem.IsL.update e f
  rw [hf] at q
  refine I.write (x := l) (e := l) (by rw [hH]; exact trivial) (.inl rfl) (fun b' u hb hu => (Heap.get?_update_other s.heap (Obj.mapSeq f) (Ne.symm hb)).trans hu) ⟨_, q⟩ ?_
  exact ⟨hz, its', _, hv, q⟩
theorem Inv.lnew {its : List Value} {t' : Nat} (I : Inv X pins σ H s) (hv : Vals ys its) (hz : ys.length ≤ sizeLine) :
    Inv X pins σ (upd H s.heap.objs.size (.lst ys)) { s with heap := s.heap.push { cls := .type "list", data := .seq its.toArray }, toks := t' } :=
  I.laid (fun _ _ q => Heap.get?_push_of_some _ q) (Nat.le_refl _) ⟨hz, its, 0, hv, Heap.get?_push_size _ rfl⟩
theorem Inv.fresh (I : Inv X pins σ H s) : H s.heap.objs.size = none := I.hok.fresh (Nat.le_refl _)
theorem Inv.lstM (I : Inv X pins σ H s) (hH : H l = some (.lst xs)) : xs.length ≤ sizeLine ∧ ∃ (its : List Value) (n : Nat), Vals xs its ∧ xs.length = its.length ∧ s.heap.get? l = some { cls := .type "list", data := .seq its.toArray n } := by
  obtain ⟨z, its, n, r, e⟩ := I.hok l _ hH
  exact ⟨z, its, n, r, r.length, e⟩
theorem notLongL {n : Nat} (h : n ≤ sizeLine) : Builtin.List.listTooLong n = false := by
  unfold Builtin.List.listTooLong
  exact decide_eq_false (by omega)
end
section
variable {X : Cx}
/-! ### methods -/
def rAppend : V → List V → Hp → VK → Prop := fun x vs H Q => ∃ l xs y, x = .ref l ∧ vs = [y] ∧ H l = some (.lst xs) ∧ xs.length < sizeLine ∧ Q .non (upd H l (.lst (xs ++ [y])))
theorem mt_append : MtM X "list.append" rAppend := by
  intro pins s σ H x vs v us Q I rx rv h
  obtain ⟨l, xs, y, rfl, rfl, hH, hz, q⟩ := h
  cases rx
  obtain ⟨u, rfl, ru⟩ := rv.one
  obtain ⟨z, its, n, r, hl, e⟩ := I.lstM hH
  refine call_meets F.slot_list_append ⟨_, e, rfl⟩ F.entry_list_append (F.args_list_append_2 _ _) (PySem.list_append l its.toArray n u (by rw [List.size_toArray]; omega)) ⟨e, ?_⟩
  refine ⟨.non, _, I.lset (its' := its ++ [u]) hH e (by simp) (r.append (.cons ru .nil)) ?_, rfl, q⟩
  rw [List.length_append, List.length_singleton]
  omega
def rExtend : V → List V → Hp → VK → Prop := fun x vs H Q => ∃ l b xs zs, x = .ref l ∧ vs = [.ref b] ∧ H l = some (.lst xs) ∧ H b = some (.lst zs) ∧ xs.length + zs.length ≤ sizeLine ∧ Q .non (upd H l (.lst (xs ++ zs)))
theorem mt_extend : MtM X "list.extend" rExtend := by
  intro pins s σ H x vs v us Q I rx rv h
  obtain ⟨l, b, xs, zs, rfl, rfl, hH, hB, hz, q⟩ := h
  cases rx
  obtain ⟨u, rfl, ru⟩ := rv.one
  cases ru
  obtain ⟨z, its, n, r, hl, e⟩ := I.lstM hH
  obtain ⟨z2, its2, n2, r2, hl2, e2⟩ := I.lstM hB
  have hsz : its.toArray.size + its2.toArray.size ≤ sizeLine := by rw [List.size_toArray, List.size_toArray]; omega
  have hlong : ¬ (!its.toArray.isEmpty && Builtin.List.listTooLong (its.toArray.size + its2.toArray.size)) = true := by
    rw [notLongL hsz, Bool.and_false]
    exact Bool.false_ne_true
  refine call_meets F.slot_list_extend ⟨_, e, rfl⟩ F.entry_list_extend (F.args_list_extend_2 _ _)
    (AutoSeq1.list_extend_list_list_0 l its.toArray n b its2.toArray n2 hlong (by rw [List.size_toArray]; omega) (by omega)) ⟨e, e2, ?_⟩
  refine ⟨.non, _, I.lset (its' := its ++ its2) hH e (by simp) (r.append r2) ?_, rfl, q⟩
  rw [List.length_append]
  omega
/-! ### list + list, list += list, list * int -/
def rCat : R2 := fun x y H Q => ∃ l b xs zs, x = .ref l ∧ y = .ref b ∧ H l = some (.lst xs) ∧ H b = some (.lst zs) ∧ xs.length + zs.length ≤ sizeLine ∧ ∀ p, H p = none → Q (.ref p) (upd H p (.lst (xs ++ zs)))
theorem op_cat : OpR X (binaryOp .Add) rCat := by
  intro pins s σ H x y v u Q I rx ry h
  obtain ⟨l, b, xs, zs, rfl, rfl, hH, hB, hz, q⟩ := h
  cases rx
  cases ry
  obtain ⟨z, its, n, r, hl, e⟩ := I.lstM hH
  obtain ⟨z2, its2, n2, r2, hl2, e2⟩ := I.lstM hB
  refine PySem.P.add_list e e2 ?_ (by rw [List.size_toArray, List.size_toArray]; omega)
  have ea : its.toArray ++ its2.toArray = (its ++ its2).toArray := by simp
  rw [ea]
  exact ⟨.ref _, _, I.lnew (t' := s.toks) (r.append r2) (by rw [List.length_append]; omega), rfl, q _ I.fresh⟩
/-! ### del xs[i] -/
end
/-! ### xs[a:b] = ys -/
section
variable {prog : Program} {w : World} {A : Around} {E : Value → Shared → Prop} {s : Shared}
set_option maxRecDepth 100000 in
end
section
variable {X : Cx}
end
end L2
namespace L2
open PySem PySem.Spec PyProof.Rows
theorem Vals.ints : ∀ {ns : List Int} {us : List Value}, Vals (ns.map V.int) us → IntsAre us ns
  | [], us, h => by
    rw [List.map_nil] at h
    cases h
    exact IntsAre.nil
  | n :: ns, us, h => by
    rw [List.map_cons] at h
    cases h with
    | cons r t =>
      obtain ⟨k, rfl⟩ := r
      exact IntsAre.cons n k (Vals.ints t)
theorem Vals.bls : ∀ {bs : List Bool} {us : List Value}, Vals (bs.map V.bl) us → us = bs.map Value.bool
  | [], us, h => by
    rw [List.map_nil] at h
    cases h
    rfl
  | b :: bs, us, h => by
    rw [List.map_cons] at h
    cases h with
    | cons r t =>
      cases r
      rw [Vals.bls t, List.map_cons]
theorem Vals.ref1 {a : Addr} {us : List Value} (r : Vals [V.ref a] us) : us = [Value.ref a] := by
  cases r with
  | cons r t =>
    cases t
    cases r
    rfl
/-! ### the library's walks over a list of ints, kept objects alone -/
section
variable {prog : Program} {w : World} {A : Around} {E : Value → Shared → Prop} {s : Shared} {l : Addr} {its : List Value} {ns : List Int} {Q : Value → Shared → Prop}
theorem sum_raw (hh : A.handled = none) (hl : s.heap.IsList l its.toArray) (hi : IntsAre its ns)
    (h : ∀ h' tk t', (∀ b o, s.heap.get? b = some o → h'.get? b = some o) → Q (.int ns.sum t') { s with heap := h', toks := tk }) : wpAny (model prog w) A (call (.builtin "sum") [.ref l]) Q E s := by
  obtain ⟨xs, e⟩ := hi.allInts.items
  have hn : numsOf (intItems xs).toList = ns := by rw [← e]; exact hi.numsOf
  rw [nums_intItems] at hn
  rw [e] at hl
  refine PySem.sum_intListG hh hl fun h' tk t' hk => ?_
  have := h h' tk t' hk
  rw [preSum_eq, List.take_of_length_le (by simp), hn]; exact this
theorem max_raw (hh : A.handled = none) (hl : s.heap.IsList l its.toArray) (hi : IntsAre its ns) (hne : 0 < ns.length)
    (h : ∀ h' tk M t', (∀ b o, s.heap.get? b = some o → h'.get? b = some o) → M ∈ ns → (∀ a, a ∈ ns → a ≤ M) → Q (.int M t') { s with heap := h', toks := tk }) : wpAny (model prog w) A (call (.builtin "max") [.ref l]) Q E s := by
  obtain ⟨xs, e⟩ := hi.allInts.items
  have hn : numsOf (intItems xs).toList = ns := by rw [← e]; exact hi.numsOf
  rw [nums_intItems] at hn
  subst hn
  rw [e] at hl
  have hsz : 0 < xs.size := by simpa using hne
  refine PySem.max_intList hh hl hsz fun v h' tk hv hk => ?_
  obtain ⟨t, rfl⟩ := intItems_at hv
  obtain ⟨h1, h2⟩ := argBest_gt (numAt xs) (xs.size - 1)
  refine h h' tk _ t hk ?_ fun a ha => ?_
  · rw [numAt_eq]; exact PySem.getD_mem (by rw [List.length_map, Array.length_toList]; omega)
  · obtain ⟨j, hj, rfl⟩ := mem_getD ha
    rw [List.length_map, Array.length_toList] at hj
    rw [← numAt_eq]; exact h2 j (by omega)
end
/-! ### the calls, by values (CallR of 03t; MtR of 06l) -/
section
variable {X : Cx}
/-- sum(xs) of a list of ints -/
def rSum (K : PySem.W.Frag) : List V → Hp → VK → Prop := fun vs H Q => ∃ (a : Addr) (ns : List Int), vs = [V.ref a] ∧ SqL K H a (ns.map V.int) ∧ Q (.int ns.sum) H
/-- max(xs), min(xs) of a list of ints -/
def rMax (K : PySem.W.Frag) : List V → Hp → VK → Prop := fun vs H Q => ∃ (a : Addr) (ns : List Int), vs = [V.ref a] ∧ SqL K H a (ns.map V.int) ∧ 0 < ns.length ∧ ∀ m, m ∈ ns → (∀ y, y ∈ ns → y ≤ m) → Q (.int m) H
theorem cr_sum (hc : X.calm = true) : CallR X (.builtin "sum") (rSum X.K) := by
  intro pins s σ H vs us Q I r h
  obtain ⟨a, ns, rfl, hs, q⟩ := h
  obtain ⟨its, rv, hl, _⟩ := I.list hs
  rw [Vals.ref1 r]
  exact sum_raw (I.ok.hd hc) hl.isList rv.ints fun h' tk t' hk => ⟨.int _, H, I.kept hk, ⟨_, rfl⟩, q⟩
theorem cr_max (hc : X.calm = true) : CallR X (.builtin "max") (rMax X.K) := by
  intro pins s σ H vs us Q I r h
  obtain ⟨a, ns, rfl, hs, hne, q⟩ := h
  obtain ⟨its, rv, hl, _⟩ := I.list hs
  rw [Vals.ref1 r]
  exact max_raw (I.ok.hd hc) hl.isList rv.ints hne fun h' tk m t' hk h1 h2 => ⟨.int _, H, I.kept hk, ⟨_, rfl⟩, q m h1 h2⟩
/-! sorted, sort (fewer than 64 items: the library's own bound) -/
end
/-! ### list.index, flat items -/
section
variable {X : Cx}
end
/-! ### type(x) of an own instance; is, is not of a module's class -/
section
variable {X : Cx}
end
/-! ### any(xs), all(xs) of a list of bools -/
theorem iter_any {prog : Program} {w : World} {A : Around} {E : Value → Shared → Prop} {s : Shared} {l : Addr} {items : Array Value} {Q : Value → Shared → Prop} (hl : s.heap.IsList l items)
    (h : ∀ s₂ : Shared, s₂ = { s with heap := s.heap.push { cls := .type "list_iterator", data := .fields #[.ref l, .int 0 0] } } →
      (s₂.heap.IsListIter s.heap.objs.size l 0 ∧ s₂.heap.IsList l items) → l ≠ s.heap.objs.size → Q (.ref s.heap.objs.size) s₂) : wpAny (model prog w) A (pyIter (.ref l)) Q E s := by
  have hlt : l < s.heap.objs.size := by obtain ⟨_, e, _⟩ := hl; exact Heap.lt_size e
  exact wpAny_pyIter_list hl (h _ rfl ⟨⟨_, Heap.get?_push_size _ rfl, rfl, rfl⟩, hl.push _⟩ (Nat.ne_of_lt hlt))
theorem truth_bools {prog : Program} {w : World} {A : Around} {bs : List Bool} {its : List Value} (e : its = bs.map Value.bool) :
    TruthOf prog w A (fun i v => its.toArray[i]? = some v) (fun i => bs.getD i false) := fun i v s Q E hv hq => by
  have hv' : its[i]? = some v := by simpa using hv
  rw [e, List.getElem?_map] at hv'
  obtain ⟨b, hb, rfl⟩ := Option.map_eq_some_iff.mp hv'
  have hg : bs.getD i false = b := by rw [List.getD_eq_getElem?_getD, hb] <;> rfl
  have hq' : Q (bs.getD i false) s := hq
  rw [hg] at hq'
  exact wpAny_truthy_bool hq'
theorem all_range : ∀ bs : List Bool, (List.range bs.length).all (fun i => bs.getD i false) = bs.all id
  | [] => rfl
  | b :: bs => by
    rw [List.length_cons, List.range_succ_eq_map, List.all_cons, List.all_map, List.all_cons, ← all_range bs]
    all_goals rfl
section
variable {X : Cx}
def rAll (K : PySem.W.Frag) : List V → Hp → VK → Prop := fun vs H Q => ∃ (a : Addr) (bs : List Bool), vs = [V.ref a] ∧ SqL K H a (bs.map V.bl) ∧ Q (.bl (bs.all id)) H
theorem cr_all (hc : X.calm = true) : CallR X (.builtin "all") (rAll X.K) := by
  intro pins s σ H vs us Q I r h
  obtain ⟨a, bs, rfl, hs, q⟩ := h
  obtain ⟨its, rv, hl, _⟩ := I.list hs
  rw [Vals.ref1 r]
  have hb := rv.bls
  refine call_all_walk (iter_any hl.isList fun s₂ e2 st hne => ?_)
  subst e2
  refine ⟨_, _, _, _, _, _, _, rfl, Walks.list (A := X.A.in1) (I.ok.hd hc) _ a hne its.toArray, st, truth_bools hb, fun h' tk hk => ?_⟩
  refine ⟨.bl _, H, I.kept fun b o eo => hk b o (fun hmem => ?_) (Heap.get?_push_of_some _ eo), ?_, q⟩
  · rcases List.mem_cons.mp hmem with e1 | hmem
    · exact absurd (e1 ▸ Heap.lt_size eo) (Nat.lt_irrefl _)
    · cases hmem
  · show Value.bool _ = Value.bool _
    rw [← all_range, hb, List.size_toArray, List.length_map]
end
/-! ### == and != of data at any depth: none, bools, ints, texts, lists, tuples -/
section
variable {X : Cx} {pins : List (Addr × Obj)} {σ : St} {H : Hp} {s : Shared}
end
section
variable {X : Cx}
end
end L2
namespace L2
open PySem PySem.Spec PyProof.Rows
abbrev CellAt (h : Heap) (c : Addr) (v : Option Value) : Prop := h.IsCell c v
def relS (scope sc : Scope) : Scope :=
  { scope with names := scope.names.map fun (n, k) => if (k == .free && sc.kind == .function && sc.names.lookup n == some .cell) then (n, .cell) else (n, k) }
def cloFrom (cells : List (Str × Addr)) : List (Str × NameKind) → List (Str × Addr) → List (Str × Addr)
  | [], acc => acc
  | (n, k) :: r, acc => if k == .free then cloFrom cells r ((n, (cells.lookup n).getD 0) :: acc) else cloFrom cells r acc
theorem closure_loop (env : Env) (f : Str × NameKind → List (Str × Addr) → Sem (ForInStep (List (Str × Addr))))
    (hf : ∀ n k c, f (n, k) c = if k == .free then (do let a ← cellOf env n; pure (.yield ((n, a) :: c))) else pure (.yield c)) :
    ∀ (names : List (Str × NameKind)) (acc : List (Str × Addr)), (∀ y ∈ names, y.2 = .free → ∃ c, env.cells.lookup y.1 = some c) → forIn names acc f = pure (cloFrom env.cells names acc)
  | [], acc, _ => by rw [List.forIn_nil]; rfl
  | (n, k) :: r, acc, h => by
    rw [List.forIn_cons, hf]
    have ih := fun acc => closure_loop env f hf r acc fun y hy => h y (List.mem_cons_of_mem _ hy)
    unfold cloFrom
    by_cases hk : (k == NameKind.free) = true
    · rw [if_pos hk, if_pos hk]
      obtain ⟨c, hc⟩ := h (n, k) List.mem_cons_self (by simpa using hk)
      have e : cellOf env n = pure c := by unfold cellOf; rw [hc]
      rw [e]
      have e2 : (env.cells.lookup n).getD 0 = c := by rw [hc]; rfl
      rw [e2]
      exact ih _
    · rw [if_neg hk, if_neg hk]
      exact ih _
theorem closure_ok {scope : Scope} {env : Env} (h : ∀ y ∈ scope.names, y.2 = .free → ∃ c, env.cells.lookup y.1 = some c) : closureFor scope env = pure (cloFrom env.cells scope.names []) := by
  simp only [closureFor]
  rw [closure_loop env _ (fun n k c => rfl) scope.names [] h]
  rfl
theorem mem_lookup {α : Type} : ∀ {l : List (Str × α)} {n : Str} {c : α}, (n, c) ∈ l → ∃ c', l.lookup n = some c'
  | (k, v) :: r, n, c, h => by
    rw [List.lookup_cons]
    cases hb : n == k with
    | true => exact ⟨_, rfl⟩
    | false =>
      rcases List.mem_cons.mp h with e | h
      · cases e; simp at hb
      · exact mem_lookup h
theorem cloFrom_mem {cells : List (Str × Addr)} : ∀ {names : List (Str × NameKind)} {acc : List (Str × Addr)} {n : Str} {c : Addr}, (n, c) ∈ cloFrom cells names acc → (n, c) ∈ acc ∨ ((n, .free) ∈ names ∧ c = (cells.lookup n).getD 0)
  | [], _, _, _, h => .inl h
  | (m, k) :: r, acc, n, c, h => by
    unfold cloFrom at h
    split at h
    · rename_i hk
      have hk : k = .free := by simpa using hk
      rcases cloFrom_mem h with h | ⟨h1, h2⟩
      · rcases List.mem_cons.mp h with e | h
        · cases e; exact .inr ⟨hk ▸ List.mem_cons_self, rfl⟩
        · exact .inl h
      · exact .inr ⟨List.mem_cons_of_mem _ h1, h2⟩
    · rcases cloFrom_mem h with h | ⟨h1, h2⟩
      · exact .inl h
      · exact .inr ⟨List.mem_cons_of_mem _ h1, h2⟩
theorem cloFrom_acc {cells : List (Str × Addr)} : ∀ {names : List (Str × NameKind)} {acc : List (Str × Addr)} {p : Str × Addr}, p ∈ acc → p ∈ cloFrom cells names acc
  | [], _, _, h => h
  | (m, k) :: r, acc, p, h => by
    unfold cloFrom
    split
    · exact cloFrom_acc (List.mem_cons_of_mem _ h)
    · exact cloFrom_acc h
theorem cloFrom_has {cells : List (Str × Addr)} : ∀ {names : List (Str × NameKind)} {acc : List (Str × Addr)} {n : Str}, (n, .free) ∈ names → (n, (cells.lookup n).getD 0) ∈ cloFrom cells names acc
  | (m, k) :: r, acc, n, h => by
    unfold cloFrom
    rcases List.mem_cons.mp h with e | h
    · cases e
      exact cloFrom_acc List.mem_cons_self
    · split
      · exact cloFrom_has h
      · exact cloFrom_has h
theorem cells_mem : ∀ {names : List (Str × NameKind)} {h : Heap} {acc : List (Str × Addr)} {x : Str} {c : Addr}, (x, c) ∈ cellsFrom h.objs.size names acc →
    (x, c) ∈ acc ∨ ((x, .cell) ∈ names ∧ h.objs.size ≤ c ∧ CellAt (pushCells h names) c none)
  | [], _, _, _, _, h => .inl h
  | (n, k) :: r, h, acc, x, c, hm => by
    unfold cellsFrom at hm
    unfold pushCells
    split at hm
    · rename_i hk
      rw [if_pos hk]
      have hk : k = .cell := by simpa using hk
      rw [← Heap.size_push h { cls := .type "cell", data := .cell none }] at hm
      rcases cells_mem hm with hm | ⟨h1, h2, h3⟩
      · rcases List.mem_cons.mp hm with e | hm
        · cases e
          exact .inr ⟨hk ▸ List.mem_cons_self, Nat.le_refl _, _, pushCells_keeps r _ _ _ (Heap.get?_push_size _ rfl), rfl⟩
        · exact .inl hm
      · rw [Heap.size_push] at h2
        exact .inr ⟨List.mem_cons_of_mem _ h1, Nat.le_of_succ_le h2, h3⟩
    · rename_i hk
      rw [if_neg hk]
      rcases cells_mem hm with hm | ⟨h1, h2, h3⟩
      · exact .inl hm
      · exact .inr ⟨List.mem_cons_of_mem _ h1, h2, h3⟩
theorem cells_acc : ∀ {names : List (Str × NameKind)} {n : Nat} {acc : List (Str × Addr)} {p : Str × Addr}, p ∈ acc → p ∈ cellsFrom n names acc
  | [], _, _, _, h => h
  | (m, k) :: r, n, acc, p, h => by
    unfold cellsFrom
    split
    · exact cells_acc (List.mem_cons_of_mem _ h)
    · exact cells_acc h
theorem cells_has : ∀ {names : List (Str × NameKind)} {n : Nat} {acc : List (Str × Addr)} {x : Str}, (x, .cell) ∈ names → ∃ c, (x, c) ∈ cellsFrom n names acc
  | (m, k) :: r, n, acc, x, h => by
    unfold cellsFrom
    rcases List.mem_cons.mp h with e | h
    · cases e
      exact ⟨n, cells_acc List.mem_cons_self⟩
    · split
      · exact cells_has h
      · exact cells_has h
theorem cells_inj : ∀ {names : List (Str × NameKind)} {h : Heap} {acc : List (Str × Addr)} {x y : Str} {c : Addr}, (∀ p ∈ acc, p.2 < h.objs.size) → (∀ x y c, (x, c) ∈ acc → (y, c) ∈ acc → x = y) →
    (x, c) ∈ cellsFrom h.objs.size names acc → (y, c) ∈ cellsFrom h.objs.size names acc → x = y
  | [], _, _, _, _, _, _, hi, h1, h2 => hi _ _ _ h1 h2
  | (n, k) :: r, h, acc, x, y, c, hl, hi, h1, h2 => by
    unfold cellsFrom at h1 h2
    split at h1
    · rename_i hk
      rw [if_pos hk] at h2
      rw [← Heap.size_push h { cls := .type "cell", data := .cell none }] at h1 h2
      refine cells_inj (h := h.push _) (fun p hp => ?_) (fun x y c a b => ?_) h1 h2
      · rw [Heap.size_push]
        rcases List.mem_cons.mp hp with rfl | hp
        · exact Nat.lt_succ_self _
        · exact Nat.lt_succ_of_lt (hl p hp)
      · rcases List.mem_cons.mp a with e | a <;> rcases List.mem_cons.mp b with e' | b
        · cases e; cases e'; rfl
        · cases e; exact absurd (hl _ b) (Nat.lt_irrefl _)
        · cases e'; exact absurd (hl _ a) (Nat.lt_irrefl _)
        · exact hi _ _ _ a b
    · rename_i hk
      rw [if_neg hk] at h2
      exact cells_inj hl hi h1 h2
theorem newEnv_comp {M : Model} {A : Around} {E : Value → Shared → Prop} {s : Shared} {scope : Scope} {globals : Addr} {closure : List (Str × Addr)} {qual : Str} {func : Option Addr} {code : Value} {around : Env} {builtins : Addr} {Q : Env → Shared → Prop}
    (h : Q (newEnv scope s.heap.objs.size globals (cellsFrom (s.heap.objs.size + 1) scope.names closure) qual func code (some around) builtins)
      { s with heap := pushCells (s.heap.push { cls := .type "dict", data := .dict #[] }) scope.names }) :
    wpAny M A (newFunctionEnv scope globals closure [] qual func code (some around) builtins) Q E s := by
  simp only [newFunctionEnv, Option.isSome_some, if_true]
  refine wpAny_bind (wpAny_alloc ?_)
  refine wpAny_bind (wpAny_layCells _ (fun n k c => rfl) scope.names closure _ _ ?_)
  rw [show ({ s with heap := s.heap.push { cls := .type "dict", data := .dict #[] } } : Shared).heap.objs.size = s.heap.objs.size + 1 from Heap.size_push ..]
  rw [List.forIn_nil]
  exact wpAny_bind (wpAny_pure (wpAny_pure h))
/-- every name of the written scope, in the scope that runs -/
theorem lookup_relS {sc : Scope} : ∀ {names : List (Str × NameKind)} {x : Str} {k : NameKind},
    (names.map fun (n, k) => if (k == NameKind.free && sc.kind == .function && sc.names.lookup n == some .cell) then (n, NameKind.cell) else (n, k)).lookup x = some k →
    ∃ k', names.lookup x = some k' ∧ (k = k' ∨ (k' = .free ∧ k = .cell))
  | [], _, _, h => by simp at h
  | (n, k₀) :: r, x, k, h => by
    have ih := @lookup_relS sc r x k
    have h' : List.lookup x ((if (k₀ == NameKind.free && sc.kind == .function && sc.names.lookup n == some .cell) = true then (n, NameKind.cell) else (n, k₀)) :: (r.map _)) = some k := h
    cases hx : x == n with
    | true =>
      simp only [List.lookup_cons, hx]
      by_cases hc : (k₀ == NameKind.free && sc.kind == .function && sc.names.lookup n == some .cell) = true
      · rw [if_pos hc] at h'
        simp only [List.lookup_cons, hx] at h'
        cases h'
        simp only [Bool.and_eq_true, beq_iff_eq] at hc
        exact ⟨k₀, rfl, .inr ⟨hc.1.1, rfl⟩⟩
      · rw [if_neg hc] at h'
        simp only [List.lookup_cons, hx] at h'
        cases h'
        exact ⟨_, rfl, .inl rfl⟩
    | false =>
      simp only [List.lookup_cons, hx]
      by_cases hc : (k₀ == NameKind.free && sc.kind == .function && sc.names.lookup n == some .cell) = true
      · rw [if_pos hc] at h'
        simp only [List.lookup_cons, hx] at h'
        exact ih h'
      · rw [if_neg hc] at h'
        simp only [List.lookup_cons, hx] at h'
        exact ih h'
/-- the names of a comprehension's block: its own (with their places in N), or captured -/
structure BlkOk (N : List Str) (sc scope : Scope) (own : List (Str × Nat)) : Prop where
  kind : scope.kind = .function
  uniq : ∀ y ∈ scope.names, scope.names.lookup y.1 = some y.2
  ix : ∀ p ∈ own, N[p.2]? = some p.1
  free : ∀ y ∈ scope.names, y.2 = .free → sc.names.lookup y.1 = some .cell ∨ sc.names.lookup y.1 = some .free
  own : ∀ y ∈ scope.names, y.2 = .local ∨ y.2 = .cell → y.1 ∈ own.map (·.1) ∨ y.1 ∉ N
/-- the slots of the block's own names forgotten -/
def wipe (σ : St) : List Nat → St
  | [] => σ
  | v :: vs => (wipe σ vs).set v none
theorem wipe_length (σ : St) : ∀ vs : List Nat, (wipe σ vs).length = σ.length
  | [] => rfl
  | v :: vs => by unfold wipe; rw [List.length_set, wipe_length σ vs]
theorem wipe_some {σ : St} {i : Nat} {x : V} : ∀ {vs : List Nat}, (wipe σ vs)[i]? = some (some x) → σ[i]? = some (some x) ∧ i ∉ vs
  | [], h => ⟨h, by simp⟩
  | v :: vs, h => by
    unfold wipe at h
    by_cases hi : v = i
    · subst hi
      by_cases hv : v < (wipe σ vs).length
      · rw [List.getElem?_set_self hv] at h; cases h
      · rw [List.getElem?_eq_none (by simpa using hv)] at h; cases h
    · rw [List.getElem?_set_ne hi] at h
      obtain ⟨h1, h2⟩ := wipe_some h
      exact ⟨h1, by simp only [List.mem_cons, not_or]; exact ⟨fun e => hi e.symm, h2⟩⟩
/-- the context of a block that starts at s, its iterator's objects at fp -/
abbrev Cx.blk (X : Cx) (s : Shared) (H : Hp) (scope : Scope) (cenv : Env) (fp : List Addr) : Cx := { X with s_0 := s, H_0 := H, env := cenv, outer := X.stack, ex := fp, fn := fun x => scope.names.lookup x == some .cell, pn := [], xe := fun _ _ => False }
section
variable {X : Cx} {pins : List (Addr × Obj)} {σ : St} {H : Hp} {s : Shared}
theorem block_start {scope : Scope} {own : List (Str × Nat)} {fp : List Addr} (I : Inv X pins σ H s) (ok : BlkOk X.N X.env.scope scope own) (hN : X.N.Nodup) (hfp : ∀ b ∈ fp, FpOk X pins H b ∧ b < s.heap.objs.size) :
    Inv (X.blk s H scope (compEnvC scope (cellsFrom (s.heap.objs.size + 1) scope.names (cloFrom X.env.cells scope.names [])) s.heap.objs.size X.env) fp) [] (wipe σ (own.map (·.2))) H { s with heap := pushCells (s.heap.push { cls := .type "dict", data := .dict #[] }) scope.names } := by
  have hfree : ∀ y ∈ scope.names, y.2 = .free → ∃ c, X.env.cells.lookup y.1 = some c := fun y hy e => by
    rcases ok.free y hy e with k | k
    · exact I.ok.has _ (.inl k)
    · exact I.ok.has _ (.inr k)
  generalize hcenv : compEnvC scope (cellsFrom (s.heap.objs.size + 1) scope.names (cloFrom X.env.cells scope.names [])) s.heap.objs.size X.env = cenv
  have kp : ∀ b o, s.heap.get? b = some o → (pushCells (s.heap.push { cls := .type "dict", data := .dict #[] }) scope.names).get? b = some o := fun b o e => pushCells_keeps _ _ _ _ (Heap.get?_push_of_some _ e)
  have hL : cenv.locals = s.heap.objs.size := by rw [← hcenv]; rfl
  have hcl : cenv.cells = cellsFrom (s.heap.objs.size + 1) scope.names (cloFrom X.env.cells scope.names []) := by rw [← hcenv]; rfl
  have hsc : cenv.scope = relS scope X.env.scope := by rw [← hcenv]; rfl
  rw [← Heap.size_push s.heap { cls := .type "dict", data := .dict #[] }] at hcl
  have cm : ∀ {y c}, (y, c) ∈ cloFrom X.env.cells scope.names [] → X.env.cells.lookup y = some c ∧ c < s.heap.objs.size := fun {y c} hm => by
    rcases cloFrom_mem hm with hm | ⟨h1, rfl⟩
    · cases hm
    · obtain ⟨c, hc⟩ := hfree _ h1 rfl
      rw [hc]
      obtain ⟨w, z⟩ := I.cell _ _ hc
      exact ⟨rfl, z.lt⟩
  have mem : ∀ {y c}, cenv.cells.lookup y = some c → (X.env.cells.lookup y = some c ∧ c < s.heap.objs.size) ∨ (s.heap.objs.size + 1 ≤ c ∧ CellAt (pushCells (s.heap.push { cls := .type "dict", data := .dict #[] }) scope.names) c none) := fun {y c} e => by
    rw [hcl] at e
    rcases cells_mem (PySem.mem_of_lookup e) with hm | ⟨_, h2, h3⟩
    · exact .inl (cm hm)
    · rw [Heap.size_push] at h2; exact .inr ⟨h2, h3⟩
  have look : ∀ {y}, scope.names.lookup y = some .free → ∃ c, cenv.cells.lookup y = some c ∧ X.env.cells.lookup y = some c := fun {y} hl => by
    have hy : (y, NameKind.free) ∈ scope.names := PySem.mem_of_lookup hl
    obtain ⟨c', e'⟩ := mem_lookup (cells_acc (names := scope.names) (n := (s.heap.push { cls := .type "dict", data := .dict #[] }).objs.size) (cloFrom_has (cells := X.env.cells) (acc := []) hy))
    rw [← hcl] at e'
    refine ⟨c', e', ?_⟩
    rw [hcl] at e'
    rcases cells_mem (PySem.mem_of_lookup e') with hm | ⟨h1, _, _⟩
    · exact (cm hm).1
    · have := ok.uniq _ h1
      rw [hl] at this; cases this
  have okB : (X.blk s H scope cenv fp).Ok := by
    refine ⟨I.ok.mod, by show cenv.scope.kind = _; rw [hsc]; exact ok.kind, by show cenv.globals = _; rw [← hcenv]; exact I.ok.glob, by show cenv.builtins = _; rw [← hcenv]; exact I.ok.blt, by show s.heap.objs.size ≤ cenv.locals; rw [hL]; exact Nat.le_refl _,
      fun y z c e1 e2 => ?_, fun y hy => ?_, fun y c z e => ?_, I.ok.hd, I.ok.frames, .inl rfl, fun b hb => ⟨?_, fun y c e z => ?_⟩, I.bs, Nat.le_trans I.ok.bsz I.sz, fun b o e hb => ?_, fun b hb z => ?_, I.stack, I.stkFree⟩
    · have e1 : cenv.cells.lookup y = some c := e1
      have e2 : cenv.cells.lookup z = some c := e2
      rw [hcl] at e1 e2
      refine cells_inj (fun p hp => ?_) (fun y z c a b => I.ok.inj y z c (cm a).1 (cm b).1) (PySem.mem_of_lookup e1) (PySem.mem_of_lookup e2)
      rw [Heap.size_push]
      exact Nat.lt_succ_of_lt (cm (y := p.1) (c := p.2) hp).2
    · show ∃ c, cenv.cells.lookup y = some c
      have key : ∀ k, cenv.kindOf y = some k → (k = .cell ∨ k = .free) → ∃ c, cenv.cells.lookup y = some c := fun k hk hk' => by
        unfold Env.kindOf at hk
        rw [hsc] at hk
        obtain ⟨k', e, r⟩ := lookup_relS hk
        have : k' = .cell ∨ k' = .free := by
          rcases r with rfl | ⟨rfl, _⟩
          · exact hk'
          · exact .inr rfl
        rcases this with rfl | rfl
        · obtain ⟨c, hm⟩ := cells_has (n := (s.heap.push { cls := .type "dict", data := .dict #[] }).objs.size) (acc := cloFrom X.env.cells scope.names []) (PySem.mem_of_lookup e)
          obtain ⟨c', e'⟩ := mem_lookup hm
          exact ⟨c', by rw [hcl]; exact e'⟩
        · obtain ⟨c, h1, _⟩ := look e
          exact ⟨c, h1⟩
      rcases hy with hy | hy
      · exact key _ hy (.inl rfl)
      · exact key _ hy (.inr rfl)
    · have z : (scope.names.lookup y == some NameKind.cell) = true := z
      have z : scope.names.lookup y = some .cell := by simpa using z
      have e : cenv.cells.lookup y = some c := e
      rw [hcl] at e
      rcases cells_mem (PySem.mem_of_lookup e) with hm | ⟨_, h2, _⟩
      · rcases cloFrom_mem hm with hm | ⟨h1, _⟩
        · cases hm
        · have q := ok.uniq _ h1
          rw [z] at q; cases q
      · rw [Heap.size_push] at h2
        exact Nat.le_of_succ_le h2
    · show b ≠ cenv.locals
      rw [hL]; exact Nat.ne_of_lt (hfp b hb).2
    · have e : cenv.cells.lookup y = some c := e
      rcases mem e with ⟨h1, _⟩ | ⟨h1, _⟩
      · exact (hfp b hb).1.2.2.2.2.1 y c h1 z
      · have h2 : s.heap.objs.size + 1 ≤ b := by rw [← z]; exact h1
        exact absurd (Nat.lt_of_lt_of_le (hfp b hb).2 (Nat.le_of_succ_le h2)) (Nat.lt_irrefl _)
    · rcases (hfp b hb).1.2.2.2.1 with z | z
      · exact I.ok.noex b o e z
      · exact absurd (Nat.lt_of_lt_of_le (Heap.lt_size e) (Nat.le_trans I.ok.bsz z)) (Nat.lt_irrefl _)
    · rcases List.mem_cons.mp (I.stkSub b z) with z | z
      · exact (hfp b hb).1.2.1 z
      · exact (hfp b hb).1.2.2.1 z
  refine ⟨okB, rfl, I.bare, Un.kept kp, ⟨fun _ => none, ?_, fun i y av e1 e2 e3 => ?_⟩, fun y c e => ?_, ?_, fun y c e => ?_, fun p hp => ?_, I.hok.kept kp, by rw [wipe_length]; exact I.len⟩
  · show Heap.Ns _ cenv.locals _
    rw [hL]
    exact Heap.Ns.keeps (Heap.Ns.new ..) fun b o e => pushCells_keeps _ _ _ _ e
  · obtain ⟨e2, hne⟩ := wipe_some e2
    have hfr : scope.names.lookup y = some .free ∧ (cenv.kindOf y = some .cell ∨ cenv.kindOf y = some .free) := by
      have key : ∀ k, cenv.scope.names.lookup y = some k → k = .local ∨ k = .cell ∨ k = .free → scope.names.lookup y = some .free ∧ (cenv.kindOf y = some .cell ∨ cenv.kindOf y = some .free) := fun k hk hk' => by
        have hk0 := hk
        rw [hsc] at hk
        obtain ⟨k', e, r⟩ := lookup_relS hk
        have no : ¬ (k' = .local ∨ k' = .cell) := fun hh => by
          rcases ok.own _ (PySem.mem_of_lookup e) hh with e' | e'
          · obtain ⟨p, hp, hpy⟩ := List.mem_map.mp e'
            have e3 := ok.ix p hp
            have : p.1 = y := hpy
            rw [this] at e3
            exact hne (List.mem_map.mpr ⟨p, hp, nodup_ix hN e3 e1⟩)
          · exact e' (List.mem_of_getElem? e1)
        rcases r with rfl | ⟨rfl, rfl⟩
        · rcases hk' with rfl | rfl | rfl
          · exact absurd (.inl rfl) no
          · exact absurd (.inr rfl) no
          · exact ⟨e, .inr hk0⟩
        · exact ⟨e, .inl hk0⟩
      have e3 : Vis cenv.scope y := e3
      rcases e3 with e3 | e3 | e3
      · exact key _ e3 (.inl rfl)
      · exact key _ e3 (.inr (.inl rfl))
      · exact key _ e3 (.inr (.inr rfl))
    obtain ⟨m, hn, hl⟩ := I.loc
    have hvis : Vis X.env.scope y := (ok.free _ (PySem.mem_of_lookup hfr.1) rfl).elim (fun k => .inr (.inl k)) (fun k => .inr (.inr k))
    obtain ⟨w, r, q⟩ := hl i y av e1 e2 hvis
    refine ⟨w, r, .inr ⟨hfr.2, ?_⟩⟩
    obtain ⟨c, h1, h2⟩ := look hfr.1
    rcases q with ⟨k, _⟩ | ⟨_, c', e', z⟩
    · have k : X.env.scope.names.lookup y = some .local := k
      rcases ok.free _ (PySem.mem_of_lookup hfr.1) rfl with k' | k' <;> rw [show X.env.scope.names.lookup y = _ from k'] at k <;> cases k
    · rw [h2] at e'; cases e'
      exact ⟨c, h1, z.keeps kp⟩
  · have e : cenv.cells.lookup y = some c := e
    rcases mem e with ⟨h1, _⟩ | ⟨_, z⟩
    · obtain ⟨w, z⟩ := I.cell y c h1
      exact ⟨w, z.keeps kp⟩
    · exact ⟨_, z⟩
  · show H cenv.locals = none
    rw [hL]; exact I.hok.fresh (Nat.le_refl _)
  · have e : cenv.cells.lookup y = some c := e
    rcases mem e with ⟨h1, _⟩ | ⟨h1, _⟩
    · exact I.freeC y c h1
    · exact I.hok.fresh (Nat.le_of_succ_le h1)
  · exact absurd (show p ∈ ([] : List (Addr × Obj)) ++ [] from hp) (by simp)
/-- an item appended to a tracked list -/
theorem app_ok {E : Value → Shared → Prop} {D : Addr} {xs : List V} {y : V} {v : Value} {Q : Value → Shared → Prop} (I : Inv X pins σ H s) (hD : H D = some (.lst xs)) (hz : xs.length < sizeLine) (r : RelV y v)
    (h : ∀ s', Inv X pins σ (upd H D (.lst (xs ++ [y]))) s' → Q .none s') : wpAny (model X.prog X.w) X.A (call (.builtin "list.append") [.ref D, v]) Q E s := by
  obtain ⟨hz', its, n, ri, e⟩ := I.hok D _ hD
  have hl := ri.length
  refine append_at (hsz := by rw [List.size_toArray]; omega) e fun h' sb ho' => ?_
  refine h { s with heap := h' } (I.write (t' := s.toks) (by rw [hD]; trivial) (.inl rfl) (fun b u hb q => (sb.2 b hb).trans q) ⟨_, ho'⟩ ⟨by rw [List.length_append]; exact hz, its ++ [v], n + 1, ri.append (.cons r .nil), ?_⟩)
  rw [ho']
  simp
/-- a clause's tests -/
def PTs (X : Cx) (ifs : List Expr) (t : TT) : Prop :=
  ∀ (pins : List (Addr × Obj)) (s : Shared) (σ : St) (H : Hp) (Q : Bool → Hp → Prop), Inv X pins σ H s → t σ H Q →
    wpAny (model X.prog X.w) X.A (forIn ifs true fun c r => if r = true then do let ok ← isTrue c X.env (eval c X.env); pure (ForInStep.yield ok) else pure (ForInStep.yield r)) (TP X pins σ Q) X.xe s
def tYes : TT := fun _ H Q => Q true H
theorem pts_nil : PTs X [] tYes := fun _ _ _ H _ I h => wpAny_tests_nil ⟨H, I, h⟩
end
theorem thnF {α : Type} {t : Sem α} {Q Q' : α → Shared → Prop} {M : Model} {A : Around} {E : Value → Shared → Prop} {s : Shared} (h : wpAny M A t Q (fun _ _ => False) s) (hQ : ∀ a s, Q a s → Q' a s) : wpAny M A t Q' E s := wpAny_mono h hQ fun _ _ z => False.elim z
/-- the loop of a list comprehension's block, the target of any form (codeAny_compLoop_tests asks a target that no tuple goes to; statement and proof follow it, PyProof/CompMap.lean:41-61, with the step letOwnedTupleGo kept) -/
theorem compLoop_any {prog : Program} {w : World} {A : Around} {R : Result → Shared → Prop} {s : Shared} {elt target iter : Expr} {ifs : List Expr} {scope : Scope} {pos : Pos} {it acc : Value} {env : Env} (I : Nat → Shared → Prop)
    (turn : ∀ n s, I n s → wpAny (model prog w) A (pyNext it) (fun r s₁ => match r with
      | none => R (.ok .next) s₁
      | some v => wpAny (model prog w) A (letOwnedTupleGo target it v) (fun _ s₁' => wpAny (model prog w) A (assign target env v) (fun _ s₂ =>
          wpAny (model prog w) A (forIn ifs true fun c r => if r = true then do let ok ← isTrue c env (eval c env); pure (ForInStep.yield ok) else pure (ForInStep.yield r)) (fun ok s₃ =>
            if ok = true then wpAny (model prog w) A (eval elt env) (fun x s₄ =>
              wpAny (model prog w) A (call (.builtin "list.append") [acc, x]) (fun _ s₅ => ∃ m, m < n ∧ I m s₅) (notedBy (model prog w) A env fun e s' => R (.error e) s') s₄) (notedBy (model prog w) A env fun e s' => R (.error e) s') s₃
            else ∃ m, m < n ∧ I m s₃) (notedBy (model prog w) A env fun e s' => R (.error e) s') s₂) (notedBy (model prog w) A env fun e s' => R (.error e) s') s₁') (notedBy (model prog w) A env fun e s' => R (.error e) s') s₁) (notedBy (model prog w) A env fun e s' => R (.error e) s') s)
    (n : Nat) (h : I n s) :
    codeAny (model prog w) A (.compLoop (.ListComp elt [⟨target, iter, ifs, 0⟩] scope pos) 0 it acc env) R s := by
  refine codeAny_loop rfl I (fun n s hI => ?_) n h
  show wpAny _ A ((compTurn (.ListComp elt [⟨target, iter, ifs, 0⟩] scope pos) 0 it acc env).onRaise (fun x => do noteFrame x env; theTreesLotGoes x)) _ _ s
  refine wpAny_noted ?_
  rw [compTurn_list]
  refine wpAny_bind (wpAny_standAt (wpAny_bind (wpAny_mono (turn n s hI) (fun r s₁ h₁ => ?_) fun _ _ h' => h')))
  cases r with
  | none => exact wpAny_pure h₁
  | some v =>
    refine wpAny_bind (wpAny_mono h₁ (fun _ s₁' h₁' => ?_) fun _ _ h' => h')
    refine wpAny_bind (wpAny_mono h₁' (fun _ s₂ h₂ => wpAny_bind (wpAny_mono h₂ (fun ok s₃ h₃ => ?_) fun _ _ h' => h')) fun _ _ h' => h')
    cases ok with
    | false => exact wpAny_pure ⟨rfl, h₃⟩
    | true =>
      exact wpAny_bind (wpAny_bind (wpAny_mono h₃ (fun x s₄ h₄ => wpAny_bind (wpAny_mono h₄ (fun _ s₅ h₅ => wpAny_pure (wpAny_pure ⟨rfl, h₅⟩)) fun _ _ h' => h')) fun _ _ h' => h'))
section
variable {X : Cx}
/-- [elt for target in iter if ..]: D the new list; W by the turn and a measure, Nx what a turn is to reach -/
def tLc (wi : TI) (g : TG) (tt : TT) (te : TE) (vs : List Nat) : TE := fun σ H Q => wi σ H fun J H1 => ∀ D, H1 D = none → ∃ W : Nat → Nat → Hp → Prop, (∃ m, W 0 m (upd H1 D (.lst []))) ∧ ∀ i m H, W i m H →
  (J.stop i H ∧ Q (.ref D) H) ∨ (J.go i H ∧ ∃ Nx : Hp → Prop, (∀ H', Nx H' → ∃ m', m' < m ∧ W (i + 1) m' H') ∧ ∀ x H', J.yld i H x H' → g x (wipe σ vs) H' fun σ2 H2 => wipe σ2 vs = wipe σ vs ∧ tt σ2 H2 fun b H3 =>
    if b = true then te σ2 H3 fun y H4 => ∃ acc, H4 D = some (.lst acc) ∧ acc.length < sizeLine ∧ Nx (upd H4 D (.lst (acc ++ [y]))) else Nx H3)
theorem lc_core {pins : List (Addr × Obj)} {s : Shared} {σ : St} {H : Hp} {Q : VK} {elt tg iter : Expr} {ifs : List Expr} {scope : Scope} {own : List (Str × Nat)} {pos pos' : Pos} {wi : TI} {g : TG} {tt : TT} {te : TE} {use : Option (Value → Sem Unit)} {Qf : Value → Shared → Prop}
    (hc : X.calm = true) (hN : X.N.Nodup) (I : Inv X pins σ H s) (hi : PI X tg iter wi) (ok : BlkOk X.N X.env.scope scope own)
    (hg : ∀ (s : Shared) (H : Hp) (C : Addr) (cl : List (Str × Addr)) (fp : List Addr), PG (X.blk s H scope (compEnvC scope cl C X.env) fp) tg g) (ht : ∀ (s : Shared) (H : Hp) (C : Addr) (cl : List (Str × Addr)) (fp : List Addr), PTs (X.blk s H scope (compEnvC scope cl C X.env) fp) ifs tt)
    (he : ∀ (s : Shared) (H : Hp) (C : Addr) (cl : List (Str × Addr)) (fp : List Addr), PE (X.blk s H scope (compEnvC scope cl C X.env) fp) elt te) (hs : ∀ x, foldedSetIterable iter X.env x = pure x)
    (h : tLc wi g tt te (own.map (·.2)) σ H Q)
    (hRR : ∀ D C s' m H', Inv X pins σ H' s' → Q (.ref D) H' → s'.heap.Ns C m → FpOk X pins H' C → compPost (model X.prog X.w) X.A X.xe use Qf (.ref D) C (.ok .next) s') :
    wpAny (model X.prog X.w) X.A (comprehension (.ListComp elt [⟨tg, iter, ifs, 0⟩] scope pos) scope X.env pos' (newList []) false (eval iter X.env) use) Qf X.xe s := by
  have hfree : ∀ y ∈ scope.names, y.2 = .free → ∃ c, X.env.cells.lookup y.1 = some c := fun y hy e => by
    rcases ok.free y hy e with k | k
    · exact I.ok.has _ (.inl k)
    · exact I.ok.has _ (.inr k)
  refine wpAny_comprehension_free (use := use) rfl hs (closure_ok hfree) ok.kind (fun y hy e => by rw [ok.uniq y hy, e])
    (thn (hi pins s σ H _ I h) fun xv s1 hx => thn hx fun itv s2 h2 => ?_)
  obtain ⟨it, fp, tn, J, H2, e, I2, T, st2, f2, q⟩ := h2
  subst e
  refine wpAny_newObj_type (newEnv_comp ?_) (by show 0 ≤ sizeLine; decide)
  generalize hD : s2.heap.objs.size = D
  have hDn : H2 D = none := I2.hok.fresh (Nat.le_of_eq hD)
  obtain ⟨W, ⟨m0, w0⟩, turn⟩ := q D hDn
  -- the new list
  generalize hs3 : ({ s2 with heap := s2.heap.push { cls := .type "list", data := .seq ([] : List Value).toArray } } : Shared) = s3
  have I3 : Inv X pins σ (upd H2 D (.lst [])) s3 := by
    rw [← hs3]
    refine I2.laid (t' := s2.toks) (fun b o e => Heap.get?_push_of_some _ e) (Nat.le_of_eq hD) ⟨Nat.zero_le _, [], 0, .nil, ?_⟩
    rw [← hD]
    exact Heap.get?_push_size _ rfl
  have h3 : s3.heap = s2.heap.push { cls := .type "list", data := .seq ([] : List Value).toArray } := by rw [← hs3]
  have sz : ∀ b ∈ fp, b < s2.heap.objs.size := fun b hb => by
    obtain ⟨o, e, _⟩ := T.obj _ _ st2 b hb
    exact Heap.lt_size e
  have f3 : ∀ b ∈ fp, FpOk X pins (upd H2 D (.lst [])) b ∧ b < s3.heap.objs.size := fun b hb => by
    have hlt := sz b hb
    refine ⟨⟨?_, (f2 b hb).2⟩, by rw [h3, Heap.size_push]; exact Nat.lt_succ_of_lt hlt⟩
    rw [upd_ne (by rw [← hD]; exact Nat.ne_of_lt hlt)]
    exact (f2 b hb).1
  have st3 : tn 0 s3.heap := T.keep _ _ _ st2 fun b _ o e => by rw [h3]; exact Heap.get?_push_of_some _ e
  have I4 := block_start I3 ok hN f3
  have pg := hg s3 (upd H2 D (.lst [])) s3.heap.objs.size (cellsFrom (s3.heap.objs.size + 1) scope.names (cloFrom X.env.cells scope.names [])) fp
  have pt := ht s3 (upd H2 D (.lst [])) s3.heap.objs.size (cellsFrom (s3.heap.objs.size + 1) scope.names (cloFrom X.env.cells scope.names [])) fp
  have pe := he s3 (upd H2 D (.lst [])) s3.heap.objs.size (cellsFrom (s3.heap.objs.size + 1) scope.names (cloFrom X.env.cells scope.names [])) fp
  show codeAny _ _ (.compStart (.ListComp elt [⟨tg, iter, ifs, 0⟩] scope pos) 0 (.ref it) (.ref D) (compEnvC scope (cellsFrom (s3.heap.objs.size + 1) scope.names (cloFrom X.env.cells scope.names [])) s3.heap.objs.size X.env)) (compPost (model X.prog X.w) X.A X.xe use Qf (.ref D) s3.heap.objs.size) { s3 with heap := pushCells (s3.heap.push { cls := .type "dict", data := .dict #[] }) scope.names }
  have nfp : ∀ b ∈ fp, (upd H2 D (.lst [])) b = none := fun b hb => (f3 b hb).1.1
  generalize hce : compEnvC scope (cellsFrom (s3.heap.objs.size + 1) scope.names (cloFrom X.env.cells scope.names [])) s3.heap.objs.size X.env = ce at I4 pg pt pe ⊢
  have cL : ce.locals = s3.heap.objs.size := by subst hce; rfl
  generalize hH3 : upd H2 D (.lst []) = H3 at I3 I4 pg pt pe w0 nfp f3
  generalize hs4 : ({ s3 with heap := pushCells (s3.heap.push { cls := .type "dict", data := .dict #[] }) scope.names } : Shared) = s4 at I4 ⊢
  have st4 : tn 0 s4.heap := T.keep _ _ _ st3 fun b _ o e => by rw [← hs4]; exact pushCells_keeps _ _ _ _ (Heap.get?_push_of_some _ e)
  have stat : ∀ {σ' : St} {H' : Hp} {s' : Shared}, Inv (X.blk s3 H3 scope ce fp) [] σ' H' s' → (∀ b ∈ fp, H' b = none) → ∀ b ∈ fp, FpOk (X.blk s3 H3 scope ce fp) [] H' b := fun {σ' H' s'} I' hn b hb =>
    ⟨hn b hb, (I'.ok.exf b hb).1, I'.ok.exfs b hb, .inl hb, fun x c e => (I'.ok.exf b hb).2 x c e, fun p hp => absurd (show p ∈ ([] : List (Addr × Obj)) ++ [] from hp) (by simp)⟩
  have loop : codeAny (model X.prog X.w) X.A (.compLoop (.ListComp elt [⟨tg, iter, ifs, 0⟩] scope pos) 0 (.ref it) (.ref D) ce) (compPost (model X.prog X.w) X.A X.xe use Qf (.ref D) s3.heap.objs.size) s4 := by
    refine compLoop_any (fun n s' => ∃ i H', Inv (X.blk s3 H3 scope ce fp) [] (wipe σ (own.map (·.2))) H' s' ∧ tn i s'.heap ∧ (∀ b ∈ fp, H' b = none) ∧ W i n H') ?_ m0 ⟨0, H3, I4, st4, nfp, w0⟩
    rintro n s5 ⟨i, H5, I5, st5, n5, w5⟩
    rcases turn i n H5 w5 with ⟨stop, qq⟩ | ⟨go, Nx, hNx, step⟩
    · have td := T.done (X.blk s3 H3 scope ce fp) rfl rfl rfl hc i [] s5 _ H5 (fun _ _ => False) I5 (stat I5 n5) st5 stop
      refine thnF td fun r s6 ⟨hr, I6⟩ => ?_
      subst hr
      -- back in the def's context
      have I7 : Inv X pins σ H5 s6 := I3.call' (ch := fp) I6.os I6.base I6.hok I6.bare fun b hb => ⟨(f3 b hb).1.2.2.2.1, (f3 b hb).1.2.1, (f3 b hb).1.2.2.2.2.1, (f3 b hb).1.2.2.2.2.2⟩
      have nC : H5 s3.heap.objs.size = none := by
        have z : H5 ce.locals = none := I6.free
        rw [cL] at z
        exact z
      obtain ⟨m, hn, _⟩ := I6.loc
      have hn : s6.heap.Ns ce.locals m := hn
      rw [cL] at hn
      exact hRR D s3.heap.objs.size s6 m H5 I7 qq hn (I3.fpOk (Nat.le_refl _) nC)
    · have ti := T.item (X.blk s3 H3 scope ce fp) rfl rfl rfl hc i [] s5 _ H5 (fun _ _ => False) I5 (stat I5 n5) st5 go
      refine thnF ti fun r s6 ⟨u, hr, h6⟩ => ?_
      subst hr
      refine thnF h6 fun _ s7 ⟨x, H7, I7, r7, y7, st7, n7⟩ => ?_
      have I7' := I7.pinned (stat I7 n7) (T.obj _ _ st7)
      refine thnF (pg _ s7 _ H7 x u _ I7' r7 (step x H7 y7)) fun _ s8 ⟨σ8, H8, I8, hw8, q8⟩ => ?_
      refine thnF (pt _ s8 σ8 H8 _ I8 q8) fun b s9 ⟨H9, I9, q9⟩ => ?_
      -- the turn's end
      have fin : ∀ {s' : Shared} {H' : Hp}, Inv (X.blk s3 H3 scope ce fp) ([] ++ pinsAt fp s7.heap) σ8 H' s' → Nx H' → ∃ m, m < n ∧ ∃ i H', Inv (X.blk s3 H3 scope ce fp) [] (wipe σ (own.map (·.2))) H' s' ∧ tn i s'.heap ∧ (∀ b ∈ fp, H' b = none) ∧ W i m H' := fun {s' H'} I' nx => by
        obtain ⟨m', hm, w'⟩ := hNx H' nx
        have pin' : ∀ b ∈ fp, ∀ o, s7.heap.get? b = some o → s'.heap.get? b = some o ∧ H' b = none := fun b hb o e =>
          let z := I'.pin (b, o) (List.mem_append_right _ (List.mem_append_right _ (mem_pinsAt hb e)))
          ⟨z.1, z.2.1⟩
        have hl : (wipe σ (own.map (·.2))).length = σ8.length := by rw [← hw8, wipe_length]
        refine ⟨m', hm, i + 1, H', (I'.unpinned (pins := [])).weak hl (fun j v e => ?_), T.keep _ _ _ st7 fun b hb o e => (pin' b hb o e).1, fun b hb => ?_, w'⟩
        · rw [← hw8] at e
          exact (wipe_some e).1
        · obtain ⟨o, e, _⟩ := T.obj _ _ st7 b hb
          exact (pin' b hb o e).2
      cases b with
      | false =>
        simp only [Bool.false_eq_true, if_false] at q9 ⊢
        exact fin I9 q9
      | true =>
        simp only [if_true] at q9 ⊢
        refine thnF (pe _ s9 σ8 H9 _ I9 q9) fun z s10 ⟨yv, H10, I10, r10, acc, hD10, hz10, nx⟩ => ?_
        exact app_ok (X := X.blk s3 H3 scope ce fp) I10 hD10 hz10 r10 fun s11 I11 => fin I11 nx
  exact codeAny_compStart_list loop (T.self X.A 0 _ _ _ st4 loop)
/-- as a value -/
theorem pe_lc {elt tg iter : Expr} {ifs : List Expr} {scope : Scope} {own : List (Str × Nat)} {pos : Pos} {wi : TI} {g : TG} {tt : TT} {te : TE} (hc : X.calm = true) (hN : X.N.Nodup) (hi : PI X tg iter wi) (ok : BlkOk X.N X.env.scope scope own)
    (hg : ∀ (s : Shared) (H : Hp) (C : Addr) (cl : List (Str × Addr)) (fp : List Addr), PG (X.blk s H scope (compEnvC scope cl C X.env) fp) tg g) (ht : ∀ (s : Shared) (H : Hp) (C : Addr) (cl : List (Str × Addr)) (fp : List Addr), PTs (X.blk s H scope (compEnvC scope cl C X.env) fp) ifs tt)
    (he : ∀ (s : Shared) (H : Hp) (C : Addr) (cl : List (Str × Addr)) (fp : List Addr), PE (X.blk s H scope (compEnvC scope cl C X.env) fp) elt te) (hs : ∀ x, foldedSetIterable iter X.env x = pure x := by intro _; rfl) :
    PE X (.ListComp elt [⟨tg, iter, ifs, 0⟩] scope pos) (tLc wi g tt te (own.map (·.2))) := by
  intro pins s σ H Q I h
  rw [eval_ListComp]
  refine lc_core hc hN I hi ok hg ht he hs h fun D C s' m H' I' q hn f => ⟨m, hn, fun h'' sb => ?_⟩
  obtain ⟨f0, f1, f2, f3, f4, f5⟩ := f
  exact ⟨.ref D, H', I'.turned (t' := s'.toks) (fun b o hb e => (sb.2 b hb).trans e) f0 f1 f3 f4 f5, rfl, q⟩
/-- name = [..] on one line, the name a local -/
theorem ps_setLc {i : Nat} {y : Str} {py : Pos} {elt tg iter : Expr} {ifs : List Expr} {scope : Scope} {own : List (Str × Nat)} {pos spos : Pos} {wi : TI} {g : TG} {tt : TT} {te : TE} (hc : X.calm = true) (hN : X.N.Nodup) (hy : X.N[i]? = some y) (hyl : X.env.scope.names.lookup y = some .local)
    (hsw : swapsWith (.ListComp elt [⟨tg, iter, ifs, 0⟩] scope pos) (some (.Name y py)) spos.line X.env = pure true) (hi : PI X tg iter wi) (ok : BlkOk X.N X.env.scope scope own)
    (hg : ∀ (s : Shared) (H : Hp) (C : Addr) (cl : List (Str × Addr)) (fp : List Addr), PG (X.blk s H scope (compEnvC scope cl C X.env) fp) tg g) (ht : ∀ (s : Shared) (H : Hp) (C : Addr) (cl : List (Str × Addr)) (fp : List Addr), PTs (X.blk s H scope (compEnvC scope cl C X.env) fp) ifs tt)
    (he : ∀ (s : Shared) (H : Hp) (C : Addr) (cl : List (Str × Addr)) (fp : List Addr), PE (X.blk s H scope (compEnvC scope cl C X.env) fp) elt te) (hs : ∀ x, foldedSetIterable iter X.env x = pure x := by intro _; rfl) :
    PS X (.Assign [.Name y py] (.ListComp elt [⟨tg, iter, ifs, 0⟩] scope pos) spos) (tAsg (tLc wi g tt te (own.map (·.2))) (gName i)) := by
  intro pins s σ H D I h
  rw [exec_Assign_Name_used _ _ _ _ hsw]
  refine wpAny_bind (wpAny_standAt (wpAny_bind ?_))
  show wpAny _ X.A (do let _ ← comprehension (.ListComp elt [⟨tg, iter, ifs, 0⟩] scope pos) scope X.env (firstIterPos [⟨tg, iter, ifs, 0⟩] pos) (newList []) false (eval iter X.env) (some (assign (.Name y py) X.env))) _ _ s
  have h : tLc wi g tt te (own.map (·.2)) σ H (fun x H1 => gName i x σ H1 D.nx) := h
  refine wpAny_bind (thn (lc_core (Qf := fun _ s' => SP X pins D .next s') hc hN I hi ok hg ht he hs h fun L C s' m H' I' q hn f => ?_) fun _ s' hq => wpAny_pure (wpAny_pure hq))
  show wpAny _ _ (assign (.Name y py) X.env (.ref L)) _ _ _
  refine wpAny_assign_Name (store_ok2 (v := V.ref L) I' hN hy (.inl hyl) rfl (fun s2 I2 ⟨a, sb, ha⟩ => ?_) (.inr hyl))
  obtain ⟨f0, f1, f2, f3, f4, f5⟩ := f
  have haC : C ≠ a := by
    rcases ha with z | z
    · rw [z]; exact f1
    · exact fun e => f4 y a z e.symm
  refine ⟨m, hn.sameBut sb haC, fun h3 sb3 => ?_⟩
  exact ⟨_, H', I2.turned (t' := s2.toks) (fun b o hb e => (sb3.2 b hb).trans e) f0 f1 f3 f4 f5, q⟩
theorem sw_true {elt : Expr} {gs : List Comprehension} {scope : Scope} {pos py : Pos} {y : Str} {l : Nat} {env : Env} (hk : env.scope.kind = .function) (hy : env.scope.names.lookup y = some .local) (hl : (py.line == pos.line) = true)
    (ha : (scope.names.any fun (n, k) => n == y && (k == .local || k == .cell)) = false) : swapsWith (.ListComp elt gs scope pos) (some (.Name y py)) l env = pure true := by
  have ky : env.kindOf y = some .local := hy
  have hb : env.blockKind = .function := by unfold Env.blockKind; rw [hk]; rfl
  unfold swapsWith
  simp only [hb, ky, ha, Expr.pos, hl]
  rfl
end
/-! ### the forms one uses -/
/-- over a range: Pv by the turn and the heap (the new list at D within) -/
theorem lc_range {lo : Int} {n : Nat} {g : TG} {tt : TT} {te : TE} {vs : List Nat} {σ : St} {H1 : Hp} {D : Addr} {Qd : Hp → Prop} (Pv : Nat → Hp → Prop) (h0 : Pv 0 (upd H1 D (.lst [])))
    (hs : ∀ i H, i < n → Pv i H → g (.int (lo + i)) (wipe σ vs) H fun σ2 H2 => wipe σ2 vs = wipe σ vs ∧ tt σ2 H2 fun b H3 =>
      if b = true then te σ2 H3 fun y H4 => ∃ acc, H4 D = some (.lst acc) ∧ acc.length < sizeLine ∧ Pv (i + 1) (upd H4 D (.lst (acc ++ [y]))) else Pv (i + 1) H3) (hd : ∀ H, Pv n H → Qd H) :
    ∃ W : Nat → Nat → Hp → Prop, (∃ m, W 0 m (upd H1 D (.lst []))) ∧ ∀ i m H, W i m H →
      ((Itr lo n).stop i H ∧ Qd H) ∨ ((Itr lo n).go i H ∧ ∃ Nx : Hp → Prop, (∀ H', Nx H' → ∃ m', m' < m ∧ W (i + 1) m' H') ∧ ∀ x H', (Itr lo n).yld i H x H' → g x (wipe σ vs) H' fun σ2 H2 => wipe σ2 vs = wipe σ vs ∧ tt σ2 H2 fun b H3 =>
        if b = true then te σ2 H3 fun y H4 => ∃ acc, H4 D = some (.lst acc) ∧ acc.length < sizeLine ∧ Nx (upd H4 D (.lst (acc ++ [y]))) else Nx H3) := by
  refine ⟨fun i m H => m = n - i ∧ i ≤ n ∧ Pv i H, ⟨n, by simp, Nat.zero_le _, h0⟩, ?_⟩
  rintro i m H ⟨rfl, hi, p⟩
  by_cases hlt : i < n
  · refine .inr ⟨hlt, Pv (i + 1), fun H' p' => ⟨n - (i + 1), by omega, rfl, hlt, p'⟩, fun x H' y => ?_⟩
    obtain ⟨e, y⟩ := y
    subst e y
    exact hs i _ hlt p
  · have e : i = n := by omega
    subst e
    exact .inl ⟨Nat.le_refl _, hd H p⟩
/-- over a list that the block leaves as it is -/
theorem lc_list {K : PySem.W.Frag} {a : Addr} {xs : List V} {g : TG} {tt : TT} {te : TE} {vs : List Nat} {σ : St} {H1 : Hp} {D : Addr} {Qd : Hp → Prop} (Pv : Nat → Hp → Prop) (h0 : Pv 0 (upd H1 D (.lst []))) (hl : ∀ i H, i ≤ xs.length → Pv i H → SqL K H a xs)
    (hs : ∀ i x H, xs[i]? = some x → Pv i H → g x (wipe σ vs) H fun σ2 H2 => wipe σ2 vs = wipe σ vs ∧ tt σ2 H2 fun b H3 =>
      if b = true then te σ2 H3 fun y H4 => ∃ acc, H4 D = some (.lst acc) ∧ acc.length < sizeLine ∧ Pv (i + 1) (upd H4 D (.lst (acc ++ [y]))) else Pv (i + 1) H3) (hd : ∀ H, Pv xs.length H → Qd H) :
    ∃ W : Nat → Nat → Hp → Prop, (∃ m, W 0 m (upd H1 D (.lst []))) ∧ ∀ i m H, W i m H →
      ((Itl K a).stop i H ∧ Qd H) ∨ ((Itl K a).go i H ∧ ∃ Nx : Hp → Prop, (∀ H', Nx H' → ∃ m', m' < m ∧ W (i + 1) m' H') ∧ ∀ x H', (Itl K a).yld i H x H' → g x (wipe σ vs) H' fun σ2 H2 => wipe σ2 vs = wipe σ vs ∧ tt σ2 H2 fun b H3 =>
        if b = true then te σ2 H3 fun y H4 => ∃ acc, H4 D = some (.lst acc) ∧ acc.length < sizeLine ∧ Nx (upd H4 D (.lst (acc ++ [y]))) else Nx H3) := by
  refine ⟨fun i m H => m = xs.length - i ∧ i ≤ xs.length ∧ Pv i H, ⟨xs.length, by simp, Nat.zero_le _, h0⟩, ?_⟩
  rintro i m H ⟨rfl, hi, p⟩
  have q := hl i H hi p
  by_cases hlt : i < xs.length
  · refine .inr ⟨⟨xs, xs[i], q, by simp [hlt]⟩, Pv (i + 1), fun H' p' => ⟨xs.length - (i + 1), by omega, rfl, hlt, p'⟩, fun x H' y => ?_⟩
    obtain ⟨e, y⟩ := y
    subst e
    exact hs i x _ (y xs q) p
  · have e : i = xs.length := by omega
    subst e
    exact .inl ⟨⟨xs, q, Nat.le_refl _⟩, hd H p⟩
def blkC (N : List Str) (sc scope : Scope) (own : List (Str × Nat)) : Bool :=
  (match scope.kind with | .function => true | _ => false) && (scope.names.all fun y => decide (scope.names.lookup y.1 = some y.2)) && (own.all fun p => decide (N[p.2]? = some p.1)) &&
    (scope.names.all fun y => match y.2 with
      | .free => (match sc.names.lookup y.1 with | some .cell => true | some .free => true | _ => false)
      | .local => decide (y.1 ∈ own.map (·.1)) || decide (y.1 ∉ N)
      | .cell => decide (y.1 ∈ own.map (·.1)) || decide (y.1 ∉ N)
      | _ => true)
theorem blkOk_by {N : List Str} {sc scope : Scope} {own : List (Str × Nat)} (h : blkC N sc scope own = true) : BlkOk N sc scope own := by
  unfold blkC at h
  simp only [Bool.and_eq_true, List.all_eq_true, decide_eq_true_eq] at h
  obtain ⟨⟨⟨h1, h2⟩, h3⟩, h4⟩ := h
  refine ⟨?_, h2, h3, fun y hy e => ?_, fun y hy e => ?_⟩
  · split at h1
    · assumption
    · cases h1
  · have q := h4 y hy
    simp only [e] at q
    split at q <;> first | exact .inl (by assumption) | exact .inr (by assumption) | cases q
  · have q := h4 y hy
    rcases e with e | e <;> (simp only [e, Bool.or_eq_true, decide_eq_true_eq] at q; exact q)
end L2
namespace L2
open PySem PySem.Spec PyProof.Rows
section
variable {prog : Program} {w : World} {A : Around} {R : Result → Shared → Prop} {s : Shared} {elt t0 i0 t1 i1 : Expr} {ifs0 ifs1 : List Expr} {scope : Scope} {pos : Pos} {it acc : Value} {env : Env}
end
section
variable {X : Cx}
end
end L2
namespace L2
open PySem PySem.Spec PyProof.Rows
/-! ### lists of pairs as tables -/
section
variable {κ : Type} [DecidableEq κ]
def valV (kvs : List (κ × V)) (k : κ) : Option V := (kvs.find? fun kv => decide (kv.1 = k)).map (·.2)
/-- in its place, or at the end -/
def putK (kvs : List (κ × V)) (k : κ) (v : V) : List (κ × V) :=
  if (kvs.any fun kv => decide (kv.1 = k)) = true then kvs.map (fun kv => if kv.1 = k then (kv.1, v) else kv) else kvs ++ [(k, v)]
theorem valV_pos {p : κ × V} {r : List (κ × V)} {k : κ} (e : p.1 = k) : valV (p :: r) k = some p.2 := by simp [valV, List.find?_cons, e]
theorem valV_neg {p : κ × V} {r : List (κ × V)} {k : κ} (e : ¬ p.1 = k) : valV (p :: r) k = valV r k := by simp [valV, List.find?_cons, e]
theorem valV_any (k : κ) : ∀ kvs : List (κ × V), (kvs.any fun kv => decide (kv.1 = k)) = (valV kvs k).isSome
  | [] => rfl
  | p :: r => by
    rw [List.any_cons]
    by_cases e : p.1 = k
    · simp only [valV_pos e, decide_eq_true e, Bool.true_or, Option.isSome_some]
    · rw [valV_neg e, decide_eq_false e, Bool.false_or]; exact valV_any k r
theorem valV_map (k j : κ) (y : V) : ∀ kvs : List (κ × V), valV (kvs.map fun kv => if kv.1 = k then (kv.1, y) else kv) j = (valV kvs j).map fun x => if j = k then y else x
  | [] => rfl
  | p :: r => by
    have ih := valV_map k j y r
    rw [List.map_cons]
    by_cases h : p.1 = k
    · rw [if_pos h]
      by_cases e : p.1 = j
      · rw [valV_pos (p := (p.1, y)) e, valV_pos e, Option.map_some, if_pos (e.symm.trans h)]
      · rw [valV_neg (p := (p.1, y)) e, valV_neg e, ih]
    · rw [if_neg h]
      by_cases e : p.1 = j
      · rw [valV_pos (p := p) e, valV_pos e, Option.map_some, if_neg (fun z => h (e.trans z))]
      · rw [valV_neg (p := p) e, valV_neg e, ih]
theorem valV_snoc (k j : κ) (y : V) : ∀ kvs : List (κ × V), valV kvs k = none → valV (kvs ++ [(k, y)]) j = if j = k then some y else valV kvs j
  | [], _ => by
    by_cases e : k = j
    · rw [if_pos e.symm]; exact valV_pos (p := (k, y)) e
    · rw [if_neg (fun z => e z.symm)]; exact valV_neg (p := (k, y)) e
  | p :: r, hn => by
    rw [List.cons_append]
    have hk : ¬ p.1 = k := fun z => by rw [valV_pos z] at hn; cases hn
    rw [valV_neg hk] at hn
    have ih := valV_snoc k j y r hn
    by_cases e : p.1 = j
    · rw [valV_pos e, valV_pos e, if_neg (fun z => hk (e.trans z))]
    · rw [valV_neg e, valV_neg e, ih]
theorem valV_put (kvs : List (κ × V)) (k j : κ) (y : V) : valV (putK kvs k y) j = if j = k then some y else valV kvs j := by
  unfold putK
  by_cases a : (kvs.any fun kv => decide (kv.1 = k)) = true
  · rw [if_pos a, valV_map]
    rw [valV_any] at a
    by_cases e : j = k
    · obtain ⟨x, hx⟩ := Option.isSome_iff_exists.mp a
      rw [if_pos e, e, hx, Option.map_some, if_pos rfl]
    · rw [if_neg e]
      cases valV kvs j with
      | none => rfl
      | some x => rw [Option.map_some, if_neg e]
  · rw [if_neg a]
    refine valV_snoc k j y kvs ?_
    rw [valV_any] at a
    cases q : valV kvs k with
    | none => rfl
    | some x => rw [q] at a; exact (a rfl).elim
theorem length_putK (kvs : List (κ × V)) (k : κ) (v : V) : (putK kvs k v).length ≤ kvs.length + 1 := by
  unfold putK
  split
  · rw [List.length_map]; omega
  · rw [List.length_append, List.length_cons, List.length_nil]; omega
theorem RelO.isSome_eq {o : Option V} {u : Option Value} (r : RelO o u) : o.isSome = u.isSome := by
  cases o with
  | none => cases u with
    | none => rfl
    | some _ => exact (show False from r).elim
  | some _ => cases u with
    | none => exact (show False from r).elim
    | some _ => rfl
/-- raw tables of the same keys -/
theorem KV.val {kvs : List (κ × V)} {vs : List (κ × Value)} (r : KV kvs vs) (k : κ) : RelO (valV kvs k) (valueAt vs k) := by
  unfold KV at r
  induction r with
  | nil => exact True.intro
  | @cons p q ps qs h t ih =>
    obtain ⟨h1, h2⟩ := h
    by_cases e : p.1 = k
    · have e' : q.1 = k := h1.symm.trans e
      have b : valueAt (q :: qs) k = some q.2 := by simp [valueAt, List.find?_cons, e']
      rw [valV_pos e, b]; exact h2
    · have e' : ¬ q.1 = k := fun z => e (h1.trans z)
      have b : valueAt (q :: qs) k = valueAt qs k := by simp [valueAt, List.find?_cons, e']
      rw [valV_neg e, b]; exact ih
theorem KV.any {kvs : List (κ × V)} {vs : List (κ × Value)} (r : KV kvs vs) (k : κ) : (kvs.any fun kv => decide (kv.1 = k)) = vs.any fun kv => decide (kv.1 = k) := by
  unfold KV at r
  induction r with
  | nil => rfl
  | cons h t ih => rw [List.any_cons, List.any_cons, ih, h.1]
theorem KV.repl {kvs : List (κ × V)} {vs : List (κ × Value)} (r : KV kvs vs) (k : κ) {y : V} {u : Value} (ry : RelV y u) :
    KV (kvs.map fun kv => if kv.1 = k then (kv.1, y) else kv) (vs.map fun kv => if kv.1 = k then (kv.1, u) else kv) := by
  unfold KV at r ⊢
  induction r with
  | nil => exact .nil
  | @cons p q ps qs h t ih =>
    rw [List.map_cons, List.map_cons]
    refine .cons ?_ ih
    obtain ⟨h1, h2⟩ := h
    by_cases e : p.1 = k
    · rw [if_pos e, if_pos (h1.symm.trans e)]; exact ⟨h1, ry⟩
    · rw [if_neg e, if_neg (fun z => e (h1.trans z))]; exact ⟨h1, h2⟩
theorem KV.put {kvs : List (κ × V)} {vs : List (κ × Value)} (r : KV kvs vs) (k : κ) {y : V} {u : Value} (ry : RelV y u) : KV (putK kvs k y) (stored vs k u) := by
  unfold putK stored
  rw [r.any k]
  by_cases e : (vs.any fun kv => decide (kv.1 = k)) = true
  · rw [if_pos e, if_pos e]; exact r.repl k ry
  · rw [if_neg e, if_neg e]; exact Paired.snoc r ⟨rfl, ry⟩
theorem KV.length {kvs : List (κ × V)} {vs : List (κ × Value)} (r : KV kvs vs) : kvs.length = vs.length := Paired.length r
end
/-! ### a tracked dict, its keys ints and texts or tuples of these -/
theorem kV_is {P : Program} {w : World} {k : Key} {u : Value} (r : RelV (kV k) u) : (mixKind P w).is k u = true := by
  cases k with
  | inl i => obtain ⟨t, e⟩ := (show ∃ t, u = Value.int i t from r); subst e; exact mixKind_int P w i t
  | inr x => obtain ⟨t, e⟩ := (show ∃ t, u = Value.str x t from r); subst e; exact mixKind_str P w x t
theorem items_are {P : Program} {w : World} : ∀ {ks : List Key} {us : List Value}, Vals (ks.map kV) us → ItemsAre (mixKind P w) ks us
  | [], _, r => by rw [List.map_nil] at r; cases r; exact .nil
  | k :: ks, _, r => by
    rw [List.map_cons] at r
    cases r with
    | cons h t => exact .cons (kV_is h) (items_are t)
/-- raw entries of a dict with tuple keys -/
abbrev KT (H : Hp) : List (List Key × V) → List (List Key × Addr × Value) → Prop := Paired fun p q => p.1 = q.1 ∧ H q.2.1 = some (.tup (p.1.map kV)) ∧ RelV p.2 q.2.2
theorem KT.val {H : Hp} {kvs : List (List Key × V)} {xs : List (List Key × Addr × Value)} (r : KT H kvs xs) (k : List Key) : RelO (valV kvs k) ((atKey xs k).map (·.2)) := by
  induction r with
  | nil => exact True.intro
  | @cons p q ps qs h t ih =>
    obtain ⟨h1, _, h2⟩ := h
    by_cases e : p.1 = k
    · have e' : q.1 = k := h1.symm.trans e
      have b : atKey (q :: qs) k = some q.2 := by simp [atKey, List.find?_cons, e']
      rw [valV_pos e, b]; exact h2
    · have e' : ¬ q.1 = k := fun z => e (h1.trans z)
      have b : atKey (q :: qs) k = atKey qs k := by simp [atKey, List.find?_cons, e']
      rw [valV_neg e, b]; exact ih
theorem KT.repl {H : Hp} {kvs : List (List Key × V)} {xs : List (List Key × Addr × Value)} (r : KT H kvs xs) (k : List Key) {y : V} {u : Value} (ry : RelV y u) :
    KT H (kvs.map fun kv => if kv.1 = k then (kv.1, y) else kv) (xs.map (putAt k u)) := by
  induction r with
  | nil => exact .nil
  | @cons p q ps qs h t ih =>
    rw [List.map_cons, List.map_cons]
    refine .cons ?_ ih
    obtain ⟨h1, h2, h3⟩ := h
    unfold putAt
    by_cases e : p.1 = k
    · rw [if_pos e, if_pos (h1.symm.trans e)]; exact ⟨h1, h2, ry⟩
    · rw [if_neg e, if_neg (fun z => e (h1.trans z))]; exact ⟨h1, h2, h3⟩
theorem KT.put {H : Hp} {kvs : List (List Key × V)} {xs : List (List Key × Addr × Value)} (r : KT H kvs xs) (k : List Key) {b : Addr} {y : V} {u : Value} (hb : H b = some (.tup (k.map kV))) (ry : RelV y u) :
    KT H (putK kvs k y) (storedH xs k b u) := by
  have e : (kvs.any fun kv => decide (kv.1 = k)) = (atKey xs k).isSome := by
    rw [valV_any, (r.val k).isSome_eq, Option.isSome_map]
  unfold putK storedH
  rw [e]
  by_cases q : (atKey xs k).isSome = true
  · rw [if_pos q, if_pos q]; exact r.repl k ry
  · rw [if_neg q, if_neg q]; exact Paired.snoc r ⟨rfl, hb, ry⟩
theorem KT.keeps {H H' : Hp} {kvs : List (List Key × V)} {xs : List (List Key × Addr × Value)} (r : KT H kvs xs) (ht : ∀ b ys, H b = some (.tup ys) → H' b = some (.tup ys)) : KT H' kvs xs :=
  Paired.mapP r fun _ _ z => ⟨z.1, ht _ _ z.2.1, z.2.2⟩
section
variable {P : Program} {w : World} {H : Hp} {h : Heap} {a : Addr}
theorem rd_of {u : HO} (ok : HOk P w H h) (e : Rd H a u) : ObjOk P w H h a u := e.ok ok
theorem dk_rd {kvs : List (Key × V)} (ok : HOk P w H h) (e : Rd H a (.dK kvs)) : kvs.length ≤ sizeLine ∧ (a == sysModules) = false ∧ ∃ vs, KV kvs vs ∧ h.DictOf (mixKind P w) a vs :=
  show ObjOk P w H h a (.dK kvs) from rd_of ok e
theorem dk_of {kvs : List (Key × V)} (ok : HOk P w H h) (e : H a = some (.dK kvs)) : kvs.length ≤ sizeLine ∧ (a == sysModules) = false ∧ ∃ vs, KV kvs vs ∧ h.DictOf (mixKind P w) a vs := dk_rd ok (.inl e)
/-- a tracked tuple of ints and texts is a key -/
theorem key_of {ks : List Key} (ok : HOk P w H h) (e : H a = some (.tup (ks.map kV))) : (tupleKind (mixKind P w)).is h ks a := by
  obtain ⟨_, its, r, o, h1, h2, n, h3⟩ := (show ObjOk P w H h a (.tup (ks.map kV)) from ok a _ e)
  exact ⟨o, its.toArray, n, h1, h2, h3, by simpa using items_are r⟩
theorem dt_rd {kvs : List (List Key × V)} (ok : HOk P w H h) (e : Rd H a (.dT kvs)) : kvs.length ≤ sizeLine ∧ (a == sysModules) = false ∧
    ∃ xs, KT H kvs xs ∧ h.DictOfH (tupleKind (mixKind P w)) a xs := by
  obtain ⟨z, y, xs, r, o, es, ep, h1, h2, h3, h4, h5⟩ := (show ObjOk P w H h a (.dT kvs) from rd_of ok e)
  refine ⟨z, y, xs, r, o, es, ep, h1, h2, h3, h4, fun x hx => ?_, h5⟩
  have all : ∀ {l : List (List Key × V)} {m : List (List Key × Addr × Value)}, KT H l m → ∀ x ∈ m, (tupleKind (mixKind P w)).is h x.1 x.2.1 := by
    intro l m q
    induction q with
    | nil => intro x hx; exact nomatch hx
    | @cons p q ps qs hq t ih =>
      intro x hx
      rcases List.mem_cons.mp hx with e | hx
      · subst e
        exact key_of ok (by rw [← hq.1]; exact hq.2.1)
      · exact ih x hx
  exact all r x hx
theorem dt_of {kvs : List (List Key × V)} (ok : HOk P w H h) (e : H a = some (.dT kvs)) : kvs.length ≤ sizeLine ∧ (a == sysModules) = false ∧
    ∃ xs, KT H kvs xs ∧ h.DictOfH (tupleKind (mixKind P w)) a xs := dt_rd ok (.inl e)
end
/-- what the dict at a holds at the key y -/
def DGet (H : Hp) (a : Addr) (y : V) (r : Option V) : Prop :=
  (∃ kvs k, Rd H a (.dK kvs) ∧ y = kV k ∧ r = valV kvs k) ∨ ∃ kvs k b, Rd H a (.dT kvs) ∧ y = .ref b ∧ H b = some (.tup (k.map kV)) ∧ r = valV kvs k
/-- the heap behind a[y] = v -/
def DPut (H : Hp) (a : Addr) (y v : V) (H' : Hp) : Prop :=
  (∃ kvs k, H a = some (.dK kvs) ∧ y = kV k ∧ kvs.length < sizeLine ∧ H' = upd H a (.dK (putK kvs k v))) ∨
  ∃ kvs k b, H a = some (.dT kvs) ∧ y = .ref b ∧ H b = some (.tup (k.map kV)) ∧ kvs.length < sizeLine ∧ H' = upd H a (.dT (putK kvs k v))
theorem DGet.k {H : Hp} {a : Addr} {kvs : List (Key × V)} {k : Key} (e : H a = some (.dK kvs)) : DGet H a (kV k) (valV kvs k) := .inl ⟨kvs, k, .inl e, rfl, rfl⟩
theorem DPut.k {H : Hp} {a : Addr} {kvs : List (Key × V)} {k : Key} {v : V} (e : H a = some (.dK kvs)) (hl : kvs.length < sizeLine) : DPut H a (kV k) v (upd H a (.dK (putK kvs k v))) := .inl ⟨kvs, k, e, rfl, hl, rfl⟩
section
variable {X : Cx} {pins : List (Addr × Obj)} {σ : St} {H : Hp} {s : Shared} {a : Addr} {y v : V} {u r : Value} {o : Option V} {A : Around} {E : Value → Shared → Prop}
theorem Inv.big (I : Inv X pins σ H s) : sysModules < s.heap.objs.size := by
  have h : mainGlobals < s.heap.objs.size := (I.mod.glob.keeps I.bk).lt
  exact Nat.lt_trans (by decide) h
/-- y in d -/
theorem d_in {Q : Value → Shared → Prop} (hu : A.units + 1 < cLine) (I : Inv X pins σ H s) (g : DGet H a y o) (ry : RelV y u) (h : ∀ s', Inv X pins σ H s' → Q (.bool o.isSome) s') :
    wpAny (model X.prog X.w) A (compareOp .In u (.ref a)) Q E s := by
  rcases g with ⟨kvs, k, e, ey, l⟩ | ⟨kvs, k, b, e, ey, eb, l⟩
  · subst ey
    obtain ⟨z, hd, vs, rel, dd⟩ := dk_rd I.hok e
    refine wpAny_in_of (kV_is ry) hd dd.mapOf ?_
    rw [← (rel.val k).isSome_eq, ← l]
    exact h _ (I.tok _)
  · subst ey
    cases (show u = Value.ref b from ry)
    obtain ⟨z, hd, xs, rel, dd⟩ := dt_rd I.hok e
    refine wpAny_in_heap (tupleKind_room_in1 hu) (key_of I.hok eb) hd dd ?_
    have q := (rel.val k).isSome_eq
    rw [Option.isSome_map] at q
    rw [← q, ← l]
    exact h _ (I.tok _)
theorem d_notIn {Q : Value → Shared → Prop} (hu : A.units + 1 < cLine) (I : Inv X pins σ H s) (g : DGet H a y o) (ry : RelV y u) (h : ∀ s', Inv X pins σ H s' → Q (.bool (!o.isSome)) s') :
    wpAny (model X.prog X.w) A (compareOp .NotIn u (.ref a)) Q E s := by
  rcases g with ⟨kvs, k, e, ey, l⟩ | ⟨kvs, k, b, e, ey, eb, l⟩
  · subst ey
    obtain ⟨z, hd, vs, rel, dd⟩ := dk_rd I.hok e
    refine wpAny_notIn_of (kV_is ry) hd dd.mapOf ?_
    rw [← (rel.val k).isSome_eq, ← l]
    exact h _ (I.tok _)
  · subst ey
    cases (show u = Value.ref b from ry)
    obtain ⟨z, hd, xs, rel, dd⟩ := dt_rd I.hok e
    refine wpAny_notIn_heap (tupleKind_room_in1 hu) (key_of I.hok eb) hd dd ?_
    have q := (rel.val k).isSome_eq
    rw [Option.isSome_map] at q
    rw [← q, ← l]
    exact h _ (I.tok _)
/-- a dict's object is replaced -/
theorem d_write {h' : Heap} {t' : Nat} {ob : HO} (I : Inv X pins σ H s) (mu : Mut (H a)) (hs : Heap.SameBut a s.heap h') (he : ∃ q, h'.get? a = some q) (new : ObjOk X.prog X.w (upd H a ob) h' a ob) :
    Inv X pins σ (upd H a ob) { s with heap := h', toks := t' } :=
  I.write (x := a) (e := a) mu (.inl rfl) (fun b q hb z => (hs.2 b hb).trans z) he new
theorem dk_new {P : Program} {w : World} {H' : Hp} {h' : Heap} {kvs : List (Key × V)} {vs : List (Key × Value)} (z : kvs.length ≤ sizeLine) (hd : (a == sysModules) = false) (rel : KV kvs vs) (dd : h'.DictOf (mixKind P w) a vs) :
    ObjOk P w H' h' a (.dK kvs) := ⟨z, hd, vs, rel, dd⟩
/-- d[y] = v -/
theorem d_setItem {H' : Hp} {Q : Unit → Shared → Prop} (hu : A.units + 1 < cLine) (I : Inv X pins σ H s) (g : DPut H a y v H') (ry : RelV y u) (rv : RelV v r) (h : ∀ s', Inv X pins σ H' s' → Q () s') :
    wpAny (model X.prog X.w) A (setItem (.ref a) u r) Q E s := by
  rcases g with ⟨kvs, k, e, ey, l, eH⟩ | ⟨kvs, k, b, e, ey, eb, l, eH⟩
  · subst ey eH
    obtain ⟨z, hd, vs, rel, dd⟩ := dk_of I.hok e
    have hz : vs.length ≤ sizeLine := by rw [← rel.length]; exact z
    have hl : (putK kvs k v).length ≤ sizeLine := by have := length_putK kvs k v; omega
    refine wpAny_setItem_pairs (hsz := hz) (kV_is ry) dd fun h' dd' hs => h _ ?_
    have he : ∃ q, h'.get? a = some q := let ⟨q, _, _, hq, _⟩ := dd'; ⟨q, hq⟩
    exact d_write I (by rw [e]; exact True.intro) hs he (dk_new hl hd (rel.put k rv) dd')
  · subst ey eH
    cases (show u = Value.ref b from ry)
    obtain ⟨z, hd, xs, rel, dd⟩ := dt_of I.hok e
    have hz : xs.length ≤ sizeLine := by rw [← Paired.length rel]; exact z
    have hl : (putK kvs k v).length ≤ sizeLine := by have := length_putK kvs k v; omega
    refine wpAny_setItem_heap (hsz := hz) (tupleKind_room_in1 hu) (key_of I.hok eb) dd fun h' dd' hs => h _ ?_
    obtain ⟨q, es, ep, hq, h2, h3, h4, _, h5⟩ := dd'
    refine d_write I (by rw [e]; exact True.intro) hs ⟨q, hq⟩ ⟨hl, hd, _, (rel.put k eb rv).keeps fun c ys ec => ?_, q, es, ep, hq, h2, h3, h4, h5⟩
    rw [upd_ne (ne_of ec e (fun z => nomatch z))]
    exact ec
end
section
variable {X : Cx} {pins : List (Addr × Obj)} {σ : St} {H : Hp} {s : Shared} {a : Addr} {kvs : List (Key × V)} {k : Key} {u : Value} {A : Around} {E : Value → Shared → Prop}
end
/-! ### readings and rules -/
/-- y in d, y not in d -/
def tDIn (ty td : TE) : TE := fun σ H Q => ty σ H fun y H1 => td σ H1 fun x H2 => ∃ a o, x = .ref a ∧ DGet H2 a y o ∧ Q (.bl o.isSome) H2
def tDNotIn (ty td : TE) : TE := fun σ H Q => ty σ H fun y H1 => td σ H1 fun x H2 => ∃ a o, x = .ref a ∧ DGet H2 a y o ∧ Q (.bl (!o.isSome)) H2
/-- d[y] = v -/
def sDPut (td ty tv : TE) : TS := fun D σ H => tv σ H fun v H1 => td σ H1 fun x H2 => ty σ H2 fun y H3 => ∃ a H4, x = .ref a ∧ DPut H3 a y v H4 ∧ D.nx σ H4
section
variable {X : Cx} {o i e value : Expr} {pos pos' tpos : Pos} {td ty tv : TE}
theorem pc_din (hu : X.A.units + 1 < cLine) (hi : PE X i ty) (ho : PE X o td) : PC X .In i o (tDIn ty td) := by
  intro pins s σ H Q I h
  refine thn (hi pins s σ H _ I h) fun iv s1 ⟨y, H1, I1, ry, q1⟩ => thn (ho pins s1 σ H1 _ I1 q1) fun u s2 ⟨x, H2, I2, rx, a, ov, ex, g, q2⟩ => ?_
  subst ex
  obtain rfl : u = Value.ref a := rx
  exact d_in hu I2 g ry fun s3 I3 => ⟨.bl ov.isSome, H2, I3, rfl, q2⟩
theorem pc_dnotin (hu : X.A.units + 1 < cLine) (hi : PE X i ty) (ho : PE X o td) : PC X .NotIn i o (tDNotIn ty td) := by
  intro pins s σ H Q I h
  refine thn (hi pins s σ H _ I h) fun iv s1 ⟨y, H1, I1, ry, q1⟩ => thn (ho pins s1 σ H1 _ I1 q1) fun u s2 ⟨x, H2, I2, rx, a, ov, ex, g, q2⟩ => ?_
  subst ex
  obtain rfl : u = Value.ref a := rx
  exact d_notIn hu I2 g ry fun s3 I3 => ⟨.bl (!ov.isSome), H2, I3, rfl, q2⟩
theorem ps_dput (hu : X.A.units + 1 < cLine) (ho : PE X o td) (hi : PE X i ty) (hv : PE X value tv) (hs : swapsWith value (some (.Subscript o i pos')) pos.line X.env = pure false) :
    PS X (.Assign [.Subscript o i pos'] value pos) (sDPut td ty tv) := by
  intro pins s σ H D I h
  refine wpAny_Assign_Subscript (thn (hv pins s σ H _ I h) fun r s1 ⟨v, H1, I1, rv, q1⟩ => thn (ho pins s1 σ H1 _ I1 q1) fun u s2 ⟨x, H2, I2, rx, q2⟩ => thn (hi pins s2 σ H2 _ I2 q2) fun iv s3 ⟨y, H3, I3, ry, a, H4, ex, g, q3⟩ => ?_) hs
  subst ex
  obtain rfl : u = Value.ref a := rx
  exact d_setItem hu I3 g ry rv fun s4 I4 => ⟨σ, H4, I4, q3⟩
end
/-! ### displays -/
theorem dk_empty {P : Program} {w : World} {H : Hp} (h : Heap) (hb : sysModules < h.objs.size) : ObjOk P w H (h.push { cls := .type "dict", data := .dict #[] }) h.objs.size (.dK []) :=
  ⟨Nat.zero_le _, beq_eq_false_iff_ne.mpr (Ne.symm (Nat.ne_of_lt hb)), [], .nil, Heap.DictOf.new h⟩
/-- {}, to be a dict of the kind that is wanted -/
def tDNewK : TE := fun _ H Q => ∀ p, H p = none → Q (.ref p) (upd H p (.dK []))
section
variable {X : Cx} {pos : Pos}
theorem pe_dnewK : PE X (.Dict [] [] pos) tDNewK := fun pins s σ H Q I h =>
  wpAny_Dict_empty ⟨.ref s.heap.objs.size, _, I.laid (a := s.heap.objs.size) (o := .dK []) (t' := s.toks) (fun _ _ q => Heap.get?_push_of_some _ q) (Nat.le_refl _) (dk_empty s.heap I.big), rfl, h _ (I.hok.fresh (Nat.le_refl _))⟩
end
/-! ### methods -/
section
variable {X : Cx} {pins : List (Addr × Obj)} {σ : St} {H : Hp} {s : Shared} {a : Addr} {y d : V} {u r : Value} {o : Option V} {A : Around} {E : Value → Shared → Prop}
end
section
variable {X : Cx} {o e f : Expr} {apos cpos : Pos} {td ty tx : TE}
end
/-! ### dict(d): a copy -/
section
variable {X : Cx} {pins : List (Addr × Obj)} {σ : St} {H : Hp} {s : Shared} {a : Addr} {kvs : List (Key × V)} {A : Around} {E : Value → Shared → Prop}
end
section
variable {X : Cx} {pins : List (Addr × Obj)} {σ : St} {H : Hp} {s : Shared} {a : Addr} {y : V} {u : Value} {A : Around} {E : Value → Shared → Prop}
end
end L2
namespace L2
open PySem PySem.Spec PyProof.Rows
section
variable {prog : Program} {w : World} {A : Around} {E : Value → Shared → Prop}
end
section
variable {X : Cx}
end
end L2
namespace L2
open PySem PySem.Spec PyProof.Rows
section
variable {X : Cx} {pins : List (Addr × Obj)} {σ : St} {H : Hp} {s : Shared} {h' : Heap}
/-! ### locking a thing while a statement runs -/
end
section
variable {X : Cx}
/-! ### one iterator just laid -/
end
/-! ### range with a step -/
section
variable {X : Cx} {tg : Expr}
end
/-! ### reversed(list) -/
section
variable {X : Cx} {tg : Expr}
end
/-! ### a str -/
/-! ### a dict's keys: any dict's entries -/
section
variable {prog : Program} {w : World} {A : Around} {E : Value → Shared → Prop} {s : Shared}
end
/-! ### a locked dict -/
section
variable {X : Cx} {pins : List (Addr × Obj)} {σ : St} {H : Hp} {s : Shared} {d : Addr} {o : Obj}
end
section
variable {P : Program} {w : World} {K : PySem.W.Frag} {tg : Expr} {d : Addr} {o : Obj} {es : Array DictEntry} {ep : Nat}
end
/-! ### for k in d, d.keys(), d.values(), d.items() -/
section
variable {X : Cx} {tg e : Expr} {td : TE} {apos cpos : Pos}
end
/-! ### enumerate(list) -/
/-! ### zip(list, list) -/
end L2
section 
namespace Bits
open PySem PyProof.Rows
end Bits
end 
section 
namespace TL
open PySem PySem.Builtin PySem.Builtin.Str PySem.StrLaws
/-! ### the list functions -/
/-! ### the model's split and partition are these -/
/-! ### computing spl and par -/
/-! ### digits -/
/-! ### words: x.split() -/
end TL
end 
namespace L2
open PySem PySem.Spec PyProof.Rows
section
variable {X : Cx} {pins : List (Addr × Obj)} {σ : St} {H : Hp} {s : Shared} {Q : VK}
end
section
variable {X : Cx}
/-! ### of a text alone -/
/-! ### of a text and a text -/
end
section
variable {X : Cx} {o e : Expr} {to te : TE}
end
end L2
namespace L2
open PySem PySem.Spec PyProof.Rows
section
variable {X : Cx}
end
/-! ### slices of a text -/
end L2
namespace Att
open PySem PySem.W PySem.Calls PyProof.Rows
/-! ### the script -/
/-! ### the attachment: holds_open's last premise (the goal 'hc' behind k_head) from a wpAny of the law's body -/
/-! ### rules over ANY heap (no ledger) from facts about the written part K: the library's own take a ledger (News) for what they write -/
section
variable {prog : Program} {w : World} {A : Around} {E : Value → Shared → Prop} {s : Shared} {K : Frag}
/-! the whole heap as the ledger: makes every rule that writes through a ledger a rule over any heap -/
end
end Att
namespace L2
open PySem PySem.Spec PyProof.Rows
end L2
namespace L2
open PySem PySem.Spec PyProof.Rows
end L2
/- THE LAST THEOREM (shape; LID, My.* are yours):
   My.Adr: a structure of the addresses that your layer names (classes, functions); My.Txt K t: a structure (Prop) of the equations over K;
   My.txt_mk : {K} {implicit addresses ..} (e1 : nsIn K mainGlobals "law" = some (some (.ref f))) (e2 : K.lookup f = some ⟨oc, od, .func (fnOf "law" "law" params body scope dV kV doc pm an cdv ct), sl⟩) (e3 : codeIn K cdv "law" = true) .. : ∃ t, My.Txt K t
set_option maxRecDepth 100000 in
set_option maxHeartbeats 0 in
theorem PySem.Challenge.cw_LID_holds : PySem.Challenge.rw_LID.Holds := by
  w_on; o_law; k_head; (case hw => w_witness2)
  k_fill
  refine L2.walk_of (l := PySem.Challenge.rw_LID) (n := 63) (k := 40) (x := "script") (CX := fun w => ..) (sp := fun _ => My.sp_law) rfl (by decide) rfl ⟨rfl, by decide, by decide⟩ (fun w h Y => PySem.W.kIn_of Y) ?F ?S ?C
  case F =>
    intro w mg fa h KX G hmg
    have T : ∃ t, My.Txt (L2.KOf KX) t := by
      dsimp only [L2.KOf]                          -- K must stand as «<heap const> w.params» for k_is
      refine' My.txt_mk ?e1 ?e2 ?e3 ..
      (case e1 => PySem.W.k_is)                    -- in the order: a name -> its address -> its object -> its parts
      (case e2 => PySem.W.k_is)
      ..
    obtain ⟨t, T⟩ := T
    have e0 := hmg.symm.trans (PySem.W.mg_of KX G T.law)
    cases e0                                       -- fa is the law's own address
    exact ⟨_, fun s u => .of_eq rfl, fun base kb nb => My.law_fn T kb nb⟩     -- if «.of_eq rfl» comes too early: refine' ⟨_, ?b, fun base kb nb => My.law_fn T kb nb⟩; exact fun s u => .of_eq rfl
  case S => exact fun w H a ns hl hO hS => ..
  case C => exact ..
(the tactic k_is has no namespace: write k_is) -/
/-! SHORT WORDS over the layer: a def of the text, its body, what a loop and a test want. -/
namespace L2
open PySem PySem.Spec PyProof.Rows
/-! ### the text by places -/
/-- the j-th statement of a class's body -/
def inClass (s : Stmt) (j : Nat) : Stmt := match s with
  | .ClassDef _ _ _ body _ _ _ _ _ _ _ => body.getD j (.Pass ⟨0, 0, 0, 0⟩)
  | _ => .Pass ⟨0, 0, 0, 0⟩
def defArgs (s : Stmt) : Arguments := match s with
  | .FunctionDef _ a _ _ _ _ _ _ _ _ => a
  | _ => { posonlyargs := [], args := [], vararg := none, kwonlyargs := [], kw_defaults := [], kwarg := none, defaults := [] }
def defBody (s : Stmt) : List Stmt := match s with
  | .FunctionDef _ _ b _ _ _ _ _ _ _ => b
  | _ => []
def defScope (s : Stmt) : Scope := match s with
  | .FunctionDef _ _ _ _ _ _ sc _ _ _ => sc
  | _ => { kind := .function, names := [], isGenerator := false, isCoroutine := false }
/-! ### no exception leaves a def -/
abbrev CX0 : CXT := fun _ _ _ _ _ _ => False
abbrev E0 : XK := fun _ _ _ => False
theorem pass0 {X : Cx} : Passes CX0 X E0 := fun _ _ _ _ _ _ _ h => h.elim
/-! ### a def (or method) of the text as it stands behind the top -/
structure Fun (K : PySem.W.Frag) (x qual : Str) (st : Stmt) (f : Addr) (fd : FuncData) : Prop where
  ex : ∃ (oc : Value) (od : Option Addr) (kV doc pm : Value) (an : Option Addr) (cdv ct : Value) (osl : Array (Option Value)),
    fd = PySem.W.fnOf x qual (defArgs st) (defBody st) (defScope st) .none kV doc pm an cdv ct ∧ K.lookup f = some ⟨oc, od, .func fd, osl⟩ ∧ PySem.W.codeIn K cdv qual = true
  kp : PySem.W.keepIn K (.ref f) = true
section
variable {P : Program} {w : World} {K : PySem.W.Frag} {mg : Str → Option Value} {base : Heap}
/-- THE RULE for a def: its body as a term of rules, and the reading of that term -/
theorem Fun.ok {x qual : Str} {st : Stmt} {f : Addr} {fd : FuncData} {N ps : List Str} {k : Nat} {sp : Sp} (F : Fun K x qual st f fd) (S : FnScope N ps (defScope st)) (len : ∀ vs H Q E, sp vs H Q E → vs.length = ps.length)
    (hbody : ∀ (cdv : Value) (A : Around) (outer : List Env) (s : Shared) (H : Hp) (vs : List V) (Q : VK) (E : XK), Room k (A.deeper (envOfC qual (defScope st) s.heap.objs.size f cdv)) → sp vs H Q E →
      ∃ t, PSs (cxOf CX0 P w K mg base N qual (defScope st) f cdv A outer s H E).nox (defBody st) t ∧ t { nx := fun _ H' => Q .non H', rt := Q } (start N vs) H) : FnOk P w K mg base CX0 (k + 1) f fd ps sp := by
  obtain ⟨oc, od, kV, doc, pm, an, cdv, ct, osl, rfl, lk, hcd⟩ := F.ex
  refine fn_of lk hcd S len fun A outer s H vs Q E hr hsp => ?_
  obtain ⟨t, h, q⟩ := hbody cdv A outer s H vs Q E hr hsp
  exact ⟨t, h.nox, q⟩
/-- how its arguments bind (no defaults): h is «fun _ _ _ _ _ _ us hl => match us, hl with | [_, _], _ => rfl», one _ a parameter -/
theorem Fun.binds {x qual : Str} {st : Stmt} {f : Addr} {fd : FuncData} {ps : List Str} (F : Fun K x qual st f fd)
    (h : ∀ (kV doc pm : Value) (an : Option Addr) (cdv ct : Value) (us : List Value), us.length = ps.length → bindArgs (PySem.W.fnOf x qual (defArgs st) (defBody st) (defScope st) .none kV doc pm an cdv ct) ⟨us, []⟩ = pure (ps.zip us)) : Binds K fd ps [] := by
  obtain ⟨oc, od, kV, doc, pm, an, cdv, ct, osl, rfl, lk, hcd⟩ := F.ex
  exact .all (h kV doc pm an cdv ct)
theorem fun_mk {x qual : Str} {st : Stmt} {f : Addr} {oc : Value} {od an : Option Addr} {osl : Array (Option Value)} {kV doc pm cdv ct : Value} (l : K.lookup f = some ⟨oc, od, .func (PySem.W.fnOf x qual (defArgs st) (defBody st) (defScope st) .none kV doc pm an cdv ct), osl⟩)
    (c : PySem.W.codeIn K cdv qual = true) (k : PySem.W.keepIn K (.ref f) = true) : Fun K x qual st f (PySem.W.fnOf x qual (defArgs st) (defBody st) (defScope st) .none kV doc pm an cdv ct) := ⟨⟨oc, od, kV, doc, pm, an, cdv, ct, osl, rfl, l, c⟩, k⟩
end
theorem hu_of {A : Around} {k : Nat} (hr : Room k A) : A.units + 1 < cLine := Nat.lt_of_le_of_lt (Nat.add_le_add_left (by decide : 1 ≤ 64) _) hr.units
/-! ### expressions in short: the name that stands in the i-th slot -/
section
variable {X : Cx}
theorem pv (i : Nat) {x : Str} {pos : Pos} (hN : X.N[i]? = some x := by rfl) (hv : Vis X.env.scope x := by first | exact Or.inl rfl | exact Or.inr (Or.inl rfl) | exact Or.inr (Or.inr rfl)) (hd : (x == ("__debug__" : Str)) = false := by decide)
    (hcd : (x == ("__classdict__" : Str)) = false := by decide) : PE X (.Name x pos) (tVar i) := pe_var hN hv hd hcd
end
/-! ### tests -/
theorem iteF {A B : Prop} (h : B) : if false = true then A else B := by
  rw [if_neg Bool.false_ne_true]
  exact h
theorem iteT {A B : Prop} (h : A) : if true = true then A else B := by
  rw [if_pos rfl]
  exact h
theorem ite2 {c A B : Prop} [Decidable c] (h1 : c → A) (h2 : ¬ c → B) : if c then A else B := by
  by_cases h : c
  · rw [if_pos h]
    exact h1 h
  · rw [if_neg h]
    exact h2 h
/-! ### heaps -/
/-- all that was tracked is as it was -/
def Same (H H' : Hp) : Prop := ∀ b o, H b = some o → H' b = some o
theorem Same.trans {H H1 H2 : Hp} (a : Same H H1) (b : Same H1 H2) : Same H H2 := fun c o h => b c o (a c o h)
theorem Same.free {H H' : Hp} (e : Same H H') {l : Addr} (h : H' l = Option.none) : H l = Option.none := by
  cases q : H l with
  | none => rfl
  | some o =>
    rw [e l o q] at h
    cases h
theorem Same.seq {K : PySem.W.Frag} {H H' : Hp} {a : Addr} {xs : List V} (e : Same H H') (h : SqL K H a xs) : SqL K H' a xs := by
  rcases h with (h | ⟨o, h⟩) | h
  · exact .inl (.inl (e _ _ h))
  · exact .inl (.inr ⟨o, e _ _ h⟩)
  · exact .inr h
/-! ### a dict's pairs: keys that differ -/
section
variable {κ : Type} [DecidableEq κ]
end
/-! ### lists -/
theorem at_of {xs : List V} {z : Int} {j : Nat} {v : V} (e : z = (j : Int)) (h : xs[j]? = some v) : atI xs z = some v := by
  rw [e]
  exact atI_nat h
theorem nd_ix {α : Type} {l : List α} (hN : l.Nodup) {i j : Nat} {x : α} (a : l[i]? = some x) (b : l[j]? = some x) : i = j := by
  obtain ⟨h1, e1⟩ := List.getElem?_eq_some_iff.mp a
  obtain ⟨h2, e2⟩ := List.getElem?_eq_some_iff.mp b
  exact (List.getElem_inj hN).mp (e1.trans e2.symm)
end L2
end
section
section
set_option Elab.async false
set_option linter.all false
set_option maxRecDepth 100000
set_option maxHeartbeats 2000000
namespace L2
open PySem PySem.Spec PyProof.Rows
open PySem.W (WData Codec OpenSpec Well WellAll ReadsW ReadsAllW)
/-! ### an answer as data -/
mutual
/-- x stands for the datum d, lists and tuples all the way -/
inductive Dw (K : PySem.W.Frag) (H : Hp) : V → WData → Prop
  | non : Dw K H .non .none
  | bl (b : Bool) : Dw K H (.bl b) (.bool b)
  | int (i : Int) : Dw K H (.int i) (.int i)
  | str (x : Str) : Dw K H (.str x) (.str x)
  | byt (b : Array UInt8) : Dw K H (.byt b) (.bytes b.toList)
  | lst {a : Addr} {xs : List V} {ds : List WData} : SqL K H a xs → DwAll K H xs ds → Dw K H (.ref a) (.list ds)
  | tup {a : Addr} {xs : List V} {ds : List WData} : SqT K H a xs → DwAll K H xs ds → Dw K H (.ref a) (.tuple ds)
inductive DwAll (K : PySem.W.Frag) (H : Hp) : List V → List WData → Prop
  | nil : DwAll K H [] []
  | cons {v : V} {vs : List V} {d : WData} {ds : List WData} : Dw K H v d → DwAll K H vs ds → DwAll K H (v :: vs) (d :: ds)
end
theorem dw_ints {K : PySem.W.Frag} {H : Hp} : ∀ ns : List Int, DwAll K H (ns.map V.int) (ns.map WData.int)
  | [] => .nil
  | n :: r => .cons (.int n) (dw_ints r)
theorem ints_dw {K : PySem.W.Frag} {H : Hp} : ∀ (ns : List Int) (xs : List V), DwAll K H xs (ns.map WData.int) → xs = ns.map V.int
  | [], xs, h => by
    cases h
    rfl
  | n :: r, xs, h => by
    cases h with
    | cons h1 h2 =>
      cases h1
      rw [ints_dw r _ h2] <;> rfl
section
variable {P : Program} {w : World} {K : PySem.W.Frag} {H : Hp} {h : Heap} {R : PySem.W.WRecords} {cl : Str → Option Addr}
theorem sqL_at {a : Addr} {xs : List V} (hok : HOk P w H h) (KX : K.In h) (q : SqL K H a xs) : ∃ (its : List Value) (o : Obj) (n : Nat), Vals xs its ∧ h.get? a = some o ∧ o.cls = .type "list" ∧ o.data = .seq its.toArray n := by
  rcases q with q | ⟨o, its, n, e, hc, _, hd, _, hv⟩
  · obtain ⟨_, its, n, hv, e⟩ := (show ObjOk P w H h a (.lst xs) from q.ok hok)
    exact ⟨its, _, n, hv, e, rfl, rfl⟩
  · exact ⟨its.toList, o, n, hv, KX _ _ e, hc, by simp [hd]⟩
theorem sqT_at {a : Addr} {xs : List V} (hok : HOk P w H h) (KX : K.In h) (q : SqT K H a xs) : ∃ (its : List Value) (o : Obj) (n : Nat), Vals xs its ∧ h.get? a = some o ∧ o.cls = .type "tuple" ∧ o.data = .seq its.toArray n := by
  rcases q with q | ⟨o, its, n, e, hc, hd, _, hv⟩
  · obtain ⟨_, its, hv, o, e, hc, n, hd⟩ := (show ObjOk P w H h a (.tup xs) from q.ok hok)
    exact ⟨its, o, n, hv, e, hc, hd⟩
  · exact ⟨its.toList, o, n, hv, KX _ _ e, hc, by simp [hd]⟩
mutual
theorem Dw.reads (hok : HOk P w H h) (KX : K.In h) : ∀ (d : WData) (v : V) (u : Value), Dw K H v d → RelV v u → ∃ as, ReadsW R cl h u d as
  | .none, _, _, x, r => by
    cases x
    cases r
    exact ⟨_, ReadsW.none⟩
  | .bool b, _, _, x, r => by
    cases x
    cases r
    exact ⟨_, ReadsW.bool b⟩
  | .int i, _, _, x, r => by
    cases x
    obtain ⟨t, rfl⟩ := r
    exact ⟨_, ReadsW.int i t⟩
  | .str s, _, _, x, r => by
    cases x
    obtain ⟨t, rfl⟩ := r
    exact ⟨_, ReadsW.str s t⟩
  | .bytes b, _, _, x, r => by
    cases x
    obtain ⟨t, rfl⟩ := r
    exact ⟨_, ReadsW.bytes _ t⟩
  | .list ds, _, _, x, r => by
    cases x with
    | lst hs ha =>
      cases r
      obtain ⟨its, o, n, rv, ho, hc, hd⟩ := sqL_at hok KX hs
      obtain ⟨as, hr⟩ := Dw.readsAll hok KX ds _ its ha rv
      exact ⟨_, ReadsW.list ho hc hd hr⟩
  | .tuple ds, _, _, x, r => by
    cases x with
    | tup hs ha =>
      cases r
      obtain ⟨its, o, n, rv, ho, hc, hd⟩ := sqT_at hok KX hs
      obtain ⟨as, hr⟩ := Dw.readsAll hok KX ds _ its ha rv
      exact ⟨_, ReadsW.tuple ho hc hd hr⟩
  | .float _, _, _, x, _ => by cases x
  | .dict _, _, _, x, _ => by cases x
  | .bytearray _, _, _, x, _ => by cases x
  | .set _, _, _, x, _ => by cases x
  | .frozenset _, _, _, x, _ => by cases x
  | .obj _ _, _, _, x, _ => by cases x
theorem Dw.readsAll (hok : HOk P w H h) (KX : K.In h) : ∀ (ds : List WData) (vs : List V) (us : List Value), DwAll K H vs ds → Vals vs us → ∃ as, ReadsAllW R cl h us ds as
  | [], _, _, x, r => by
    cases x
    cases r
    exact ⟨_, ReadsAllW.nil⟩
  | d :: ds, _, _, x, r => by
    cases x with
    | cons h1 h2 =>
      cases r with
      | cons r1 r2 =>
        obtain ⟨as, q1⟩ := Dw.reads hok KX d _ _ h1 r1
        obtain ⟨bs, q2⟩ := Dw.readsAll hok KX ds _ _ h2 r2
        exact ⟨_, ReadsAllW.cons q1 q2⟩
end
end
/-! ### the arguments -/
mutual
/-- data that a codec tells -/
def plW : WData → Bool
  | .none => true
  | .bool _ => true
  | .int _ => true
  | .str _ => true
  | .bytes _ => true
  | .list xs => plWs xs
  | .tuple xs => plWs xs
  | _ => false
def plWs : List WData → Bool
  | [] => true
  | x :: r => plW x && plWs r
end
theorem plWs_map {α : Type} {f : α → WData} (h : ∀ a, plW (f a) = true) : ∀ l : List α, plWs (l.map f) = true
  | [] => rfl
  | x :: r => by
    show (plW (f x) && plWs (r.map f)) = true
    rw [h x, plWs_map h r] <;> rfl
theorem pl_enc : ∀ (c : Codec) (a : c.denote), plW (c.enc a) = true
  | .unit, _ => rfl
  | .bool, _ => rfl
  | .int _ _, _ => rfl
  | .nat _ _, _ => rfl
  | .u8, _ => rfl
  | .bytes _ _, _ => rfl
  | .text _ _ _ _, _ => rfl
  | .list _ _ c, a => plWs_map (fun x => pl_enc c x) a
  | .pair c d, a => by
    show (plW (c.enc a.1) && (plW (d.enc a.2) && true)) = true
    rw [pl_enc c a.1, pl_enc d a.2] <;> rfl
  | .triple c d e, a => by
    show (plW (c.enc a.1) && (plW (d.enc a.2.1) && (plW (e.enc a.2.2) && true))) = true
    rw [pl_enc c a.1, pl_enc d a.2.1, pl_enc e a.2.2] <;> rfl
  | .option c, none => rfl
  | .option c, some x => pl_enc c x
theorem pl_encAll : ∀ (cs : List Codec) (a : Codec.denoteAll cs), plWs (Codec.encAll cs a) = true
  | [], _ => rfl
  | c :: cs, a => by
    show (plW (c.enc a.1) && plWs (Codec.encAll cs a.2)) = true
    rw [pl_enc c a.1, pl_encAll cs a.2] <;> rfl
theorem weight_mem : ∀ {xs : List WData} {d : WData}, d ∈ xs → d.weight ≤ WData.weightAll xs
  | [], d, h => absurd h (by simp)
  | x :: r, d, h => by
    show d.weight ≤ x.weight + 1 + WData.weightAll r
    rcases List.mem_cons.mp h with e | m
    · rw [e]
      omega
    · have z := weight_mem m
      omega
def toV : Value → V
  | .none => .non
  | .bool b => .bl b
  | .int i _ => .int i
  | .str x _ => .str x
  | .bytes b _ => .byt b
  | .ref a => .ref a
  | _ => .non
/-- a value of the arguments, its objects among A -/
def OkU (A : List Addr) : Value → Prop
  | .none => True
  | .bool _ => True
  | .int _ _ => True
  | .str _ _ => True
  | .bytes _ _ => True
  | .ref a => a ∈ A
  | _ => False
theorem OkU.mono {A B : List Addr} (h : ∀ a ∈ A, a ∈ B) : ∀ {u : Value}, OkU A u → OkU B u := fun {u} x => by
  cases u with
  | ref a => exact h a x
  | none => trivial
  | bool b => trivial
  | int i t => trivial
  | str s t => trivial
  | bytes b t => trivial
  | _ => exact False.elim x
theorem relV_toV {A : List Addr} {u : Value} (x : OkU A u) : RelV (toV u) u := by
  cases u with
  | ref a => rfl
  | none => rfl
  | bool b => rfl
  | int i t => exact ⟨t, rfl⟩
  | str s t => exact ⟨t, rfl⟩
  | bytes b t => exact ⟨t, rfl⟩
  | _ => exact False.elim x
theorem vals_toV {A : List Addr} : ∀ {vs : List Value}, (∀ u ∈ vs, OkU A u) → Vals (vs.map toV) vs
  | [], _ => .nil
  | u :: r, h => .cons (relV_toV (h u (List.mem_cons_self ..))) (vals_toV fun x hx => h x (List.mem_cons_of_mem _ hx))
/-- an object of the arguments -/
def ArgOb (h : Heap) (A : List Addr) (a : Addr) : Prop := ∃ vs : List Value, vs.length ≤ sizeLine ∧ (∀ u ∈ vs, OkU A u) ∧
  (h.get? a = some { cls := .type "list", data := .seq vs.toArray } ∨ h.get? a = some { cls := .type "tuple", data := .seq vs.toArray })
theorem ArgOb.mono {h : Heap} {A B : List Addr} {a : Addr} (k : ∀ a ∈ A, a ∈ B) (x : ArgOb h A a) : ArgOb h B a := by
  obtain ⟨vs, h1, h2, h3⟩ := x
  exact ⟨vs, h1, fun u hu => (h2 u hu).mono k, h3⟩
theorem wellAll_len {P : Params} {h : Heap} : ∀ {vs : List Value} {ds : List WData}, WellAll P h vs ds → vs.length = ds.length
  | _, _, .nil => rfl
  | _, _, .cons _ b => by
    show _ + 1 = _ + 1
    rw [wellAll_len b]
theorem well_list {P : Params} {h : Heap} {v : Value} {ds : List WData} (x : Well P h v (.list ds)) : ∃ (a : Addr) (vs : List Value), v = .ref a ∧ h.get? a = some { cls := .type "list", data := .seq vs.toArray } ∧ WellAll P h vs ds := by
  cases x with
  | list ho hall => exact ⟨_, _, rfl, ho, hall⟩
theorem well_tuple {P : Params} {h : Heap} {v : Value} {ds : List WData} (x : Well P h v (.tuple ds)) : ∃ (a : Addr) (vs : List Value), v = .ref a ∧ h.get? a = some { cls := .type "tuple", data := .seq vs.toArray } ∧ WellAll P h vs ds := by
  cases x with
  | tuple ho hall => exact ⟨_, _, rfl, ho, hall⟩
theorem well_cons {P : Params} {h : Heap} {us : List Value} {d : WData} {ds : List WData} (x : WellAll P h us (d :: ds)) : ∃ (v : Value) (vs : List Value), us = v :: vs ∧ Well P h v d ∧ WellAll P h vs ds := by
  cases x with
  | cons a b => exact ⟨_, _, rfl, a, b⟩
theorem line_of {n : Nat} (h : n ≤ 1048576) : n ≤ sizeLine := Nat.le_trans h (by decide)
section
variable {P : Params} {h : Heap}
mutual
theorem area_one : ∀ (d : WData) (v : Value), Well P h v d → plW d = true → d.weight ≤ 1048576 → ∃ A : List Addr, OkU A v ∧ ∀ a ∈ A, ArgOb h A a
  | .none, _, x, _, _ => by
    cases x
    exact ⟨[], trivial, fun a m => absurd m (by simp)⟩
  | .bool b, _, x, _, _ => by
    cases x
    exact ⟨[], trivial, fun a m => absurd m (by simp)⟩
  | .int i, _, x, _, _ => by
    cases x
    exact ⟨[], trivial, fun a m => absurd m (by simp)⟩
  | .str s, _, x, _, _ => by
    cases x
    exact ⟨[], trivial, fun a m => absurd m (by simp)⟩
  | .bytes b, _, x, _, _ => by
    cases x
    exact ⟨[], trivial, fun a m => absurd m (by simp)⟩
  | .list ds, _, x, p, z => by
    obtain ⟨a, vs, rfl, ho, hall⟩ := well_list x
    have z2 : WData.weightAll ds ≤ 1048576 := z
    obtain ⟨A, h1, h2⟩ := area_all ds _ hall p fun d hd => Nat.le_trans (weight_mem hd) z2
    have k : ∀ b ∈ A, b ∈ a :: A := fun b hb => List.mem_cons_of_mem _ hb
    refine ⟨a :: A, List.mem_cons_self .., fun b hb => ?_⟩
    rcases List.mem_cons.mp hb with e | m
    · rw [e]
      exact ⟨vs, line_of (by rw [wellAll_len hall]; exact Nat.le_trans (PySem.W.length_le_weightAllW ds) z2), fun u hu => (h1 u hu).mono k, .inl ho⟩
    · exact (h2 b m).mono k
  | .tuple ds, _, x, p, z => by
    obtain ⟨a, vs, rfl, ho, hall⟩ := well_tuple x
    have z2 : WData.weightAll ds ≤ 1048576 := z
    obtain ⟨A, h1, h2⟩ := area_all ds _ hall p fun d hd => Nat.le_trans (weight_mem hd) z2
    have k : ∀ b ∈ A, b ∈ a :: A := fun b hb => List.mem_cons_of_mem _ hb
    refine ⟨a :: A, List.mem_cons_self .., fun b hb => ?_⟩
    rcases List.mem_cons.mp hb with e | m
    · rw [e]
      exact ⟨vs, line_of (by rw [wellAll_len hall]; exact Nat.le_trans (PySem.W.length_le_weightAllW ds) z2), fun u hu => (h1 u hu).mono k, .inr ho⟩
    · exact (h2 b m).mono k
  | .float _, _, _, p, _ => Bool.noConfusion (show false = true from p)
  | .dict _, _, _, p, _ => Bool.noConfusion (show false = true from p)
  | .bytearray _, _, _, p, _ => Bool.noConfusion (show false = true from p)
  | .set _, _, _, p, _ => Bool.noConfusion (show false = true from p)
  | .frozenset _, _, _, p, _ => Bool.noConfusion (show false = true from p)
  | .obj _ _, _, _, p, _ => Bool.noConfusion (show false = true from p)
theorem area_all : ∀ (ds : List WData) (vs : List Value), WellAll P h vs ds → plWs ds = true → (∀ d ∈ ds, d.weight ≤ 1048576) → ∃ A : List Addr, (∀ u ∈ vs, OkU A u) ∧ ∀ a ∈ A, ArgOb h A a
  | [], _, x, _, _ => by
    cases x
    exact ⟨[], fun u m => absurd m (by simp), fun a m => absurd m (by simp)⟩
  | d :: ds, _, x, p, z => by
    obtain ⟨v, vs, rfl, x1, x2⟩ := well_cons x
    have q : plW d = true ∧ plWs ds = true := Bool.and_eq_true_iff.mp p
    obtain ⟨A, a1, a2⟩ := area_one d v x1 q.1 (z d (List.mem_cons_self ..))
    obtain ⟨B, b1, b2⟩ := area_all ds vs x2 q.2 fun e he => z e (List.mem_cons_of_mem _ he)
    have kA : ∀ b ∈ A, b ∈ A ++ B := fun b hb => List.mem_append.mpr (.inl hb)
    have kB : ∀ b ∈ B, b ∈ A ++ B := fun b hb => List.mem_append.mpr (.inr hb)
    refine ⟨A ++ B, fun u hu => ?_, fun b hb => ?_⟩
    · rcases List.mem_cons.mp hu with e | m
      · rw [e]
        exact a1.mono kA
      · exact (b1 u m).mono kB
    · rcases List.mem_append.mp hb with m | m
      · exact (a2 b m).mono kA
      · exact (b2 b m).mono kB
end
end
/-- what is tracked of an argument's object -/
def hoOf (o : Obj) : Option HO := match o.data with
  | .seq vs _ => if (o.cls == Value.type "list") = true then some (.frz o (.lst (vs.toList.map toV))) else some (.frz o (.tup (vs.toList.map toV)))
  | _ => none
def argH (K : PySem.W.Frag) (h : Heap) (A : List Addr) : Hp := fun b => if b ∈ A then (if (K.lookup b).isNone = true then (h.get? b).bind hoOf else none) else none
/-- nothing is tracked but what is known to the object -/
def OnlyF (H : Hp) : Prop := ∀ b, H b = none ∨ ∃ o u, H b = some (.frz o u)
theorem hoOf_lst (vs : List Value) : hoOf { cls := .type "list", data := .seq vs.toArray } = some (.frz { cls := .type "list", data := .seq vs.toArray } (.lst (vs.map toV))) := by
  show (if (Value.type "list" == Value.type "list") = true then some (HO.frz { cls := .type "list", data := .seq vs.toArray } (.lst (vs.toArray.toList.map toV))) else some (HO.frz { cls := .type "list", data := .seq vs.toArray } (.tup (vs.toArray.toList.map toV)))) = _
  rw [if_pos (beq_self_eq_true _)]
theorem hoOf_tup (vs : List Value) : hoOf { cls := .type "tuple", data := .seq vs.toArray } = some (.frz { cls := .type "tuple", data := .seq vs.toArray } (.tup (vs.map toV))) := by
  show (if (Value.type "tuple" == Value.type "list") = true then some (HO.frz { cls := .type "tuple", data := .seq vs.toArray } (.lst (vs.toArray.toList.map toV))) else some (HO.frz { cls := .type "tuple", data := .seq vs.toArray } (.tup (vs.toArray.toList.map toV)))) = _
  rw [if_neg (by decide)]
section
variable {P : Program} {w : World} {K : PySem.W.Frag} {h : Heap} {A : List Addr}
theorem argH_at {b : Addr} {o : Obj} (hb : b ∈ A) (hk : K.lookup b = none) (e : h.get? b = some o) : argH K h A b = hoOf o := by
  unfold argH
  rw [if_pos hb, hk, if_pos (show (none : Option Obj).isNone = true from rfl), e] <;> rfl
theorem of_argH {b : Addr} {u : HO} (q : argH K h A b = some u) : b ∈ A ∧ K.lookup b = none := by
  unfold argH at q
  by_cases hb : b ∈ A
  · rw [if_pos hb] at q
    cases hk : K.lookup b with
    | none => exact ⟨hb, rfl⟩
    | some o =>
      rw [hk, if_neg (by simp)] at q
      cases q
  · rw [if_neg hb] at q
    cases q
/-- what stands tracked -/
theorem argH_is (ar : ∀ a ∈ A, ArgOb h A a) {b : Addr} {u : HO} (q : argH K h A b = some u) : K.lookup b = none ∧ ∃ vs : List Value, vs.length ≤ sizeLine ∧ (∀ u ∈ vs, OkU A u) ∧
    ((h.get? b = some { cls := .type "list", data := .seq vs.toArray } ∧ u = .frz { cls := .type "list", data := .seq vs.toArray } (.lst (vs.map toV))) ∨
     (h.get? b = some { cls := .type "tuple", data := .seq vs.toArray } ∧ u = .frz { cls := .type "tuple", data := .seq vs.toArray } (.tup (vs.map toV)))) := by
  obtain ⟨hb, hk⟩ := of_argH q
  obtain ⟨vs, h1, h2, h3⟩ := ar b hb
  refine ⟨hk, vs, h1, h2, ?_⟩
  rcases h3 with e | e
  · rw [argH_at hb hk e, hoOf_lst] at q
    exact .inl ⟨e, (Option.some.inj q).symm⟩
  · rw [argH_at hb hk e, hoOf_tup] at q
    exact .inr ⟨e, (Option.some.inj q).symm⟩
theorem argH_only (ar : ∀ a ∈ A, ArgOb h A a) : OnlyF (argH K h A) := fun b => by
  cases q : argH K h A b with
  | none => exact .inl rfl
  | some u =>
    obtain ⟨_, vs, _, _, ⟨_, e⟩ | ⟨_, e⟩⟩ := argH_is ar q
    · exact .inr ⟨_, _, by rw [e]⟩
    · exact .inr ⟨_, _, by rw [e]⟩
theorem argH_ok (ar : ∀ a ∈ A, ArgOb h A a) : HOk P w (argH K h A) h := fun b u q => by
  obtain ⟨_, vs, h1, h2, ⟨e, rfl⟩ | ⟨e, rfl⟩⟩ := argH_is ar q
  · exact ⟨e, by rw [List.length_map]; exact h1, vs, _, vals_toV h2, e⟩
  · exact ⟨e, by rw [List.length_map]; exact h1, vs, vals_toV h2, _, e, rfl, _, rfl⟩
theorem seq_inj {c c' : Value} {vs us : List Value} (e : (some { cls := c, data := .seq vs.toArray } : Option Obj) = some { cls := c', data := .seq us.toArray }) : c = c' ∧ vs = us := by
  have e1 := Option.some.inj e
  have e2 : c = c' := congrArg Obj.cls e1
  have e3 : Data.seq vs.toArray = Data.seq us.toArray := congrArg Obj.data e1
  injection e3 with e4
  refine ⟨e2, ?_⟩
  have e5 := congrArg Array.toList e4
  simpa using e5
/-- a list argument -/
theorem argL (KX : K.In h) (ar : ∀ a ∈ A, ArgOb h A a) {a : Addr} {vs : List Value} (ha : a ∈ A) (e : h.get? a = some { cls := .type "list", data := .seq vs.toArray }) : (∀ u ∈ vs, OkU A u) ∧ SqL K (argH K h A) a (vs.map toV) := by
  obtain ⟨us, h1, h2, h3⟩ := ar a ha
  have hu : us = vs := by
    rcases h3 with q | q
    · rw [e] at q
      exact (seq_inj q).2.symm
    · rw [e] at q
      exact absurd (Value.type.inj (seq_inj q).1) (by decide)
  subst hu
  refine ⟨h2, ?_⟩
  cases hk : K.lookup a with
  | none => exact .inl (.inr ⟨_, by rw [argH_at ha hk e, hoOf_lst]⟩)
  | some o =>
    have e2 := KX a o hk
    rw [e] at e2
    obtain rfl := Option.some.inj e2
    exact .inr ⟨_, us.toArray, _, hk, rfl, rfl, rfl, by rw [List.size_toArray]; exact h1, by simpa using vals_toV h2⟩
theorem argT (KX : K.In h) (ar : ∀ a ∈ A, ArgOb h A a) {a : Addr} {vs : List Value} (ha : a ∈ A) (e : h.get? a = some { cls := .type "tuple", data := .seq vs.toArray }) : (∀ u ∈ vs, OkU A u) ∧ SqT K (argH K h A) a (vs.map toV) := by
  obtain ⟨us, h1, h2, h3⟩ := ar a ha
  have hu : us = vs := by
    rcases h3 with q | q
    · rw [e] at q
      exact absurd (Value.type.inj (seq_inj q).1) (by decide)
    · rw [e] at q
      exact (seq_inj q).2.symm
  subst hu
  refine ⟨h2, ?_⟩
  cases hk : K.lookup a with
  | none => exact .inl (.inr ⟨_, by rw [argH_at ha hk e, hoOf_tup]⟩)
  | some o =>
    have e2 := KX a o hk
    rw [e] at e2
    obtain rfl := Option.some.inj e2
    exact .inr ⟨_, us.toArray, _, hk, rfl, rfl, by rw [List.size_toArray]; exact h1, by simpa using vals_toV h2⟩
mutual
theorem dw_one {Pm : Params} (KX : K.In h) (ar : ∀ a ∈ A, ArgOb h A a) : ∀ (d : WData) (v : Value), Well Pm h v d → plW d = true → OkU A v → Dw K (argH K h A) (toV v) d
  | .none, _, x, _, _ => by
    cases x
    exact .non
  | .bool b, _, x, _, _ => by
    cases x
    exact .bl b
  | .int i, _, x, _, _ => by
    cases x
    exact .int i
  | .str s, _, x, _, _ => by
    cases x
    exact .str s
  | .bytes b, _, x, _, _ => by
    cases x
    have z := Dw.byt (K := K) (H := argH K h A) b.toArray
    exact z
  | .list ds, _, x, p, hu => by
    obtain ⟨a, vs, rfl, ho, hall⟩ := well_list x
    obtain ⟨h2, hs⟩ := argL KX ar hu ho
    exact .lst hs (dw_all KX ar ds _ hall p h2)
  | .tuple ds, _, x, p, hu => by
    obtain ⟨a, vs, rfl, ho, hall⟩ := well_tuple x
    obtain ⟨h2, hs⟩ := argT KX ar hu ho
    exact .tup hs (dw_all KX ar ds _ hall p h2)
  | .float _, _, _, p, _ => Bool.noConfusion (show false = true from p)
  | .dict _, _, _, p, _ => Bool.noConfusion (show false = true from p)
  | .bytearray _, _, _, p, _ => Bool.noConfusion (show false = true from p)
  | .set _, _, _, p, _ => Bool.noConfusion (show false = true from p)
  | .frozenset _, _, _, p, _ => Bool.noConfusion (show false = true from p)
  | .obj _ _, _, _, p, _ => Bool.noConfusion (show false = true from p)
theorem dw_all {Pm : Params} (KX : K.In h) (ar : ∀ a ∈ A, ArgOb h A a) : ∀ (ds : List WData) (vs : List Value), WellAll Pm h vs ds → plWs ds = true → (∀ u ∈ vs, OkU A u) → DwAll K (argH K h A) (vs.map toV) ds
  | [], _, x, _, _ => by
    cases x
    exact .nil
  | d :: ds, _, x, p, hu => by
    obtain ⟨v, vs, rfl, x1, x2⟩ := well_cons x
    have q : plW d = true ∧ plWs ds = true := Bool.and_eq_true_iff.mp p
    exact .cons (dw_one KX ar d v x1 q.1 (hu _ (List.mem_cons_self ..))) (dw_all KX ar ds vs x2 q.2 fun u m => hu u (List.mem_cons_of_mem _ m))
end
end
/-! ### the call -/
theorem spec_call {P : Program} {w : World} {K : PySem.W.Frag} {mg mb : Str → Option Value} {CX : CXT} {k : Nat} {fa : Addr} {fd : FuncData} {ps : List Str} {sp : Sp} {s₁ : Shared} {vals : List Value} {ds : List WData} {R : PySem.W.WRecords} {cl : Str → Option Addr} {d0 : WData}
    (KX : K.In s₁.heap) (hns : s₁.heap.Ns mainGlobals mg) (hb : s₁.heap.Ns builtinsNs mb) (hbb : ∀ x : Str, x ≠ "__name__" → mb x = bootBuiltins x) (hlim : s₁.heap.NoLimit) (hg : s₁.gens = #[])
    (hwl : WellAll w.params s₁.heap vals ds) (hpl : plWs ds = true) (hwt : ∀ d ∈ ds, d.weight ≤ 1048576) (hr : Room k callerA)
    (F : ∀ base : Heap, K.In base → base.Ns mainGlobals mg → FnOk P w K mg base CX k fa fd ps sp) (hbind : ∀ (s : Shared) (us : List Value), us.length = ps.length → BindsTo s fd ⟨us, []⟩ (ps.zip us)) (hlen : ds.length = ps.length)
    (hsp : ∀ (H : Hp) (xs : List V), OnlyF H → DwAll K H xs ds → sp xs H (fun v H' => Dw K H' v d0) fun _ _ _ => False)
    (hCX : ∀ H e s', CX [] H s₁ (fun _ _ _ => False) e s' → False) :
    codeAny (model P w) callerA (.call (.ref fa) ⟨vals, []⟩) (fun r s' => ∃ u as, r = .ok (.ret u) ∧ ReadsW R cl s'.heap u d0 as ∧ OldK s₁.heap s'.heap ∧ s'.os = s₁.os ∧ AllBare s'.gens) s₁ := by
  obtain ⟨A, ho, ar⟩ := area_all ds vals hwl hpl hwt
  have hO : OnlyF (argH K s₁.heap A) := argH_only ar
  have hok : HOk P w (argH K s₁.heap A) s₁.heap := argH_ok ar
  have hS := dw_all KX ar ds vals hwl hpl ho
  have hV := vals_toV ho
  have hK : ∀ b u, argH K s₁.heap A b = some u → K.lookup b = none := fun b u q => (argH_is ar q).1
  have noA : ∀ {b : Addr} {o : Obj} {es : Array DictEntry} {ep : Nat}, s₁.heap.get? b = some o → o.data = .dict es ep → argH K s₁.heap A b = none := fun {b o es ep} e d => by
    cases q : argH K s₁.heap A b with
    | none => rfl
    | some u =>
      obtain ⟨_, vs, _, _, ⟨e2, _⟩ | ⟨e2, _⟩⟩ := argH_is ar q
      · rw [e2] at e
        cases e
        have d' : Data.seq vs.toArray _ = Data.dict es ep := d
        cases d'
      · rw [e2] at e
        cases e
        have d' : Data.seq vs.toArray _ = Data.dict es ep := d
        cases d'
  generalize argH K s₁.heap A = H at hO hok hS hK noA
  have base_of : ∀ {b : Addr} {o : Obj}, s₁.heap.get? b = some o → H b = none → (hidT s₁.heap H).get? b = some o := fun e n => hidT_get e n
  have nsK : ∀ {b : Addr} {m : Str → Option Value}, s₁.heap.Ns b m → (hidT s₁.heap H).Ns b m := fun {b m} ⟨o, es, ep, e, d, r⟩ => ⟨o, es, ep, base_of e (noA e d), d, r⟩
  have nK : ∀ b o, K.lookup b = some o → H b = none := fun b o e => by
    cases q : H b with
    | none => rfl
    | some u =>
      rw [hK b u q] at e
      cases e
  have hKb : K.In (hidT s₁.heap H) := fun b o e => base_of (KX b o e) (nK b o e)
  have hM : Mod K mg (hidT s₁.heap H) := ⟨hKb, nsK hns, ⟨mb, nsK hb, hbb⟩, let ⟨mc, h1, h2⟩ := hlim; ⟨mc, nsK h1, h2⟩⟩
  have e0 : Env0 P w K mg (hidT s₁.heap H) callerA [] s₁ H := ⟨rfl, hM, fun b o e => of_hidT e, Nat.le_of_eq (hidT_size _ _), trivial, fun b hb => absurd (show b ∈ ([] : List Addr) from hb) (by simp), hok, .of_eq hg⟩
  have hl : vals.length = ps.length := by rw [wellAll_len hwl]; exact hlen
  refine codeAny_mono ((F _ hKb (nsK hns)).run callerA [] s₁ H ⟨vals, []⟩ vals (vals.map toV) _ _ hr e0 (hbind s₁ vals hl) hV (hsp H _ hO hS)) fun r s' x => ?_
  cases r with
  | error e => exact (hCX H e s' x).elim
  | ok fl =>
    cases fl with
    | next => exact False.elim x
    | brk => exact False.elim x
    | cont => exact False.elim x
    | ret u =>
      obtain ⟨v, H', os, bare, un, hok', r', q⟩ := x
      have kept : ∀ b o, s₁.heap.get? b = some o → s'.heap.get? b = some o := fun b o e => by
        cases q2 : H b with
        | none => exact un.keep b o e q2 (by intro z; exact absurd (show b ∈ ([] : List Addr) from z) (by simp)) (by simp)
        | some u2 =>
          rcases hO b with z | ⟨ob, u3, z⟩
          · rw [q2] at z
            cases z
          · have z2 := un.frzs b ob _ z
            obtain ⟨e1, _⟩ := hok b _ z
            obtain ⟨e2, _⟩ := hok' b _ z2
            rw [e] at e1
            cases e1
            exact e2
      have KX' : K.In s'.heap := fun b o e => kept b o (KX b o e)
      obtain ⟨as, hrd⟩ := Dw.reads (R := R) (cl := cl) hok' KX' d0 v u q r'
      exact ⟨u, as, rfl, hrd, OldK.of_keep kept, os, bare⟩
/-! ### the row -/
theorem layable_weight {ds : List WData} (h : WData.layableAll ds = true) : ∀ d ∈ ds, d.weight ≤ 1048576 := fun d hd =>
  (PySem.W.layableW_iff.mp (List.all_eq_true.mp h d hd)).2.2
theorem encAll_len : ∀ (cs : List Codec) (a : Codec.denoteAll cs), (Codec.encAll cs a).length = cs.length
  | [], _ => rfl
  | c :: cs, a => by
    show (Codec.encAll cs a.2).length + 1 = cs.length + 1
    rw [encAll_len cs a.2]
/-- the goal that k_headS leaves (case hc), from the promise of the row's def: whatever the arguments that the codecs let and the row asks for, the def gives what stands for enc (f ..) -/
theorem walk_spec {r : OpenSpec} {k : Nat} {q : Program} {loose : List Str} {XP : (Str → Option Value) → Heap → Prop} {YP : World → Heap → Prop} {d : DefRec} {K : Params → PySem.W.Frag} {CX : World → CXT} {ps : List Str} {sp : World → Sp}
    (hwell : r.wellSaid = true) (hdf : d.params.defaults = []) (hlen : r.args.length = ps.length) (hr : Room k callerA)
    (hY : ∀ (w : World) (h : Heap), YP w h → (K w.params).In h)
    (F : ∀ (w : World) (mg : Str → Option Value) (fa : Addr) (h : Heap), YP w h → (K w.params).In h → h.Ns mainGlobals mg → mg d.name = some (.ref fa) →
      ∃ fd : FuncData, (∀ (s : Shared) (us : List Value), us.length = ps.length → BindsTo s fd ⟨us, []⟩ (ps.zip us)) ∧
        ∀ base : Heap, (K w.params).In base → base.Ns mainGlobals mg → FnOk r.prog w (K w.params) mg base (CX w) k fa fd ps (sp w))
    (hsp : ∀ (w : World) (H : Hp) (xs : List V) (a : Codec.denoteAll r.args), OnlyF H → Codec.withinAll r.args a = true → Codec.app r.args r.asked a = true → DwAll (K w.params) H xs (Codec.encAll r.args a) →
      sp w xs H (fun v H' => Dw (K w.params) H' v (r.ret.enc (Codec.app r.args r.f a))) fun _ _ _ => False)
    (hCX : ∀ (w : World) (H : Hp) (s : Shared) (e : Value) (s' : Shared), CX w [] H s (fun _ _ _ => False) e s' → False) :
    PySem.W.WalkOS q loose XP YP r d [] (fun f vs => PySem.call f vs) := by
  intro w s_0 s₁ mg mb G Y fa o pm cd doc dV kV ho hd hcd hD hmg hg args vals as hpre hlay hrd hwl hlo
  obtain ⟨a, e1, e2⟩ := PySem.W.os_pre_some hpre
  obtain ⟨e3, hwi⟩ := Codec.encAll_of_decAll r.args args a e1
  subst e3
  have KX := hY w _ Y
  obtain ⟨fd, hb, hF⟩ := F w mg fa _ Y KX G.T.g hmg
  refine PySem.W.enter_call (codeAny_mono (spec_call (R := []) (cl := classAt s_0.heap) (d0 := r.ret.enc (Codec.app r.args r.f a)) KX G.T.g G.T.b G.T.builtins G.T.nolimit hg hwl (pl_encAll _ _) (layable_weight hlay) hr hF hb (by rw [encAll_len]; exact hlen)
    (fun H xs hO hS => hsp w H xs a hO hwi e2 hS) fun H e s' => hCX w H s₁ e s') fun r' s' hq => ?_)
  obtain ⟨u, as', rfl, h1, h2, h3, h4⟩ := hq
  exact ⟨.inl ⟨u, _, as', rfl, fun _ => rfl, h1, (OpenSpec.post_iff hwell hwi _ _).mpr rfl, fun z => Bool.noConfusion (show false = true from z)⟩, h2, h3, h4⟩
/-- the same where the promise hangs on the written part alone -/
theorem walk_specK {r : OpenSpec} {k : Nat} {q : Program} {loose : List Str} {XP : (Str → Option Value) → Heap → Prop} {YP : World → Heap → Prop} {d : DefRec} {K : Params → PySem.W.Frag} {CX : CXT} {ps : List Str} {sp : PySem.W.Frag → Sp}
    (hwell : r.wellSaid = true) (hdf : d.params.defaults = []) (hlen : r.args.length = ps.length) (hr : Room k callerA)
    (hY : ∀ (w : World) (h : Heap), YP w h → (K w.params).In h)
    (F : ∀ (w : World) (mg : Str → Option Value) (fa : Addr) (h : Heap), YP w h → (K w.params).In h → h.Ns mainGlobals mg → mg d.name = some (.ref fa) →
      ∃ fd : FuncData, (∀ (s : Shared) (us : List Value), us.length = ps.length → BindsTo s fd ⟨us, []⟩ (ps.zip us)) ∧
        ∀ base : Heap, (K w.params).In base → base.Ns mainGlobals mg → FnOk r.prog w (K w.params) mg base CX k fa fd ps (sp (K w.params)))
    (hsp : ∀ (K : PySem.W.Frag) (H : Hp) (xs : List V) (a : Codec.denoteAll r.args), OnlyF H → Codec.withinAll r.args a = true → Codec.app r.args r.asked a = true → DwAll K H xs (Codec.encAll r.args a) →
      sp K xs H (fun v H' => Dw K H' v (r.ret.enc (Codec.app r.args r.f a))) fun _ _ _ => False)
    (hCX : ∀ (H : Hp) (s : Shared) (e : Value) (s' : Shared), CX [] H s (fun _ _ _ => False) e s' → False) :
    PySem.W.WalkOS q loose XP YP r d [] (fun f vs => PySem.call f vs) :=
  walk_spec (K := K) (CX := fun _ => CX) (sp := fun w => sp (K w.params)) hwell hdf hlen hr hY F (fun w H xs a h1 h2 h3 h4 => hsp (K w.params) H xs a h1 h2 h3 h4) fun _ H s e s' => hCX H s e s'
end L2
-- rests on (row put in by the clerk, for the bench that shows a file only what it spells): KE.SpHead KE.OsShapes
end
end
section
set_option Elab.async false
set_option maxRecDepth 100000
set_option maxHeartbeats 2000000
/-! Words over the layer: calls whose function is known up to its FuncData; constants of the module; set(..), len(set(..)); o[i] op= e of a list. -/
namespace V6
open PySem PySem.Spec PyProof.Rows L2
theorem boot_all : bootBuiltins "all" = some (.builtin "all") := by decide +kernel
theorem boot_any : bootBuiltins "any" = some (.builtin "any") := by decide +kernel
/-- a def that keeps its promise, and how its arguments bind -/
def GF (P : Program) (w : World) (K : PySem.W.Frag) (mg : Str → Option Value) (base : Heap) (k : Nat) (f : Addr) (ps : List Str) (sp : Sp) : Prop := ∃ fd, FnOk P w K mg base CX0 k f fd ps sp ∧ Binds K fd ps []
theorem kp_of {K : PySem.W.Frag} {x q : Str} {st : Stmt} {f : Addr} (h : ∃ fd, Fun K x q st f fd) : PySem.W.keepIn K (.ref f) = true := let ⟨_, F⟩ := h; F.kp
/-- a tuple of the module -/
def KTup (K : PySem.W.Frag) (a : Addr) (xs : List V) : Prop := ∃ (o : Obj) (its : Array Value) (n : Nat), K.lookup a = some o ∧ o.cls = .type "tuple" ∧ o.data = .seq its n ∧ its.size ≤ sizeLine ∧ Vals xs its.toList
theorem KTup.sq {K : PySem.W.Frag} {H : Hp} {a : Addr} {xs : List V} (h : KTup K a xs) : SqT K H a xs := .inr h
section
variable {X : Cx} {k : Nat} {f C : Addr} {ps : List Str} {sp : Sp} {x m : Str} {p pos apos : Pos} {e o : Expr} {es : List Expr} {ta : TE} {t : TA}
theorem pe_k {v : Int} (hg : Gl X x) (hm : ∃ t, X.mg x = some (.int v t)) (hd : (x == ("__debug__" : Str)) = false := by decide) : PE X (.Name x pos) (tC (.int v)) :=
  let ⟨_, h⟩ := hm; pe_glob hg h ⟨_, rfl⟩ hd
theorem pe_kt {a : Addr} (hg : Gl X x) (hm : X.mg x = some (.ref a)) (hd : (x == ("__debug__" : Str)) = false := by decide) : PE X (.Name x pos) (tC (.ref a)) := pe_glob hg hm rfl hd
theorem qe_call (G : GF X.prog X.w X.K X.mg X.base k f ps sp) (hr : Room k X.A) (hg : Gl X x) (hm : X.mg x = some (.ref f)) (hk : PySem.W.keepIn X.K (.ref f) = true)
    (ha : PA X (e :: es) t) (hdb : (x == ("__debug__" : Str)) = false := by decide) (he : starEach (e :: es) X.env = (false, eval e X.env) :: starEach es X.env := by rfl) (hpl : (backTo pos (starEach es X.env)).any (·.1) = false := by rfl) :
    PE X (.Call (.Name x p) (e :: es) [] pos) (tCall sp [] E0 t) := by
  obtain ⟨fd, F, b⟩ := G
  exact pe_call F hr hg hm hk b .nil pass0 ha hdb he hpl
theorem qe_meth {pl : Sem Bool} (he : PE X o ta) (c : Cls X.K C) (hm : Meth X.K C m f) (G : GF X.prog X.w X.K X.mg X.base k f ps sp) (hr : Room k X.A) (ha : PA X (e :: es) t)
    (hst : starEach (e :: es) X.env = (false, eval e X.env) :: starEach es X.env := by rfl) (hpl : (backTo pos (starEach es X.env)).any (·.1) = false := by rfl)
    (ht : eval (.Call (.Attribute o m apos) (e :: es) [] pos) X.env = (do
      let ov ← eval o X.env
      standAt apos.atName
      let (f, first) ← holding [ov] (getMethod ov m pl)
      callWith pos f first (backTo pos (starEach (e :: es) X.env)) (backToKw pos (keywordEach [] X.env))) := by rfl) :
    PE X (.Call (.Attribute o m apos) (e :: es) [] pos) (tMeth C m sp [] E0 ta t) := by
  obtain ⟨fd, F, b⟩ := G
  exact pe_meth he c hm F hr b .nil pass0 ha hst hpl ht
theorem qe_meth0 {pl : Sem Bool} (he : PE X o ta) (c : Cls X.K C) (hm : Meth X.K C m f) (G : GF X.prog X.w X.K X.mg X.base k f ps sp) (hr : Room k X.A)
    (ht : eval (.Call (.Attribute o m apos) [] [] pos) X.env = (do
      let ov ← eval o X.env
      standAt apos.atName
      let (f, first) ← holding [ov] (getMethod ov m pl)
      callWith pos f first (backTo pos (starEach [] X.env)) (backToKw pos (keywordEach [] X.env))) := by rfl) :
    PE X (.Call (.Attribute o m apos) [] [] pos) (tMeth C m sp [] E0 ta tNil) := by
  obtain ⟨fd, F, b⟩ := G
  exact pe_meth0 he c hm F hr b .nil pass0 ht
theorem qe_make (M : Mk X.K C f) (G : GF X.prog X.w X.K X.mg X.base k f ps sp) (hr : Room (k + 1) X.A) (hg : Gl X x) (hm : X.mg x = some (.ref C))
    (ha : PA X (e :: es) t) (hdb : (x == ("__debug__" : Str)) = false := by decide) (he : starEach (e :: es) X.env = (false, eval e X.env) :: starEach es X.env := by rfl) (hpl : (backTo pos (starEach es X.env)).any (·.1) = false := by rfl) :
    PE X (.Call (.Name x p) (e :: es) [] pos) (tMake C sp [] E0 t) := by
  obtain ⟨fd, F, b⟩ := G
  exact pe_make M F hr hg hm b .nil pass0 ha hdb he hpl
theorem qe_make0 (M : Mk X.K C f) (G : GF X.prog X.w X.K X.mg X.base k f ps sp) (hr : Room (k + 1) X.A) (hg : Gl X x) (hm : X.mg x = some (.ref C))
    (hdb : (x == ("__debug__" : Str)) = false := by decide) : PE X (.Call (.Name x p) [] [] pos) (tMake C sp [] E0 tNil) := by
  obtain ⟨fd, F, b⟩ := G
  exact pe_make0 M F hr hg hm b .nil pass0 hdb
/-- within a comprehension's block: the module's things are the def's own -/
theorem pe_fldK {K' : PySem.W.Frag} {f : Str} (he : PE X e ta) (hK : X.K = K') (hb : attributeBase e f X.env (eval e X.env) = eval e X.env) : PE X (.Attribute e f pos) (tFld K' ta f) := by
  subst hK; exact pe_fld he hb
theorem ix_listK {K' : PySem.W.Frag} (hK : X.K = K') : IxR X (rIxL K') := by subst hK; exact ix_list
theorem in_seqK {K' : PySem.W.Frag} (hK : X.K = K') : OpR X (compareOp .In) (rIn K' false) := by subst hK; exact op_in_seq
theorem notIn_seqK {K' : PySem.W.Frag} (hK : X.K = K') : OpR X (compareOp .NotIn) (rIn K' true) := by subst hK; exact op_notIn_seq
/-- o[i] of a list, by values, for o[i] op= e -/
def gIxL : V → V → Hp → VK → Prop := fun x y H Q => ∃ p xs j v, x = .ref p ∧ y = .int (j : Nat) ∧ H p = some (.lst xs) ∧ xs[j]? = some v ∧ Q v H
theorem get_list : PGet X gIxL := by
  intro pins s σ H o i ov iv Q I ro ri h
  obtain ⟨p, xs, j, v, rfl, rfl, hp, hv, q⟩ := h
  cases ro
  obtain ⟨t, rfl⟩ := ri
  obtain ⟨its, r, pl, hz⟩ := I.list (SqL.of (K := X.K) hp)
  obtain ⟨w, ew, rw'⟩ := r.get hv
  have hj : j < xs.length := (List.getElem?_eq_some_iff.mp hv).1
  have hn := line63
  exact wpAny_getItem_list pl.isList (by omega) (by omega) (by simpa using ew) ⟨v, H, I, rw', q⟩
/-! ### set(xs) of a list of ints; its len -/
def dd (ns : List Int) : List Int := firstMet (fun i => ns.getD i 0) ns.length
def rSet (K : PySem.W.Frag) : List V → Hp → VK → Prop := fun vs H Q => ∃ (a : Addr) (ns : List Int), vs = [V.ref a] ∧ SqL K H a (ns.map V.int) ∧ ns.length ≤ 1000 ∧ ∀ p, H p = none → Q (.ref p) (upd H p (.set (fun k => (dd ns).any (· == k)) (dd ns).length))
theorem call_set (hc : X.calm = true) : CallR X (.type "set") (rSet X.K) := by
  intro pins s σ H vs us Q I r h
  obtain ⟨a, ns, rfl, hs, hn, q⟩ := h
  obtain ⟨its, rv, hl, _⟩ := I.list hs
  rw [Vals.ref1 r]
  have hi := rv.ints
  have hlen : its.length = ns.length := hi.length
  have hsz : its.toArray.size = ns.length := by rw [List.size_toArray]; exact hlen
  refine PySem.call_set_list (I.ok.hd hc) hl.isList (by simpa using hi) (by rw [hsz]; unfold scanBound; omega) fun h' tk hS hk => ?_
  rw [hsz] at hS
  exact ⟨.ref s.heap.objs.size, _, I.laid (t' := tk) (o := .set (fun k => (dd ns).any (· == k)) (dd ns).length) (fun b o e => hk b o (Heap.lt_size e) e) (Nat.le_refl _) hS, rfl, q _ (I.hok.fresh (Nat.le_refl _))⟩
theorem call_len_set : CallR X (.builtin "len") (fun xs H Q => ∃ p S n, xs = [V.ref p] ∧ H p = some (.set S n) ∧ Q (.int (n : Nat)) H) := by
  intro pins s σ H vs us Q I r h
  obtain ⟨p, S, n, rfl, hp, q⟩ := h
  rw [Vals.ref1 r]
  obtain ⟨o, es, ep, t, ho, hex, hd, _, _, hb, hf, hn⟩ := I.hok p _ hp
  subst hn
  exact PySem.call_len_set ho hex hd hf (by unfold scanBound at hb; omega) ⟨.int _, H, I.tok _, ⟨_, rfl⟩, q⟩
theorem vals3 {x y z : V} {us : List Value} (r : Vals [x, y, z] us) : ∃ u v w, us = [u, v, w] ∧ RelV x u ∧ RelV y v ∧ RelV z w := by
  cases r with
  | cons r1 t => cases t with
    | cons r2 t => cases t with
      | cons r3 t => cases t; exact ⟨_, _, _, rfl, r1, r2, r3⟩
theorem call_max3 (hc : X.calm = true) : CallR X (.builtin "max") (fun xs H Q => ∃ i j k : Int, xs = [.int i, .int j, .int k] ∧ Q (.int (max (max i j) k)) H) := by
  intro pins s σ H xs us Q I r h
  obtain ⟨i, j, k, rfl, q⟩ := h
  obtain ⟨u1, u2, u3, rfl, ⟨t1, rfl⟩, ⟨t2, rfl⟩, ⟨t3, rfl⟩⟩ := vals3 r
  refine PySem.max_three_ints (I.ok.hd hc) fun h' tk kp => ⟨_, H, I.kept kp, ?_, q⟩
  have e : max (max i j) k = if j > i then (if k > j then k else j) else (if k > i then k else i) := by
    simp only [Int.max_def]
    split <;> split <;> split <;> omega
  rw [e]
  by_cases h1 : j > i
  · rw [if_pos h1, if_pos h1]
    by_cases h2 : k > j
    · rw [if_pos h2, if_pos h2]; exact ⟨_, rfl⟩
    · rw [if_neg h2, if_neg h2]; exact ⟨_, rfl⟩
  · rw [if_neg h1, if_neg h1]
    by_cases h2 : k > i
    · rw [if_pos h2, if_pos h2]; exact ⟨_, rfl⟩
    · rw [if_neg h2, if_neg h2]; exact ⟨_, rfl⟩
end
theorem first_len (val : Nat → Int) : ∀ i, (firstMet val i).length = i ↔ ∀ a b, a < b → b < i → val a ≠ val b
  | 0 => by simp [firstMet_zero]
  | i + 1 => by
    have ih := first_len val i
    have hle := firstMet_length_le val i
    rw [firstMet_succ]
    unfold step_dedup
    have key : (firstMet val i).any (· == val i) = true ↔ ∃ a, a < i ∧ val a = val i := by
      rw [firstMet_any, List.any_eq_true]
      constructor
      · rintro ⟨z, hz, e⟩
        obtain ⟨a, ha, rfl⟩ := List.mem_map.mp hz
        exact ⟨a, List.mem_range.mp ha, beq_iff_eq.mp e⟩
      · rintro ⟨a, ha, e⟩
        exact ⟨val a, List.mem_map.mpr ⟨a, List.mem_range.mpr ha, rfl⟩, beq_iff_eq.mpr e⟩
    by_cases h : (firstMet val i).any (· == val i) = true
    · rw [if_pos h]
      obtain ⟨a, ha, e⟩ := key.mp h
      constructor
      · intro q; omega
      · intro q; exact absurd e (q a i ha (Nat.lt_succ_self i))
    · rw [if_neg h, List.length_append, List.length_singleton]
      constructor
      · intro q a b hab hb
        have q' := ih.mp (by omega)
        by_cases e : b = i
        · subst e
          exact fun z => h (key.mpr ⟨a, hab, z⟩)
        · exact q' a b hab (by omega)
      · intro q
        rw [ih.mpr fun a b hab hb => q a b hab (by omega)]
theorem dd_nodup (ns : List Int) : decide ((((dd ns).length : Nat) : Int) = (ns.length : Int)) = decide ns.Nodup := by
  have e : (dd ns).length = ns.length ↔ ns.Nodup := by
    unfold dd
    rw [first_len]
    show _ ↔ List.Pairwise _ _
    rw [List.pairwise_iff_getElem]
    constructor
    · intro h i j hi hj hij
      have := h i j hij hj
      rwa [List.getD_eq_getElem?_getD, List.getD_eq_getElem?_getD, List.getElem?_eq_getElem hi, List.getElem?_eq_getElem hj] at this
    · intro h i j hij hj
      have hi : i < ns.length := by omega
      rw [List.getD_eq_getElem?_getD, List.getD_eq_getElem?_getD, List.getElem?_eq_getElem hi, List.getElem?_eq_getElem hj]
      exact h i j hi hj hij
  by_cases h : ns.Nodup
  · rw [decide_eq_true h, decide_eq_true (by have := e.mpr h; omega)]
  · rw [decide_eq_false h, decide_eq_false (fun q => h (e.mp (by omega)))]
end V6
end
section
/-! What holds of every state that the calls of the document reach. -/
namespace Vs
open Kg60
def names (s : Slot) : List Nat := s.starter :: s.sub.toList
structure GT (x : Team) : Prop where
  len : x.slots = [] ∨ x.slots.length = 6
  fst : x.first < 6
  ph : ∀ s ∈ x.slots, s.phase ≤ 2 ∧ (s.phase = 0 ↔ s.sub = none)
  nd : ∀ (i j : Nat) (s t : Slot) (p : Nat), x.slots[i]? = some s → x.slots[j]? = some t → p ∈ names s → p ∈ names t → i = j
  nl : ∀ s ∈ x.slots, ∀ p ∈ names s, p ∉ x.liberos
  lb : ∀ s ∈ x.slots, ∀ l, s.libero = some l → l ∈ x.liberos
  one : ∀ (i j : Nat) (s t : Slot), x.slots[i]? = some s → x.slots[j]? = some t → s.libero.isSome = true → t.libero.isSome = true → i = j
  subs : x.subs ≤ 6
structure GS (s : State) : Prop where
  a : GT s.a
  b : GT s.b
  play : s.playing = true → s.a.slots.length = 6 ∧ s.b.slots.length = 6 ∧ s.ready = true
  nw : wonBy s.over.length s.a.points s.b.points = false ∧ wonBy s.over.length s.b.points s.a.points = false
  cnt : s.over.length = s.a.sets + s.b.sets
  sv : s.serves = 0 ∨ s.serves = 1
  fs : s.firstServe = 0 ∨ s.firstServe = 1
  le : s.a.sets ≤ 3 ∧ s.b.sets ≤ 3
  lt : s.playing = true → s.a.sets < 3 ∧ s.b.sets < 3
theorem get_set {α : Type} {l : List α} {i j : Nat} {a b : α} (h : (l.set i a)[j]? = some b) : (j = i ∧ b = a ∧ i < l.length) ∨ (j ≠ i ∧ l[j]? = some b) := by
  rw [List.getElem?_set] at h
  by_cases e : i = j
  · rw [if_pos e] at h
    split at h
    · exact .inl ⟨e.symm, (Option.some.inj h).symm, by omega⟩
    · cases h
  · rw [if_neg e] at h
    exact .inr ⟨fun q => e q.symm, h⟩
theorem mem_set {α : Type} {l : List α} {i : Nat} {a b : α} (h : b ∈ l.set i a) : b = a ∨ b ∈ l := by
  obtain ⟨j, hj⟩ := List.getElem?_of_mem h
  rcases get_set hj with ⟨_, e, _⟩ | ⟨_, e⟩
  · exact .inl e
  · exact .inr (List.mem_of_getElem? e)
theorem GT.nobody : GT nobody := ⟨.inl rfl, by decide, fun s h => (nomatch h), fun i j s t p h => (by simp [Kg60.nobody] at h), fun s h => (nomatch h), fun s h => (nomatch h), fun i j s t h => (by simp [Kg60.nobody] at h), by decide⟩
theorem GS.init : GS init := ⟨GT.nobody, GT.nobody, fun h => (nomatch h), ⟨rfl, rfl⟩, rfl, .inl rfl, .inl rfl, ⟨by decide, by decide⟩, fun h => (nomatch h)⟩
/-- a team that differs in what GT doesn't speak of -/
theorem GT.same {x y : Team} (g : GT x) (h1 : y.slots = x.slots) (h2 : y.first < 6) (h3 : y.liberos = x.liberos) (h4 : y.subs ≤ 6) : GT y :=
  ⟨by rw [h1]; exact g.len, h2, by rw [h1]; exact g.ph, by rw [h1]; exact g.nd, by rw [h1, h3]; exact g.nl, by rw [h1, h3]; exact g.lb, by rw [h1]; exact g.one, h4⟩
theorem GT.empty {y : Team} (h1 : y.slots = []) (h2 : y.first < 6) (h4 : y.subs ≤ 6) : GT y :=
  ⟨.inl h1, h2, by rw [h1]; exact fun s h => (nomatch h), by rw [h1]; exact fun i j s t p h => (by simp at h), by rw [h1]; exact fun s h => (nomatch h), by rw [h1]; exact fun s h => (nomatch h), by rw [h1]; exact fun i j s t h => (by simp at h), h4⟩
theorem GT.cleared {x : Team} : GT x.cleared := GT.empty rfl (by show 0 < 6; decide) (by show 0 ≤ 6; decide)
/-- one slot is put anew -/
theorem GT.put {x y : Team} {i : Nat} {s s' : Slot} (g : GT x) (hi : x.slots[i]? = some s) (h1 : y.slots = x.slots.set i s') (h2 : y.first = x.first) (h3 : y.liberos = x.liberos) (h4 : y.subs ≤ 6)
    (hp : s'.phase ≤ 2 ∧ (s'.phase = 0 ↔ s'.sub = none)) (hn : ∀ p ∈ names s', p ∈ names s ∨ (p ∉ x.liberos ∧ ∀ t ∈ x.slots, p ∉ names t))
    (hl : ∀ l, s'.libero = some l → l ∈ x.liberos) (ho : s'.libero.isSome = true → s.libero.isSome = true ∨ ∀ t ∈ x.slots, t.libero.isSome = false) : GT y := by
  have lt : i < x.slots.length := (List.getElem?_eq_some_iff.mp hi).1
  have ms : s ∈ x.slots := List.mem_of_getElem? hi
  refine ⟨?_, by rw [h2]; exact g.fst, ?_, ?_, ?_, ?_, ?_, h4⟩
  · rcases g.len with e | e
    · rw [e] at hi; simp at hi
    · exact .inr (by rw [h1, List.length_set]; exact e)
  · intro t ht
    rw [h1] at ht
    rcases mem_set ht with e | e
    · rw [e]; exact hp
    · exact g.ph t e
  · intro j k t u p e1 e2 m1 m2
    rw [h1] at e1 e2
    rcases get_set e1 with ⟨a1, b1, _⟩ | ⟨a1, b1⟩ <;> rcases get_set e2 with ⟨a2, b2, _⟩ | ⟨a2, b2⟩
    · rw [a1, a2]
    · subst b1 a1
      rcases hn p m1 with q | q
      · exact g.nd j k s u p hi b2 q m2
      · exact absurd m2 (q.2 u (List.mem_of_getElem? b2))
    · subst b2 a2
      rcases hn p m2 with q | q
      · exact g.nd j k t s p b1 hi m1 q
      · exact absurd m1 (q.2 t (List.mem_of_getElem? b1))
    · exact g.nd j k t u p b1 b2 m1 m2
  · intro t ht p m
    rw [h1] at ht
    rw [h3]
    rcases mem_set ht with e | e
    · subst e
      rcases hn p m with q | q
      · exact g.nl s ms p q
      · exact q.1
    · exact g.nl t e p m
  · intro t ht l e
    rw [h1] at ht
    rw [h3]
    rcases mem_set ht with q | q
    · subst q; exact hl l e
    · exact g.lb t q l e
  · intro j k t u e1 e2 m1 m2
    rw [h1] at e1 e2
    rcases get_set e1 with ⟨a1, b1, _⟩ | ⟨a1, b1⟩ <;> rcases get_set e2 with ⟨a2, b2, _⟩ | ⟨a2, b2⟩
    · rw [a1, a2]
    · subst b1 a1
      rcases ho m1 with q | q
      · exact g.one j k s u hi b2 q m2
      · rw [q u (List.mem_of_getElem? b2)] at m2; cases m2
    · subst b2 a2
      rcases ho m2 with q | q
      · exact g.one j k t s b1 hi m1 q
      · rw [q t (List.mem_of_getElem? b1)] at m1; cases m1
    · exact g.one j k t u b1 b2 m1 m2
theorem used_false {x : Team} {p : Nat} (h : x.used p = false) : ∀ t ∈ x.slots, p ∉ names t := by
  intro t ht m
  have h' : (x.slots.any fun s => s.starter == p || s.sub == some p) = false := h
  rw [List.any_eq_false] at h'
  have q := h' t ht
  apply q
  unfold names at m
  rcases List.mem_cons.mp m with e | e
  · simp [e]
  · have : t.sub = some p := by
      cases hs : t.sub with
      | none => rw [hs] at e; simp at e
      | some z => rw [hs] at e; simp at e; rw [e]
    simp [this]
theorem GT.substitute {x z : Team} {i p : Nat} {s : Slot} (g : GT x) (hi : x.slots[i]? = some s) {s0 : Slot} (h0 : s0.starter = s.starter ∧ s0.sub = s.sub ∧ s0.phase = s.phase ∧ s0.libero = none) (h : x.substitute i s0 p = some z) :
    GT z ∧ ∃ q, z.slots[i]? = some q ∧ z.slots = x.slots.set i q ∧ z.first = x.first ∧ z.liberos = x.liberos ∧ q.libero = none ∧ q.phase ≤ 2 ∧ (q.phase = 0 ↔ q.sub = none) ∧ (∀ r ∈ names q, r ∈ names s ∨ (r ∉ x.liberos ∧ ∀ t ∈ x.slots, r ∉ names t)) ∧ z.subs ≤ 6 ∧
      z.points = x.points ∧ z.sets = x.sets := by
  have lt : i < x.slots.length := (List.getElem?_eq_some_iff.mp hi).1
  have hph := g.ph s (List.mem_of_getElem? hi)
  unfold Team.substitute at h
  split at h
  · cases h
  · rename_i hc
    have hsub : x.subs < 6 := by
      have : ¬ SUBS ≤ x.subs := fun q => hc (.inl q)
      unfold SUBS at this; omega
    obtain ⟨e1, e2, e3, e4⟩ := h0
    split at h
    · split at h
      · rename_i h5 h6
        have ez := Option.some.inj h
        subst ez
        have hs' : ∀ r ∈ names { s0 with sub := some p, phase := 1 }, r ∈ names s ∨ (r ∉ x.liberos ∧ ∀ t ∈ x.slots, r ∉ names t) := by
          intro r hr
          have hr' : r = s0.starter ∨ r = p := by simpa [names] using hr
          rcases hr' with q | q
          · exact .inl (by rw [q, e1]; exact List.mem_cons_self)
          · subst q
            exact .inr ⟨fun m => (by have := h6.2.1; simp at this; exact this m), used_false h6.2.2⟩
        have hq : ({ s0 with sub := some p, phase := 1 } : Slot).phase ≤ 2 ∧ (({ s0 with sub := some p, phase := 1 } : Slot).phase = 0 ↔ ({ s0 with sub := some p, phase := 1 } : Slot).sub = none) := ⟨by show (1 : Nat) ≤ 2; decide, by simp⟩
        refine ⟨g.put hi rfl rfl rfl (by show x.subs + 1 ≤ 6; omega) hq hs' (fun l e => ?_) (fun e => ?_), _, by show (x.slots.set i _)[i]? = _; rw [List.getElem?_set_self lt], rfl, rfl, rfl, e4, hq.1, hq.2, hs', by show x.subs + 1 ≤ 6; omega, rfl, rfl⟩
        · rw [show ({ s0 with sub := some p, phase := 1 } : Slot).libero = s0.libero from rfl, e4] at e; cases e
        · rw [show ({ s0 with sub := some p, phase := 1 } : Slot).libero = s0.libero from rfl, e4] at e; cases e
      · cases h
    · split at h
      · split at h
        · rename_i h5 h6 h7
          have ez := Option.some.inj h
          subst ez
          have hs' : ∀ r ∈ names { s0 with phase := 2 }, r ∈ names s ∨ (r ∉ x.liberos ∧ ∀ t ∈ x.slots, r ∉ names t) := by
            intro r hr
            refine .inl ?_
            have hr' : r ∈ s0.starter :: s0.sub.toList := hr
            rw [e1, e2] at hr'
            exact hr'
          have hq : ({ s0 with phase := 2 } : Slot).phase ≤ 2 ∧ (({ s0 with phase := 2 } : Slot).phase = 0 ↔ ({ s0 with phase := 2 } : Slot).sub = none) := by
            refine ⟨by show (2 : Nat) ≤ 2; decide, ⟨fun e => (by cases e), fun e => ?_⟩⟩
            have e' : s.sub = none := by rw [← e2]; exact e
            have := hph.2.mpr e'
            rw [e3] at h6
            omega
          refine ⟨g.put hi rfl rfl rfl (by show x.subs + 1 ≤ 6; omega) hq hs' (fun l e => ?_) (fun e => ?_), _, by show (x.slots.set i _)[i]? = _; rw [List.getElem?_set_self lt], rfl, rfl, rfl, e4, hq.1, hq.2, hs', by show x.subs + 1 ≤ 6; omega, rfl, rfl⟩
          · rw [show ({ s0 with phase := 2 } : Slot).libero = s0.libero from rfl, e4] at e; cases e
          · rw [show ({ s0 with phase := 2 } : Slot).libero = s0.libero from rfl, e4] at e; cases e
        · cases h
      · cases h
/-! ### the whole state -/
theorem team_or (s : State) (t : Nat) : (s.team t = s.a ∧ t = 0) ∨ (s.team t = s.b ∧ t ≠ 0) := by
  unfold State.team
  by_cases h : t = 0
  · rw [if_pos h]; exact .inl ⟨rfl, h⟩
  · rw [if_neg h]; exact .inr ⟨rfl, h⟩
theorem GS.team {s : State} (g : GS s) (t : Nat) : GT (s.team t) := by
  rcases team_or s t with ⟨e, _⟩ | ⟨e, _⟩ <;> rw [e]
  · exact g.a
  · exact g.b
theorem set_zero (s : State) (x : Team) : s.set 0 x = { s with a := x } := rfl
theorem set_one (s : State) (x : Team) {t : Nat} (h : t ≠ 0) : s.set t x = { s with b := x } := by unfold State.set; rw [if_neg h]
theorem GS.setTeam {s : State} (g : GS s) (t : Nat) {x : Team} (gx : GT x) (hl : s.playing = true → x.slots.length = 6) (hp : x.points = (s.team t).points) (hs : x.sets = (s.team t).sets) : GS (s.set t x) := by
  rcases team_or s t with ⟨e, rfl⟩ | ⟨e, ht⟩
  · rw [e] at hp hs
    rw [set_zero]
    exact ⟨gx, g.b, fun q => ⟨hl q, (g.play q).2⟩, by show wonBy _ x.points _ = false ∧ wonBy _ _ x.points = false; rw [hp]; exact g.nw, by show _ = x.sets + _; rw [hs]; exact g.cnt, g.sv, g.fs, by show x.sets ≤ 3 ∧ _; rw [hs]; exact g.le, fun q => by show x.sets < 3 ∧ _; rw [hs]; exact g.lt q⟩
  · rw [e] at hp hs
    rw [set_one s x ht]
    exact ⟨g.a, gx, fun q => ⟨(g.play q).1, hl q, (g.play q).2.2⟩, by show wonBy _ _ x.points = false ∧ wonBy _ x.points _ = false; rw [hp]; exact g.nw, by show _ = _ + x.sets; rw [hs]; exact g.cnt, g.sv, g.fs, by show _ ∧ x.sets ≤ 3; rw [hs]; exact g.le, fun q => by show _ ∧ x.sets < 3; rw [hs]; exact g.lt q⟩
theorem won_zero (n : Nat) : wonBy n 0 0 = false := by unfold wonBy; simp
/-- all but that nobody has won -/
structure GP (s : State) : Prop where
  a : GT s.a
  b : GT s.b
  play : s.playing = true → s.a.slots.length = 6 ∧ s.b.slots.length = 6 ∧ s.ready = true
  cnt : s.over.length = s.a.sets + s.b.sets
  sv : s.serves = 0 ∨ s.serves = 1
  fs : s.firstServe = 0 ∨ s.firstServe = 1
  lt : s.playing = true → s.a.sets < 3 ∧ s.b.sets < 3
  on : s.playing = true
def ended (s : State) (w : Nat) : State := { s with over := s.over ++ [(s.a.points, s.b.points)], playing := false, a := if w = 0 then { s.a.cleared with sets := s.a.sets + 1 } else s.a.cleared, b := if w = 0 then s.b.cleared else { s.b.cleared with sets := s.b.sets + 1 } }
abbrev someWon (s : State) : Bool := wonBy s.over.length s.a.points s.b.points || wonBy s.over.length s.b.points s.a.points
theorem settle_no {s : State} (h : someWon s = false) : s.settle = s := by
  unfold State.settle
  have h' : ¬ (someWon s = true) := by rw [h]; decide
  exact if_neg h'
theorem settle_yes {s : State} (h : someWon s = true) : s.settle = ended s (if s.b.points < s.a.points then 0 else 1) := by
  unfold State.settle
  refine (if_pos h).trans ?_
  by_cases hw : s.b.points < s.a.points
  · simp only [if_pos hw]; rfl
  · simp only [if_neg hw]; rfl
theorem GP.ended {s : State} (g : GP s) (w : Nat) : GS (ended s w) := by
  unfold Vs.ended
  refine ⟨?_, ?_, fun q => (nomatch q), ?_, ?_, g.sv, g.fs, ?_, fun q => (nomatch q)⟩
  · show GT (if w = 0 then _ else _)
    split <;> exact GT.empty rfl (by show 0 < 6; decide) (by show 0 ≤ 6; decide)
  · show GT (if w = 0 then _ else _)
    split <;> exact GT.empty rfl (by show 0 < 6; decide) (by show 0 ≤ 6; decide)
  · show wonBy _ (Team.points (if w = 0 then _ else _)) (Team.points (if w = 0 then _ else _)) = false ∧ wonBy _ (Team.points (if w = 0 then _ else _)) (Team.points (if w = 0 then _ else _)) = false
    split <;> exact ⟨won_zero _, won_zero _⟩
  · show (s.over ++ [_]).length = Team.sets (if w = 0 then _ else _) + Team.sets (if w = 0 then _ else _)
    rw [List.length_append, List.length_singleton, g.cnt]
    split
    · show _ = s.a.sets + 1 + s.b.sets; omega
    · show _ = s.a.sets + (s.b.sets + 1); omega
  · show Team.sets (if w = 0 then _ else _) ≤ 3 ∧ Team.sets (if w = 0 then _ else _) ≤ 3
    have := g.lt g.on
    split
    · show s.a.sets + 1 ≤ 3 ∧ s.b.sets ≤ 3; omega
    · show s.a.sets ≤ 3 ∧ s.b.sets + 1 ≤ 3; omega
theorem GP.settle {s : State} (g : GP s) : GS s.settle := by
  cases h : someWon s with
  | true => rw [settle_yes h]; exact g.ended _
  | false =>
    rw [settle_no h]
    rw [Bool.or_eq_false_iff] at h
    exact ⟨g.a, g.b, g.play, h, g.cnt, g.sv, g.fs, by have := g.lt g.on; omega, g.lt⟩
theorem GS.point {s : State} (g : GS s) (hp : s.playing = true) {w : Nat} (hw : w = 0 ∨ w = 1) : GS (s.point w) := by
  unfold State.point
  refine GP.settle ?_
  rcases hw with rfl | rfl
  · refine ⟨g.a.same rfl ?_ rfl g.a.subs, g.b, g.play, g.cnt, .inl rfl, g.fs, g.lt, hp⟩
    show (if s.serves = 0 then s.a.first else (s.a.first + 1) % 6) < 6
    have := g.a.fst
    split <;> omega
  · refine ⟨g.a, g.b.same rfl ?_ rfl g.b.subs, g.play, g.cnt, .inr rfl, g.fs, g.lt, hp⟩
    show (if s.serves = 1 then s.b.first else (s.b.first + 1) % 6) < 6
    have := g.b.fst
    split <;> omega
theorem GS.calm {s : State} (g : GS s) : GS { s with a := { s.a with changed := false }, b := { s.b with changed := false } } :=
  ⟨g.a.same rfl g.a.fst rfl g.a.subs, g.b.same rfl g.b.fst rfl g.b.subs, g.play, g.nw, g.cnt, g.sv, g.fs, g.le, g.lt⟩
theorem GS.rally {s : State} (g : GS s) (hp : s.playing = true) {w : Nat} (hw : w = 0 ∨ w = 1) : GS (s.rally w) := g.calm.point hp hw
theorem GS.lose {s : State} (g : GS s) (hp : s.playing = true) {t : Nat} (ht : t = 0 ∨ t = 1) : GS (s.lose t) := by
  unfold State.lose
  refine GP.settle ?_
  rcases ht with rfl | rfl
  · exact ⟨g.a, g.b.same rfl g.b.fst rfl g.b.subs, g.play, g.cnt, g.sv, g.fs, g.lt, hp⟩
  · exact ⟨g.a.same rfl g.a.fst rfl g.a.subs, g.b, g.play, g.cnt, g.sv, g.fs, g.lt, hp⟩
theorem find_slot {x : Team} {f : Slot → Bool} {i : Nat} (h : findSlot x f = some i) : ∃ s, x.slots[i]? = some s ∧ f s = true := by
  unfold findSlot at h
  rw [List.findIdx?_eq_some_iff_getElem] at h
  obtain ⟨hi, hf, _⟩ := h
  exact ⟨_, List.getElem?_eq_getElem hi, hf⟩
theorem bind_slot {x : Team} {f : Slot → Bool} {k : Nat} {y : Slot} (h : ((findSlot x f).bind fun i => (x.slots[i]?).map fun y => (i, y)) = some (k, y)) : findSlot x f = some k ∧ x.slots[k]? = some y ∧ f y = true := by
  cases e : findSlot x f with
  | none => rw [e] at h; cases h
  | some i =>
    obtain ⟨s, e1, e2⟩ := find_slot e
    rw [e] at h
    simp only [Option.bind_some, e1, Option.map_some] at h
    have := Option.some.inj h
    obtain ⟨rfl, rfl⟩ := Prod.mk.inj this
    exact ⟨rfl, e1, e2⟩
theorem GT.exchange {x z : Team} {o i : Nat} {sv : Bool} (g : GT x) (h : x.exchange o i sv = some z) : GT z ∧ z.slots.length = x.slots.length ∧ z.points = x.points ∧ z.sets = x.sets := by
  unfold Team.exchange at h
  split at h
  · cases h
  · rename_i k hk
    split at h
    · cases h
    · rename_i s hs
      have ms := List.mem_of_getElem? hs
      simp only at h
      split at h
      · split at h
        · cases h
        · have ez := Option.some.inj h
          subst ez
          exact ⟨g.put hs rfl rfl rfl g.subs (g.ph s ms) (fun p m => .inl m) (fun l e => (nomatch e)) (fun e => (nomatch e)), List.length_set, rfl, rfl⟩
      · split at h
        · rename_i hc
          have ez := Option.some.inj h
          subst ez
          refine ⟨g.put hs rfl rfl rfl g.subs (g.ph s ms) (fun p m => .inl m) (fun l e => ?_) (fun _ => ?_), List.length_set, rfl, rfl⟩
          · have : i = l := Option.some.inj e
            subst this
            exact List.contains_iff_mem.mp hc.1
          · rcases hc.2.2.2.2.2 with q | q
            · exact .inl q
            · rw [List.any_eq_false] at q
              exact .inr fun t ht => by
                have := q t ht
                cases e : t.libero.isSome
                · rfl
                · exact absurd e this
        · cases h
theorem GT.lineup {x : Team} {l : List Int} (g : GT x) (hlen : l.length = 6) (hnd : l.Nodup) (hr : ∀ z ∈ l, 1 ≤ z) (h : (nats l).all (fun p => x.players.contains p && (!x.liberos.contains p && !x.outAll.contains p)) = true) :
    GT { x with slots := (nats l).map fun p => ⟨p, none, 0, none⟩ } := by
  rw [List.all_eq_true] at h
  have mk : ∀ s ∈ (nats l).map (fun p => (⟨p, none, 0, none⟩ : Slot)), ∃ p ∈ nats l, s = ⟨p, none, 0, none⟩ := fun s hs => by
    obtain ⟨p, hp, e⟩ := List.mem_map.mp hs
    exact ⟨p, hp, e.symm⟩
  have at_ : ∀ (i : Nat) (s : Slot), ((nats l).map (fun p => (⟨p, none, 0, none⟩ : Slot)))[i]? = some s → ∃ z, l[i]? = some z ∧ s = ⟨z.toNat, none, 0, none⟩ := fun i s e => by
    unfold nats at e
    rw [List.map_map, List.getElem?_map] at e
    cases q : l[i]? with
    | none => rw [q] at e; cases e
    | some z => rw [q] at e; exact ⟨z, rfl, (Option.some.inj e).symm⟩
  refine ⟨.inr (by show ((nats l).map _).length = 6; rw [List.length_map]; unfold nats; rw [List.length_map]; exact hlen), g.fst, fun s hs => ?_, fun i j s t p h1 h2 m1 m2 => ?_, fun s hs p m => ?_, fun s hs y e => ?_, fun i j s t h1 h2 m1 m2 => ?_, g.subs⟩
  · obtain ⟨p, _, rfl⟩ := mk s hs
    exact ⟨by show (0 : Nat) ≤ 2; decide, by simp⟩
  · obtain ⟨z1, e1, rfl⟩ := at_ i s h1
    obtain ⟨z2, e2, rfl⟩ := at_ j t h2
    have a1 : p = z1.toNat := by simpa [names] using m1
    have a2 : p = z2.toNat := by simpa [names] using m2
    have b1 := hr z1 (List.mem_of_getElem? e1)
    have b2 := hr z2 (List.mem_of_getElem? e2)
    have e : z1 = z2 := by omega
    subst e
    obtain ⟨l1, q1⟩ := List.getElem?_eq_some_iff.mp e1
    obtain ⟨l2, q2⟩ := List.getElem?_eq_some_iff.mp e2
    exact (List.getElem_inj hnd).mp (q1.trans q2.symm)
  · obtain ⟨q, hq, rfl⟩ := mk s hs
    have : p = q := by simpa [names] using m
    subst this
    have := h p hq
    simp at this
    exact this.2.1
  · obtain ⟨q, hq, rfl⟩ := mk s hs
    cases e
  · obtain ⟨q, hq, rfl⟩ := at_ i s h1
    cases m1
theorem within_iff {z lo hi : Int} : within z lo hi = true ↔ lo ≤ z ∧ z ≤ hi := by unfold within; simp
theorem within01 {z : Int} (h : within z 0 1 = true) : z = 0 ∨ z = 1 := by have := within_iff.mp h; omega
theorem toNat01 {z : Int} (h : within z 0 1 = true) : z.toNat = 0 ∨ z.toNat = 1 := by rcases within01 h with rfl | rfl <;> simp
theorem nots {b : Bool} (h : ¬ b = false) : b = true := by cases b <;> simp_all
theorem GS.onSet {s : State} {f : Unit → State × Ans} (g : GS s) (h : s.playing = true → GS (f ()).1) : GS (onSet s f).1 := by
  unfold Kg60.onSet
  split
  · exact g
  · rename_i q
    exact h (nots q)
theorem team_set (s : State) (t : Nat) (x : Team) : (s.set t x).team t = x := by
  unfold State.set State.team
  by_cases h : t = 0 <;> simp [h]
theorem team_len {s : State} (g : GS s) (hp : s.playing = true) (t : Nat) : (s.team t).slots.length = 6 := by
  rcases team_or s t with ⟨e, _⟩ | ⟨e, _⟩ <;> rw [e]
  · exact (g.play hp).1
  · exact (g.play hp).2.1
theorem GS.sentOff {s : State} (g : GS s) (hp : s.playing = true) {t : Nat} (ht : t = 0 ∨ t = 1) (p i : Nat) : GS (sentOff s t p i).1 := by
  unfold Kg60.sentOff
  simp only
  split
  · exact g
  · rename_i k y hk
    obtain ⟨_, hs, hf⟩ := bind_slot hk
    have gt := g.team t
    have ms := List.mem_of_getElem? hs
    split
    · rename_i w hw
      refine g.setTeam t ?_ (fun _ => ?_) ?_ ?_
      all_goals
        split at hw
        · split at hw
          · have ez := Option.some.inj hw
            subst ez
            first
              | exact gt.put hs rfl rfl rfl gt.subs (gt.ph y ms) (fun p m => .inl m) (fun l e => (nomatch e)) (fun e => (nomatch e))
              | (show ((s.team t).slots.set _ _).length = 6; rw [List.length_set]; exact team_len g hp t)
              | rfl
          · cases hw
        · cases hv : (s.team t).substitute k { y with libero := none } i with
          | none => rw [hv] at hw; cases hw
          | some v =>
            obtain ⟨gv, q, hq, hq2, hq3, hq4, hq5, hq6, hq7, hq8, hq9, hq10, hq11⟩ := gt.substitute hs (s0 := { y with libero := none }) ⟨rfl, rfl, rfl, rfl⟩ hv
            rw [hv] at hw
            simp only [Option.map_some, hq] at hw
            have ez := Option.some.inj hw
            subst ez
            first
              | exact gt.put hs (s' := { q with libero := y.libero }) (by show v.slots.set k _ = _; rw [hq2, List.set_set]) hq3 hq4 hq9 ⟨hq6, hq7⟩ hq8 (fun l e => gt.lb y ms l e) (fun e => .inl e)
              | (show (v.slots.set _ _).length = 6; rw [List.length_set, hq2, List.length_set]; exact team_len g hp t)
              | exact hq10
              | exact hq11
    · exact g.lose hp ht
theorem GS.step {s : State} (g : GS s) (c : Call) : GS (spec s c).1 := by
  cases c with
  | begin_ a b la lb =>
    unfold spec
    simp only
    split
    · exact g
    · exact ⟨GT.empty rfl (by show 0 < 6; decide) (by show 0 ≤ 6; decide), GT.empty rfl (by show 0 < 6; decide) (by show 0 ≤ 6; decide), fun q => (nomatch q), ⟨rfl, rfl⟩, rfl, .inl rfl, .inl rfl, ⟨by show 0 ≤ 3; decide, by show 0 ≤ 3; decide⟩, fun q => (nomatch q)⟩
  | lineup t l =>
    unfold spec
    simp only
    split
    · exact g
    · rename_i h0
      split
      · exact g
      · split
        · exact g
        · rename_i hp
          split
          · exact g
          · rename_i hall
            have h1 := nots h0
            simp only [Bool.and_eq_true] at h1
            refine g.setTeam t.toNat ((g.team _).lineup (by simpa using h1.2.1) (by simpa using h1.2.2.1) (fun z hz => ?_) (nots hall)) (fun q => absurd q hp) rfl rfl
            exact (within_iff.mp (List.all_eq_true.mp h1.2.2.2 z hz)).1
  | start t =>
    unfold spec
    simp only
    split
    · exact g
    · rename_i h0
      split
      · exact g
      · rename_i h1
        split
        · exact g
        · split
          · exact g
          · rename_i h2 h3
            split
            · exact g
            · refine ⟨g.a, g.b, fun _ => ⟨?_, ?_, ?_⟩, g.nw, g.cnt, toNat01 (nots h0), toNat01 (nots h0), g.le, fun _ => ?_⟩
              · exact g.a.len.resolve_left fun q => h3 (.inl q)
              · exact g.b.len.resolve_left fun q => h3 (.inr q)
              · exact nots fun q => h1 (.inl q)
              · have q : ¬ Kg60.over s = true := fun q => h1 (.inr q)
                unfold Kg60.over at q
                simp only [Bool.or_eq_true, decide_eq_true_eq, not_or] at q
                show s.a.sets < 3 ∧ s.b.sets < 3
                omega
  | rally w =>
    unfold spec
    simp only
    split
    · exact g
    · rename_i h0
      refine g.onSet fun hp => ?_
      split
      · exact g
      · exact g.rally hp (toNat01 (nots h0))
  | serve t p =>
    unfold spec
    simp only
    split
    · exact g
    · rename_i h0
      refine g.onSet fun hp => ?_
      have h1 := nots h0
      simp only [Bool.and_eq_true] at h1
      split
      · exact g
      · split
        · exact g
        · exact g.rally hp (by rcases toNat01 h1.1 with e | e <;> rw [e] <;> simp)
  | sub t o i =>
    unfold spec
    simp only
    split
    · exact g
    · refine g.onSet fun hp => ?_
      split
      · exact g
      · rename_i k y hk
        obtain ⟨_, hs, _⟩ := bind_slot hk
        split
        · exact g
        · rename_i z hz
          have hl : y.libero = none := by
            unfold Team.substitute at hz
            split at hz
            · cases hz
            · rename_i hc
              cases e : y.libero with
              | none => rfl
              | some l => exact absurd (.inr (.inl (by rw [e]; rfl))) hc
          obtain ⟨gv, q, hq, hq2, hq3, hq4, hq5, hq6, hq7, hq8, hq9, hq10, hq11⟩ := (g.team t.toNat).substitute hs ⟨rfl, rfl, rfl, hl⟩ hz
          exact g.setTeam _ gv (fun _ => by rw [hq2, List.length_set]; exact team_len g hp _) hq10 hq11
  | libero t o i =>
    unfold spec
    simp only
    split
    · exact g
    · refine g.onSet fun hp => ?_
      split
      · exact g
      · split
        · exact g
        · rename_i z hz
          obtain ⟨gv, h1, h2, h3⟩ := (g.team t.toNat).exchange hz
          exact g.setTeam _ gv (fun _ => by rw [h1]; exact team_len g hp _) h2 h3
  | timeout t =>
    unfold spec
    simp only
    split
    · exact g
    · refine g.onSet fun hp => ?_
      split
      · exact g
      · exact g.setTeam _ ((g.team _).same rfl (g.team _).fst rfl (g.team _).subs) (fun _ => team_len g hp _) rfl rfl
  | card t p k i =>
    unfold spec
    simp only
    split
    · exact g
    · rename_i h0
      have h1 := nots h0
      simp only [Bool.and_eq_true] at h1
      refine g.onSet fun hp => ?_
      split
      · exact g
      · split
        · exact g.point hp (by rcases toNat01 h1.1 with e | e <;> rw [e] <;> simp)
        · refine GS.sentOff (g.setTeam _ ?_ (fun _ => ?_) ?_ ?_) ?_ (toNat01 h1.1) _ _
          · split <;> exact (g.team _).same rfl (g.team _).fst rfl (g.team _).subs
          · split <;> exact team_len g hp _
          · split <;> rfl
          · split <;> rfl
          · rcases team_or s t.toNat with ⟨_, e⟩ | ⟨_, e⟩
            · rw [e, set_zero]; exact hp
            · rw [set_one _ _ e]; exact hp
  | now => exact g
  | court t =>
    unfold spec
    simp only
    split <;> exact g
  | sheet t =>
    unfold spec
    simp only
    split <;> exact g
  | sets => exact g
end Vs
end
section
/-! The specification's own functions in the shape in which the program reckons them. -/
namespace Vs
open Kg60
theorem regular_mem (s : Slot) : s.regular ∈ names s := by
  unfold Slot.regular names
  split
  · cases s.sub <;> simp
  · simp
theorem stands_or (s : Slot) : (s.libero = none ∧ s.stands = s.regular) ∨ ∃ l, s.libero = some l ∧ s.stands = l := by
  unfold Slot.stands
  cases s.libero with
  | none => exact .inl ⟨rfl, rfl⟩
  | some l => exact .inr ⟨l, rfl, rfl⟩
theorem GT.stands {x : Team} (g : GT x) {i j : Nat} {s t : Slot} (h1 : x.slots[i]? = some s) (h2 : x.slots[j]? = some t) (h : s.stands = t.stands) : i = j := by
  have m1 := List.mem_of_getElem? h1
  have m2 := List.mem_of_getElem? h2
  rcases stands_or s with ⟨e1, q1⟩ | ⟨l1, e1, q1⟩ <;> rcases stands_or t with ⟨e2, q2⟩ | ⟨l2, e2, q2⟩
  · exact g.nd i j s t s.regular h1 h2 (regular_mem s) (by rw [← q1, h, q2]; exact regular_mem t)
  · exact absurd (g.lb t m2 l2 e2) (by rw [← q2, ← h, q1]; exact g.nl s m1 _ (regular_mem s))
  · exact absurd (g.lb s m1 l1 e1) (by rw [← q1, h, q2]; exact g.nl t m2 _ (regular_mem t))
  · exact g.one i j s t h1 h2 (by rw [e1]; rfl) (by rw [e2]; rfl)
/-! ### the first position where something holds; 0: nowhere -/
def posOf (x : Team) (f : Slot → Bool) : Nat := match (List.range 6).find? (fun k => (x.slots[(k + x.first) % 6]?).any f) with
  | some k => k + 1
  | none => 0
theorem find_range {p : Nat → Bool} : ∀ (n k : Nat), k < n → p k = true → (∀ j, j < k → p j = false) → (List.range n).find? p = some k := by
  intro n k hk hp hj
  rw [List.find?_range_eq_some]
  exact ⟨hp, List.mem_range.mpr hk, fun j h => by rw [hj j h]; rfl⟩
theorem find_range_none {p : Nat → Bool} {n : Nat} (h : ∀ j, j < n → p j = false) : (List.range n).find? p = none := by
  rw [List.find?_eq_none]
  intro j hj
  rw [h j (List.mem_range.mp hj)]
  decide
theorem posOf_hit {x : Team} {f : Slot → Bool} {k : Nat} {s : Slot} (hk : k < 6) (hs : x.slots[(k + x.first) % 6]? = some s) (hf : f s = true) (hj : ∀ j, j < k → (x.slots[(j + x.first) % 6]?).any f = false) : posOf x f = k + 1 := by
  unfold posOf
  rw [find_range 6 k hk (by rw [hs]; exact hf) hj]
theorem posOf_miss {x : Team} {f : Slot → Bool} (h : ∀ j, j < 6 → (x.slots[(j + x.first) % 6]?).any f = false) : posOf x f = 0 := by
  unfold posOf
  rw [find_range_none h]
theorem pos_ix {x : Team} {i : Nat} (hi : i < 6) (hf : x.first < 6) : (x.position i - 1 + x.first) % 6 = i ∧ 1 ≤ x.position i ∧ x.position i ≤ 6 := by
  unfold Team.position
  omega
theorem ix_pos {x : Team} {k : Nat} (hk : k < 6) (hf : x.first < 6) : x.position ((k + x.first) % 6) = k + 1 := by
  unfold Team.position
  omega
/-- f holds of one place at most -/
def Uniq (x : Team) (f : Slot → Bool) : Prop := ∀ (i j : Nat) (s t : Slot), x.slots[i]? = some s → x.slots[j]? = some t → f s = true → f t = true → i = j
theorem GT.uniq_stands {x : Team} (g : GT x) (n : Nat) : Uniq x (fun s => s.stands == n) := fun _ _ _ _ h1 h2 e1 e2 => g.stands h1 h2 ((beq_iff_eq.mp e1).trans (beq_iff_eq.mp e2).symm)
theorem GT.uniq_libero {x : Team} (g : GT x) : Uniq x (fun s => s.libero.isSome) := fun i j s t h1 h2 e1 e2 => g.one i j s t h1 h2 e1 e2
theorem posOf_none {x : Team} {f : Slot → Bool} (h : findSlot x f = none) : posOf x f = 0 := by
  refine posOf_miss fun j _ => ?_
  unfold findSlot at h
  rw [List.findIdx?_eq_none_iff] at h
  cases e : x.slots[(j + x.first) % 6]? with
  | none => rfl
  | some s => exact h s (List.mem_of_getElem? e)
theorem posOf_some {x : Team} {f : Slot → Bool} {i : Nat} (u : Uniq x f) (hl : x.slots.length = 6) (hf : x.first < 6) (h : findSlot x f = some i) : posOf x f = x.position i ∧ i < 6 := by
  obtain ⟨s, hs, hfs⟩ := find_slot h
  have hi : i < 6 := by rw [← hl]; exact (List.getElem?_eq_some_iff.mp hs).1
  obtain ⟨p1, p2, p3⟩ := pos_ix hi hf
  have := posOf_hit (f := f) (k := x.position i - 1) (by omega) (by rw [p1]; exact hs) hfs (fun j hj => by
    cases e : x.slots[(j + x.first) % 6]? with
    | none => rfl
    | some t =>
      show f t = false
      cases q : f t with
      | false => rfl
      | true =>
        have := u _ _ _ _ e hs q hfs
        omega)
  omega
theorem find_uniq {x : Team} {f : Slot → Bool} {i : Nat} {s : Slot} (u : Uniq x f) (hs : x.slots[i]? = some s) (hf : f s = true) : findSlot x f = some i := by
  cases e : findSlot x f with
  | none =>
    unfold findSlot at e
    rw [List.findIdx?_eq_none_iff] at e
    rw [e s (List.mem_of_getElem? hs)] at hf
    cases hf
  | some j =>
    obtain ⟨t, ht, hft⟩ := find_slot e
    rw [u _ _ _ _ hs ht hf hft]
/-- where a libero may stand -/
def standOk (p : Nat) (serving : Bool) : Bool := if p = 1 then !serving else (p == 5 || p == 6)
theorem stand_front {p : Nat} (h1 : 1 ≤ p) (h2 : p ≤ 6) (sv : Bool) : standOk p sv = (!front p && !(sv && p == 1)) := by
  have : p = 1 ∨ p = 2 ∨ p = 3 ∨ p = 4 ∨ p = 5 ∨ p = 6 := by omega
  rcases this with rfl | rfl | rfl | rfl | rfl | rfl <;> cases sv <;> rfl
theorem mayPlay_eq {x : Team} (g : GT x) (hl : x.slots.length = 6) (sv : Bool) : x.mayPlay sv = (decide (posOf x (fun s => s.libero.isSome) = 0) || standOk (posOf x fun s => s.libero.isSome) sv) := by
  have at_ : ∀ i, i < 6 → ∃ s, x.slots[i]? = some s := fun i hi => ⟨_, List.getElem?_eq_getElem (by omega)⟩
  cases e : findSlot x (fun s => s.libero.isSome) with
  | none =>
    rw [posOf_none e]
    unfold findSlot at e
    rw [List.findIdx?_eq_none_iff] at e
    simp only [decide_true, Bool.true_or]
    unfold Team.mayPlay
    rw [List.all_eq_true]
    intro i hi
    obtain ⟨s, hs⟩ := at_ i (List.mem_range.mp hi)
    rw [hs]
    have := e s (List.mem_of_getElem? hs)
    cases q : s.libero with
    | none => simp [q]
    | some l => rw [q] at this; cases this
  | some k =>
    obtain ⟨ep, hk⟩ := posOf_some g.uniq_libero hl g.fst e
    obtain ⟨p1, p2, p3⟩ := pos_ix hk g.fst
    obtain ⟨s, hs, hfs⟩ := find_slot e
    rw [ep, decide_eq_false (by omega), Bool.false_or, stand_front p2 p3]
    unfold Team.mayPlay
    cases q : (!front (x.position k) && !(sv && x.position k == 1)) with
    | true =>
      rw [List.all_eq_true]
      intro i hi
      obtain ⟨t, ht⟩ := at_ i (List.mem_range.mp hi)
      rw [ht]
      cases w : t.libero with
      | none => simp [w]
      | some l =>
        have := g.one i k t s ht hs (by rw [w]; rfl) hfs
        subst this
        simp only [w, Option.isNone_some, Bool.false_or]
        revert q
        cases front (x.position i) <;> cases (sv && x.position i == 1) <;> simp
    | false =>
      rw [List.all_eq_false]
      refine ⟨k, List.mem_range.mpr hk, ?_⟩
      rw [hs]
      cases w : s.libero with
      | none => rw [w] at hfs; cases hfs
      | some l =>
        simp only [w, Option.isNone_some, Bool.false_or]
        revert q
        cases front (x.position k) <;> cases (sv && x.position k == 1) <;> simp
/-! ### a libero comes, goes, changes -/
def mayReturn (x : Team) (s : Slot) (into : Nat) : Bool := s.libero.isSome && (decide (into = s.regular) && x.mayStand into)
def mayCome (x : Team) (p : Nat) (s : Slot) (into : Nat) (sv : Bool) : Bool := x.liberos.contains into && (x.mayStand into && (!x.changed && (standOk p sv &&
  (decide (posOf x (fun y => y.libero.isSome) = 0) || (decide (posOf x (fun y => y.libero.isSome) = p) && !decide (s.libero = some into))))))
theorem exchange_eq {x : Team} (g : GT x) (hl : x.slots.length = 6) {o into i : Nat} {s : Slot} (sv : Bool) (hi : findSlot x (fun y => y.stands == o) = some i) (hs : x.slots[i]? = some s) :
    x.exchange o into sv = if mayReturn x s into = true then some { x with slots := x.slots.set i { s with libero := none }, changed := true }
      else if mayCome x (x.position i) s into sv = true then some { x with slots := x.slots.set i { s with libero := some into }, changed := true } else none := by
  have h6 : i < 6 := by rw [← hl]; exact (List.getElem?_eq_some_iff.mp hs).1
  obtain ⟨p1, p2, p3⟩ := pos_ix h6 g.fst
  have ms := List.mem_of_getElem? hs
  have ereg : into = s.regular → x.liberos.contains into = false := fun e => by
    cases q : x.liberos.contains into with
    | false => rfl
    | true => exact absurd (List.contains_iff_mem.mp q) (by rw [e]; exact g.nl s ms _ (regular_mem s))
  unfold Team.exchange
  rw [hi]
  simp only [hs]
  by_cases hc : into = s.regular ∧ s.libero.isSome = true
  · rw [if_pos hc]
    cases hm : x.mayStand into with
    | true => rw [if_neg (by decide), if_pos (by unfold mayReturn; rw [hm, hc.2, decide_eq_true hc.1]; rfl)]
    | false =>
      rw [if_pos rfl, if_neg (by unfold mayReturn; rw [hm]; simp), if_neg (by unfold mayCome; rw [ereg hc.1]; simp)]
  · rw [if_neg hc]
    have hr : ¬ mayReturn x s into = true := by
      unfold mayReturn
      intro q
      simp only [Bool.and_eq_true, decide_eq_true_eq] at q
      exact hc ⟨q.2.1, q.1⟩
    rw [if_neg hr]
    have key : (x.liberos.contains into = true ∧ x.mayStand into = true ∧ (!front (x.position i) && !(sv && x.position i == 1)) = true ∧ x.changed = false ∧ (x.slots.any fun y => y.libero == some into) = false ∧ (s.libero.isSome = true ∨ (x.slots.any fun y => y.libero.isSome) = false)) ↔ mayCome x (x.position i) s into sv = true := by
      unfold mayCome
      rw [stand_front p2 p3]
      simp only [Bool.and_eq_true, Bool.or_eq_true, decide_eq_true_eq, Bool.not_eq_true', decide_eq_false_iff_not]
      have k2 : ((x.slots.any fun y => y.libero == some into) = false ∧ (s.libero.isSome = true ∨ (x.slots.any fun y => y.libero.isSome) = false)) ↔
          (posOf x (fun y => y.libero.isSome) = 0 ∨ (posOf x (fun y => y.libero.isSome) = x.position i ∧ ¬ s.libero = some into)) := by
        cases e : findSlot x (fun y => y.libero.isSome) with
        | none =>
          have q : (x.slots.any fun y => y.libero.isSome) = false := by
            unfold findSlot at e
            rw [List.findIdx?_eq_none_iff] at e
            rw [List.any_eq_false]
            intro y hy
            rw [e y hy]; decide
          have q2 : (x.slots.any fun y => y.libero == some into) = false := by
            rw [List.any_eq_false] at q ⊢
            intro y hy z
            have := q y hy
            rw [beq_iff_eq] at z
            rw [z] at this
            exact this rfl
          exact ⟨fun _ => .inl (posOf_none e), fun _ => ⟨q2, .inr q⟩⟩
        | some k =>
          obtain ⟨ep, hk⟩ := posOf_some g.uniq_libero hl g.fst e
          obtain ⟨r1, r2, r3⟩ := pos_ix hk g.fst
          obtain ⟨t, ht, hft⟩ := find_slot e
          have nany : (x.slots.any fun y => y.libero.isSome) = true := List.any_eq_true.mpr ⟨t, List.mem_of_getElem? ht, hft⟩
          rw [ep, nany]
          constructor
          · rintro ⟨h1, h2⟩
            rcases h2 with h2 | h2
            · have := g.one i k s t hs ht h2 hft
              subst this
              refine .inr ⟨rfl, fun z => ?_⟩
              rw [List.any_eq_false] at h1
              exact h1 s ms (by rw [z]; simp)
            · cases h2
          · rintro (h | ⟨h, h'⟩)
            · omega
            · have : k = i := by omega
              subst this
              have : s = t := Option.some.inj (hs.symm.trans ht)
              subst this
              refine ⟨?_, .inl hft⟩
              rw [List.any_eq_false]
              intro y hy z
              rw [beq_iff_eq] at z
              obtain ⟨j, hj⟩ := List.getElem?_of_mem hy
              have := g.one j k y s hj hs (by rw [z]; rfl) hft
              subst this
              have : y = s := Option.some.inj (hj.symm.trans hs)
              subst this
              exact h' z
      constructor
      · rintro ⟨a1, a2, a3, a4, a5⟩
        exact ⟨a1, a2, a4, a3, k2.mp a5⟩
      · rintro ⟨a1, a2, a4, a3, a5⟩
        exact ⟨a1, a2, a3, a4, k2.mpr a5⟩
    by_cases h : mayCome x (x.position i) s into sv = true
    · rw [if_pos h, if_pos (key.mpr h)]
    · rw [if_neg h, if_neg fun q => h (key.mp q)]
/-! ### a substitution -/
def isNew (x : Team) (p : Nat) : Bool := x.players.contains p && (!x.liberos.contains p && !x.used p)
def subOk (x : Team) (s : Slot) (p : Nat) : Bool := if decide (6 ≤ x.subs) || (s.libero.isSome || !x.mayStand p) then false else if s.phase = 0 then isNew x p else (decide (s.phase = 1) && decide (p = s.starter))
def putIn (s : Slot) (p : Nat) : Slot := if s.phase = 0 then { s with sub := some p, phase := 1 } else { s with phase := 2 }
theorem substitute_eq (x : Team) (i : Nat) (s : Slot) (p : Nat) : x.substitute i s p = if subOk x s p = true then some { x with slots := x.slots.set i (putIn s p), subs := x.subs + 1 } else none := by
  unfold Team.substitute subOk putIn isNew SUBS
  by_cases h : 6 ≤ x.subs ∨ s.libero.isSome = true ∨ x.mayStand p = false
  · rw [if_pos h]
    have : (decide (6 ≤ x.subs) || (s.libero.isSome || !x.mayStand p)) = true := by
      rcases h with h | h | h
      · simp [h]
      · simp [h]
      · simp [h]
    rw [this]
    rfl
  · rw [if_neg h]
    have : (decide (6 ≤ x.subs) || (s.libero.isSome || !x.mayStand p)) = false := by
      cases q : (decide (6 ≤ x.subs) || (s.libero.isSome || !x.mayStand p)) with
      | false => rfl
      | true =>
        simp only [Bool.or_eq_true, decide_eq_true_eq, Bool.not_eq_true'] at q
        exact absurd q h
    rw [this]
    simp only [Bool.false_eq_true, if_false]
    by_cases h0 : s.phase = 0
    · simp only [if_pos h0]
      by_cases h1 : x.players.contains p = true ∧ x.liberos.contains p = false ∧ x.used p = false
      · rw [if_pos h1, if_pos (by rw [h1.1, h1.2.1, h1.2.2]; rfl)]
      · rw [if_neg h1, if_neg (fun q => h1 (by simpa using q))]
    · simp only [if_neg h0]
      by_cases h1 : s.phase = 1
      · by_cases h2 : p = s.starter
        · rw [if_pos h1, if_pos h2, if_pos (by rw [decide_eq_true h1, decide_eq_true h2]; rfl)]
        · rw [if_pos h1, if_neg h2, if_neg (by rw [decide_eq_false h2]; simp)]
      · rw [if_neg h1, if_neg (by rw [decide_eq_false h1]; simp)]
/-! ### the two teams by a truth value -/
def tm (s : State) (t : Bool) : Team := match t with
  | false => s.a
  | true => s.b
def bN (t : Bool) : Nat := match t with
  | false => 0
  | true => 1
theorem team_tm (s : State) (t : Bool) : s.team (bN t) = tm s t := by cases t <;> rfl
def putT (s : State) (t : Bool) (x : Team) : State := match t with
  | false => { s with a := x }
  | true => { s with b := x }
theorem set_putT (s : State) (t : Bool) (x : Team) : s.set (bN t) x = putT s t x := by cases t <;> rfl
theorem tm_putT (s : State) (t : Bool) (x : Team) : tm (putT s t x) t = x := by cases t <;> rfl
theorem tm_putT' (s : State) (t : Bool) (x : Team) : tm (putT s t x) (!t) = tm s (!t) := by cases t <;> rfl
theorem GS.tm {s : State} (g : GS s) (t : Bool) : GT (tm s t) := by cases t; exact g.a; exact g.b
theorem bN_of {z : Int} (h : Kg60.within z 0 1 = true) : ∃ t, z = ((bN t : Nat) : Int) ∧ z.toNat = bN t := by
  rcases within01 h with e | e
  · exact ⟨false, e, by rw [e]; rfl⟩
  · exact ⟨true, e, by rw [e]; rfl⟩
theorem bN_inj {t u : Bool} : bN t = bN u ↔ t = u := by cases t <;> cases u <;> simp [bN]
theorem one_sub (t : Bool) : 1 - bN t = bN (!t) := by cases t <;> rfl
/-! ### a point -/
def pointed (s : State) (w : Bool) : State := { putT s w { tm s w with points := (tm s w).points + 1, first := if s.serves = bN w then (tm s w).first else ((tm s w).first + 1) % 6 } with serves := bN w }
theorem point_eq {s : State} (h : wonBy s.over.length s.a.points s.b.points = false ∧ wonBy s.over.length s.b.points s.a.points = false) (w : Bool) :
    s.point (bN w) = if wonBy s.over.length ((tm s w).points + 1) (tm s (!w)).points = true then ended (pointed s w) (bN w) else pointed s w := by
  have e0 : s.point (bN w) = (pointed s w).settle := by cases w <;> rfl
  rw [e0]
  unfold wonBy at h
  simp only [Bool.and_eq_false_iff, decide_eq_false_iff_not] at h
  cases w with
  | false =>
    by_cases q : wonBy s.over.length (s.a.points + 1) s.b.points = true
    · rw [if_pos (show wonBy s.over.length ((tm s false).points + 1) (tm s (!false)).points = true from q)]
      have sw : someWon (pointed s false) = true := by
        show (wonBy s.over.length (s.a.points + 1) s.b.points || _) = true
        rw [q]; rfl
      rw [settle_yes sw]
      unfold wonBy at q
      simp only [Bool.and_eq_true, decide_eq_true_eq] at q
      have : (pointed s false).b.points < (pointed s false).a.points := by show s.b.points < s.a.points + 1; omega
      rw [if_pos this]; rfl
    · rw [if_neg (show ¬ wonBy s.over.length ((tm s false).points + 1) (tm s (!false)).points = true from q)]
      refine settle_no ?_
      show (wonBy s.over.length (s.a.points + 1) s.b.points || wonBy s.over.length s.b.points (s.a.points + 1)) = false
      rw [Bool.or_eq_false_iff]
      refine ⟨by cases z : wonBy s.over.length (s.a.points + 1) s.b.points; rfl; exact absurd z q, ?_⟩
      unfold wonBy
      simp only [Bool.and_eq_false_iff, decide_eq_false_iff_not]
      omega
  | true =>
    by_cases q : wonBy s.over.length (s.b.points + 1) s.a.points = true
    · rw [if_pos (show wonBy s.over.length ((tm s true).points + 1) (tm s (!true)).points = true from q)]
      have sw : someWon (pointed s true) = true := by
        show (wonBy s.over.length s.a.points (s.b.points + 1) || wonBy s.over.length (s.b.points + 1) s.a.points) = true
        rw [q, Bool.or_true]
      rw [settle_yes sw]
      unfold wonBy at q
      simp only [Bool.and_eq_true, decide_eq_true_eq] at q
      have : ¬ (pointed s true).b.points < (pointed s true).a.points := by show ¬ s.b.points + 1 < s.a.points; omega
      rw [if_neg this]; rfl
    · rw [if_neg (show ¬ wonBy s.over.length ((tm s true).points + 1) (tm s (!true)).points = true from q)]
      refine settle_no ?_
      show (wonBy s.over.length s.a.points (s.b.points + 1) || wonBy s.over.length (s.b.points + 1) s.a.points) = false
      rw [Bool.or_eq_false_iff]
      refine ⟨?_, by cases z : wonBy s.over.length (s.b.points + 1) s.a.points; rfl; exact absurd z q⟩
      unfold wonBy
      simp only [Bool.and_eq_false_iff, decide_eq_false_iff_not]
      omega
/-- a set lost -/
def lost (s : State) (t : Bool) : State := putT s (!t) { tm s (!t) with points := max (max (tm s (!t)).points (top s.over.length)) ((tm s t).points + 2) }
theorem lose_eq (s : State) (t : Bool) : s.lose (bN t) = ended (lost s t) (bN (!t)) := by
  have e0 : s.lose (bN t) = (lost s t).settle := by cases t <;> rfl
  rw [e0]
  cases t with
  | false =>
    have sw : someWon (lost s false) = true := by
      show (wonBy s.over.length s.a.points (max (max s.b.points (top s.over.length)) (s.a.points + 2)) || wonBy s.over.length (max (max s.b.points (top s.over.length)) (s.a.points + 2)) s.a.points) = true
      rw [Bool.or_eq_true]
      refine .inr ?_
      unfold wonBy
      simp only [Bool.and_eq_true, decide_eq_true_eq]
      omega
    rw [settle_yes sw, if_neg (by show ¬ max (max s.b.points (top s.over.length)) (s.a.points + 2) < s.a.points; omega)]; rfl
  | true =>
    have sw : someWon (lost s true) = true := by
      show (wonBy s.over.length (max (max s.a.points (top s.over.length)) (s.b.points + 2)) s.b.points || _) = true
      rw [Bool.or_eq_true]
      refine .inl ?_
      unfold wonBy
      simp only [Bool.and_eq_true, decide_eq_true_eq]
      omega
    rw [settle_yes sw, if_pos (by show s.b.points < max (max s.a.points (top s.over.length)) (s.b.points + 2); omega)]; rfl
end Vs
end
section
/-! Whoever plays in a place, on the court or with a libero standing for them, is never out. -/
namespace Vs
open Kg60
def RegOk (x : Team) : Prop := ∀ y ∈ x.slots, x.mayStand y.regular = true
structure GO (s : State) : Prop where
  a : RegOk s.a
  b : RegOk s.b
  os : s.playing = false → s.a.outSet = [] ∧ s.b.outSet = []
theorem RegOk.nil {x : Team} (h : x.slots = []) : RegOk x := fun y hy => by rw [h] at hy; cases hy
theorem RegOk.same {x y : Team} (g : RegOk x) (h1 : y.slots = x.slots) (h2 : y.outSet = x.outSet) (h3 : y.outAll = x.outAll) : RegOk y := fun z hz => by
  have := g z (by rw [← h1]; exact hz)
  unfold Team.mayStand at this ⊢
  rw [h2, h3]; exact this
theorem GO.init : GO init := ⟨RegOk.nil rfl, RegOk.nil rfl, fun _ => ⟨rfl, rfl⟩⟩
theorem GO.team {s : State} (g : GO s) (t : Nat) : RegOk (s.team t) := by
  rcases team_or s t with ⟨e, _⟩ | ⟨e, _⟩ <;> rw [e]
  · exact g.a
  · exact g.b
theorem GO.at_ {s : State} (g : GO s) (t : Bool) : RegOk (tm s t) := by cases t; exact g.a; exact g.b
theorem GO.setTeam {s : State} (g : GO s) (t : Nat) {x : Team} (gx : RegOk x) (ho : s.playing = false → x.outSet = []) : GO (s.set t x) := by
  rcases team_or s t with ⟨e, rfl⟩ | ⟨e, ht⟩
  · rw [set_zero]
    exact ⟨gx, g.b, fun q => ⟨ho q, (g.os q).2⟩⟩
  · rw [set_one s x ht]
    exact ⟨g.a, gx, fun q => ⟨(g.os q).1, ho q⟩⟩
theorem GO.ended (s : State) (w : Nat) : GO (ended s w) := by
  unfold Vs.ended
  refine ⟨?_, ?_, fun _ => ⟨?_, ?_⟩⟩
  · show RegOk (if w = 0 then _ else _)
    split <;> exact RegOk.nil rfl
  · show RegOk (if w = 0 then _ else _)
    split <;> exact RegOk.nil rfl
  · show Team.outSet (if w = 0 then _ else _) = []
    split <;> rfl
  · show Team.outSet (if w = 0 then _ else _) = []
    split <;> rfl
theorem GO.settle {s : State} (g : GO s) : GO s.settle := by
  cases h : someWon s with
  | true => rw [settle_yes h]; exact GO.ended _ _
  | false => rw [settle_no h]; exact g
theorem GO.point {s : State} (g : GO s) (w : Nat) : GO (s.point w) := by
  unfold State.point
  refine GO.settle ?_
  have q := g.setTeam w (x := { s.team w with points := (s.team w).points + 1, first := if s.serves = w then (s.team w).first else ((s.team w).first + 1) % 6 }) ((g.team w).same rfl rfl rfl) (fun e => by
    rcases team_or s w with ⟨e1, _⟩ | ⟨e1, _⟩ <;> rw [e1]
    · exact (g.os e).1
    · exact (g.os e).2)
  exact ⟨q.a, q.b, q.os⟩
theorem GO.calm {s : State} (g : GO s) : GO { s with a := { s.a with changed := false }, b := { s.b with changed := false } } := ⟨g.a.same rfl rfl rfl, g.b.same rfl rfl rfl, g.os⟩
theorem GO.rally {s : State} (g : GO s) (w : Nat) : GO (s.rally w) := g.calm.point w
theorem lose_GO (s : State) {t : Nat} (ht : t = 0 ∨ t = 1) : GO (s.lose t) := by
  rcases ht with rfl | rfl
  · rw [show (0 : Nat) = bN false from rfl, lose_eq]; exact GO.ended _ _
  · rw [show (1 : Nat) = bN true from rfl, lose_eq]; exact GO.ended _ _
theorem putIn_regular {s : Slot} {p : Nat} {x : Team} (h : subOk x s p = true) : (putIn s p).regular = p ∧ x.mayStand p = true := by
  unfold subOk at h
  cases hc : (decide (6 ≤ x.subs) || (s.libero.isSome || !x.mayStand p)) with
  | true => rw [hc] at h; cases h
  | false =>
    rw [hc] at h
    simp only [Bool.false_eq_true, if_false] at h
    simp only [Bool.or_eq_false_iff, Bool.not_eq_false'] at hc
    refine ⟨?_, hc.2.2⟩
    unfold putIn
    by_cases h0 : s.phase = 0
    · rw [if_pos h0]; rfl
    · rw [if_neg h0] at h ⊢
      simp only [Bool.and_eq_true, decide_eq_true_eq] at h
      unfold Slot.regular
      rw [if_neg (by show ¬ (2 : Nat) = 1; decide)]
      exact h.2.symm
theorem regular_libero (s : Slot) (l : Option Nat) : ({ s with libero := l } : Slot).regular = s.regular := rfl
/-- one slot is put anew -/
theorem RegOk.put {x y : Team} {i : Nat} {s' : Slot} (g : RegOk x) (h1 : y.slots = x.slots.set i s') (h2 : y.outSet = x.outSet) (h3 : y.outAll = x.outAll) (hr : x.mayStand s'.regular = true) : RegOk y := fun z hz => by
  have key : x.mayStand z.regular = true := by
    rw [h1] at hz
    rcases mem_set hz with e | e
    · rw [e]; exact hr
    · exact g z e
  unfold Team.mayStand at key ⊢
  rw [h2, h3]; exact key
/-- a card's player is out now: all others stand as they stood -/
theorem out_stand {x y : Team} {p n : Nat} (h : (y.outSet = x.outSet ++ [p] ∧ y.outAll = x.outAll) ∨ (y.outSet = x.outSet ∧ y.outAll = x.outAll ++ [p])) (hn : n ≠ p) : y.mayStand n = x.mayStand n := by
  unfold Team.mayStand
  have e : ∀ l : List Nat, (l ++ [p]).contains n = l.contains n := fun l => by
    rw [List.contains_eq_any_beq, List.contains_eq_any_beq, List.any_append]
    simp [hn]
  rcases h with ⟨h1, h2⟩ | ⟨h1, h2⟩ <;> rw [h1, h2, e]
/-- what comes of a card, in the program's shape: s has the card's player out already; before, nobody who plays in a place was out -/
theorem sent_off {s : State} {t : Bool} {p into : Nat} (g : GT (tm s t)) (hr : ∀ y ∈ (tm s t).slots, y.regular ≠ p → (tm s t).mayStand y.regular = true) :
    sentOff s (bN t) p into = match findSlot (tm s t) (fun y => y.regular == p || y.libero == some p) with
      | none => (s, ⟨0, whole (told s)⟩)
      | some i => match (tm s t).slots[i]? with
        | none => (s, ⟨0, whole (told s)⟩)
        | some y => if y.libero = some p then
            (putT s t { tm s t with slots := (tm s t).slots.set i { y with libero := none }, changed := true }, ⟨1, whole (told s)⟩)
          else if subOk (tm s t) { y with libero := none } into = true then
            (putT s t { tm s t with slots := (tm s t).slots.set i (putIn y into), subs := (tm s t).subs + 1 }, ⟨1, whole (told s)⟩)
          else (s.lose (bN t), ⟨2, whole (told (s.lose (bN t)))⟩) := by
  unfold sentOff
  simp only [team_tm]
  cases hf : findSlot (tm s t) (fun y => y.regular == p || y.libero == some p) with
  | none => rfl
  | some i =>
    obtain ⟨y, hy, hyf⟩ := find_slot hf
    have lt : i < (tm s t).slots.length := (List.getElem?_eq_some_iff.mp hy).1
    have my := List.mem_of_getElem? hy
    simp only [Option.bind_some, hy, Option.map_some]
    by_cases hl : y.libero = some p
    · have hne : y.regular ≠ p := fun e => g.nl y my _ (regular_mem y) (by rw [e]; exact g.lb y my p hl)
      simp only [if_pos hl, hr y my hne, if_true]
      rw [set_putT]
      cases t <;> rfl
    · simp only [if_neg hl, substitute_eq]
      by_cases hs : subOk (tm s t) { y with libero := none } into = true
      · simp only [if_pos hs, Option.map_some, List.getElem?_set_self lt, List.set_set]
        have e : { putIn { y with libero := none } into with libero := y.libero } = putIn y into := by
          unfold putIn
          by_cases h0 : y.phase = 0
          · rw [if_pos (show ({ y with libero := none } : Slot).phase = 0 from h0), if_pos h0]
          · rw [if_neg (show ¬ ({ y with libero := none } : Slot).phase = 0 from h0), if_neg h0]
        rw [e, set_putT]
        cases t <;> rfl
      · simp only [if_neg hs, Option.map_none]
theorem GO.sent {s : State} {t : Bool} {p into : Nat} (g : GT (tm s t)) (hp : s.playing = true) (h' : RegOk (tm s (!t))) (hr : ∀ y ∈ (tm s t).slots, y.regular ≠ p → (tm s t).mayStand y.regular = true) : GO (sentOff s (bN t) p into).1 := by
  have mk : ∀ x : Team, RegOk x → GO (putT s t x) := fun x hx => by
    cases t
    · exact ⟨hx, h', fun q => (nomatch (hp.symm.trans q))⟩
    · exact ⟨h', hx, fun q => (nomatch (hp.symm.trans q))⟩
  rw [sent_off g hr]
  split
  · rename_i hf
    refine (mk (Vs.tm s t) fun y hy => hr y hy fun e => ?_) |> fun q => (by cases t <;> exact q)
    unfold findSlot at hf
    rw [List.findIdx?_eq_none_iff] at hf
    have := hf y hy
    rw [e] at this
    simp at this
  · rename_i i hf
    obtain ⟨y, hy, hyf⟩ := find_slot hf
    have my := List.mem_of_getElem? hy
    rw [hy]
    simp only
    split
    · rename_i hl
      refine mk _ fun z hz => ?_
      have key : ∀ z ∈ (Vs.tm s t).slots, (Vs.tm s t).mayStand z.regular = true := fun z hz => hr z hz fun e => g.nl z hz _ (regular_mem z) (by rw [e]; exact g.lb y my p hl)
      rcases mem_set hz with e | e
      · rw [e]; exact key y my
      · exact key z e
    · rename_i hl
      have yr : y.regular = p := by
        rcases Bool.or_eq_true _ _ |>.mp hyf with e | e
        · exact beq_iff_eq.mp e
        · exact absurd (beq_iff_eq.mp e) hl
      split
      · rename_i hs
        obtain ⟨e1, e2⟩ := putIn_regular hs
        have e3 : (putIn y into).regular = into := by
          rw [← e1]
          unfold putIn
          by_cases h0 : y.phase = 0
          · rw [if_pos (show ({ y with libero := none } : Slot).phase = 0 from h0), if_pos h0]; rfl
          · rw [if_neg (show ¬ ({ y with libero := none } : Slot).phase = 0 from h0), if_neg h0]; rfl
        refine mk _ fun z hz => ?_
        obtain ⟨j, hj⟩ := List.getElem?_of_mem hz
        rcases get_set hj with ⟨_, e, _⟩ | ⟨hne, e⟩
        · rw [e, e3]; exact e2
        · exact hr z (List.mem_of_getElem? e) fun q => hne (g.nd j i z y p e hy (by rw [← q]; exact regular_mem z) (by rw [← yr]; exact regular_mem y))
      · exact lose_GO s (by cases t; exact .inl rfl; exact .inr rfl)
theorem GO.onSet {s : State} {f : Unit → State × Ans} (g : GO s) (h : s.playing = true → GO (f ()).1) : GO (onSet s f).1 := by
  unfold Kg60.onSet
  split
  · exact g
  · rename_i q
    exact h (nots q)
theorem GO.os_team {s : State} (g : GO s) (h : s.playing = false) (t : Nat) : (s.team t).outSet = [] := by
  rcases team_or s t with ⟨e, _⟩ | ⟨e, _⟩ <;> rw [e]
  · exact (g.os h).1
  · exact (g.os h).2
theorem GO.step {s : State} (g : GS s) (o : GO s) (c : Call) : GO (spec s c).1 := by
  cases c with
  | begin_ a b la lb =>
    unfold spec
    simp only
    split
    · exact o
    · exact ⟨RegOk.nil rfl, RegOk.nil rfl, fun _ => ⟨rfl, rfl⟩⟩
  | lineup t l =>
    unfold spec
    simp only
    split
    · exact o
    · split
      · exact o
      · split
        · exact o
        · rename_i hp
          split
          · exact o
          · rename_i hall
            have hp' : s.playing = false := by cases e : s.playing; rfl; exact absurd e hp
            refine o.setTeam _ (fun y hy => ?_) (fun e => o.os_team e _)
            obtain ⟨p, hm, rfl⟩ := List.mem_map.mp hy
            have := List.all_eq_true.mp (nots hall) p hm
            simp only [Bool.and_eq_true] at this
            show (!(s.team t.toNat).outSet.contains p && !(s.team t.toNat).outAll.contains p) = true
            rw [o.os_team hp', this.2.2]
            rfl
  | start t =>
    unfold spec
    simp only
    split
    · exact o
    · split
      · exact o
      · split
        · exact o
        · split
          · exact o
          · split
            · exact o
            · exact ⟨o.a, o.b, fun q => (nomatch q)⟩
  | rally w =>
    unfold spec
    simp only
    split
    · exact o
    · refine o.onSet fun hp => ?_
      split
      · exact o
      · exact o.rally _
  | serve t p =>
    unfold spec
    simp only
    split
    · exact o
    · refine o.onSet fun hp => ?_
      split
      · exact o
      · split
        · exact o
        · exact o.rally _
  | sub t u i =>
    unfold spec
    simp only
    split
    · exact o
    · refine o.onSet fun hp => ?_
      split
      · exact o
      · rename_i k y hk
        rw [substitute_eq]
        by_cases hs : subOk (s.team t.toNat) y i.toNat = true
        · simp only [if_pos hs]
          obtain ⟨e1, e2⟩ := putIn_regular hs
          exact o.setTeam _ ((o.team _).put rfl rfl rfl (by rw [e1]; exact e2)) (fun e => (nomatch (hp.symm.trans e)))
        · simp only [if_neg hs]; exact o
  | libero t u i =>
    unfold spec
    simp only
    split
    · exact o
    · refine o.onSet fun hp => ?_
      split
      · exact o
      · split
        · exact o
        · rename_i z hz
          refine o.setTeam _ ?_ (fun e => (nomatch (hp.symm.trans e)))
          unfold Team.exchange at hz
          split at hz
          · cases hz
          · split at hz
            · cases hz
            · rename_i y hy
              have my := List.mem_of_getElem? hy
              simp only at hz
              split at hz
              · split at hz
                · cases hz
                · have ez := Option.some.inj hz
                  subst ez
                  exact (o.team _).put (s' := { y with libero := none }) rfl rfl rfl (o.team _ y my)
              · split at hz
                · have ez := Option.some.inj hz
                  subst ez
                  exact (o.team _).put (s' := { y with libero := some i.toNat }) rfl rfl rfl (o.team _ y my)
                · cases hz
  | timeout t =>
    unfold spec
    simp only
    split
    · exact o
    · refine o.onSet fun hp => ?_
      split
      · exact o
      · exact o.setTeam _ ((o.team _).same rfl rfl rfl) (fun e => (nomatch (hp.symm.trans e)))
  | card t p k i =>
    unfold spec
    simp only
    split
    · exact o
    · rename_i h0
      have h1 := nots h0
      simp only [Bool.and_eq_true] at h1
      refine o.onSet fun hp => ?_
      split
      · exact o
      · split
        · exact o.point _
        · obtain ⟨b, _, hb⟩ := bN_of h1.1
          rw [hb, set_putT, team_tm]
          have gt := g.tm b
          refine GO.sent ?_ ?_ ?_ ?_
          · rw [tm_putT]; split <;> exact gt.same rfl gt.fst rfl gt.subs
          · cases b <;> exact hp
          · rw [tm_putT']; exact o.at_ _
          · rw [tm_putT]
            intro y hy hne
            have hy' : y ∈ (Vs.tm s b).slots := by split at hy <;> exact hy
            rw [out_stand (x := Vs.tm s b) (p := p.toNat) (by split; exact .inl ⟨rfl, rfl⟩; exact .inr ⟨rfl, rfl⟩) hne]
            exact o.at_ b y hy'
  | now => exact o
  | court t =>
    unfold spec
    simp only
    split <;> exact o
  | sheet t =>
    unfold spec
    simp only
    split <;> exact o
  | sets => exact o
end Vs
end
section
/-! How long the lists of those who are out may be: no longer than the calls so far. -/
namespace Vs
open Kg60
def OutLe (k : Nat) (x : Team) : Prop := x.outSet.length ≤ k ∧ x.outAll.length ≤ k
structure GL (k : Nat) (s : State) : Prop where
  a : OutLe k s.a
  b : OutLe k s.b
theorem GL.mono {k : Nat} {s : State} (g : GL k s) : GL (k + 1) s := ⟨⟨Nat.le_succ_of_le g.a.1, Nat.le_succ_of_le g.a.2⟩, ⟨Nat.le_succ_of_le g.b.1, Nat.le_succ_of_le g.b.2⟩⟩
theorem GL.init : GL 0 init := ⟨⟨Nat.le_refl _, Nat.le_refl _⟩, ⟨Nat.le_refl _, Nat.le_refl _⟩⟩
theorem GL.team {k : Nat} {s : State} (g : GL k s) (t : Nat) : OutLe k (s.team t) := by
  rcases team_or s t with ⟨e, _⟩ | ⟨e, _⟩ <;> rw [e]
  · exact g.a
  · exact g.b
theorem GL.at_ {k : Nat} {s : State} (g : GL k s) (t : Bool) : OutLe k (tm s t) := by cases t; exact g.a; exact g.b
theorem GL.setTeam {k : Nat} {s : State} (g : GL k s) (t : Nat) {x : Team} (gx : OutLe k x) : GL k (s.set t x) := by
  rcases team_or s t with ⟨e, rfl⟩ | ⟨e, ht⟩
  · rw [set_zero]; exact ⟨gx, g.b⟩
  · rw [set_one s x ht]; exact ⟨g.a, gx⟩
theorem GL.putT {k : Nat} {s : State} (g : GL k s) (t : Bool) {x : Team} (gx : OutLe k x) : GL k (putT s t x) := by cases t; exact ⟨gx, g.b⟩; exact ⟨g.a, gx⟩
theorem GL.ended {k : Nat} {s : State} (g : GL k s) (w : Nat) : GL k (ended s w) := by
  unfold Vs.ended
  refine ⟨?_, ?_⟩
  · show OutLe k (if w = 0 then _ else _)
    split <;> exact ⟨Nat.zero_le _, g.a.2⟩
  · show OutLe k (if w = 0 then _ else _)
    split <;> exact ⟨Nat.zero_le _, g.b.2⟩
theorem GL.settle {k : Nat} {s : State} (g : GL k s) : GL k s.settle := by
  cases h : someWon s with
  | true => rw [settle_yes h]; exact g.ended _
  | false => rw [settle_no h]; exact g
theorem GL.point {k : Nat} {s : State} (g : GL k s) (w : Nat) : GL k (s.point w) := by
  unfold State.point
  refine GL.settle ?_
  have q := g.setTeam w (x := { s.team w with points := (s.team w).points + 1, first := if s.serves = w then (s.team w).first else ((s.team w).first + 1) % 6 }) (g.team w)
  exact ⟨q.a, q.b⟩
theorem GL.rally {k : Nat} {s : State} (g : GL k s) (w : Nat) : GL k (s.rally w) := GL.point (s := { s with a := { s.a with changed := false }, b := { s.b with changed := false } }) ⟨g.a, g.b⟩ w
theorem GL.lose {k : Nat} {s : State} (g : GL k s) (t : Nat) : GL k (s.lose t) := by
  unfold State.lose
  exact GL.settle (g.setTeam _ (g.team _))
theorem GL.sent {k : Nat} {s : State} (o : GL k s) {t : Bool} {p into : Nat} (g : GT (tm s t)) (hr : ∀ y ∈ (tm s t).slots, y.regular ≠ p → (tm s t).mayStand y.regular = true) : GL k (sentOff s (bN t) p into).1 := by
  rw [sent_off g hr]
  split
  · exact o
  · split
    · exact o
    · split
      · exact o.putT t (o.at_ t)
      · split
        · exact o.putT t (o.at_ t)
        · exact o.lose _
theorem GL.onSet {k : Nat} {s : State} {f : Unit → State × Ans} (g : GL k s) (h : s.playing = true → GL k (f ()).1) : GL k (onSet s f).1 := by
  unfold Kg60.onSet
  split
  · exact g
  · rename_i q
    exact h (nots q)
theorem GL.step {k : Nat} {s : State} (g : GS s) (r : GO s) (o' : GL k s) (c : Call) : GL (k + 1) (spec s c).1 := by
  have o := o'.mono
  cases c with
  | begin_ a b la lb =>
    unfold spec
    simp only
    split
    · exact o
    · exact ⟨⟨Nat.zero_le _, Nat.zero_le _⟩, ⟨Nat.zero_le _, Nat.zero_le _⟩⟩
  | lineup t l =>
    unfold spec
    simp only
    split
    · exact o
    · split
      · exact o
      · split
        · exact o
        · split
          · exact o
          · exact o.setTeam _ (o.team _)
  | start t =>
    unfold spec
    simp only
    split
    · exact o
    · split
      · exact o
      · split
        · exact o
        · split
          · exact o
          · split
            · exact o
            · exact ⟨o.a, o.b⟩
  | rally w =>
    unfold spec
    simp only
    split
    · exact o
    · refine o.onSet fun hp => ?_
      split
      · exact o
      · exact o.rally _
  | serve t p =>
    unfold spec
    simp only
    split
    · exact o
    · refine o.onSet fun hp => ?_
      split
      · exact o
      · split
        · exact o
        · exact o.rally _
  | sub t u i =>
    unfold spec
    simp only
    split
    · exact o
    · refine o.onSet fun hp => ?_
      split
      · exact o
      · rename_i k y hk
        rw [substitute_eq]
        by_cases hs : subOk (s.team t.toNat) y i.toNat = true
        · simp only [if_pos hs]
          exact o.setTeam _ (o.team t.toNat)
        · simp only [if_neg hs]; exact o
  | libero t u i =>
    unfold spec
    simp only
    split
    · exact o
    · refine o.onSet fun hp => ?_
      split
      · exact o
      · split
        · exact o
        · rename_i z hz
          refine o.setTeam _ ?_
          unfold Team.exchange at hz
          split at hz
          · cases hz
          · split at hz
            · cases hz
            · simp only at hz
              split at hz
              · split at hz
                · cases hz
                · have ez := Option.some.inj hz
                  subst ez
                  exact o.team t.toNat
              · split at hz
                · have ez := Option.some.inj hz
                  subst ez
                  exact o.team t.toNat
                · cases hz
  | timeout t =>
    unfold spec
    simp only
    split
    · exact o
    · refine o.onSet fun hp => ?_
      split
      · exact o
      · exact o.setTeam _ (o.team t.toNat)
  | card t p k i =>
    unfold spec
    simp only
    split
    · exact o
    · rename_i h0
      have h1 := nots h0
      simp only [Bool.and_eq_true] at h1
      refine o.onSet fun hp => ?_
      split
      · exact o
      · split
        · exact o.point _
        · obtain ⟨b, _, hb⟩ := bN_of h1.1
          rw [hb, set_putT, team_tm]
          have gt := g.tm b
          refine GL.sent (o.putT b ?_) ?_ ?_
          · have := o'.at_ b
            split
            · exact ⟨by show (_ ++ [_]).length ≤ _; rw [List.length_append]; exact Nat.succ_le_succ this.1, Nat.le_succ_of_le this.2⟩
            · exact ⟨Nat.le_succ_of_le this.1, by show (_ ++ [_]).length ≤ _; rw [List.length_append]; exact Nat.succ_le_succ this.2⟩
          · rw [tm_putT]; split <;> exact gt.same rfl gt.fst rfl gt.subs
          · rw [tm_putT]
            intro y hy hne
            have hy' : y ∈ (Vs.tm s b).slots := by split at hy <;> exact hy
            rw [out_stand (x := Vs.tm s b) (p := p.toNat) (by split; exact .inl ⟨rfl, rfl⟩; exact .inr ⟨rfl, rfl⟩) hne]
            exact r.at_ b y hy'
  | now => exact o
  | court t =>
    unfold spec
    simp only
    split <;> exact o
  | sheet t =>
    unfold spec
    simp only
    split <;> exact o
  | sets => exact o
end Vs
end
section
/-! How long an answer may be; what a call that is asked for looks like. -/
namespace Vs
open Kg60
theorem told_len (s : State) : (whole (told s)).length = 6 := rfl
theorem court_le (x : Team) : x.court.length ≤ 6 := by
  unfold Team.court
  exact Nat.le_trans (List.length_filterMap_le _ _) (by rw [List.length_range]; exact Nat.le_refl _)
theorem flat4 (l : List Slot) : (l.flatMap fun y => [(y.starter : Int), opt y.sub, (y.phase : Int), opt y.libero]).length = 4 * l.length := by
  induction l with
  | nil => rfl
  | cons x r ih =>
    rw [List.flatMap_cons, List.length_append, ih]
    show 4 + 4 * r.length = 4 * (r.length + 1)
    omega
theorem flat2 (l : List (Nat × Nat)) : (l.flatMap fun x => [x.1, x.2]).length = 2 * l.length := by
  induction l with
  | nil => rfl
  | cons x r ih =>
    rw [List.flatMap_cons, List.length_append, ih]
    show 2 + 2 * r.length = 2 * (r.length + 1)
    omega
theorem onSet_len {s : State} {f : Unit → State × Ans} (h : (f ()).2.out.length ≤ 40) : (onSet s f).2.out.length ≤ 40 := by
  unfold onSet
  split
  · exact Nat.zero_le _
  · exact h
theorem sent_len (s : State) (t p i : Nat) : (sentOff s t p i).2.out.length ≤ 40 := by
  unfold sentOff
  simp only
  split
  · show (whole (told _)).length ≤ 40; rw [told_len]; decide
  · split <;> (show (whole (told _)).length ≤ 40; rw [told_len]; decide)
theorem spec_len {s : State} (g : GS s) (c : Call) : (spec s c).2.out.length ≤ 40 := by
  have z : ∀ n : Int, (num n).out.length ≤ 40 := fun _ => Nat.zero_le _
  have t6 : ∀ u : State, (whole (told u)).length ≤ 40 := fun u => by rw [told_len]; decide
  cases c with
  | begin_ a b la lb => unfold spec; simp only; split <;> exact z _
  | lineup t l => unfold spec; simp only; split; exact z _; split; exact z _; split; exact z _; split <;> exact z _
  | start t => unfold spec; simp only; split; exact z _; split; exact z _; split; exact z _; split; exact z _; split <;> exact z _
  | rally w => unfold spec; simp only; split; exact z _; refine onSet_len ?_; split; exact z _; exact t6 _
  | serve t p => unfold spec; simp only; split; exact z _; refine onSet_len ?_; split; exact z _; split; exact z _; exact t6 _
  | sub t o i => unfold spec; simp only; split; exact z _; refine onSet_len ?_; split; exact z _; split <;> exact z _
  | libero t o i => unfold spec; simp only; split; exact z _; refine onSet_len ?_; split; exact z _; split <;> exact z _
  | timeout t => unfold spec; simp only; split; exact z _; refine onSet_len ?_; split <;> exact z _
  | card t p k i => unfold spec; simp only; split; exact z _; refine onSet_len ?_; split; exact z _; split; exact t6 _; exact sent_len _ _ _ _
  | now => exact t6 _
  | court t =>
    unfold spec; simp only; split; exact z _
    show (whole _).length ≤ 40
    unfold whole
    rw [List.length_map]
    exact Nat.le_trans (court_le _) (by decide)
  | sheet t =>
    unfold spec; simp only; split; exact z _
    show List.length (α := Int) (_ ++ _) ≤ 40
    rw [List.length_append, flat4, List.length_singleton]
    rcases (g.team t.toNat).len with e | e
    · rw [e]; decide
    · rw [e]; decide
  | sets =>
    show (whole _).length ≤ 40
    unfold whole
    rw [List.length_map, flat2, g.cnt]
    have := g.le
    omega
theorem asked_call {c : List (List Int)} (h : Kg60Neutral.asked1 c = true) : ∃ k, Kg60Neutral.callOf c = some k := by
  unfold Kg60Neutral.asked1 at h
  split at h
  all_goals first | exact ⟨_, rfl⟩ | cases h
theorem row_len {l : List Int} (h : Kg60Neutral.row l 20 = true) : l.length ≤ 20 := by
  unfold Kg60Neutral.row at h
  rw [Bool.and_eq_true] at h
  exact of_decide_eq_true h.2
theorem asked_rows {v : List Int} {xs : List (List Int)} (h : Kg60Neutral.asked1 (v :: xs) = true) : ∀ x ∈ xs, x.length ≤ 20 := by
  unfold Kg60Neutral.asked1 at h
  split at h
  all_goals try (rename_i e; obtain ⟨rfl, rfl⟩ := List.cons.inj e)
  · simp only [Bool.and_eq_true] at h
    intro x hx
    simp only [List.mem_cons, List.not_mem_nil, or_false] at hx
    rcases hx with rfl | rfl | rfl | rfl
    · exact row_len h.1
    · exact row_len h.2.1
    · exact row_len h.2.2.1
    · exact row_len h.2.2.2
  · rw [Bool.and_eq_true] at h
    intro x hx
    rw [List.mem_singleton.mp hx]
    exact row_len h.2
  all_goals first | (intro x hx; exact absurd hx List.not_mem_nil) | cases h
end Vs
end
section
/-! The list of calls: what is still to be read, what has been told. -/
namespace Vs
open Kg60
theorem whole_id (c : List (List Int)) : PyKg60.whole c = c := by unfold PyKg60.whole; split <;> rfl
theorem whole_all (cs : List (List (List Int))) : cs.map PyKg60.whole = cs := by
  induction cs with
  | nil => rfl
  | cons c r ih => rw [List.map_cons, ih, whole_id]
structure Todo (ns l : List Int) (s : State) (told : List Int) (n : Nat) : Prop where
  ex : ∃ f cs, PyFlat.calls PyKg60.shape f l = some cs ∧ cs.all Kg60Neutral.asked1 = true ∧ cs.length = n ∧ told ++ PyFlat.told (PyFlat.played Kg60Neutral.step s cs) = PyKg60.answers ns
theorem Todo.start {ns : List Int} (h : PyKg60.answers_asked ns = true) : ∃ n, n ≤ 250 ∧ Todo ns ns init [] n := by
  unfold PyKg60.answers_asked at h
  cases e : PyKg60.calls ns with
  | none => rw [e] at h; cases h
  | some cs =>
    rw [e] at h
    simp only [Bool.and_eq_true] at h
    unfold Kg60Neutral.asked at h
    simp only [Bool.and_eq_true, decide_eq_true_eq] at h
    have e' := e
    unfold PyKg60.calls at e'
    cases q : PyFlat.calls PyKg60.shape ns.length ns with
    | none => rw [q] at e'; cases e'
    | some ds =>
      rw [q] at e'
      have : ds = cs := by
        have := Option.some.inj e'
        rw [whole_all] at this
        exact this
      subst this
      refine ⟨ds.length, h.2.2.2, ⟨_, ds, q, h.2.1, rfl, ?_⟩⟩
      unfold PyKg60.answers
      rw [e]
      rfl
theorem Todo.done {ns : List Int} {s : State} {told : List Int} {n : Nat} (t : Todo ns [] s told n) : told = PyKg60.answers ns := by
  obtain ⟨f, cs, h1, _, _, h2⟩ := t.ex
  have : cs = [] := by
    cases f <;> exact (Option.some.inj h1).symm
  subst this
  rw [← h2]
  exact (List.append_nil told).symm
theorem Todo.next {ns r : List Int} {p : Int} {s : State} {told : List Int} {n : Nat} (t : Todo ns (p :: r) s told n) :
    ∃ a b xs l', PyKg60.shape p = some (a, b) ∧ a ≤ r.length ∧ PyFlat.rows b (r.drop a) = some (xs, l') ∧ Kg60Neutral.asked1 ((p :: r.take a) :: xs) = true ∧
      ∃ m, n = m + 1 ∧ Todo ns l' (Kg60Neutral.step s ((p :: r.take a) :: xs)).1 (told ++ ((((Kg60Neutral.step s ((p :: r.take a) :: xs)).2.length : Nat) : Int) :: (Kg60Neutral.step s ((p :: r.take a) :: xs)).2)) m := by
  obtain ⟨f, cs, h1, h2, h3, h4⟩ := t.ex
  cases f with
  | zero => cases h1
  | succ f =>
    have h1' : (match PyFlat.call PyKg60.shape (p :: r) with
      | none => none
      | some (c, t) => match PyFlat.calls PyKg60.shape f t with
        | none => none
        | some cs => some (c :: cs)) = some cs := h1
    cases e : PyFlat.call PyKg60.shape (p :: r) with
    | none => rw [e] at h1'; cases h1'
    | some q =>
      obtain ⟨c, l'⟩ := q
      rw [e] at h1'
      cases e2 : PyFlat.calls PyKg60.shape f l' with
      | none => simp only [e2] at h1'; cases h1'
      | some ds =>
        simp only [e2] at h1'
        have ecs := Option.some.inj h1'
        subst ecs
        have e' : (match PyKg60.shape p with
          | none => none
          | some (n, k) => if r.length < n then none else match PyFlat.rows k (r.drop n) with
            | none => none
            | some (xs, t) => some ((p :: r.take n) :: xs, t)) = some (c, l') := e
        cases e3 : PyKg60.shape p with
        | none => rw [e3] at e'; cases e'
        | some q =>
          obtain ⟨a, b⟩ := q
          rw [e3] at e'
          simp only at e'
          by_cases hl : r.length < a
          · rw [if_pos hl] at e'; cases e'
          · rw [if_neg hl] at e'
            cases e4 : PyFlat.rows b (r.drop a) with
            | none => rw [e4] at e'; cases e'
            | some q =>
              obtain ⟨xs, l2⟩ := q
              rw [e4] at e'
              simp only at e'
              obtain ⟨q1, q2⟩ := Prod.mk.inj (Option.some.inj e')
              subst q1 q2
              rw [List.all_cons, Bool.and_eq_true] at h2
              refine ⟨a, b, xs, l2, rfl, by omega, e4, h2.1, ds.length, by rw [← h3]; rfl, ⟨f, ds, e2, h2.2, rfl, ?_⟩⟩
              rw [← h4]
              show _ = told ++ (((_ : Nat) : Int) :: _ ++ _)
              rw [List.append_assoc]
              rfl
theorem row_cons {m : Int} {r x l' : List Int} (h : PyFlat.row (m :: r) = some (x, l')) : 0 ≤ m ∧ m.toNat ≤ r.length ∧ x = r.take m.toNat ∧ l' = r.drop m.toNat := by
  have h' : (if 0 ≤ m ∧ m.toNat ≤ r.length then some (r.take m.toNat, r.drop m.toNat) else none) = some (x, l') := h
  by_cases q : 0 ≤ m ∧ m.toNat ≤ r.length
  · rw [if_pos q] at h'
    obtain ⟨q1, q2⟩ := Prod.mk.inj (Option.some.inj h')
    exact ⟨q.1, q.2, q1.symm, q2.symm⟩
  · rw [if_neg q] at h'; cases h'
theorem rows_succ {k : Nat} {l l' : List Int} {xs : List (List Int)} (h : PyFlat.rows (k + 1) l = some (xs, l')) : ∃ m r x ys l2, l = m :: r ∧ PyFlat.row (m :: r) = some (x, l2) ∧ PyFlat.rows k l2 = some (ys, l') ∧ xs = x :: ys := by
  have h' : (match PyFlat.row l with
    | none => none
    | some (x, s) => match PyFlat.rows k s with
      | none => none
      | some (xs, t) => some (x :: xs, t)) = some (xs, l') := h
  cases e : PyFlat.row l with
  | none => rw [e] at h'; cases h'
  | some q =>
    obtain ⟨x, l2⟩ := q
    rw [e] at h'
    simp only at h'
    cases e2 : PyFlat.rows k l2 with
    | none => rw [e2] at h'; cases h'
    | some q =>
      obtain ⟨ys, l3⟩ := q
      rw [e2] at h'
      simp only at h'
      obtain ⟨q1, q2⟩ := Prod.mk.inj (Option.some.inj h')
      subst q1 q2
      cases l with
      | nil => cases e
      | cons m r => exact ⟨m, r, x, ys, l2, rfl, e, e2, rfl⟩
theorem rows_zero {l l' : List Int} {xs : List (List Int)} (h : PyFlat.rows 0 l = some (xs, l')) : xs = [] ∧ l' = l := by
  obtain ⟨q1, q2⟩ := Prod.mk.inj (Option.some.inj h)
  exact ⟨q1.symm, q2.symm⟩
end Vs
end
section
set_option Elab.async false
set_option maxRecDepth 100000
set_option maxHeartbeats 2000000
namespace Vs
open PySem PySem.Spec PyProof.Rows L2
open Kg60 (Slot Team State)
def top (i : Nat) : Stmt := PySem.Challenge.pw_volleysheet_s01_answers.main.body.getD i (.Pass ⟨0, 0, 0, 0⟩)
abbrev s_is_team : Stmt := top 1
abbrev s_is_shirt : Stmt := top 2
abbrev s_are_shirts : Stmt := top 3
abbrev s_all_different : Stmt := top 4
abbrev s_Place_init : Stmt := inClass (top 10) 0
abbrev s_Place_owner : Stmt := inClass (top 10) 1
abbrev s_Place_has_libero : Stmt := inClass (top 10) 2
abbrev s_Place_on_court : Stmt := inClass (top 10) 3
abbrev s_Place_send_libero_off : Stmt := inClass (top 10) 4
abbrev s_Place_substitute : Stmt := inClass (top 10) 5
abbrev s_Side_init : Stmt := inClass (top 11) 0
abbrev s_Side_take_lineup : Stmt := inClass (top 11) 1
abbrev s_Side_has_lineup : Stmt := inClass (top 11) 2
abbrev s_Side_leave_set : Stmt := inClass (top 11) 3
abbrev s_Side_go_on_by_one : Stmt := inClass (top 11) 4
abbrev s_Side_place_at : Stmt := inClass (top 11) 5
abbrev s_Side_court : Stmt := inClass (top 11) 6
abbrev s_Side_place_of : Stmt := inClass (top 11) 7
abbrev s_Side_position_of : Stmt := inClass (top 11) 8
abbrev s_Side_libero_position : Stmt := inClass (top 11) 9
abbrev s_Side_is_out : Stmt := inClass (top 11) 10
abbrev s_Side_may_begin : Stmt := inClass (top 11) 11
abbrev s_Side_is_new : Stmt := inClass (top 11) 12
abbrev s_play_refusal : Stmt := top 15
abbrev s_libero_may_stand : Stmt := top 16
abbrev s_liberos_stand_well : Stmt := top 17
abbrev s_answer_rally : Stmt := top 18
abbrev s_answer_serve : Stmt := top 19
abbrev s_change_refusal : Stmt := top 20
abbrev s_may_replace : Stmt := top 21
abbrev s_replace_owner : Stmt := top 22
abbrev s_answer_sub : Stmt := top 23
abbrev s_owner_may_return : Stmt := top 24
abbrev s_libero_may_come : Stmt := top 25
abbrev s_answer_libero : Stmt := top 26
abbrev s_answer_timeout : Stmt := top 27
abbrev s_good_card : Stmt := top 36
abbrev s_card_refusal : Stmt := top 37
abbrev s_put_out : Stmt := top 38
abbrev s_fill_place : Stmt := top 39
abbrev s_answer_card : Stmt := top 40
abbrev s_Game_init : Stmt := inClass (top 44) 0
abbrev s_Game_sets_over : Stmt := inClass (top 44) 1
abbrev s_Game_set_number : Stmt := inClass (top 44) 2
abbrev s_Game_can_go_on : Stmt := inClass (top 44) 3
abbrev s_Game_how_it_stands : Stmt := inClass (top 44) 4
abbrev s_Game_start_set : Stmt := inClass (top 44) 5
abbrev s_Game_win_rally : Stmt := inClass (top 44) 6
abbrev s_Game_win_point : Stmt := inClass (top 44) 7
abbrev s_Game_points_to_win : Stmt := inClass (top 44) 8
abbrev s_Game_has_enough : Stmt := inClass (top 44) 9
abbrev s_Game_lose_set : Stmt := inClass (top 44) 10
abbrev s_Game_end_set : Stmt := inClass (top 44) 11
abbrev s_Book_init : Stmt := inClass (top 45) 0
abbrev s_good_players : Stmt := top 47
abbrev s_good_liberos : Stmt := top 48
abbrev s_answer_begin : Stmt := top 49
abbrev s_between_sets_refusal : Stmt := top 50
abbrev s_lineup_refusal : Stmt := top 51
abbrev s_answer_lineup : Stmt := top 52
abbrev s_start_refusal : Stmt := top 53
abbrev s_answer_start : Stmt := top 54
abbrev s_answer_now : Stmt := top 56
abbrev s_answer_court : Stmt := top 57
abbrev s_answer_sheet : Stmt := top 58
abbrev s_answer_sets : Stmt := top 59
abbrev s_Reader_init : Stmt := inClass (top 75) 0
abbrev s_Reader_at_end : Stmt := inClass (top 75) 1
abbrev s_Reader_take : Stmt := inClass (top 75) 2
abbrev s_Reader_take_one : Stmt := inClass (top 75) 3
abbrev s_Reader_take_row : Stmt := inClass (top 75) 4
abbrev s_answer_opening : Stmt := top 76
abbrev s_answer_play : Stmt := top 77
abbrev s_answer_view : Stmt := top 78
abbrev s_answer_call : Stmt := top 79
abbrev s_answers : Stmt := top 80
theorem sc_is_team : FnScope ["number"] ["number"] (defScope s_is_team) := ⟨rfl, rfl, rfl, by decide +kernel, rfl, by decide +kernel, by decide +kernel⟩
theorem sc_is_shirt : FnScope ["number"] ["number"] (defScope s_is_shirt) := ⟨rfl, rfl, rfl, by decide +kernel, rfl, by decide +kernel, by decide +kernel⟩
theorem sc_are_shirts : FnScope ["numbers", "number"] ["numbers"] (defScope s_are_shirts) := ⟨rfl, rfl, rfl, by decide +kernel, rfl, by decide +kernel, by decide +kernel⟩
theorem sc_all_different : FnScope ["numbers"] ["numbers"] (defScope s_all_different) := ⟨rfl, rfl, rfl, by decide +kernel, rfl, by decide +kernel, by decide +kernel⟩
theorem sc_Place_init : FnScope ["self", "starter"] ["self", "starter"] (defScope s_Place_init) := ⟨rfl, rfl, rfl, by decide +kernel, rfl, by decide +kernel, by decide +kernel⟩
theorem sc_Place_owner : FnScope ["self"] ["self"] (defScope s_Place_owner) := ⟨rfl, rfl, rfl, by decide +kernel, rfl, by decide +kernel, by decide +kernel⟩
theorem sc_Place_has_libero : FnScope ["self"] ["self"] (defScope s_Place_has_libero) := ⟨rfl, rfl, rfl, by decide +kernel, rfl, by decide +kernel, by decide +kernel⟩
theorem sc_Place_on_court : FnScope ["self"] ["self"] (defScope s_Place_on_court) := ⟨rfl, rfl, rfl, by decide +kernel, rfl, by decide +kernel, by decide +kernel⟩
theorem sc_Place_send_libero_off : FnScope ["self"] ["self"] (defScope s_Place_send_libero_off) := ⟨rfl, rfl, rfl, by decide +kernel, rfl, by decide +kernel, by decide +kernel⟩
theorem sc_Place_substitute : FnScope ["self", "coming"] ["self", "coming"] (defScope s_Place_substitute) := ⟨rfl, rfl, rfl, by decide +kernel, rfl, by decide +kernel, by decide +kernel⟩
theorem sc_Side_init : FnScope ["self", "players", "liberos"] ["self", "players", "liberos"] (defScope s_Side_init) := ⟨rfl, rfl, rfl, by decide +kernel, rfl, by decide +kernel, by decide +kernel⟩
theorem sc_Side_take_lineup : FnScope ["self", "players", "player"] ["self", "players"] (defScope s_Side_take_lineup) := ⟨rfl, rfl, rfl, by decide +kernel, rfl, by decide +kernel, by decide +kernel⟩
theorem sc_Side_has_lineup : FnScope ["self"] ["self"] (defScope s_Side_has_lineup) := ⟨rfl, rfl, rfl, by decide +kernel, rfl, by decide +kernel, by decide +kernel⟩
theorem sc_Side_leave_set : FnScope ["self"] ["self"] (defScope s_Side_leave_set) := ⟨rfl, rfl, rfl, by decide +kernel, rfl, by decide +kernel, by decide +kernel⟩
theorem sc_Side_go_on_by_one : FnScope ["self"] ["self"] (defScope s_Side_go_on_by_one) := ⟨rfl, rfl, rfl, by decide +kernel, rfl, by decide +kernel, by decide +kernel⟩
theorem sc_Side_place_at : FnScope ["self", "position"] ["self", "position"] (defScope s_Side_place_at) := ⟨rfl, rfl, rfl, by decide +kernel, rfl, by decide +kernel, by decide +kernel⟩
theorem sc_Side_court : FnScope ["self", "position"] ["self"] (defScope s_Side_court) := ⟨rfl, rfl, rfl, by decide +kernel, rfl, by decide +kernel, by decide +kernel⟩
theorem sc_Side_place_of : FnScope ["self", "number", "place"] ["self", "number"] (defScope s_Side_place_of) := ⟨rfl, rfl, rfl, by decide +kernel, rfl, by decide +kernel, by decide +kernel⟩
theorem sc_Side_position_of : FnScope ["self", "number", "position"] ["self", "number"] (defScope s_Side_position_of) := ⟨rfl, rfl, rfl, by decide +kernel, rfl, by decide +kernel, by decide +kernel⟩
theorem sc_Side_libero_position : FnScope ["self", "position"] ["self"] (defScope s_Side_libero_position) := ⟨rfl, rfl, rfl, by decide +kernel, rfl, by decide +kernel, by decide +kernel⟩
theorem sc_Side_is_out : FnScope ["self", "number"] ["self", "number"] (defScope s_Side_is_out) := ⟨rfl, rfl, rfl, by decide +kernel, rfl, by decide +kernel, by decide +kernel⟩
theorem sc_Side_may_begin : FnScope ["self", "number"] ["self", "number"] (defScope s_Side_may_begin) := ⟨rfl, rfl, rfl, by decide +kernel, rfl, by decide +kernel, by decide +kernel⟩
theorem sc_Side_is_new : FnScope ["self", "number", "place"] ["self", "number"] (defScope s_Side_is_new) := ⟨rfl, rfl, rfl, by decide +kernel, rfl, by decide +kernel, by decide +kernel⟩
theorem sc_play_refusal : FnScope ["game", "team", "shirts"] ["game", "team", "shirts"] (defScope s_play_refusal) := ⟨rfl, rfl, rfl, by decide +kernel, rfl, by decide +kernel, by decide +kernel⟩
theorem sc_libero_may_stand : FnScope ["game", "team", "position"] ["game", "team", "position"] (defScope s_libero_may_stand) := ⟨rfl, rfl, rfl, by decide +kernel, rfl, by decide +kernel, by decide +kernel⟩
theorem sc_liberos_stand_well : FnScope ["game", "team", "position"] ["game"] (defScope s_liberos_stand_well) := ⟨rfl, rfl, rfl, by decide +kernel, rfl, by decide +kernel, by decide +kernel⟩
theorem sc_answer_rally : FnScope ["game", "team", "refusal"] ["game", "team"] (defScope s_answer_rally) := ⟨rfl, rfl, rfl, by decide +kernel, rfl, by decide +kernel, by decide +kernel⟩
theorem sc_answer_serve : FnScope ["game", "team", "player", "refusal"] ["game", "team", "player"] (defScope s_answer_serve) := ⟨rfl, rfl, rfl, by decide +kernel, rfl, by decide +kernel, by decide +kernel⟩
theorem sc_change_refusal : FnScope ["game", "team", "leaving", "coming", "refusal"] ["game", "team", "leaving", "coming"] (defScope s_change_refusal) := ⟨rfl, rfl, rfl, by decide +kernel, rfl, by decide +kernel, by decide +kernel⟩
theorem sc_may_replace : FnScope ["side", "place", "coming"] ["side", "place", "coming"] (defScope s_may_replace) := ⟨rfl, rfl, rfl, by decide +kernel, rfl, by decide +kernel, by decide +kernel⟩
theorem sc_replace_owner : FnScope ["side", "place", "coming"] ["side", "place", "coming"] (defScope s_replace_owner) := ⟨rfl, rfl, rfl, by decide +kernel, rfl, by decide +kernel, by decide +kernel⟩
theorem sc_answer_sub : FnScope ["game", "team", "leaving", "coming", "refusal", "side", "place"] ["game", "team", "leaving", "coming"] (defScope s_answer_sub) := ⟨rfl, rfl, rfl, by decide +kernel, rfl, by decide +kernel, by decide +kernel⟩
theorem sc_owner_may_return : FnScope ["side", "place", "coming"] ["side", "place", "coming"] (defScope s_owner_may_return) := ⟨rfl, rfl, rfl, by decide +kernel, rfl, by decide +kernel, by decide +kernel⟩
theorem sc_libero_may_come : FnScope ["game", "team", "position", "coming", "side"] ["game", "team", "position", "coming"] (defScope s_libero_may_come) := ⟨rfl, rfl, rfl, by decide +kernel, rfl, by decide +kernel, by decide +kernel⟩
theorem sc_answer_libero : FnScope ["game", "team", "leaving", "coming", "refusal", "side", "position", "place"] ["game", "team", "leaving", "coming"] (defScope s_answer_libero) := ⟨rfl, rfl, rfl, by decide +kernel, rfl, by decide +kernel, by decide +kernel⟩
theorem sc_answer_timeout : FnScope ["game", "team", "refusal", "side"] ["game", "team"] (defScope s_answer_timeout) := ⟨rfl, rfl, rfl, by decide +kernel, rfl, by decide +kernel, by decide +kernel⟩
theorem sc_good_card : FnScope ["kind", "coming"] ["kind", "coming"] (defScope s_good_card) := ⟨rfl, rfl, rfl, by decide +kernel, rfl, by decide +kernel, by decide +kernel⟩
theorem sc_card_refusal : FnScope ["game", "team", "player", "kind", "coming", "refusal", "side"] ["game", "team", "player", "kind", "coming"] (defScope s_card_refusal) := ⟨rfl, rfl, rfl, by decide +kernel, rfl, by decide +kernel, by decide +kernel⟩
theorem sc_put_out : FnScope ["side", "player", "kind"] ["side", "player", "kind"] (defScope s_put_out) := ⟨rfl, rfl, rfl, by decide +kernel, rfl, by decide +kernel, by decide +kernel⟩
theorem sc_fill_place : FnScope ["side", "player", "coming", "place"] ["side", "player", "coming"] (defScope s_fill_place) := ⟨rfl, rfl, rfl, by decide +kernel, rfl, by decide +kernel, by decide +kernel⟩
theorem sc_answer_card : FnScope ["game", "team", "player", "kind", "coming", "refusal", "side", "outcome"] ["game", "team", "player", "kind", "coming"] (defScope s_answer_card) := ⟨rfl, rfl, rfl, by decide +kernel, rfl, by decide +kernel, by decide +kernel⟩
theorem sc_Game_init : FnScope ["self", "begun", "sides"] ["self", "begun", "sides"] (defScope s_Game_init) := ⟨rfl, rfl, rfl, by decide +kernel, rfl, by decide +kernel, by decide +kernel⟩
theorem sc_Game_sets_over : FnScope ["self"] ["self"] (defScope s_Game_sets_over) := ⟨rfl, rfl, rfl, by decide +kernel, rfl, by decide +kernel, by decide +kernel⟩
theorem sc_Game_set_number : FnScope ["self"] ["self"] (defScope s_Game_set_number) := ⟨rfl, rfl, rfl, by decide +kernel, rfl, by decide +kernel, by decide +kernel⟩
theorem sc_Game_can_go_on : FnScope ["self"] ["self"] (defScope s_Game_can_go_on) := ⟨rfl, rfl, rfl, by decide +kernel, rfl, by decide +kernel, by decide +kernel⟩
theorem sc_Game_how_it_stands : FnScope ["self"] ["self"] (defScope s_Game_how_it_stands) := ⟨rfl, rfl, rfl, by decide +kernel, rfl, by decide +kernel, by decide +kernel⟩
theorem sc_Game_start_set : FnScope ["self", "team"] ["self", "team"] (defScope s_Game_start_set) := ⟨rfl, rfl, rfl, by decide +kernel, rfl, by decide +kernel, by decide +kernel⟩
theorem sc_Game_win_rally : FnScope ["self", "winner", "side"] ["self", "winner"] (defScope s_Game_win_rally) := ⟨rfl, rfl, rfl, by decide +kernel, rfl, by decide +kernel, by decide +kernel⟩
theorem sc_Game_win_point : FnScope ["self", "winner"] ["self", "winner"] (defScope s_Game_win_point) := ⟨rfl, rfl, rfl, by decide +kernel, rfl, by decide +kernel, by decide +kernel⟩
theorem sc_Game_points_to_win : FnScope ["self"] ["self"] (defScope s_Game_points_to_win) := ⟨rfl, rfl, rfl, by decide +kernel, rfl, by decide +kernel, by decide +kernel⟩
theorem sc_Game_has_enough : FnScope ["self", "team", "lead"] ["self", "team"] (defScope s_Game_has_enough) := ⟨rfl, rfl, rfl, by decide +kernel, rfl, by decide +kernel, by decide +kernel⟩
theorem sc_Game_lose_set : FnScope ["self", "loser", "winner"] ["self", "loser"] (defScope s_Game_lose_set) := ⟨rfl, rfl, rfl, by decide +kernel, rfl, by decide +kernel, by decide +kernel⟩
theorem sc_Game_end_set : FnScope ["self", "winner", "side"] ["self", "winner"] (defScope s_Game_end_set) := ⟨rfl, rfl, rfl, by decide +kernel, rfl, by decide +kernel, by decide +kernel⟩
theorem sc_Book_init : FnScope ["self"] ["self"] (defScope s_Book_init) := ⟨rfl, rfl, rfl, by decide +kernel, rfl, by decide +kernel, by decide +kernel⟩
theorem sc_good_players : FnScope ["players"] ["players"] (defScope s_good_players) := ⟨rfl, rfl, rfl, by decide +kernel, rfl, by decide +kernel, by decide +kernel⟩
theorem sc_good_liberos : FnScope ["players", "liberos", "libero"] ["players", "liberos"] (defScope s_good_liberos) := ⟨rfl, rfl, rfl, by decide +kernel, rfl, by decide +kernel, by decide +kernel⟩
theorem sc_answer_begin : FnScope ["book", "players0", "players1", "liberos0", "liberos1"] ["book", "players0", "players1", "liberos0", "liberos1"] (defScope s_answer_begin) := ⟨rfl, rfl, rfl, by decide +kernel, rfl, by decide +kernel, by decide +kernel⟩
theorem sc_between_sets_refusal : FnScope ["game"] ["game"] (defScope s_between_sets_refusal) := ⟨rfl, rfl, rfl, by decide +kernel, rfl, by decide +kernel, by decide +kernel⟩
theorem sc_lineup_refusal : FnScope ["game", "team", "players", "refusal", "player"] ["game", "team", "players"] (defScope s_lineup_refusal) := ⟨rfl, rfl, rfl, by decide +kernel, rfl, by decide +kernel, by decide +kernel⟩
theorem sc_answer_lineup : FnScope ["game", "team", "players", "refusal"] ["game", "team", "players"] (defScope s_answer_lineup) := ⟨rfl, rfl, rfl, by decide +kernel, rfl, by decide +kernel, by decide +kernel⟩
theorem sc_start_refusal : FnScope ["game", "team", "refusal", "side"] ["game", "team"] (defScope s_start_refusal) := ⟨rfl, rfl, rfl, by decide +kernel, rfl, by decide +kernel, by decide +kernel⟩
theorem sc_answer_start : FnScope ["game", "team", "refusal"] ["game", "team"] (defScope s_answer_start) := ⟨rfl, rfl, rfl, by decide +kernel, rfl, by decide +kernel, by decide +kernel⟩
theorem sc_answer_now : FnScope ["game"] ["game"] (defScope s_answer_now) := ⟨rfl, rfl, rfl, by decide +kernel, rfl, by decide +kernel, by decide +kernel⟩
theorem sc_answer_court : FnScope ["game", "team", "side"] ["game", "team"] (defScope s_answer_court) := ⟨rfl, rfl, rfl, by decide +kernel, rfl, by decide +kernel, by decide +kernel⟩
theorem sc_answer_sheet : FnScope ["game", "team", "side", "told", "place"] ["game", "team"] (defScope s_answer_sheet) := ⟨rfl, rfl, rfl, by decide +kernel, rfl, by decide +kernel, by decide +kernel⟩
theorem sc_answer_sets : FnScope ["game"] ["game"] (defScope s_answer_sets) := ⟨rfl, rfl, rfl, by decide +kernel, rfl, by decide +kernel, by decide +kernel⟩
theorem sc_Reader_init : FnScope ["self", "numbers"] ["self", "numbers"] (defScope s_Reader_init) := ⟨rfl, rfl, rfl, by decide +kernel, rfl, by decide +kernel, by decide +kernel⟩
theorem sc_Reader_at_end : FnScope ["self"] ["self"] (defScope s_Reader_at_end) := ⟨rfl, rfl, rfl, by decide +kernel, rfl, by decide +kernel, by decide +kernel⟩
theorem sc_Reader_take : FnScope ["self", "many", "taken"] ["self", "many"] (defScope s_Reader_take) := ⟨rfl, rfl, rfl, by decide +kernel, rfl, by decide +kernel, by decide +kernel⟩
theorem sc_Reader_take_one : FnScope ["self"] ["self"] (defScope s_Reader_take_one) := ⟨rfl, rfl, rfl, by decide +kernel, rfl, by decide +kernel, by decide +kernel⟩
theorem sc_Reader_take_row : FnScope ["self"] ["self"] (defScope s_Reader_take_row) := ⟨rfl, rfl, rfl, by decide +kernel, rfl, by decide +kernel, by decide +kernel⟩
theorem sc_answer_opening : FnScope ["book", "call", "values", "rows"] ["book", "call", "values", "rows"] (defScope s_answer_opening) := ⟨rfl, rfl, rfl, by decide +kernel, rfl, by decide +kernel, by decide +kernel⟩
theorem sc_answer_play : FnScope ["game", "call", "values"] ["game", "call", "values"] (defScope s_answer_play) := ⟨rfl, rfl, rfl, by decide +kernel, rfl, by decide +kernel, by decide +kernel⟩
theorem sc_answer_view : FnScope ["game", "call", "values"] ["game", "call", "values"] (defScope s_answer_view) := ⟨rfl, rfl, rfl, by decide +kernel, rfl, by decide +kernel, by decide +kernel⟩
theorem sc_answer_call : FnScope ["book", "call", "values", "rows"] ["book", "call", "values", "rows"] (defScope s_answer_call) := ⟨rfl, rfl, rfl, by decide +kernel, rfl, by decide +kernel, by decide +kernel⟩
theorem sc_answers : FnScope ["calls", "reader", "book", "told", "call", "values", "rows", "row", "answer"] ["calls"] (defScope s_answers) := ⟨rfl, rfl, rfl, by decide +kernel, rfl, by decide +kernel, by decide +kernel⟩
/-- where the text's own things stand -/
structure Ad where
  c_Place : Addr
  c_Side : Addr
  c_Game : Addr
  c_Book : Addr
  c_Reader : Addr
  f_is_team : Addr
  f_is_shirt : Addr
  f_are_shirts : Addr
  f_all_different : Addr
  f_Place_init : Addr
  f_Place_owner : Addr
  f_Place_has_libero : Addr
  f_Place_on_court : Addr
  f_Place_send_libero_off : Addr
  f_Place_substitute : Addr
  f_Side_init : Addr
  f_Side_take_lineup : Addr
  f_Side_has_lineup : Addr
  f_Side_leave_set : Addr
  f_Side_go_on_by_one : Addr
  f_Side_place_at : Addr
  f_Side_court : Addr
  f_Side_place_of : Addr
  f_Side_position_of : Addr
  f_Side_libero_position : Addr
  f_Side_is_out : Addr
  f_Side_may_begin : Addr
  f_Side_is_new : Addr
  f_play_refusal : Addr
  f_libero_may_stand : Addr
  f_liberos_stand_well : Addr
  f_answer_rally : Addr
  f_answer_serve : Addr
  f_change_refusal : Addr
  f_may_replace : Addr
  f_replace_owner : Addr
  f_answer_sub : Addr
  f_owner_may_return : Addr
  f_libero_may_come : Addr
  f_answer_libero : Addr
  f_answer_timeout : Addr
  f_good_card : Addr
  f_card_refusal : Addr
  f_put_out : Addr
  f_fill_place : Addr
  f_answer_card : Addr
  f_Game_init : Addr
  f_Game_sets_over : Addr
  f_Game_set_number : Addr
  f_Game_can_go_on : Addr
  f_Game_how_it_stands : Addr
  f_Game_start_set : Addr
  f_Game_win_rally : Addr
  f_Game_win_point : Addr
  f_Game_points_to_win : Addr
  f_Game_has_enough : Addr
  f_Game_lose_set : Addr
  f_Game_end_set : Addr
  f_Book_init : Addr
  f_good_players : Addr
  f_good_liberos : Addr
  f_answer_begin : Addr
  f_between_sets_refusal : Addr
  f_lineup_refusal : Addr
  f_answer_lineup : Addr
  f_start_refusal : Addr
  f_answer_start : Addr
  f_answer_now : Addr
  f_answer_court : Addr
  f_answer_sheet : Addr
  f_answer_sets : Addr
  f_Reader_init : Addr
  f_Reader_at_end : Addr
  f_Reader_take : Addr
  f_Reader_take_one : Addr
  f_Reader_take_row : Addr
  f_answer_opening : Addr
  f_answer_play : Addr
  f_answer_view : Addr
  f_answer_call : Addr
  f_answers : Addr
  t_WHOLE_NUMBERS : Addr
  t_ROWS : Addr
/-- what the top has written -/
structure Txt (K : PySem.W.Frag) (mg : Str → Option Value) (d : Ad) : Prop where
  cl_Place : Cls K d.c_Place
  mk_Place : Mk K d.c_Place d.f_Place_init
  mg_Place : mg "Place" = some (.ref d.c_Place)
  na_Place_starter : NoAttr K d.c_Place "starter"
  na_Place_second : NoAttr K d.c_Place "second"
  na_Place_stage : NoAttr K d.c_Place "stage"
  na_Place_libero : NoAttr K d.c_Place "libero"
  me_Place_owner : Meth K d.c_Place "owner" d.f_Place_owner
  me_Place_has_libero : Meth K d.c_Place "has_libero" d.f_Place_has_libero
  me_Place_on_court : Meth K d.c_Place "on_court" d.f_Place_on_court
  me_Place_send_libero_off : Meth K d.c_Place "send_libero_off" d.f_Place_send_libero_off
  me_Place_substitute : Meth K d.c_Place "substitute" d.f_Place_substitute
  cl_Side : Cls K d.c_Side
  mk_Side : Mk K d.c_Side d.f_Side_init
  mg_Side : mg "Side" = some (.ref d.c_Side)
  na_Side_players : NoAttr K d.c_Side "players"
  na_Side_liberos : NoAttr K d.c_Side "liberos"
  na_Side_out_of_set : NoAttr K d.c_Side "out_of_set"
  na_Side_out_of_match : NoAttr K d.c_Side "out_of_match"
  na_Side_places : NoAttr K d.c_Side "places"
  na_Side_turns : NoAttr K d.c_Side "turns"
  na_Side_substitutions : NoAttr K d.c_Side "substitutions"
  na_Side_timeouts : NoAttr K d.c_Side "timeouts"
  na_Side_libero_moved : NoAttr K d.c_Side "libero_moved"
  me_Side_take_lineup : Meth K d.c_Side "take_lineup" d.f_Side_take_lineup
  me_Side_has_lineup : Meth K d.c_Side "has_lineup" d.f_Side_has_lineup
  me_Side_leave_set : Meth K d.c_Side "leave_set" d.f_Side_leave_set
  me_Side_go_on_by_one : Meth K d.c_Side "go_on_by_one" d.f_Side_go_on_by_one
  me_Side_place_at : Meth K d.c_Side "place_at" d.f_Side_place_at
  me_Side_court : Meth K d.c_Side "court" d.f_Side_court
  me_Side_place_of : Meth K d.c_Side "place_of" d.f_Side_place_of
  me_Side_position_of : Meth K d.c_Side "position_of" d.f_Side_position_of
  me_Side_libero_position : Meth K d.c_Side "libero_position" d.f_Side_libero_position
  me_Side_is_out : Meth K d.c_Side "is_out" d.f_Side_is_out
  me_Side_may_begin : Meth K d.c_Side "may_begin" d.f_Side_may_begin
  me_Side_is_new : Meth K d.c_Side "is_new" d.f_Side_is_new
  cl_Game : Cls K d.c_Game
  mk_Game : Mk K d.c_Game d.f_Game_init
  mg_Game : mg "Game" = some (.ref d.c_Game)
  na_Game_begun : NoAttr K d.c_Game "begun"
  na_Game_sides : NoAttr K d.c_Game "sides"
  na_Game_points : NoAttr K d.c_Game "points"
  na_Game_sets_won : NoAttr K d.c_Game "sets_won"
  na_Game_points_of_sets : NoAttr K d.c_Game "points_of_sets"
  na_Game_server : NoAttr K d.c_Game "server"
  na_Game_first_server : NoAttr K d.c_Game "first_server"
  na_Game_playing : NoAttr K d.c_Game "playing"
  me_Game_sets_over : Meth K d.c_Game "sets_over" d.f_Game_sets_over
  me_Game_set_number : Meth K d.c_Game "set_number" d.f_Game_set_number
  me_Game_can_go_on : Meth K d.c_Game "can_go_on" d.f_Game_can_go_on
  me_Game_how_it_stands : Meth K d.c_Game "how_it_stands" d.f_Game_how_it_stands
  me_Game_start_set : Meth K d.c_Game "start_set" d.f_Game_start_set
  me_Game_win_rally : Meth K d.c_Game "win_rally" d.f_Game_win_rally
  me_Game_win_point : Meth K d.c_Game "win_point" d.f_Game_win_point
  me_Game_points_to_win : Meth K d.c_Game "points_to_win" d.f_Game_points_to_win
  me_Game_has_enough : Meth K d.c_Game "has_enough" d.f_Game_has_enough
  me_Game_lose_set : Meth K d.c_Game "lose_set" d.f_Game_lose_set
  me_Game_end_set : Meth K d.c_Game "end_set" d.f_Game_end_set
  cl_Book : Cls K d.c_Book
  mk_Book : Mk K d.c_Book d.f_Book_init
  mg_Book : mg "Book" = some (.ref d.c_Book)
  na_Book_game : NoAttr K d.c_Book "game"
  cl_Reader : Cls K d.c_Reader
  mk_Reader : Mk K d.c_Reader d.f_Reader_init
  mg_Reader : mg "Reader" = some (.ref d.c_Reader)
  na_Reader_numbers : NoAttr K d.c_Reader "numbers"
  na_Reader_reached : NoAttr K d.c_Reader "reached"
  me_Reader_at_end : Meth K d.c_Reader "at_end" d.f_Reader_at_end
  me_Reader_take : Meth K d.c_Reader "take" d.f_Reader_take
  me_Reader_take_one : Meth K d.c_Reader "take_one" d.f_Reader_take_one
  me_Reader_take_row : Meth K d.c_Reader "take_row" d.f_Reader_take_row
  fn_is_team : ∃ fd, Fun K "is_team" "is_team" s_is_team d.f_is_team fd
  mg_is_team : mg "is_team" = some (.ref d.f_is_team)
  fn_is_shirt : ∃ fd, Fun K "is_shirt" "is_shirt" s_is_shirt d.f_is_shirt fd
  mg_is_shirt : mg "is_shirt" = some (.ref d.f_is_shirt)
  fn_are_shirts : ∃ fd, Fun K "are_shirts" "are_shirts" s_are_shirts d.f_are_shirts fd
  mg_are_shirts : mg "are_shirts" = some (.ref d.f_are_shirts)
  fn_all_different : ∃ fd, Fun K "all_different" "all_different" s_all_different d.f_all_different fd
  mg_all_different : mg "all_different" = some (.ref d.f_all_different)
  fn_Place_init : ∃ fd, Fun K "__init__" "Place.__init__" s_Place_init d.f_Place_init fd
  fn_Place_owner : ∃ fd, Fun K "owner" "Place.owner" s_Place_owner d.f_Place_owner fd
  fn_Place_has_libero : ∃ fd, Fun K "has_libero" "Place.has_libero" s_Place_has_libero d.f_Place_has_libero fd
  fn_Place_on_court : ∃ fd, Fun K "on_court" "Place.on_court" s_Place_on_court d.f_Place_on_court fd
  fn_Place_send_libero_off : ∃ fd, Fun K "send_libero_off" "Place.send_libero_off" s_Place_send_libero_off d.f_Place_send_libero_off fd
  fn_Place_substitute : ∃ fd, Fun K "substitute" "Place.substitute" s_Place_substitute d.f_Place_substitute fd
  fn_Side_init : ∃ fd, Fun K "__init__" "Side.__init__" s_Side_init d.f_Side_init fd
  fn_Side_take_lineup : ∃ fd, Fun K "take_lineup" "Side.take_lineup" s_Side_take_lineup d.f_Side_take_lineup fd
  fn_Side_has_lineup : ∃ fd, Fun K "has_lineup" "Side.has_lineup" s_Side_has_lineup d.f_Side_has_lineup fd
  fn_Side_leave_set : ∃ fd, Fun K "leave_set" "Side.leave_set" s_Side_leave_set d.f_Side_leave_set fd
  fn_Side_go_on_by_one : ∃ fd, Fun K "go_on_by_one" "Side.go_on_by_one" s_Side_go_on_by_one d.f_Side_go_on_by_one fd
  fn_Side_place_at : ∃ fd, Fun K "place_at" "Side.place_at" s_Side_place_at d.f_Side_place_at fd
  fn_Side_court : ∃ fd, Fun K "court" "Side.court" s_Side_court d.f_Side_court fd
  fn_Side_place_of : ∃ fd, Fun K "place_of" "Side.place_of" s_Side_place_of d.f_Side_place_of fd
  fn_Side_position_of : ∃ fd, Fun K "position_of" "Side.position_of" s_Side_position_of d.f_Side_position_of fd
  fn_Side_libero_position : ∃ fd, Fun K "libero_position" "Side.libero_position" s_Side_libero_position d.f_Side_libero_position fd
  fn_Side_is_out : ∃ fd, Fun K "is_out" "Side.is_out" s_Side_is_out d.f_Side_is_out fd
  fn_Side_may_begin : ∃ fd, Fun K "may_begin" "Side.may_begin" s_Side_may_begin d.f_Side_may_begin fd
  fn_Side_is_new : ∃ fd, Fun K "is_new" "Side.is_new" s_Side_is_new d.f_Side_is_new fd
  fn_play_refusal : ∃ fd, Fun K "play_refusal" "play_refusal" s_play_refusal d.f_play_refusal fd
  mg_play_refusal : mg "play_refusal" = some (.ref d.f_play_refusal)
  fn_libero_may_stand : ∃ fd, Fun K "libero_may_stand" "libero_may_stand" s_libero_may_stand d.f_libero_may_stand fd
  mg_libero_may_stand : mg "libero_may_stand" = some (.ref d.f_libero_may_stand)
  fn_liberos_stand_well : ∃ fd, Fun K "liberos_stand_well" "liberos_stand_well" s_liberos_stand_well d.f_liberos_stand_well fd
  mg_liberos_stand_well : mg "liberos_stand_well" = some (.ref d.f_liberos_stand_well)
  fn_answer_rally : ∃ fd, Fun K "answer_rally" "answer_rally" s_answer_rally d.f_answer_rally fd
  mg_answer_rally : mg "answer_rally" = some (.ref d.f_answer_rally)
  fn_answer_serve : ∃ fd, Fun K "answer_serve" "answer_serve" s_answer_serve d.f_answer_serve fd
  mg_answer_serve : mg "answer_serve" = some (.ref d.f_answer_serve)
  fn_change_refusal : ∃ fd, Fun K "change_refusal" "change_refusal" s_change_refusal d.f_change_refusal fd
  mg_change_refusal : mg "change_refusal" = some (.ref d.f_change_refusal)
  fn_may_replace : ∃ fd, Fun K "may_replace" "may_replace" s_may_replace d.f_may_replace fd
  mg_may_replace : mg "may_replace" = some (.ref d.f_may_replace)
  fn_replace_owner : ∃ fd, Fun K "replace_owner" "replace_owner" s_replace_owner d.f_replace_owner fd
  mg_replace_owner : mg "replace_owner" = some (.ref d.f_replace_owner)
  fn_answer_sub : ∃ fd, Fun K "answer_sub" "answer_sub" s_answer_sub d.f_answer_sub fd
  mg_answer_sub : mg "answer_sub" = some (.ref d.f_answer_sub)
  fn_owner_may_return : ∃ fd, Fun K "owner_may_return" "owner_may_return" s_owner_may_return d.f_owner_may_return fd
  mg_owner_may_return : mg "owner_may_return" = some (.ref d.f_owner_may_return)
  fn_libero_may_come : ∃ fd, Fun K "libero_may_come" "libero_may_come" s_libero_may_come d.f_libero_may_come fd
  mg_libero_may_come : mg "libero_may_come" = some (.ref d.f_libero_may_come)
  fn_answer_libero : ∃ fd, Fun K "answer_libero" "answer_libero" s_answer_libero d.f_answer_libero fd
  mg_answer_libero : mg "answer_libero" = some (.ref d.f_answer_libero)
  fn_answer_timeout : ∃ fd, Fun K "answer_timeout" "answer_timeout" s_answer_timeout d.f_answer_timeout fd
  mg_answer_timeout : mg "answer_timeout" = some (.ref d.f_answer_timeout)
  fn_good_card : ∃ fd, Fun K "good_card" "good_card" s_good_card d.f_good_card fd
  mg_good_card : mg "good_card" = some (.ref d.f_good_card)
  fn_card_refusal : ∃ fd, Fun K "card_refusal" "card_refusal" s_card_refusal d.f_card_refusal fd
  mg_card_refusal : mg "card_refusal" = some (.ref d.f_card_refusal)
  fn_put_out : ∃ fd, Fun K "put_out" "put_out" s_put_out d.f_put_out fd
  mg_put_out : mg "put_out" = some (.ref d.f_put_out)
  fn_fill_place : ∃ fd, Fun K "fill_place" "fill_place" s_fill_place d.f_fill_place fd
  mg_fill_place : mg "fill_place" = some (.ref d.f_fill_place)
  fn_answer_card : ∃ fd, Fun K "answer_card" "answer_card" s_answer_card d.f_answer_card fd
  mg_answer_card : mg "answer_card" = some (.ref d.f_answer_card)
  fn_Game_init : ∃ fd, Fun K "__init__" "Game.__init__" s_Game_init d.f_Game_init fd
  fn_Game_sets_over : ∃ fd, Fun K "sets_over" "Game.sets_over" s_Game_sets_over d.f_Game_sets_over fd
  fn_Game_set_number : ∃ fd, Fun K "set_number" "Game.set_number" s_Game_set_number d.f_Game_set_number fd
  fn_Game_can_go_on : ∃ fd, Fun K "can_go_on" "Game.can_go_on" s_Game_can_go_on d.f_Game_can_go_on fd
  fn_Game_how_it_stands : ∃ fd, Fun K "how_it_stands" "Game.how_it_stands" s_Game_how_it_stands d.f_Game_how_it_stands fd
  fn_Game_start_set : ∃ fd, Fun K "start_set" "Game.start_set" s_Game_start_set d.f_Game_start_set fd
  fn_Game_win_rally : ∃ fd, Fun K "win_rally" "Game.win_rally" s_Game_win_rally d.f_Game_win_rally fd
  fn_Game_win_point : ∃ fd, Fun K "win_point" "Game.win_point" s_Game_win_point d.f_Game_win_point fd
  fn_Game_points_to_win : ∃ fd, Fun K "points_to_win" "Game.points_to_win" s_Game_points_to_win d.f_Game_points_to_win fd
  fn_Game_has_enough : ∃ fd, Fun K "has_enough" "Game.has_enough" s_Game_has_enough d.f_Game_has_enough fd
  fn_Game_lose_set : ∃ fd, Fun K "lose_set" "Game.lose_set" s_Game_lose_set d.f_Game_lose_set fd
  fn_Game_end_set : ∃ fd, Fun K "end_set" "Game.end_set" s_Game_end_set d.f_Game_end_set fd
  fn_Book_init : ∃ fd, Fun K "__init__" "Book.__init__" s_Book_init d.f_Book_init fd
  fn_good_players : ∃ fd, Fun K "good_players" "good_players" s_good_players d.f_good_players fd
  mg_good_players : mg "good_players" = some (.ref d.f_good_players)
  fn_good_liberos : ∃ fd, Fun K "good_liberos" "good_liberos" s_good_liberos d.f_good_liberos fd
  mg_good_liberos : mg "good_liberos" = some (.ref d.f_good_liberos)
  fn_answer_begin : ∃ fd, Fun K "answer_begin" "answer_begin" s_answer_begin d.f_answer_begin fd
  mg_answer_begin : mg "answer_begin" = some (.ref d.f_answer_begin)
  fn_between_sets_refusal : ∃ fd, Fun K "between_sets_refusal" "between_sets_refusal" s_between_sets_refusal d.f_between_sets_refusal fd
  mg_between_sets_refusal : mg "between_sets_refusal" = some (.ref d.f_between_sets_refusal)
  fn_lineup_refusal : ∃ fd, Fun K "lineup_refusal" "lineup_refusal" s_lineup_refusal d.f_lineup_refusal fd
  mg_lineup_refusal : mg "lineup_refusal" = some (.ref d.f_lineup_refusal)
  fn_answer_lineup : ∃ fd, Fun K "answer_lineup" "answer_lineup" s_answer_lineup d.f_answer_lineup fd
  mg_answer_lineup : mg "answer_lineup" = some (.ref d.f_answer_lineup)
  fn_start_refusal : ∃ fd, Fun K "start_refusal" "start_refusal" s_start_refusal d.f_start_refusal fd
  mg_start_refusal : mg "start_refusal" = some (.ref d.f_start_refusal)
  fn_answer_start : ∃ fd, Fun K "answer_start" "answer_start" s_answer_start d.f_answer_start fd
  mg_answer_start : mg "answer_start" = some (.ref d.f_answer_start)
  fn_answer_now : ∃ fd, Fun K "answer_now" "answer_now" s_answer_now d.f_answer_now fd
  mg_answer_now : mg "answer_now" = some (.ref d.f_answer_now)
  fn_answer_court : ∃ fd, Fun K "answer_court" "answer_court" s_answer_court d.f_answer_court fd
  mg_answer_court : mg "answer_court" = some (.ref d.f_answer_court)
  fn_answer_sheet : ∃ fd, Fun K "answer_sheet" "answer_sheet" s_answer_sheet d.f_answer_sheet fd
  mg_answer_sheet : mg "answer_sheet" = some (.ref d.f_answer_sheet)
  fn_answer_sets : ∃ fd, Fun K "answer_sets" "answer_sets" s_answer_sets d.f_answer_sets fd
  mg_answer_sets : mg "answer_sets" = some (.ref d.f_answer_sets)
  fn_Reader_init : ∃ fd, Fun K "__init__" "Reader.__init__" s_Reader_init d.f_Reader_init fd
  fn_Reader_at_end : ∃ fd, Fun K "at_end" "Reader.at_end" s_Reader_at_end d.f_Reader_at_end fd
  fn_Reader_take : ∃ fd, Fun K "take" "Reader.take" s_Reader_take d.f_Reader_take fd
  fn_Reader_take_one : ∃ fd, Fun K "take_one" "Reader.take_one" s_Reader_take_one d.f_Reader_take_one fd
  fn_Reader_take_row : ∃ fd, Fun K "take_row" "Reader.take_row" s_Reader_take_row d.f_Reader_take_row fd
  fn_answer_opening : ∃ fd, Fun K "answer_opening" "answer_opening" s_answer_opening d.f_answer_opening fd
  mg_answer_opening : mg "answer_opening" = some (.ref d.f_answer_opening)
  fn_answer_play : ∃ fd, Fun K "answer_play" "answer_play" s_answer_play d.f_answer_play fd
  mg_answer_play : mg "answer_play" = some (.ref d.f_answer_play)
  fn_answer_view : ∃ fd, Fun K "answer_view" "answer_view" s_answer_view d.f_answer_view fd
  mg_answer_view : mg "answer_view" = some (.ref d.f_answer_view)
  fn_answer_call : ∃ fd, Fun K "answer_call" "answer_call" s_answer_call d.f_answer_call fd
  mg_answer_call : mg "answer_call" = some (.ref d.f_answer_call)
  fn_answers : ∃ fd, Fun K "answers" "answers" s_answers d.f_answers fd
  mg_answers : mg "answers" = some (.ref d.f_answers)
  k_NOBODY : ∃ t, mg "NOBODY" = some (.int (-1) t)
  k_STARTER_NEVER_CHANGED : ∃ t, mg "STARTER_NEVER_CHANGED" = some (.int (0) t)
  k_SECOND_PLAYS : ∃ t, mg "SECOND_PLAYS" = some (.int (1) t)
  k_STARTER_PLAYS_AGAIN : ∃ t, mg "STARTER_PLAYS_AGAIN" = some (.int (2) t)
  k_MOST_SUBSTITUTIONS : ∃ t, mg "MOST_SUBSTITUTIONS" = some (.int (6) t)
  k_MOST_TIMEOUTS : ∃ t, mg "MOST_TIMEOUTS" = some (.int (2) t)
  k_POINT : ∃ t, mg "POINT" = some (.int (0) t)
  k_OUT_FOR_SET : ∃ t, mg "OUT_FOR_SET" = some (.int (1) t)
  k_OUT_FOR_MATCH : ∃ t, mg "OUT_FOR_MATCH" = some (.int (2) t)
  k_NOBODY_TOLD : ∃ t, mg "NOBODY_TOLD" = some (.int (0) t)
  k_NOBODY_LEAVES : ∃ t, mg "NOBODY_LEAVES" = some (.int (0) t)
  k_SOMEBODY_COMES : ∃ t, mg "SOMEBODY_COMES" = some (.int (1) t)
  k_SET_LOST : ∃ t, mg "SET_LOST" = some (.int (2) t)
  k_SETS_TO_WIN : ∃ t, mg "SETS_TO_WIN" = some (.int (3) t)
  k_LAST_SET : ∃ t, mg "LAST_SET" = some (.int (5) t)
  k_BEGIN : ∃ t, mg "BEGIN" = some (.int (1) t)
  k_LINEUP : ∃ t, mg "LINEUP" = some (.int (2) t)
  k_START : ∃ t, mg "START" = some (.int (3) t)
  k_RALLY : ∃ t, mg "RALLY" = some (.int (4) t)
  k_SERVE : ∃ t, mg "SERVE" = some (.int (5) t)
  k_SUB : ∃ t, mg "SUB" = some (.int (6) t)
  k_LIBERO : ∃ t, mg "LIBERO" = some (.int (7) t)
  k_TIMEOUT : ∃ t, mg "TIMEOUT" = some (.int (8) t)
  k_CARD : ∃ t, mg "CARD" = some (.int (9) t)
  k_NOW : ∃ t, mg "NOW" = some (.int (10) t)
  k_COURT : ∃ t, mg "COURT" = some (.int (11) t)
  k_SHEET : ∃ t, mg "SHEET" = some (.int (12) t)
  mg_WHOLE_NUMBERS : mg "WHOLE_NUMBERS" = some (.ref d.t_WHOLE_NUMBERS)
  tp_WHOLE_NUMBERS : V6.KTup K d.t_WHOLE_NUMBERS [.int 0, .int 0, .int 1, .int 1, .int 1, .int 2, .int 3, .int 3, .int 1, .int 4, .int 0, .int 1, .int 1, .int 0]
  mg_ROWS : mg "ROWS" = some (.ref d.t_ROWS)
  tp_ROWS : V6.KTup K d.t_ROWS [.int 0, .int 4, .int 1, .int 0, .int 0, .int 0, .int 0, .int 0, .int 0, .int 0, .int 0, .int 0, .int 0, .int 0]
  no_all : mg "all" = none
  no_len : mg "len" = none
  no_max : mg "max" = none
  no_range : mg "range" = none
  no_set : mg "set" = none
  no_sum : mg "sum" = none
end Vs
end
section
set_option Elab.async false
set_option maxRecDepth 100000
set_option maxHeartbeats 0
namespace Vs
open PySem PySem.W PyProof.Rows
namespace Hd
abbrev pg : Program := PySem.Challenge.pw_volleysheet_s01_answers
def bodyL : List Stmt := behindTheImports pg
def env0 : Env := { scope := pg.main.scope, locals := mainNs, globals := mainNs, cells := [], code := .ref 13, frame := some 14 }
def c0 : Code := .body bodyL env0
def p0 : Pos := ⟨0, 0, 0, 0⟩
def pE : Pos := ⟨467, 0, 478, 15⟩
def ann0 : Option Value := some (.ref 6)
/-! words for things of the heap -/
def o11 : Obj := { cls := .type "tuple", data := .seq #[] }
def o12 : Obj := { cls := .none, data := .fields #[] }
def o13 : Obj := { cls := .type "code", data := .fields #[.str "<module>" 182, .str "<module>" 183, .str "/claim/cut.py" 184, .int 1 0, .int 0 0, .int 0 0, .int 0 0, .int 0 0, .ref 11, .bool false, .int 181 0, .ref 12, .none, .none, .none, .none, .int 185 0, .int 1 0, .str "/claim/cut.py" 186] }
def o14 : Obj := { cls := .type "frame", slots := #[some (.ref 13), some (.ref 3), some (.ref 3), none, some (.str "__main__" 164), none, some (.ref 0)] }
noncomputable def objs0 (P : Params) : List Obj := [boot_o_0 P, boot_o_1 P, boot_o_2 P, boot_o_3 P, boot_o_4 P, boot_o_5 P, boot_o_6 P, boot_o_7 P, boot_o_8 P, boot_o_9 P, boot_o_10 P, o11, o12, o13, o14]
def vS (x : Str) (n : Tok) : Value := .str x n
def vI (i : Int) : Value := .int i 0
def vR (a : Addr) : Value := .ref a
def vN : Value := .none
def dE (P : Params) (x : Str) (t : Tok) (v : Value) : DictEntry := ⟨PyData.keyHash P x, .str x t, v⟩
def dF (x q : Str) (s : Stmt) (doc pm : Value) (an : Option Addr) (cd ct : Value) : Data := .func (PySem.W.fnOf x q (L2.defArgs s) (L2.defBody s) (L2.defScope s) .none .none doc pm an cd ct)
def t0 : Obj := ⟨.type "tuple", none, .seq #[], #[]⟩
def f0 : Obj := ⟨.none, none, .fields #[], #[]⟩
def tS (l : List (Str × Tok)) : Obj := ⟨.type "tuple", none, .seq (Array.mk (l.map fun x => .str x.1 x.2)), #[]⟩
def g0 (x q : Str) (s : Stmt) : Obj := ⟨.none, none, .func { name := x, qualname := q, params := L2.defArgs s, body := .stmts (L2.defBody s), scope := L2.defScope s, globals := 0, closure := [], defaults := .none, kwdefaults := .none }, #[]⟩
def fn (d : Data) : Obj := ⟨.type "function", none, d, #[]⟩
def cd (x : Str) (a : Tok) (q : Str) (b c : Tok) (l n f : Int) (r1 r2 : Addr) (v1 v2 : Value) (r3 : Addr) (k m : Int) (e : Tok) : Obj := ⟨.type "code", none, .fields #[.str x a, .str q b, .str "/claim/cut.py" c, vI l, vI n, vI 0, vI 0, vI f, vR r1, .bool true, vI 181, vR r2, .none, v1, v2, vR r3, vI k, vI m, .str "/claim/cut.py" e], #[]⟩
def treeOf : List Obj → Nat → BT → BT
  | [], _, t => t
  | o :: r, n, t => treeOf r (n + 1) (t.ins n o)
noncomputable def SB (w : World) (os : OsState) : SharedT := ⟨treeOf (objs0 w.params) 0 .nil, 15, (boot_heap w.params).life, Array.mk [], boot_drawn, 187, os⟩
theorem h_pre : ∀ (w : World) (os : OsState), topGo treeTable pg w 11 ann0 12 ⟨boot_heap w.params, Array.mk [], boot_drawn, boot_toks, os⟩ (topStub pg) = some ((SB w os).abs, ⟨denote treeTable c0, c0, p0, [topFrame p0]⟩) := fun w os => by kernel_rfl
theorem h_block : ∀ (w : World) (os : OsState), segRun treeTable pg w 11 ann0 1 1 (SB w os).abs (blockOf bodyL env0 c0 p0 [topFrame p0]) = some (.next, (SB w os).abs, c0, p0) := fun w os => by kernel_rfl
def keepL : List Nat := [1,2,3,4,6,7,8,9,10,11,13,14,15,16,17,18,19,20,21,22,23,24,25,26,27,29,30,31,32,33,34,35,36,37,38,39,40,42,43,44,45,47,48,49,50,51,52,53,54,56,57,58,59,61,62,63,64,65,66,67,68,69,70,71,72,73,74,75,76,77,78,79,80]
def qv : Program := view pg keepL
abbrev Xt0 : Shared → Bool := fun s => xlAt qv [] s && recOk [] s
noncomputable def fin0 {α : Type} (Yf : Shared → α) (w : World) (S : SharedT) := (topRun treeTable pg w 11 ann0 2 S.abs ⟨doneF .next, c0, pE, [topFrame p0]⟩).map fun r =>
  (staticsOk (importedModules pg.main.body) (boot_heap w.params) r.heap && namesBound pg r.heap && gensDone r && laidKept (boot_heap w.params) r.heap, openSeen qv [] (importedModules pg.main.body) Xt0 true r, Yf r)
noncomputable def objsM (P : Params) : List Obj := [
boot_o_0 P,
  boot_o_1 P,
  boot_o_2 P,
  ⟨(Value.type "dict"), none, (.dict #[dE P "__name__" 165 (vS "volleysheet.game" 630), dE P "__doc__" 166 vN, dE P "__package__" 167 vN, dE P "__loader__" 168 (Value.builtin "__main__.__loader__#opaque"), dE P "__spec__" 169 vN, dE P "__annotations__" 170 (vR 6), dE P "__builtins__" 171 (vR 4), dE P "__file__" 173 (vS "/claim/cut.py" 172), dE P "__cached__" 174 vN, dE P "is_team" 195 (vR 21), dE P "is_shirt" 202 (vR 28), dE P "are_shirts" 208 (vR 33), dE P "all_different" 215 (vR 40), dE P "NOBODY" 220 (Value.int (-1) 219), dE P "STARTER_NEVER_CHANGED" 222 (Value.int 0 221), dE P "SECOND_PLAYS" 224 (Value.int 1 223), dE P "STARTER_PLAYS_AGAIN" 226 (Value.int 2 225), dE P "Place" 294 (vR 92), dE P "Side" 421 (vR 191), dE P "MOST_SUBSTITUTIONS" 425 (Value.int 6 424), dE P "MOST_TIMEOUTS" 427 (Value.int 2 426), dE P "play_refusal" 436 (vR 202), dE P "libero_may_stand" 445 (vR 209), dE P "liberos_stand_well" 454 (vR 216), dE P "answer_rally" 463 (vR 223), dE P "answer_serve" 473 (vR 230), dE P "change_refusal" 484 (vR 237), dE P "may_replace" 493 (vR 244), dE P "replace_owner" 502 (vR 251), dE P "answer_sub" 515 (vR 258), dE P "owner_may_return" 524 (vR 265), dE P "libero_may_come" 535 (vR 272), dE P "answer_libero" 549 (vR 279), dE P "answer_timeout" 559 (vR 286), dE P "POINT" 563 (Value.int 0 562), dE P "OUT_FOR_SET" 565 (Value.int 1 564), dE P "OUT_FOR_MATCH" 567 (Value.int 2 566), dE P "NOBODY_TOLD" 569 (Value.int 0 568), dE P "NOBODY_LEAVES" 571 (Value.int 0 570), dE P "SOMEBODY_COMES" 573 (Value.int 1 572), dE P "SET_LOST" 575 (Value.int 2 574), dE P "good_card" 583 (vR 293), dE P "card_refusal" 596 (vR 300), dE P "put_out" 605 (vR 307), dE P "fill_place" 615 (vR 314), dE P "answer_card" 629 (vR 321), dE P "SETS_TO_WIN" 633 (Value.int 3 632), dE P "LAST_SET" 635 (Value.int 5 634)] 48), #[]⟩,
  boot_o_4 P,
  boot_o_5 P,
  boot_o_6 P,
  boot_o_7 P,
  boot_o_8 P,
  boot_o_9 P,
  boot_o_10 P,
  t0,
  ⟨vN, none, (.fields #[(vI 2), (vI 0), (vR 20), (vI 4), (vI 0), (vR 27), (vI 6), (vI 0), (vR 32), (vI 8), (vI 0), (vR 39), (vI 15), (vI 0), (vR 46), (vI 45), (vI 0), (vR 102), (vI 112), (vI 0), (vR 201), (vI 118), (vI 0), (vR 208), (vI 122), (vI 0), (vR 215), (vI 128), (vI 0), (vR 222), (vI 136), (vI 0), (vR 229), (vI 146), (vI 0), (vR 236), (vI 153), (vI 0), (vR 243), (vI 159), (vI 0), (vR 250), (vI 162), (vI 0), (vR 257), (vI 172), (vI 0), (vR 264), (vI 174), (vI 0), (vR 271), (vI 183), (vI 0), (vR 278), (vI 198), (vI 0), (vR 285), (vI 215), (vI 0), (vR 292), (vI 217), (vI 0), (vR 299), (vI 227), (vI 0), (vR 306), (vI 232), (vI 0), (vR 313), (vI 244), (vI 0), (vR 320)]), #[]⟩,
  ⟨(Value.type "code"), none, (.fields #[(vS "<module>" 182), (vS "<module>" 183), (vS "/claim/cut.py" 184), (vI 1), (vI 0), (vI 0), (vI 0), (vI 0), (vR 11), (Value.bool false), (vI 181), (vR 12), vN, vN, vN, vN, (vI 185), (vI 1), (vS "/claim/cut.py" 186)]), #[]⟩,
  ⟨(Value.type "frame"), none, .plain, #[some (vR 13), some (vR 3), some (vR 3), none, some (vS "__main__" 164), none, some (vR 0)]⟩,
  t0,
  f0,
  tS [("number", 192)],
  t0,
  g0 "is_team" "is_team" s_is_team,
  cd "is_team" 189 "is_team" 190 191 2 1 3 15 16 (vR 17) (vR 18) 19 193 2 194,
  fn (dF "is_team" "is_team" s_is_team vN (vS "volleysheet.checks" 187) none (vR 20) vN),
  t0,
  f0,
  tS [("number", 199)],
  t0,
  g0 "is_shirt" "is_shirt" s_is_shirt,
  cd "is_shirt" 196 "is_shirt" 197 198 4 1 3 22 23 (vR 24) (vR 25) 26 200 4 201,
  fn (dF "is_shirt" "is_shirt" s_is_shirt vN (vS "volleysheet.checks" 187) none (vR 27) vN),
  t0,
  f0,
  g0 "are_shirts" "are_shirts" s_are_shirts,
  cd "are_shirts" 203 "are_shirts" 204 205 6 1 3 29 30 vN vN 31 206 6 207,
  fn (dF "are_shirts" "are_shirts" s_are_shirts vN (vS "volleysheet.checks" 187) none (vR 32) vN),
  t0,
  f0,
  tS [("numbers", 212)],
  t0,
  g0 "all_different" "all_different" s_all_different,
  cd "all_different" 209 "all_different" 210 211 8 1 3 34 35 (vR 36) (vR 37) 38 213 8 214,
  fn (dF "all_different" "all_different" s_all_different vN (vS "volleysheet.checks" 187) none (vR 39) vN),
  t0,
  ⟨(Value.type "builtin_function_or_method"), none, (.fields #[(Value.builtin "type.__prepare__"), (Value.type "type")]), #[]⟩,
  ⟨(Value.type "dict"), none, (.dict #[dE P "__module__" 234 (vS "volleysheet.sides" 216), dE P "__qualname__" 236 (vS "Place" 235), dE P "__firstlineno__" 238 (Value.int 15 237), dE P "__init__" 246 (vR 54), dE P "owner" 253 (vR 61), dE P "has_libero" 260 (vR 68), dE P "on_court" 267 (vR 75), dE P "send_libero_off" 274 (vR 82), dE P "substitute" 282 (vR 89), dE P "__static_attributes__" 287 (vR 90)] 10), #[]⟩,
  t0,
  ⟨vN, none, (.fields #[(vI 17), (vI 4), (vR 53), (vI 23), (vI 4), (vR 60), (vI 28), (vI 4), (vR 67), (vI 31), (vI 4), (vR 74), (vI 36), (vI 4), (vR 81), (vI 39), (vI 4), (vR 88)]), #[]⟩,
  ⟨(Value.type "code"), none, (.fields #[(vS "Place" 229), (vS "Place" 230), (vS "/claim/cut.py" 231), (vI 15), (vI 0), (vI 0), (vI 0), (vI 0), (vR 44), (Value.bool false), (vI 181), (vR 45), vN, vN, vN, vN, (vI 232), (vI 15), (vS "/claim/cut.py" 233)]), #[]⟩,
  ⟨(Value.type "frame"), none, .plain, #[some (vR 46), some (vR 3), some (vR 43), none, some (vS "volleysheet.sides" 216), none, some (vR 0)]⟩,
  t0,
  f0,
  tS [("self", 242), ("starter", 243)],
  t0,
  g0 "__init__" "Place.__init__" s_Place_init,
  cd "__init__" 239 "Place.__init__" 240 241 17 2 3 48 49 (vR 50) (vR 51) 52 244 17 245,
  fn (dF "__init__" "Place.__init__" s_Place_init vN (vS "volleysheet.sides" 216) none (vR 53) vN),
  t0,
  f0,
  tS [("self", 250)],
  t0,
  g0 "owner" "Place.owner" s_Place_owner,
  cd "owner" 247 "Place.owner" 248 249 23 1 3 55 56 (vR 57) (vR 58) 59 251 23 252,
  fn (dF "owner" "Place.owner" s_Place_owner vN (vS "volleysheet.sides" 216) none (vR 60) vN),
  t0,
  f0,
  tS [("self", 257)],
  t0,
  g0 "has_libero" "Place.has_libero" s_Place_has_libero,
  cd "has_libero" 254 "Place.has_libero" 255 256 28 1 3 62 63 (vR 64) (vR 65) 66 258 28 259,
  fn (dF "has_libero" "Place.has_libero" s_Place_has_libero vN (vS "volleysheet.sides" 216) none (vR 67) vN),
  t0,
  f0,
  tS [("self", 264)],
  t0,
  g0 "on_court" "Place.on_court" s_Place_on_court,
  cd "on_court" 261 "Place.on_court" 262 263 31 1 3 69 70 (vR 71) (vR 72) 73 265 31 266,
  fn (dF "on_court" "Place.on_court" s_Place_on_court vN (vS "volleysheet.sides" 216) none (vR 74) vN),
  t0,
  f0,
  tS [("self", 271)],
  t0,
  g0 "send_libero_off" "Place.send_libero_off" s_Place_send_libero_off,
  cd "send_libero_off" 268 "Place.send_libero_off" 269 270 36 1 3 76 77 (vR 78) (vR 79) 80 272 36 273,
  fn (dF "send_libero_off" "Place.send_libero_off" s_Place_send_libero_off vN (vS "volleysheet.sides" 216) none (vR 81) vN),
  t0,
  f0,
  tS [("self", 278), ("coming", 279)],
  t0,
  g0 "substitute" "Place.substitute" s_Place_substitute,
  cd "substitute" 275 "Place.substitute" 276 277 39 2 3 83 84 (vR 85) (vR 86) 87 280 39 281,
  fn (dF "substitute" "Place.substitute" s_Place_substitute vN (vS "volleysheet.sides" 216) none (vR 88) vN),
  tS [("libero", 283), ("second", 284), ("stage", 285), ("starter", 286)],
  ⟨(Value.type "dict"), none, (.dict #[dE P "__module__" 234 (vS "volleysheet.sides" 216), dE P "__firstlineno__" 238 (Value.int 15 237), dE P "__init__" 246 (vR 54), dE P "owner" 253 (vR 61), dE P "has_libero" 260 (vR 68), dE P "on_court" 267 (vR 75), dE P "send_libero_off" 274 (vR 82), dE P "substitute" 282 (vR 89), dE P "__static_attributes__" 287 (vR 90), dE P "__dict__" 289 (vR 93), dE P "__weakref__" 291 (vR 94), dE P "__doc__" 292 vN] 4), #[]⟩,
  ⟨(Value.type "type"), none, .cls { name := "Place", bases := [.type "object"], mro := [.ref 92, .type "object"], ns := 91, qualname := "Place" }, #[none, none, some (vS "Place" 227), some (vS "Place" 235), some (Value.builtin "object.__new__"), some (Value.bool true)]⟩,
  ⟨(Value.type "getset_descriptor"), none, (.fields #[(vS "__dict__" 288), (vR 92), (Value.builtin "function.__dict__"), (Value.builtin "function.__dict__#set")]), #[]⟩,
  ⟨(Value.type "getset_descriptor"), none, (.fields #[(vS "__weakref__" 290), (vR 92), (Value.builtin "ExceptionGroup.__weakref__"), vN]), #[]⟩,
  ⟨(Value.type "super"), none, (.fields #[(vR 92), (vR 92), (vR 92)]), #[]⟩,
  ⟨(Value.type "builtin_function_or_method"), none, (.fields #[(Value.builtin "object.__init_subclass__"), (vR 92)]), #[]⟩,
  t0,
  ⟨(Value.type "builtin_function_or_method"), none, (.fields #[(Value.builtin "type.__prepare__"), (Value.type "type")]), #[]⟩,
  ⟨(Value.type "dict"), none, (.dict #[dE P "__module__" 302 (vS "volleysheet.sides" 216), dE P "__qualname__" 304 (vS "Side" 303), dE P "__firstlineno__" 306 (Value.int 45 305), dE P "__init__" 315 (vR 110), dE P "take_lineup" 321 (vR 115), dE P "has_lineup" 328 (vR 122), dE P "leave_set" 335 (vR 129), dE P "go_on_by_one" 342 (vR 136), dE P "place_at" 350 (vR 143), dE P "court" 356 (vR 148), dE P "place_of" 365 (vR 155), dE P "position_of" 374 (vR 162), dE P "libero_position" 382 (vR 169), dE P "is_out" 390 (vR 176), dE P "may_begin" 398 (vR 183), dE P "is_new" 404 (vR 188), dE P "__static_attributes__" 414 (vR 189)] 17), #[]⟩,
  t0,
  ⟨vN, none, (.fields #[(vI 47), (vI 4), (vR 109), (vI 58), (vI 4), (vR 114), (vI 61), (vI 4), (vR 121), (vI 64), (vI 4), (vR 128), (vI 72), (vI 4), (vR 135), (vI 75), (vI 4), (vR 142), (vI 78), (vI 4), (vR 147), (vI 81), (vI 4), (vR 154), (vI 87), (vI 4), (vR 161), (vI 93), (vI 4), (vR 168), (vI 99), (vI 4), (vR 175), (vI 102), (vI 4), (vR 182), (vI 105), (vI 4), (vR 187)]), #[]⟩,
  ⟨(Value.type "code"), none, (.fields #[(vS "Side" 297), (vS "Side" 298), (vS "/claim/cut.py" 299), (vI 45), (vI 0), (vI 0), (vI 0), (vI 0), (vR 100), (Value.bool false), (vI 181), (vR 101), vN, vN, vN, vN, (vI 300), (vI 45), (vS "/claim/cut.py" 301)]), #[]⟩,
  ⟨(Value.type "frame"), none, .plain, #[some (vR 102), some (vR 3), some (vR 99), none, some (vS "volleysheet.sides" 216), none, some (vR 0)]⟩,
  t0,
  f0,
  tS [("self", 310), ("players", 311), ("liberos", 312)],
  t0,
  g0 "__init__" "Side.__init__" s_Side_init,
  cd "__init__" 307 "Side.__init__" 308 309 47 3 3 104 105 (vR 106) (vR 107) 108 313 47 314,
  fn (dF "__init__" "Side.__init__" s_Side_init vN (vS "volleysheet.sides" 216) none (vR 109) vN),
  t0,
  f0,
  g0 "take_lineup" "Side.take_lineup" s_Side_take_lineup,
  cd "take_lineup" 316 "Side.take_lineup" 317 318 58 2 3 111 112 vN vN 113 319 58 320,
  fn (dF "take_lineup" "Side.take_lineup" s_Side_take_lineup vN (vS "volleysheet.sides" 216) none (vR 114) vN),
  t0,
  f0,
  tS [("self", 325)],
  t0,
  g0 "has_lineup" "Side.has_lineup" s_Side_has_lineup,
  cd "has_lineup" 322 "Side.has_lineup" 323 324 61 1 3 116 117 (vR 118) (vR 119) 120 326 61 327,
  fn (dF "has_lineup" "Side.has_lineup" s_Side_has_lineup vN (vS "volleysheet.sides" 216) none (vR 121) vN),
  t0,
  f0,
  tS [("self", 332)],
  t0,
  g0 "leave_set" "Side.leave_set" s_Side_leave_set,
  cd "leave_set" 329 "Side.leave_set" 330 331 64 1 3 123 124 (vR 125) (vR 126) 127 333 64 334,
  fn (dF "leave_set" "Side.leave_set" s_Side_leave_set vN (vS "volleysheet.sides" 216) none (vR 128) vN),
  t0,
  f0,
  tS [("self", 339)],
  t0,
  g0 "go_on_by_one" "Side.go_on_by_one" s_Side_go_on_by_one,
  cd "go_on_by_one" 336 "Side.go_on_by_one" 337 338 72 1 3 130 131 (vR 132) (vR 133) 134 340 72 341,
  fn (dF "go_on_by_one" "Side.go_on_by_one" s_Side_go_on_by_one vN (vS "volleysheet.sides" 216) none (vR 135) vN),
  t0,
  f0,
  tS [("self", 346), ("position", 347)],
  t0,
  g0 "place_at" "Side.place_at" s_Side_place_at,
  cd "place_at" 343 "Side.place_at" 344 345 75 2 3 137 138 (vR 139) (vR 140) 141 348 75 349,
  fn (dF "place_at" "Side.place_at" s_Side_place_at vN (vS "volleysheet.sides" 216) none (vR 142) vN),
  t0,
  f0,
  g0 "court" "Side.court" s_Side_court,
  cd "court" 351 "Side.court" 352 353 78 1 3 144 145 vN vN 146 354 78 355,
  fn (dF "court" "Side.court" s_Side_court vN (vS "volleysheet.sides" 216) none (vR 147) vN),
  t0,
  f0,
  tS [("self", 360), ("number", 361), ("place", 362)],
  t0,
  g0 "place_of" "Side.place_of" s_Side_place_of,
  cd "place_of" 357 "Side.place_of" 358 359 81 2 3 149 150 (vR 151) (vR 152) 153 363 81 364,
  fn (dF "place_of" "Side.place_of" s_Side_place_of vN (vS "volleysheet.sides" 216) none (vR 154) vN),
  t0,
  f0,
  tS [("self", 369), ("number", 370), ("position", 371)],
  t0,
  g0 "position_of" "Side.position_of" s_Side_position_of,
  cd "position_of" 366 "Side.position_of" 367 368 87 2 3 156 157 (vR 158) (vR 159) 160 372 87 373,
  fn (dF "position_of" "Side.position_of" s_Side_position_of vN (vS "volleysheet.sides" 216) none (vR 161) vN),
  t0,
  f0,
  tS [("self", 378), ("position", 379)],
  t0,
  g0 "libero_position" "Side.libero_position" s_Side_libero_position,
  cd "libero_position" 375 "Side.libero_position" 376 377 93 1 3 163 164 (vR 165) (vR 166) 167 380 93 381,
  fn (dF "libero_position" "Side.libero_position" s_Side_libero_position vN (vS "volleysheet.sides" 216) none (vR 168) vN),
  t0,
  f0,
  tS [("self", 386), ("number", 387)],
  t0,
  g0 "is_out" "Side.is_out" s_Side_is_out,
  cd "is_out" 383 "Side.is_out" 384 385 99 2 3 170 171 (vR 172) (vR 173) 174 388 99 389,
  fn (dF "is_out" "Side.is_out" s_Side_is_out vN (vS "volleysheet.sides" 216) none (vR 175) vN),
  t0,
  f0,
  tS [("self", 394), ("number", 395)],
  t0,
  g0 "may_begin" "Side.may_begin" s_Side_may_begin,
  cd "may_begin" 391 "Side.may_begin" 392 393 102 2 3 177 178 (vR 179) (vR 180) 181 396 102 397,
  fn (dF "may_begin" "Side.may_begin" s_Side_may_begin vN (vS "volleysheet.sides" 216) none (vR 182) vN),
  t0,
  f0,
  g0 "is_new" "Side.is_new" s_Side_is_new,
  cd "is_new" 399 "Side.is_new" 400 401 105 2 3 184 185 vN vN 186 402 105 403,
  fn (dF "is_new" "Side.is_new" s_Side_is_new vN (vS "volleysheet.sides" 216) none (vR 187) vN),
  tS [("libero_moved", 405), ("liberos", 406), ("out_of_match", 407), ("out_of_set", 408), ("places", 409), ("players", 410), ("substitutions", 411), ("timeouts", 412), ("turns", 413)],
  ⟨(Value.type "dict"), none, (.dict #[dE P "__module__" 302 (vS "volleysheet.sides" 216), dE P "__firstlineno__" 306 (Value.int 45 305), dE P "__init__" 315 (vR 110), dE P "take_lineup" 321 (vR 115), dE P "has_lineup" 328 (vR 122), dE P "leave_set" 335 (vR 129), dE P "go_on_by_one" 342 (vR 136), dE P "place_at" 350 (vR 143), dE P "court" 356 (vR 148), dE P "place_of" 365 (vR 155), dE P "position_of" 374 (vR 162), dE P "libero_position" 382 (vR 169), dE P "is_out" 390 (vR 176), dE P "may_begin" 398 (vR 183), dE P "is_new" 404 (vR 188), dE P "__static_attributes__" 414 (vR 189), dE P "__dict__" 416 (vR 192), dE P "__weakref__" 418 (vR 193), dE P "__doc__" 419 vN] 4), #[]⟩,
  ⟨(Value.type "type"), none, .cls { name := "Side", bases := [.type "object"], mro := [.ref 191, .type "object"], ns := 190, qualname := "Side" }, #[none, none, some (vS "Side" 295), some (vS "Side" 303), some (Value.builtin "object.__new__"), some (Value.bool true)]⟩,
  ⟨(Value.type "getset_descriptor"), none, (.fields #[(vS "__dict__" 415), (vR 191), (Value.builtin "function.__dict__"), (Value.builtin "function.__dict__#set")]), #[]⟩,
  ⟨(Value.type "getset_descriptor"), none, (.fields #[(vS "__weakref__" 417), (vR 191), (Value.builtin "ExceptionGroup.__weakref__"), vN]), #[]⟩,
  ⟨(Value.type "super"), none, (.fields #[(vR 191), (vR 191), (vR 191)]), #[]⟩,
  ⟨(Value.type "builtin_function_or_method"), none, (.fields #[(Value.builtin "object.__init_subclass__"), (vR 191)]), #[]⟩,
  t0,
  f0,
  tS [("game", 431), ("team", 432), ("shirts", 433)],
  t0,
  g0 "play_refusal" "play_refusal" s_play_refusal,
  cd "play_refusal" 428 "play_refusal" 429 430 112 3 3 196 197 (vR 198) (vR 199) 200 434 112 435,
  fn (dF "play_refusal" "play_refusal" s_play_refusal vN (vS "volleysheet.play" 422) none (vR 201) vN),
  t0,
  f0,
  tS [("game", 440), ("team", 441), ("position", 442)],
  t0,
  g0 "libero_may_stand" "libero_may_stand" s_libero_may_stand,
  cd "libero_may_stand" 437 "libero_may_stand" 438 439 118 3 3 203 204 (vR 205) (vR 206) 207 443 118 444,
  fn (dF "libero_may_stand" "libero_may_stand" s_libero_may_stand vN (vS "volleysheet.play" 422) none (vR 208) vN),
  t0,
  f0,
  tS [("game", 449), ("team", 450), ("position", 451)],
  t0,
  g0 "liberos_stand_well" "liberos_stand_well" s_liberos_stand_well,
  cd "liberos_stand_well" 446 "liberos_stand_well" 447 448 122 1 3 210 211 (vR 212) (vR 213) 214 452 122 453,
  fn (dF "liberos_stand_well" "liberos_stand_well" s_liberos_stand_well vN (vS "volleysheet.play" 422) none (vR 215) vN),
  t0,
  f0,
  tS [("game", 458), ("team", 459), ("refusal", 460)],
  t0,
  g0 "answer_rally" "answer_rally" s_answer_rally,
  cd "answer_rally" 455 "answer_rally" 456 457 128 2 3 217 218 (vR 219) (vR 220) 221 461 128 462,
  fn (dF "answer_rally" "answer_rally" s_answer_rally vN (vS "volleysheet.play" 422) none (vR 222) vN),
  t0,
  f0,
  tS [("game", 467), ("team", 468), ("player", 469), ("refusal", 470)],
  t0,
  g0 "answer_serve" "answer_serve" s_answer_serve,
  cd "answer_serve" 464 "answer_serve" 465 466 136 3 3 224 225 (vR 226) (vR 227) 228 471 136 472,
  fn (dF "answer_serve" "answer_serve" s_answer_serve vN (vS "volleysheet.play" 422) none (vR 229) vN),
  t0,
  f0,
  tS [("game", 477), ("team", 478), ("leaving", 479), ("coming", 480), ("refusal", 481)],
  t0,
  g0 "change_refusal" "change_refusal" s_change_refusal,
  cd "change_refusal" 474 "change_refusal" 475 476 146 4 3 231 232 (vR 233) (vR 234) 235 482 146 483,
  fn (dF "change_refusal" "change_refusal" s_change_refusal vN (vS "volleysheet.play" 422) none (vR 236) vN),
  t0,
  f0,
  tS [("side", 488), ("place", 489), ("coming", 490)],
  t0,
  g0 "may_replace" "may_replace" s_may_replace,
  cd "may_replace" 485 "may_replace" 486 487 153 3 3 238 239 (vR 240) (vR 241) 242 491 153 492,
  fn (dF "may_replace" "may_replace" s_may_replace vN (vS "volleysheet.play" 422) none (vR 243) vN),
  t0,
  f0,
  tS [("side", 497), ("place", 498), ("coming", 499)],
  t0,
  g0 "replace_owner" "replace_owner" s_replace_owner,
  cd "replace_owner" 494 "replace_owner" 495 496 159 3 3 245 246 (vR 247) (vR 248) 249 500 159 501,
  fn (dF "replace_owner" "replace_owner" s_replace_owner vN (vS "volleysheet.play" 422) none (vR 250) vN),
  t0,
  f0,
  tS [("game", 506), ("team", 507), ("leaving", 508), ("coming", 509), ("refusal", 510), ("side", 511), ("place", 512)],
  t0,
  g0 "answer_sub" "answer_sub" s_answer_sub,
  cd "answer_sub" 503 "answer_sub" 504 505 162 4 3 252 253 (vR 254) (vR 255) 256 513 162 514,
  fn (dF "answer_sub" "answer_sub" s_answer_sub vN (vS "volleysheet.play" 422) none (vR 257) vN),
  t0,
  f0,
  tS [("side", 519), ("place", 520), ("coming", 521)],
  t0,
  g0 "owner_may_return" "owner_may_return" s_owner_may_return,
  cd "owner_may_return" 516 "owner_may_return" 517 518 172 3 3 259 260 (vR 261) (vR 262) 263 522 172 523,
  fn (dF "owner_may_return" "owner_may_return" s_owner_may_return vN (vS "volleysheet.play" 422) none (vR 264) vN),
  t0,
  f0,
  tS [("game", 528), ("team", 529), ("position", 530), ("coming", 531), ("side", 532)],
  t0,
  g0 "libero_may_come" "libero_may_come" s_libero_may_come,
  cd "libero_may_come" 525 "libero_may_come" 526 527 174 4 3 266 267 (vR 268) (vR 269) 270 533 174 534,
  fn (dF "libero_may_come" "libero_may_come" s_libero_may_come vN (vS "volleysheet.play" 422) none (vR 271) vN),
  t0,
  f0,
  tS [("game", 539), ("team", 540), ("leaving", 541), ("coming", 542), ("refusal", 543), ("side", 544), ("position", 545), ("place", 546)],
  t0,
  g0 "answer_libero" "answer_libero" s_answer_libero,
  cd "answer_libero" 536 "answer_libero" 537 538 183 4 3 273 274 (vR 275) (vR 276) 277 547 183 548,
  fn (dF "answer_libero" "answer_libero" s_answer_libero vN (vS "volleysheet.play" 422) none (vR 278) vN),
  t0,
  f0,
  tS [("game", 553), ("team", 554), ("refusal", 555), ("side", 556)],
  t0,
  g0 "answer_timeout" "answer_timeout" s_answer_timeout,
  cd "answer_timeout" 550 "answer_timeout" 551 552 198 2 3 280 281 (vR 282) (vR 283) 284 557 198 558,
  fn (dF "answer_timeout" "answer_timeout" s_answer_timeout vN (vS "volleysheet.play" 422) none (vR 285) vN),
  t0,
  f0,
  tS [("kind", 579), ("coming", 580)],
  t0,
  g0 "good_card" "good_card" s_good_card,
  cd "good_card" 576 "good_card" 577 578 215 2 3 287 288 (vR 289) (vR 290) 291 581 215 582,
  fn (dF "good_card" "good_card" s_good_card vN (vS "volleysheet.cards" 560) none (vR 292) vN),
  t0,
  f0,
  tS [("game", 587), ("team", 588), ("player", 589), ("kind", 590), ("coming", 591), ("refusal", 592), ("side", 593)],
  t0,
  g0 "card_refusal" "card_refusal" s_card_refusal,
  cd "card_refusal" 584 "card_refusal" 585 586 217 5 3 294 295 (vR 296) (vR 297) 298 594 217 595,
  fn (dF "card_refusal" "card_refusal" s_card_refusal vN (vS "volleysheet.cards" 560) none (vR 299) vN),
  t0,
  f0,
  tS [("side", 600), ("player", 601), ("kind", 602)],
  t0,
  g0 "put_out" "put_out" s_put_out,
  cd "put_out" 597 "put_out" 598 599 227 3 3 301 302 (vR 303) (vR 304) 305 603 227 604,
  fn (dF "put_out" "put_out" s_put_out vN (vS "volleysheet.cards" 560) none (vR 306) vN),
  t0,
  f0,
  tS [("side", 609), ("player", 610), ("coming", 611), ("place", 612)],
  t0,
  g0 "fill_place" "fill_place" s_fill_place,
  cd "fill_place" 606 "fill_place" 607 608 232 3 3 308 309 (vR 310) (vR 311) 312 613 232 614,
  fn (dF "fill_place" "fill_place" s_fill_place vN (vS "volleysheet.cards" 560) none (vR 313) vN),
  t0,
  f0,
  tS [("game", 619), ("team", 620), ("player", 621), ("kind", 622), ("coming", 623), ("refusal", 624), ("side", 625), ("outcome", 626)],
  t0,
  g0 "answer_card" "answer_card" s_answer_card,
  cd "answer_card" 616 "answer_card" 617 618 244 5 3 315 316 (vR 317) (vR 318) 319 627 244 628,
  fn (dF "answer_card" "answer_card" s_answer_card vN (vS "volleysheet.cards" 560) none (vR 320) vN)]
def pM : Pos := ⟨259, 0, 259, 8⟩
noncomputable def SM (w : World) (os : OsState) : SharedT := ⟨treeOf (objsM w.params) 0 .nil, 322, (boot_heap w.params).life, Array.mk [], boot_drawn, 636, os⟩
noncomputable def objsF (P : Params) : List Obj := (((objsM P).set 3 (⟨(Value.type "dict"), none, (.dict #[dE P "__name__" 165 (vS "volleysheet.match" 888), dE P "__doc__" 166 vN, dE P "__package__" 167 vN, dE P "__loader__" 168 (Value.builtin "__main__.__loader__#opaque"), dE P "__spec__" 169 vN, dE P "__annotations__" 170 (vR 6), dE P "__builtins__" 171 (vR 4), dE P "__file__" 173 (vS "/claim/cut.py" 172), dE P "__cached__" 174 vN, dE P "is_team" 195 (vR 21), dE P "is_shirt" 202 (vR 28), dE P "are_shirts" 208 (vR 33), dE P "all_different" 215 (vR 40), dE P "NOBODY" 220 (Value.int (-1) 219), dE P "STARTER_NEVER_CHANGED" 222 (Value.int 0 221), dE P "SECOND_PLAYS" 224 (Value.int 1 223), dE P "STARTER_PLAYS_AGAIN" 226 (Value.int 2 225), dE P "Place" 294 (vR 92), dE P "Side" 421 (vR 191), dE P "MOST_SUBSTITUTIONS" 425 (Value.int 6 424), dE P "MOST_TIMEOUTS" 427 (Value.int 2 426), dE P "play_refusal" 436 (vR 202), dE P "libero_may_stand" 445 (vR 209), dE P "liberos_stand_well" 454 (vR 216), dE P "answer_rally" 463 (vR 223), dE P "answer_serve" 473 (vR 230), dE P "change_refusal" 484 (vR 237), dE P "may_replace" 493 (vR 244), dE P "replace_owner" 502 (vR 251), dE P "answer_sub" 515 (vR 258), dE P "owner_may_return" 524 (vR 265), dE P "libero_may_come" 535 (vR 272), dE P "answer_libero" 549 (vR 279), dE P "answer_timeout" 559 (vR 286), dE P "POINT" 563 (Value.int 0 562), dE P "OUT_FOR_SET" 565 (Value.int 1 564), dE P "OUT_FOR_MATCH" 567 (Value.int 2 566), dE P "NOBODY_TOLD" 569 (Value.int 0 568), dE P "NOBODY_LEAVES" 571 (Value.int 0 570), dE P "SOMEBODY_COMES" 573 (Value.int 1 572), dE P "SET_LOST" 575 (Value.int 2 574), dE P "good_card" 583 (vR 293), dE P "card_refusal" 596 (vR 300), dE P "put_out" 605 (vR 307), dE P "fill_place" 615 (vR 314), dE P "answer_card" 629 (vR 321), dE P "SETS_TO_WIN" 633 (Value.int 3 632), dE P "LAST_SET" 635 (Value.int 5 634), dE P "Game" 759 (vR 415), dE P "Book" 787 (vR 436), dE P "good_players" 796 (vR 447), dE P "good_liberos" 802 (vR 452), dE P "answer_begin" 813 (vR 459), dE P "between_sets_refusal" 820 (vR 466), dE P "lineup_refusal" 826 (vR 471), dE P "answer_lineup" 836 (vR 478), dE P "start_refusal" 842 (vR 483), dE P "answer_start" 851 (vR 490), dE P "answer_now" 860 (vR 497), dE P "answer_court" 869 (vR 504), dE P "answer_sheet" 880 (vR 511), dE P "answer_sets" 887 (vR 518), dE P "BEGIN" 891 (Value.int 1 890), dE P "LINEUP" 893 (Value.int 2 892), dE P "START" 895 (Value.int 3 894), dE P "RALLY" 897 (Value.int 4 896), dE P "SERVE" 899 (Value.int 5 898), dE P "SUB" 901 (Value.int 6 900), dE P "LIBERO" 903 (Value.int 7 902), dE P "TIMEOUT" 905 (Value.int 8 904), dE P "CARD" 907 (Value.int 9 906), dE P "NOW" 909 (Value.int 10 908), dE P "COURT" 911 (Value.int 11 910), dE P "SHEET" 913 (Value.int 12 912), dE P "WHOLE_NUMBERS" 928 (vR 519), dE P "ROWS" 943 (vR 520), dE P "Reader" 1003 (vR 565), dE P "answer_opening" 1013 (vR 576), dE P "answer_play" 1022 (vR 583), dE P "answer_view" 1031 (vR 590), dE P "answer_call" 1041 (vR 597), dE P "answers" 1047 (vR 602)] 82), #[]⟩)).set 12 (⟨vN, none, (.fields #[(vI 2), (vI 0), (vR 20), (vI 4), (vI 0), (vR 27), (vI 6), (vI 0), (vR 32), (vI 8), (vI 0), (vR 39), (vI 15), (vI 0), (vR 46), (vI 45), (vI 0), (vR 102), (vI 112), (vI 0), (vR 201), (vI 118), (vI 0), (vR 208), (vI 122), (vI 0), (vR 215), (vI 128), (vI 0), (vR 222), (vI 136), (vI 0), (vR 229), (vI 146), (vI 0), (vR 236), (vI 153), (vI 0), (vR 243), (vI 159), (vI 0), (vR 250), (vI 162), (vI 0), (vR 257), (vI 172), (vI 0), (vR 264), (vI 174), (vI 0), (vR 271), (vI 183), (vI 0), (vR 278), (vI 198), (vI 0), (vR 285), (vI 215), (vI 0), (vR 292), (vI 217), (vI 0), (vR 299), (vI 227), (vI 0), (vR 306), (vI 232), (vI 0), (vR 313), (vI 244), (vI 0), (vR 320), (vI 260), (vI 0), (vR 327), (vI 321), (vI 0), (vR 425), (vI 326), (vI 0), (vR 446), (vI 328), (vI 0), (vR 451), (vI 334), (vI 0), (vR 458), (vI 341), (vI 0), (vR 465), (vI 347), (vI 0), (vR 470), (vI 358), (vI 0), (vR 477), (vI 364), (vI 0), (vR 482), (vI 375), (vI 0), (vR 489), (vI 382), (vI 0), (vR 496), (vI 384), (vI 0), (vR 503), (vI 391), (vI 0), (vR 510), (vI 399), (vI 0), (vR 517), (vI 416), (vI 0), (vR 526), (vI 435), (vI 0), (vR 575), (vI 441), (vI 0), (vR 582), (vI 453), (vI 0), (vR 589), (vI 461), (vI 0), (vR 596), (vI 467), (vI 0), (vR 601)]), #[]⟩)) ++ [
  t0,
  ⟨(Value.type "builtin_function_or_method"), none, (.fields #[(Value.builtin "type.__prepare__"), (Value.type "type")]), #[]⟩,
  ⟨(Value.type "dict"), none, (.dict #[dE P "__module__" 643 (vS "volleysheet.game" 630), dE P "__qualname__" 645 (vS "Game" 644), dE P "__firstlineno__" 647 (Value.int 260 646), dE P "__init__" 656 (vR 335), dE P "sets_over" 663 (vR 342), dE P "set_number" 670 (vR 349), dE P "can_go_on" 677 (vR 356), dE P "how_it_stands" 684 (vR 363), dE P "start_set" 692 (vR 370), dE P "win_rally" 701 (vR 377), dE P "win_point" 709 (vR 384), dE P "points_to_win" 716 (vR 391), dE P "has_enough" 725 (vR 398), dE P "lose_set" 734 (vR 405), dE P "end_set" 743 (vR 412), dE P "__static_attributes__" 752 (vR 413)] 16), #[]⟩,
  t0,
  ⟨vN, none, (.fields #[(vI 262), (vI 4), (vR 334), (vI 272), (vI 4), (vR 341), (vI 275), (vI 4), (vR 348), (vI 278), (vI 4), (vR 355), (vI 281), (vI 4), (vR 362), (vI 284), (vI 4), (vR 369), (vI 289), (vI 4), (vR 376), (vI 294), (vI 4), (vR 383), (vI 302), (vI 4), (vR 390), (vI 305), (vI 4), (vR 397), (vI 309), (vI 4), (vR 404), (vI 314), (vI 4), (vR 411)]), #[]⟩,
  ⟨(Value.type "code"), none, (.fields #[(vS "Game" 638), (vS "Game" 639), (vS "/claim/cut.py" 640), (vI 260), (vI 0), (vI 0), (vI 0), (vI 0), (vR 325), (Value.bool false), (vI 181), (vR 326), vN, vN, vN, vN, (vI 641), (vI 260), (vS "/claim/cut.py" 642)]), #[]⟩,
  ⟨(Value.type "frame"), none, .plain, #[some (vR 327), some (vR 3), some (vR 324), none, some (vS "volleysheet.game" 630), none, some (vR 0)]⟩,
  t0,
  f0,
  tS [("self", 651), ("begun", 652), ("sides", 653)],
  t0,
  g0 "__init__" "Game.__init__" s_Game_init,
  cd "__init__" 648 "Game.__init__" 649 650 262 3 3 329 330 (vR 331) (vR 332) 333 654 262 655,
  fn (dF "__init__" "Game.__init__" s_Game_init vN (vS "volleysheet.game" 630) none (vR 334) vN),
  t0,
  f0,
  tS [("self", 660)],
  t0,
  g0 "sets_over" "Game.sets_over" s_Game_sets_over,
  cd "sets_over" 657 "Game.sets_over" 658 659 272 1 3 336 337 (vR 338) (vR 339) 340 661 272 662,
  fn (dF "sets_over" "Game.sets_over" s_Game_sets_over vN (vS "volleysheet.game" 630) none (vR 341) vN),
  t0,
  f0,
  tS [("self", 667)],
  t0,
  g0 "set_number" "Game.set_number" s_Game_set_number,
  cd "set_number" 664 "Game.set_number" 665 666 275 1 3 343 344 (vR 345) (vR 346) 347 668 275 669,
  fn (dF "set_number" "Game.set_number" s_Game_set_number vN (vS "volleysheet.game" 630) none (vR 348) vN),
  t0,
  f0,
  tS [("self", 674)],
  t0,
  g0 "can_go_on" "Game.can_go_on" s_Game_can_go_on,
  cd "can_go_on" 671 "Game.can_go_on" 672 673 278 1 3 350 351 (vR 352) (vR 353) 354 675 278 676,
  fn (dF "can_go_on" "Game.can_go_on" s_Game_can_go_on vN (vS "volleysheet.game" 630) none (vR 355) vN),
  t0,
  f0,
  tS [("self", 681)],
  t0,
  g0 "how_it_stands" "Game.how_it_stands" s_Game_how_it_stands,
  cd "how_it_stands" 678 "Game.how_it_stands" 679 680 281 1 3 357 358 (vR 359) (vR 360) 361 682 281 683,
  fn (dF "how_it_stands" "Game.how_it_stands" s_Game_how_it_stands vN (vS "volleysheet.game" 630) none (vR 362) vN),
  t0,
  f0,
  tS [("self", 688), ("team", 689)],
  t0,
  g0 "start_set" "Game.start_set" s_Game_start_set,
  cd "start_set" 685 "Game.start_set" 686 687 284 2 3 364 365 (vR 366) (vR 367) 368 690 284 691,
  fn (dF "start_set" "Game.start_set" s_Game_start_set vN (vS "volleysheet.game" 630) none (vR 369) vN),
  t0,
  f0,
  tS [("self", 696), ("winner", 697), ("side", 698)],
  t0,
  g0 "win_rally" "Game.win_rally" s_Game_win_rally,
  cd "win_rally" 693 "Game.win_rally" 694 695 289 2 3 371 372 (vR 373) (vR 374) 375 699 289 700,
  fn (dF "win_rally" "Game.win_rally" s_Game_win_rally vN (vS "volleysheet.game" 630) none (vR 376) vN),
  t0,
  f0,
  tS [("self", 705), ("winner", 706)],
  t0,
  g0 "win_point" "Game.win_point" s_Game_win_point,
  cd "win_point" 702 "Game.win_point" 703 704 294 2 3 378 379 (vR 380) (vR 381) 382 707 294 708,
  fn (dF "win_point" "Game.win_point" s_Game_win_point vN (vS "volleysheet.game" 630) none (vR 383) vN),
  t0,
  f0,
  tS [("self", 713)],
  t0,
  g0 "points_to_win" "Game.points_to_win" s_Game_points_to_win,
  cd "points_to_win" 710 "Game.points_to_win" 711 712 302 1 3 385 386 (vR 387) (vR 388) 389 714 302 715,
  fn (dF "points_to_win" "Game.points_to_win" s_Game_points_to_win vN (vS "volleysheet.game" 630) none (vR 390) vN),
  t0,
  f0,
  tS [("self", 720), ("team", 721), ("lead", 722)],
  t0,
  g0 "has_enough" "Game.has_enough" s_Game_has_enough,
  cd "has_enough" 717 "Game.has_enough" 718 719 305 2 3 392 393 (vR 394) (vR 395) 396 723 305 724,
  fn (dF "has_enough" "Game.has_enough" s_Game_has_enough vN (vS "volleysheet.game" 630) none (vR 397) vN),
  t0,
  f0,
  tS [("self", 729), ("loser", 730), ("winner", 731)],
  t0,
  g0 "lose_set" "Game.lose_set" s_Game_lose_set,
  cd "lose_set" 726 "Game.lose_set" 727 728 309 2 3 399 400 (vR 401) (vR 402) 403 732 309 733,
  fn (dF "lose_set" "Game.lose_set" s_Game_lose_set vN (vS "volleysheet.game" 630) none (vR 404) vN),
  t0,
  f0,
  tS [("self", 738), ("winner", 739), ("side", 740)],
  t0,
  g0 "end_set" "Game.end_set" s_Game_end_set,
  cd "end_set" 735 "Game.end_set" 736 737 314 2 3 406 407 (vR 408) (vR 409) 410 741 314 742,
  fn (dF "end_set" "Game.end_set" s_Game_end_set vN (vS "volleysheet.game" 630) none (vR 411) vN),
  tS [("begun", 744), ("first_server", 745), ("playing", 746), ("points", 747), ("points_of_sets", 748), ("server", 749), ("sets_won", 750), ("sides", 751)],
  ⟨(Value.type "dict"), none, (.dict #[dE P "__module__" 643 (vS "volleysheet.game" 630), dE P "__firstlineno__" 647 (Value.int 260 646), dE P "__init__" 656 (vR 335), dE P "sets_over" 663 (vR 342), dE P "set_number" 670 (vR 349), dE P "can_go_on" 677 (vR 356), dE P "how_it_stands" 684 (vR 363), dE P "start_set" 692 (vR 370), dE P "win_rally" 701 (vR 377), dE P "win_point" 709 (vR 384), dE P "points_to_win" 716 (vR 391), dE P "has_enough" 725 (vR 398), dE P "lose_set" 734 (vR 405), dE P "end_set" 743 (vR 412), dE P "__static_attributes__" 752 (vR 413), dE P "__dict__" 754 (vR 416), dE P "__weakref__" 756 (vR 417), dE P "__doc__" 757 vN] 4), #[]⟩,
  ⟨(Value.type "type"), none, .cls { name := "Game", bases := [.type "object"], mro := [.ref 415, .type "object"], ns := 414, qualname := "Game" }, #[none, none, some (vS "Game" 636), some (vS "Game" 644), some (Value.builtin "object.__new__"), some (Value.bool true)]⟩,
  ⟨(Value.type "getset_descriptor"), none, (.fields #[(vS "__dict__" 753), (vR 415), (Value.builtin "function.__dict__"), (Value.builtin "function.__dict__#set")]), #[]⟩,
  ⟨(Value.type "getset_descriptor"), none, (.fields #[(vS "__weakref__" 755), (vR 415), (Value.builtin "ExceptionGroup.__weakref__"), vN]), #[]⟩,
  ⟨(Value.type "super"), none, (.fields #[(vR 415), (vR 415), (vR 415)]), #[]⟩,
  ⟨(Value.type "builtin_function_or_method"), none, (.fields #[(Value.builtin "object.__init_subclass__"), (vR 415)]), #[]⟩,
  t0,
  ⟨(Value.type "builtin_function_or_method"), none, (.fields #[(Value.builtin "type.__prepare__"), (Value.type "type")]), #[]⟩,
  ⟨(Value.type "dict"), none, (.dict #[dE P "__module__" 767 (vS "volleysheet.game" 630), dE P "__qualname__" 769 (vS "Book" 768), dE P "__firstlineno__" 771 (Value.int 321 770), dE P "__init__" 778 (vR 433), dE P "__static_attributes__" 780 (vR 434)] 5), #[]⟩,
  t0,
  ⟨vN, none, (.fields #[(vI 323), (vI 4), (vR 432)]), #[]⟩,
  ⟨(Value.type "code"), none, (.fields #[(vS "Book" 762), (vS "Book" 763), (vS "/claim/cut.py" 764), (vI 321), (vI 0), (vI 0), (vI 0), (vI 0), (vR 423), (Value.bool false), (vI 181), (vR 424), vN, vN, vN, vN, (vI 765), (vI 321), (vS "/claim/cut.py" 766)]), #[]⟩,
  ⟨(Value.type "frame"), none, .plain, #[some (vR 425), some (vR 3), some (vR 422), none, some (vS "volleysheet.game" 630), none, some (vR 0)]⟩,
  t0,
  f0,
  tS [("self", 775)],
  t0,
  g0 "__init__" "Book.__init__" s_Book_init,
  cd "__init__" 772 "Book.__init__" 773 774 323 1 3 427 428 (vR 429) (vR 430) 431 776 323 777,
  fn (dF "__init__" "Book.__init__" s_Book_init vN (vS "volleysheet.game" 630) none (vR 432) vN),
  tS [("game", 779)],
  ⟨(Value.type "dict"), none, (.dict #[dE P "__module__" 767 (vS "volleysheet.game" 630), dE P "__firstlineno__" 771 (Value.int 321 770), dE P "__init__" 778 (vR 433), dE P "__static_attributes__" 780 (vR 434), dE P "__dict__" 782 (vR 437), dE P "__weakref__" 784 (vR 438), dE P "__doc__" 785 vN] 4), #[]⟩,
  ⟨(Value.type "type"), none, .cls { name := "Book", bases := [.type "object"], mro := [.ref 436, .type "object"], ns := 435, qualname := "Book" }, #[none, none, some (vS "Book" 760), some (vS "Book" 768), some (Value.builtin "object.__new__"), some (Value.bool true)]⟩,
  ⟨(Value.type "getset_descriptor"), none, (.fields #[(vS "__dict__" 781), (vR 436), (Value.builtin "function.__dict__"), (Value.builtin "function.__dict__#set")]), #[]⟩,
  ⟨(Value.type "getset_descriptor"), none, (.fields #[(vS "__weakref__" 783), (vR 436), (Value.builtin "ExceptionGroup.__weakref__"), vN]), #[]⟩,
  ⟨(Value.type "super"), none, (.fields #[(vR 436), (vR 436), (vR 436)]), #[]⟩,
  ⟨(Value.type "builtin_function_or_method"), none, (.fields #[(Value.builtin "object.__init_subclass__"), (vR 436)]), #[]⟩,
  t0,
  f0,
  tS [("players", 793)],
  t0,
  g0 "good_players" "good_players" s_good_players,
  cd "good_players" 790 "good_players" 791 792 326 1 3 441 442 (vR 443) (vR 444) 445 794 326 795,
  fn (dF "good_players" "good_players" s_good_players vN (vS "volleysheet.opening" 788) none (vR 446) vN),
  t0,
  f0,
  g0 "good_liberos" "good_liberos" s_good_liberos,
  cd "good_liberos" 797 "good_liberos" 798 799 328 2 3 448 449 vN vN 450 800 328 801,
  fn (dF "good_liberos" "good_liberos" s_good_liberos vN (vS "volleysheet.opening" 788) none (vR 451) vN),
  t0,
  f0,
  tS [("book", 806), ("players0", 807), ("players1", 808), ("liberos0", 809), ("liberos1", 810)],
  t0,
  g0 "answer_begin" "answer_begin" s_answer_begin,
  cd "answer_begin" 803 "answer_begin" 804 805 334 5 3 453 454 (vR 455) (vR 456) 457 811 334 812,
  fn (dF "answer_begin" "answer_begin" s_answer_begin vN (vS "volleysheet.opening" 788) none (vR 458) vN),
  t0,
  f0,
  tS [("game", 817)],
  t0,
  g0 "between_sets_refusal" "between_sets_refusal" s_between_sets_refusal,
  cd "between_sets_refusal" 814 "between_sets_refusal" 815 816 341 1 3 460 461 (vR 462) (vR 463) 464 818 341 819,
  fn (dF "between_sets_refusal" "between_sets_refusal" s_between_sets_refusal vN (vS "volleysheet.opening" 788) none (vR 465) vN),
  t0,
  f0,
  g0 "lineup_refusal" "lineup_refusal" s_lineup_refusal,
  cd "lineup_refusal" 821 "lineup_refusal" 822 823 347 3 3 467 468 vN vN 469 824 347 825,
  fn (dF "lineup_refusal" "lineup_refusal" s_lineup_refusal vN (vS "volleysheet.opening" 788) none (vR 470) vN),
  t0,
  f0,
  tS [("game", 830), ("team", 831), ("players", 832), ("refusal", 833)],
  t0,
  g0 "answer_lineup" "answer_lineup" s_answer_lineup,
  cd "answer_lineup" 827 "answer_lineup" 828 829 358 3 3 472 473 (vR 474) (vR 475) 476 834 358 835,
  fn (dF "answer_lineup" "answer_lineup" s_answer_lineup vN (vS "volleysheet.opening" 788) none (vR 477) vN),
  t0,
  f0,
  g0 "start_refusal" "start_refusal" s_start_refusal,
  cd "start_refusal" 837 "start_refusal" 838 839 364 2 3 479 480 vN vN 481 840 364 841,
  fn (dF "start_refusal" "start_refusal" s_start_refusal vN (vS "volleysheet.opening" 788) none (vR 482) vN),
  t0,
  f0,
  tS [("game", 846), ("team", 847), ("refusal", 848)],
  t0,
  g0 "answer_start" "answer_start" s_answer_start,
  cd "answer_start" 843 "answer_start" 844 845 375 2 3 484 485 (vR 486) (vR 487) 488 849 375 850,
  fn (dF "answer_start" "answer_start" s_answer_start vN (vS "volleysheet.opening" 788) none (vR 489) vN),
  t0,
  f0,
  tS [("game", 857)],
  t0,
  g0 "answer_now" "answer_now" s_answer_now,
  cd "answer_now" 854 "answer_now" 855 856 382 1 3 491 492 (vR 493) (vR 494) 495 858 382 859,
  fn (dF "answer_now" "answer_now" s_answer_now vN (vS "volleysheet.views" 852) none (vR 496) vN),
  t0,
  f0,
  tS [("game", 864), ("team", 865), ("side", 866)],
  t0,
  g0 "answer_court" "answer_court" s_answer_court,
  cd "answer_court" 861 "answer_court" 862 863 384 2 3 498 499 (vR 500) (vR 501) 502 867 384 868,
  fn (dF "answer_court" "answer_court" s_answer_court vN (vS "volleysheet.views" 852) none (vR 503) vN),
  t0,
  f0,
  tS [("game", 873), ("team", 874), ("side", 875), ("told", 876), ("place", 877)],
  t0,
  g0 "answer_sheet" "answer_sheet" s_answer_sheet,
  cd "answer_sheet" 870 "answer_sheet" 871 872 391 2 3 505 506 (vR 507) (vR 508) 509 878 391 879,
  fn (dF "answer_sheet" "answer_sheet" s_answer_sheet vN (vS "volleysheet.views" 852) none (vR 510) vN),
  t0,
  f0,
  tS [("game", 884)],
  t0,
  g0 "answer_sets" "answer_sets" s_answer_sets,
  cd "answer_sets" 881 "answer_sets" 882 883 399 1 3 512 513 (vR 514) (vR 515) 516 885 399 886,
  fn (dF "answer_sets" "answer_sets" s_answer_sets vN (vS "volleysheet.views" 852) none (vR 517) vN),
  ⟨(Value.type "tuple"), none, (.seq #[(Value.int 0 914), (Value.int 0 915), (Value.int 1 916), (Value.int 1 917), (Value.int 1 918), (Value.int 2 919), (Value.int 3 920), (Value.int 3 921), (Value.int 1 922), (Value.int 4 923), (Value.int 0 924), (Value.int 1 925), (Value.int 1 926), (Value.int 0 927)]), #[]⟩,
  ⟨(Value.type "tuple"), none, (.seq #[(Value.int 0 929), (Value.int 4 930), (Value.int 1 931), (Value.int 0 932), (Value.int 0 933), (Value.int 0 934), (Value.int 0 935), (Value.int 0 936), (Value.int 0 937), (Value.int 0 938), (Value.int 0 939), (Value.int 0 940), (Value.int 0 941), (Value.int 0 942)]), #[]⟩,
  t0,
  ⟨(Value.type "builtin_function_or_method"), none, (.fields #[(Value.builtin "type.__prepare__"), (Value.type "type")]), #[]⟩,
  ⟨(Value.type "dict"), none, (.dict #[dE P "__module__" 951 (vS "volleysheet.match" 888), dE P "__qualname__" 953 (vS "Reader" 952), dE P "__firstlineno__" 955 (Value.int 416 954), dE P "__init__" 963 (vR 534), dE P "at_end" 970 (vR 541), dE P "take" 979 (vR 548), dE P "take_one" 986 (vR 555), dE P "take_row" 993 (vR 562), dE P "__static_attributes__" 996 (vR 563)] 9), #[]⟩,
  t0,
  ⟨vN, none, (.fields #[(vI 418), (vI 4), (vR 533), (vI 422), (vI 4), (vR 540), (vI 425), (vI 4), (vR 547), (vI 430), (vI 4), (vR 554), (vI 433), (vI 4), (vR 561)]), #[]⟩,
  ⟨(Value.type "code"), none, (.fields #[(vS "Reader" 946), (vS "Reader" 947), (vS "/claim/cut.py" 948), (vI 416), (vI 0), (vI 0), (vI 0), (vI 0), (vR 524), (Value.bool false), (vI 181), (vR 525), vN, vN, vN, vN, (vI 949), (vI 416), (vS "/claim/cut.py" 950)]), #[]⟩,
  ⟨(Value.type "frame"), none, .plain, #[some (vR 526), some (vR 3), some (vR 523), none, some (vS "volleysheet.match" 888), none, some (vR 0)]⟩,
  t0,
  f0,
  tS [("self", 959), ("numbers", 960)],
  t0,
  g0 "__init__" "Reader.__init__" s_Reader_init,
  cd "__init__" 956 "Reader.__init__" 957 958 418 2 3 528 529 (vR 530) (vR 531) 532 961 418 962,
  fn (dF "__init__" "Reader.__init__" s_Reader_init vN (vS "volleysheet.match" 888) none (vR 533) vN),
  t0,
  f0,
  tS [("self", 967)],
  t0,
  g0 "at_end" "Reader.at_end" s_Reader_at_end,
  cd "at_end" 964 "Reader.at_end" 965 966 422 1 3 535 536 (vR 537) (vR 538) 539 968 422 969,
  fn (dF "at_end" "Reader.at_end" s_Reader_at_end vN (vS "volleysheet.match" 888) none (vR 540) vN),
  t0,
  f0,
  tS [("self", 974), ("many", 975), ("taken", 976)],
  t0,
  g0 "take" "Reader.take" s_Reader_take,
  cd "take" 971 "Reader.take" 972 973 425 2 3 542 543 (vR 544) (vR 545) 546 977 425 978,
  fn (dF "take" "Reader.take" s_Reader_take vN (vS "volleysheet.match" 888) none (vR 547) vN),
  t0,
  f0,
  tS [("self", 983)],
  t0,
  g0 "take_one" "Reader.take_one" s_Reader_take_one,
  cd "take_one" 980 "Reader.take_one" 981 982 430 1 3 549 550 (vR 551) (vR 552) 553 984 430 985,
  fn (dF "take_one" "Reader.take_one" s_Reader_take_one vN (vS "volleysheet.match" 888) none (vR 554) vN),
  t0,
  f0,
  tS [("self", 990)],
  t0,
  g0 "take_row" "Reader.take_row" s_Reader_take_row,
  cd "take_row" 987 "Reader.take_row" 988 989 433 1 3 556 557 (vR 558) (vR 559) 560 991 433 992,
  fn (dF "take_row" "Reader.take_row" s_Reader_take_row vN (vS "volleysheet.match" 888) none (vR 561) vN),
  tS [("numbers", 994), ("reached", 995)],
  ⟨(Value.type "dict"), none, (.dict #[dE P "__module__" 951 (vS "volleysheet.match" 888), dE P "__firstlineno__" 955 (Value.int 416 954), dE P "__init__" 963 (vR 534), dE P "at_end" 970 (vR 541), dE P "take" 979 (vR 548), dE P "take_one" 986 (vR 555), dE P "take_row" 993 (vR 562), dE P "__static_attributes__" 996 (vR 563), dE P "__dict__" 998 (vR 566), dE P "__weakref__" 1000 (vR 567), dE P "__doc__" 1001 vN] 4), #[]⟩,
  ⟨(Value.type "type"), none, .cls { name := "Reader", bases := [.type "object"], mro := [.ref 565, .type "object"], ns := 564, qualname := "Reader" }, #[none, none, some (vS "Reader" 944), some (vS "Reader" 952), some (Value.builtin "object.__new__"), some (Value.bool true)]⟩,
  ⟨(Value.type "getset_descriptor"), none, (.fields #[(vS "__dict__" 997), (vR 565), (Value.builtin "function.__dict__"), (Value.builtin "function.__dict__#set")]), #[]⟩,
  ⟨(Value.type "getset_descriptor"), none, (.fields #[(vS "__weakref__" 999), (vR 565), (Value.builtin "ExceptionGroup.__weakref__"), vN]), #[]⟩,
  ⟨(Value.type "super"), none, (.fields #[(vR 565), (vR 565), (vR 565)]), #[]⟩,
  ⟨(Value.type "builtin_function_or_method"), none, (.fields #[(Value.builtin "object.__init_subclass__"), (vR 565)]), #[]⟩,
  t0,
  f0,
  tS [("book", 1007), ("call", 1008), ("values", 1009), ("rows", 1010)],
  t0,
  g0 "answer_opening" "answer_opening" s_answer_opening,
  cd "answer_opening" 1004 "answer_opening" 1005 1006 435 4 3 570 571 (vR 572) (vR 573) 574 1011 435 1012,
  fn (dF "answer_opening" "answer_opening" s_answer_opening vN (vS "volleysheet.match" 888) none (vR 575) vN),
  t0,
  f0,
  tS [("game", 1017), ("call", 1018), ("values", 1019)],
  t0,
  g0 "answer_play" "answer_play" s_answer_play,
  cd "answer_play" 1014 "answer_play" 1015 1016 441 3 3 577 578 (vR 579) (vR 580) 581 1020 441 1021,
  fn (dF "answer_play" "answer_play" s_answer_play vN (vS "volleysheet.match" 888) none (vR 582) vN),
  t0,
  f0,
  tS [("game", 1026), ("call", 1027), ("values", 1028)],
  t0,
  g0 "answer_view" "answer_view" s_answer_view,
  cd "answer_view" 1023 "answer_view" 1024 1025 453 3 3 584 585 (vR 586) (vR 587) 588 1029 453 1030,
  fn (dF "answer_view" "answer_view" s_answer_view vN (vS "volleysheet.match" 888) none (vR 589) vN),
  t0,
  f0,
  tS [("book", 1035), ("call", 1036), ("values", 1037), ("rows", 1038)],
  t0,
  g0 "answer_call" "answer_call" s_answer_call,
  cd "answer_call" 1032 "answer_call" 1033 1034 461 4 3 591 592 (vR 593) (vR 594) 595 1039 461 1040,
  fn (dF "answer_call" "answer_call" s_answer_call vN (vS "volleysheet.match" 888) none (vR 596) vN),
  t0,
  f0,
  g0 "answers" "answers" s_answers,
  cd "answers" 1042 "answers" 1043 1044 467 1 3 598 599 vN vN 600 1045 467 1046,
  fn (dF "answers" "answers" s_answers vN (vS "volleysheet.match" 888) none (vR 601) vN)]
noncomputable def SF (w : World) (os : OsState) : SharedT := ⟨treeOf (objsF w.params) 0 .nil, 603, (boot_heap w.params).life, Array.mk [], boot_drawn, 1048, os⟩
noncomputable def heapF (P : Params) : Heap := ⟨Array.mk (objsF P), (boot_heap P).life⟩
def body1 : List Stmt := bodyL.take 44
def body2 : List Stmt := bodyL.drop 44
end Hd
end Vs
end
section
set_option Elab.async false
set_option maxRecDepth 100000
set_option maxHeartbeats 0
namespace Vs.Hd
open PySem PySem.W PyProof.Rows
theorem h_one : ∀ w : World, (fun os => segRunT treeTable pg w 11 ann0 1 1864 (SB w os) (piecesOf body1 env0 c0 p0 [topFrame p0])) = fun os => some (.next, SM w os, c0, pM) := fun w => by kernel_rfl
end Vs.Hd
end
section
set_option Elab.async false
set_option maxRecDepth 100000
set_option maxHeartbeats 0
namespace Vs.Hd
open PySem PySem.W PyProof.Rows
theorem h_two : ∀ w : World, (fun os => segRunT treeTable pg w 11 ann0 1 1841 (SM w os) (piecesOf body2 env0 c0 pM [topFrame p0])) = fun os => some (.next, SF w os, c0, pE) := fun w => by kernel_rfl
end Vs.Hd
end
section
set_option Elab.async false
set_option maxRecDepth 100000
set_option maxHeartbeats 0
namespace Vs.Hd
open PySem PySem.W PyProof.Rows
theorem h_abs : ∀ (w : World) (os : OsState), (SF w os).abs = ⟨heapF w.params, Array.mk [], boot_drawn, 1048, os⟩ := fun w os => by kernel_rfl
theorem h_fin : ∀ (w : World) (os : OsState), topRun treeTable pg w 11 ann0 2 ⟨heapF w.params, Array.mk [], boot_drawn, 1048, os⟩ ⟨doneF .next, c0, pE, [topFrame p0]⟩ = some ⟨heapF w.params, Array.mk [], boot_drawn, 1048, os⟩ := fun w os => by kernel_rfl
theorem h_looks : ∀ w : World, (fun os => ((staticsOk (importedModules pg.main.body) (boot_heap w.params) (heapF w.params) && namesBound pg (heapF w.params) && gensDone ⟨heapF w.params, Array.mk [], boot_drawn, 1048, os⟩ && laidKept (boot_heap w.params) (heapF w.params)),
        openSeen qv [] (importedModules pg.main.body) Xt0 true ⟨heapF w.params, Array.mk [], boot_drawn, 1048, os⟩)) = fun _ => (true, openGood qv []) := fun w => by kernel_rfl
end Vs.Hd
end
section
set_option Elab.async false
set_option maxRecDepth 100000
set_option maxHeartbeats 0
namespace Vs.Hd
open PySem PySem.W PyProof.Rows
def asK : List Addr := [3, 20, 21, 27, 28, 32, 33, 39, 40, 53, 54, 60, 61, 67, 68, 74, 75, 81, 82, 88, 89, 91, 92, 109, 110, 114, 115, 121, 122, 128, 129, 135, 136, 142, 143, 147, 148, 154, 155, 161, 162, 168, 169, 175, 176, 182, 183, 187, 188, 190, 191, 201, 202, 208, 209, 215, 216, 222, 223, 229, 230, 236, 237, 243, 244, 250, 251, 257, 258, 264, 265, 271, 272, 278, 279, 285, 286, 292, 293, 299, 300, 306, 307, 313, 314, 320, 321, 334, 335, 341, 342, 348, 349, 355, 356, 362, 363, 369, 370, 376, 377, 383, 384, 390, 391, 397, 398, 404, 405, 411, 412, 414, 415, 432, 433, 435, 436, 446, 447, 451, 452, 458, 459, 465, 466, 470, 471, 477, 478, 482, 483, 489, 490, 496, 497, 503, 504, 510, 511, 517, 518, 519, 520, 533, 534, 540, 541, 547, 548, 554, 555, 561, 562, 564, 565, 575, 576, 582, 583, 589, 590, 596, 597, 601, 602]
noncomputable def Kf (P : Params) : Frag := asK.map fun a => (a, (objsF P).getD a t0)
noncomputable def hook : Hook := kHook Kf asK fun P => by kernel_rfl
theorem h_seen : ∀ w : World, asK.map (heapF w.params).get? = (Kf w.params).map fun p => some p.2 := fun w => by kernel_rfl
def d0 : Ad := ⟨92, 191, 415, 436, 565, 21, 28, 33, 40, 54, 61, 68, 75, 82, 89, 110, 115, 122, 129, 136, 143, 148, 155, 162, 169, 176, 183, 188, 202, 209, 216, 223, 230, 237, 244, 251, 258, 265, 272, 279, 286, 293, 300, 307, 314, 321, 335, 342, 349, 356, 363, 370, 377, 384, 391, 398, 405, 412, 433, 447, 452, 459, 466, 471, 478, 483, 490, 497, 504, 511, 518, 534, 541, 548, 555, 562, 576, 583, 590, 597, 602, 519, 520⟩
theorem nA {K : Frag} {C : Addr} {f : Str} (h : PySem.W.findIn K (.ref C) f = some Option.none) : L2.NoAttr K C f := h
theorem fM {K : Frag} {x q : Str} {st : Stmt} {f : Addr} {doc pm cd ct : Value} {an : Option Addr} (l : K.lookup f = some ⟨.type "function", Option.none, .func (PySem.W.fnOf x q (L2.defArgs st) (L2.defBody st) (L2.defScope st) .none .none doc pm an cd ct), #[]⟩)
    (c : PySem.W.codeIn K cd q = true) (k : PySem.W.keepIn K (.ref f) = true) : ∃ fd, L2.Fun K x q st f fd := ⟨_, L2.fun_mk (st := st) l c k⟩
theorem txt {P : Params} {h : Heap} {mg : Str → Option Value} (X : (Kf P).In h) (G : h.Ns mainGlobals mg) : Txt (Kf P) mg d0 :=
  ⟨⟨(by kernel_rfl), (by kernel_rfl), (by kernel_rfl), (by kernel_rfl)⟩,
   ⟨(by kernel_rfl), (by kernel_rfl), (by kernel_rfl), (by kernel_rfl)⟩,
   PySem.W.mg_of X G (by kernel_rfl),
   nA (by kernel_rfl),
   nA (by kernel_rfl),
   nA (by kernel_rfl),
   nA (by kernel_rfl),
   ⟨(by kernel_rfl), (by kernel_rfl), (by kernel_rfl)⟩,
   ⟨(by kernel_rfl), (by kernel_rfl), (by kernel_rfl)⟩,
   ⟨(by kernel_rfl), (by kernel_rfl), (by kernel_rfl)⟩,
   ⟨(by kernel_rfl), (by kernel_rfl), (by kernel_rfl)⟩,
   ⟨(by kernel_rfl), (by kernel_rfl), (by kernel_rfl)⟩,
   ⟨(by kernel_rfl), (by kernel_rfl), (by kernel_rfl), (by kernel_rfl)⟩,
   ⟨(by kernel_rfl), (by kernel_rfl), (by kernel_rfl), (by kernel_rfl)⟩,
   PySem.W.mg_of X G (by kernel_rfl),
   nA (by kernel_rfl),
   nA (by kernel_rfl),
   nA (by kernel_rfl),
   nA (by kernel_rfl),
   nA (by kernel_rfl),
   nA (by kernel_rfl),
   nA (by kernel_rfl),
   nA (by kernel_rfl),
   nA (by kernel_rfl),
   ⟨(by kernel_rfl), (by kernel_rfl), (by kernel_rfl)⟩,
   ⟨(by kernel_rfl), (by kernel_rfl), (by kernel_rfl)⟩,
   ⟨(by kernel_rfl), (by kernel_rfl), (by kernel_rfl)⟩,
   ⟨(by kernel_rfl), (by kernel_rfl), (by kernel_rfl)⟩,
   ⟨(by kernel_rfl), (by kernel_rfl), (by kernel_rfl)⟩,
   ⟨(by kernel_rfl), (by kernel_rfl), (by kernel_rfl)⟩,
   ⟨(by kernel_rfl), (by kernel_rfl), (by kernel_rfl)⟩,
   ⟨(by kernel_rfl), (by kernel_rfl), (by kernel_rfl)⟩,
   ⟨(by kernel_rfl), (by kernel_rfl), (by kernel_rfl)⟩,
   ⟨(by kernel_rfl), (by kernel_rfl), (by kernel_rfl)⟩,
   ⟨(by kernel_rfl), (by kernel_rfl), (by kernel_rfl)⟩,
   ⟨(by kernel_rfl), (by kernel_rfl), (by kernel_rfl)⟩,
   ⟨(by kernel_rfl), (by kernel_rfl), (by kernel_rfl), (by kernel_rfl)⟩,
   ⟨(by kernel_rfl), (by kernel_rfl), (by kernel_rfl), (by kernel_rfl)⟩,
   PySem.W.mg_of X G (by kernel_rfl),
   nA (by kernel_rfl),
   nA (by kernel_rfl),
   nA (by kernel_rfl),
   nA (by kernel_rfl),
   nA (by kernel_rfl),
   nA (by kernel_rfl),
   nA (by kernel_rfl),
   nA (by kernel_rfl),
   ⟨(by kernel_rfl), (by kernel_rfl), (by kernel_rfl)⟩,
   ⟨(by kernel_rfl), (by kernel_rfl), (by kernel_rfl)⟩,
   ⟨(by kernel_rfl), (by kernel_rfl), (by kernel_rfl)⟩,
   ⟨(by kernel_rfl), (by kernel_rfl), (by kernel_rfl)⟩,
   ⟨(by kernel_rfl), (by kernel_rfl), (by kernel_rfl)⟩,
   ⟨(by kernel_rfl), (by kernel_rfl), (by kernel_rfl)⟩,
   ⟨(by kernel_rfl), (by kernel_rfl), (by kernel_rfl)⟩,
   ⟨(by kernel_rfl), (by kernel_rfl), (by kernel_rfl)⟩,
   ⟨(by kernel_rfl), (by kernel_rfl), (by kernel_rfl)⟩,
   ⟨(by kernel_rfl), (by kernel_rfl), (by kernel_rfl)⟩,
   ⟨(by kernel_rfl), (by kernel_rfl), (by kernel_rfl)⟩,
   ⟨(by kernel_rfl), (by kernel_rfl), (by kernel_rfl), (by kernel_rfl)⟩,
   ⟨(by kernel_rfl), (by kernel_rfl), (by kernel_rfl), (by kernel_rfl)⟩,
   PySem.W.mg_of X G (by kernel_rfl),
   nA (by kernel_rfl),
   ⟨(by kernel_rfl), (by kernel_rfl), (by kernel_rfl), (by kernel_rfl)⟩,
   ⟨(by kernel_rfl), (by kernel_rfl), (by kernel_rfl), (by kernel_rfl)⟩,
   PySem.W.mg_of X G (by kernel_rfl),
   nA (by kernel_rfl),
   nA (by kernel_rfl),
   ⟨(by kernel_rfl), (by kernel_rfl), (by kernel_rfl)⟩,
   ⟨(by kernel_rfl), (by kernel_rfl), (by kernel_rfl)⟩,
   ⟨(by kernel_rfl), (by kernel_rfl), (by kernel_rfl)⟩,
   ⟨(by kernel_rfl), (by kernel_rfl), (by kernel_rfl)⟩,
   fM (doc := .none) (pm := (.str "volleysheet.checks" 187)) (an := none) (cd := .ref 20) (ct := .none) (by kernel_rfl) (by kernel_rfl) (by kernel_rfl),
   PySem.W.mg_of X G (by kernel_rfl),
   fM (doc := .none) (pm := (.str "volleysheet.checks" 187)) (an := none) (cd := .ref 27) (ct := .none) (by kernel_rfl) (by kernel_rfl) (by kernel_rfl),
   PySem.W.mg_of X G (by kernel_rfl),
   fM (doc := .none) (pm := (.str "volleysheet.checks" 187)) (an := none) (cd := .ref 32) (ct := .none) (by kernel_rfl) (by kernel_rfl) (by kernel_rfl),
   PySem.W.mg_of X G (by kernel_rfl),
   fM (doc := .none) (pm := (.str "volleysheet.checks" 187)) (an := none) (cd := .ref 39) (ct := .none) (by kernel_rfl) (by kernel_rfl) (by kernel_rfl),
   PySem.W.mg_of X G (by kernel_rfl),
   fM (doc := .none) (pm := (.str "volleysheet.sides" 216)) (an := none) (cd := .ref 53) (ct := .none) (by kernel_rfl) (by kernel_rfl) (by kernel_rfl),
   fM (doc := .none) (pm := (.str "volleysheet.sides" 216)) (an := none) (cd := .ref 60) (ct := .none) (by kernel_rfl) (by kernel_rfl) (by kernel_rfl),
   fM (doc := .none) (pm := (.str "volleysheet.sides" 216)) (an := none) (cd := .ref 67) (ct := .none) (by kernel_rfl) (by kernel_rfl) (by kernel_rfl),
   fM (doc := .none) (pm := (.str "volleysheet.sides" 216)) (an := none) (cd := .ref 74) (ct := .none) (by kernel_rfl) (by kernel_rfl) (by kernel_rfl),
   fM (doc := .none) (pm := (.str "volleysheet.sides" 216)) (an := none) (cd := .ref 81) (ct := .none) (by kernel_rfl) (by kernel_rfl) (by kernel_rfl),
   fM (doc := .none) (pm := (.str "volleysheet.sides" 216)) (an := none) (cd := .ref 88) (ct := .none) (by kernel_rfl) (by kernel_rfl) (by kernel_rfl),
   fM (doc := .none) (pm := (.str "volleysheet.sides" 216)) (an := none) (cd := .ref 109) (ct := .none) (by kernel_rfl) (by kernel_rfl) (by kernel_rfl),
   fM (doc := .none) (pm := (.str "volleysheet.sides" 216)) (an := none) (cd := .ref 114) (ct := .none) (by kernel_rfl) (by kernel_rfl) (by kernel_rfl),
   fM (doc := .none) (pm := (.str "volleysheet.sides" 216)) (an := none) (cd := .ref 121) (ct := .none) (by kernel_rfl) (by kernel_rfl) (by kernel_rfl),
   fM (doc := .none) (pm := (.str "volleysheet.sides" 216)) (an := none) (cd := .ref 128) (ct := .none) (by kernel_rfl) (by kernel_rfl) (by kernel_rfl),
   fM (doc := .none) (pm := (.str "volleysheet.sides" 216)) (an := none) (cd := .ref 135) (ct := .none) (by kernel_rfl) (by kernel_rfl) (by kernel_rfl),
   fM (doc := .none) (pm := (.str "volleysheet.sides" 216)) (an := none) (cd := .ref 142) (ct := .none) (by kernel_rfl) (by kernel_rfl) (by kernel_rfl),
   fM (doc := .none) (pm := (.str "volleysheet.sides" 216)) (an := none) (cd := .ref 147) (ct := .none) (by kernel_rfl) (by kernel_rfl) (by kernel_rfl),
   fM (doc := .none) (pm := (.str "volleysheet.sides" 216)) (an := none) (cd := .ref 154) (ct := .none) (by kernel_rfl) (by kernel_rfl) (by kernel_rfl),
   fM (doc := .none) (pm := (.str "volleysheet.sides" 216)) (an := none) (cd := .ref 161) (ct := .none) (by kernel_rfl) (by kernel_rfl) (by kernel_rfl),
   fM (doc := .none) (pm := (.str "volleysheet.sides" 216)) (an := none) (cd := .ref 168) (ct := .none) (by kernel_rfl) (by kernel_rfl) (by kernel_rfl),
   fM (doc := .none) (pm := (.str "volleysheet.sides" 216)) (an := none) (cd := .ref 175) (ct := .none) (by kernel_rfl) (by kernel_rfl) (by kernel_rfl),
   fM (doc := .none) (pm := (.str "volleysheet.sides" 216)) (an := none) (cd := .ref 182) (ct := .none) (by kernel_rfl) (by kernel_rfl) (by kernel_rfl),
   fM (doc := .none) (pm := (.str "volleysheet.sides" 216)) (an := none) (cd := .ref 187) (ct := .none) (by kernel_rfl) (by kernel_rfl) (by kernel_rfl),
   fM (doc := .none) (pm := (.str "volleysheet.play" 422)) (an := none) (cd := .ref 201) (ct := .none) (by kernel_rfl) (by kernel_rfl) (by kernel_rfl),
   PySem.W.mg_of X G (by kernel_rfl),
   fM (doc := .none) (pm := (.str "volleysheet.play" 422)) (an := none) (cd := .ref 208) (ct := .none) (by kernel_rfl) (by kernel_rfl) (by kernel_rfl),
   PySem.W.mg_of X G (by kernel_rfl),
   fM (doc := .none) (pm := (.str "volleysheet.play" 422)) (an := none) (cd := .ref 215) (ct := .none) (by kernel_rfl) (by kernel_rfl) (by kernel_rfl),
   PySem.W.mg_of X G (by kernel_rfl),
   fM (doc := .none) (pm := (.str "volleysheet.play" 422)) (an := none) (cd := .ref 222) (ct := .none) (by kernel_rfl) (by kernel_rfl) (by kernel_rfl),
   PySem.W.mg_of X G (by kernel_rfl),
   fM (doc := .none) (pm := (.str "volleysheet.play" 422)) (an := none) (cd := .ref 229) (ct := .none) (by kernel_rfl) (by kernel_rfl) (by kernel_rfl),
   PySem.W.mg_of X G (by kernel_rfl),
   fM (doc := .none) (pm := (.str "volleysheet.play" 422)) (an := none) (cd := .ref 236) (ct := .none) (by kernel_rfl) (by kernel_rfl) (by kernel_rfl),
   PySem.W.mg_of X G (by kernel_rfl),
   fM (doc := .none) (pm := (.str "volleysheet.play" 422)) (an := none) (cd := .ref 243) (ct := .none) (by kernel_rfl) (by kernel_rfl) (by kernel_rfl),
   PySem.W.mg_of X G (by kernel_rfl),
   fM (doc := .none) (pm := (.str "volleysheet.play" 422)) (an := none) (cd := .ref 250) (ct := .none) (by kernel_rfl) (by kernel_rfl) (by kernel_rfl),
   PySem.W.mg_of X G (by kernel_rfl),
   fM (doc := .none) (pm := (.str "volleysheet.play" 422)) (an := none) (cd := .ref 257) (ct := .none) (by kernel_rfl) (by kernel_rfl) (by kernel_rfl),
   PySem.W.mg_of X G (by kernel_rfl),
   fM (doc := .none) (pm := (.str "volleysheet.play" 422)) (an := none) (cd := .ref 264) (ct := .none) (by kernel_rfl) (by kernel_rfl) (by kernel_rfl),
   PySem.W.mg_of X G (by kernel_rfl),
   fM (doc := .none) (pm := (.str "volleysheet.play" 422)) (an := none) (cd := .ref 271) (ct := .none) (by kernel_rfl) (by kernel_rfl) (by kernel_rfl),
   PySem.W.mg_of X G (by kernel_rfl),
   fM (doc := .none) (pm := (.str "volleysheet.play" 422)) (an := none) (cd := .ref 278) (ct := .none) (by kernel_rfl) (by kernel_rfl) (by kernel_rfl),
   PySem.W.mg_of X G (by kernel_rfl),
   fM (doc := .none) (pm := (.str "volleysheet.play" 422)) (an := none) (cd := .ref 285) (ct := .none) (by kernel_rfl) (by kernel_rfl) (by kernel_rfl),
   PySem.W.mg_of X G (by kernel_rfl),
   fM (doc := .none) (pm := (.str "volleysheet.cards" 560)) (an := none) (cd := .ref 292) (ct := .none) (by kernel_rfl) (by kernel_rfl) (by kernel_rfl),
   PySem.W.mg_of X G (by kernel_rfl),
   fM (doc := .none) (pm := (.str "volleysheet.cards" 560)) (an := none) (cd := .ref 299) (ct := .none) (by kernel_rfl) (by kernel_rfl) (by kernel_rfl),
   PySem.W.mg_of X G (by kernel_rfl),
   fM (doc := .none) (pm := (.str "volleysheet.cards" 560)) (an := none) (cd := .ref 306) (ct := .none) (by kernel_rfl) (by kernel_rfl) (by kernel_rfl),
   PySem.W.mg_of X G (by kernel_rfl),
   fM (doc := .none) (pm := (.str "volleysheet.cards" 560)) (an := none) (cd := .ref 313) (ct := .none) (by kernel_rfl) (by kernel_rfl) (by kernel_rfl),
   PySem.W.mg_of X G (by kernel_rfl),
   fM (doc := .none) (pm := (.str "volleysheet.cards" 560)) (an := none) (cd := .ref 320) (ct := .none) (by kernel_rfl) (by kernel_rfl) (by kernel_rfl),
   PySem.W.mg_of X G (by kernel_rfl),
   fM (doc := .none) (pm := (.str "volleysheet.game" 630)) (an := none) (cd := .ref 334) (ct := .none) (by kernel_rfl) (by kernel_rfl) (by kernel_rfl),
   fM (doc := .none) (pm := (.str "volleysheet.game" 630)) (an := none) (cd := .ref 341) (ct := .none) (by kernel_rfl) (by kernel_rfl) (by kernel_rfl),
   fM (doc := .none) (pm := (.str "volleysheet.game" 630)) (an := none) (cd := .ref 348) (ct := .none) (by kernel_rfl) (by kernel_rfl) (by kernel_rfl),
   fM (doc := .none) (pm := (.str "volleysheet.game" 630)) (an := none) (cd := .ref 355) (ct := .none) (by kernel_rfl) (by kernel_rfl) (by kernel_rfl),
   fM (doc := .none) (pm := (.str "volleysheet.game" 630)) (an := none) (cd := .ref 362) (ct := .none) (by kernel_rfl) (by kernel_rfl) (by kernel_rfl),
   fM (doc := .none) (pm := (.str "volleysheet.game" 630)) (an := none) (cd := .ref 369) (ct := .none) (by kernel_rfl) (by kernel_rfl) (by kernel_rfl),
   fM (doc := .none) (pm := (.str "volleysheet.game" 630)) (an := none) (cd := .ref 376) (ct := .none) (by kernel_rfl) (by kernel_rfl) (by kernel_rfl),
   fM (doc := .none) (pm := (.str "volleysheet.game" 630)) (an := none) (cd := .ref 383) (ct := .none) (by kernel_rfl) (by kernel_rfl) (by kernel_rfl),
   fM (doc := .none) (pm := (.str "volleysheet.game" 630)) (an := none) (cd := .ref 390) (ct := .none) (by kernel_rfl) (by kernel_rfl) (by kernel_rfl),
   fM (doc := .none) (pm := (.str "volleysheet.game" 630)) (an := none) (cd := .ref 397) (ct := .none) (by kernel_rfl) (by kernel_rfl) (by kernel_rfl),
   fM (doc := .none) (pm := (.str "volleysheet.game" 630)) (an := none) (cd := .ref 404) (ct := .none) (by kernel_rfl) (by kernel_rfl) (by kernel_rfl),
   fM (doc := .none) (pm := (.str "volleysheet.game" 630)) (an := none) (cd := .ref 411) (ct := .none) (by kernel_rfl) (by kernel_rfl) (by kernel_rfl),
   fM (doc := .none) (pm := (.str "volleysheet.game" 630)) (an := none) (cd := .ref 432) (ct := .none) (by kernel_rfl) (by kernel_rfl) (by kernel_rfl),
   fM (doc := .none) (pm := (.str "volleysheet.opening" 788)) (an := none) (cd := .ref 446) (ct := .none) (by kernel_rfl) (by kernel_rfl) (by kernel_rfl),
   PySem.W.mg_of X G (by kernel_rfl),
   fM (doc := .none) (pm := (.str "volleysheet.opening" 788)) (an := none) (cd := .ref 451) (ct := .none) (by kernel_rfl) (by kernel_rfl) (by kernel_rfl),
   PySem.W.mg_of X G (by kernel_rfl),
   fM (doc := .none) (pm := (.str "volleysheet.opening" 788)) (an := none) (cd := .ref 458) (ct := .none) (by kernel_rfl) (by kernel_rfl) (by kernel_rfl),
   PySem.W.mg_of X G (by kernel_rfl),
   fM (doc := .none) (pm := (.str "volleysheet.opening" 788)) (an := none) (cd := .ref 465) (ct := .none) (by kernel_rfl) (by kernel_rfl) (by kernel_rfl),
   PySem.W.mg_of X G (by kernel_rfl),
   fM (doc := .none) (pm := (.str "volleysheet.opening" 788)) (an := none) (cd := .ref 470) (ct := .none) (by kernel_rfl) (by kernel_rfl) (by kernel_rfl),
   PySem.W.mg_of X G (by kernel_rfl),
   fM (doc := .none) (pm := (.str "volleysheet.opening" 788)) (an := none) (cd := .ref 477) (ct := .none) (by kernel_rfl) (by kernel_rfl) (by kernel_rfl),
   PySem.W.mg_of X G (by kernel_rfl),
   fM (doc := .none) (pm := (.str "volleysheet.opening" 788)) (an := none) (cd := .ref 482) (ct := .none) (by kernel_rfl) (by kernel_rfl) (by kernel_rfl),
   PySem.W.mg_of X G (by kernel_rfl),
   fM (doc := .none) (pm := (.str "volleysheet.opening" 788)) (an := none) (cd := .ref 489) (ct := .none) (by kernel_rfl) (by kernel_rfl) (by kernel_rfl),
   PySem.W.mg_of X G (by kernel_rfl),
   fM (doc := .none) (pm := (.str "volleysheet.views" 852)) (an := none) (cd := .ref 496) (ct := .none) (by kernel_rfl) (by kernel_rfl) (by kernel_rfl),
   PySem.W.mg_of X G (by kernel_rfl),
   fM (doc := .none) (pm := (.str "volleysheet.views" 852)) (an := none) (cd := .ref 503) (ct := .none) (by kernel_rfl) (by kernel_rfl) (by kernel_rfl),
   PySem.W.mg_of X G (by kernel_rfl),
   fM (doc := .none) (pm := (.str "volleysheet.views" 852)) (an := none) (cd := .ref 510) (ct := .none) (by kernel_rfl) (by kernel_rfl) (by kernel_rfl),
   PySem.W.mg_of X G (by kernel_rfl),
   fM (doc := .none) (pm := (.str "volleysheet.views" 852)) (an := none) (cd := .ref 517) (ct := .none) (by kernel_rfl) (by kernel_rfl) (by kernel_rfl),
   PySem.W.mg_of X G (by kernel_rfl),
   fM (doc := .none) (pm := (.str "volleysheet.match" 888)) (an := none) (cd := .ref 533) (ct := .none) (by kernel_rfl) (by kernel_rfl) (by kernel_rfl),
   fM (doc := .none) (pm := (.str "volleysheet.match" 888)) (an := none) (cd := .ref 540) (ct := .none) (by kernel_rfl) (by kernel_rfl) (by kernel_rfl),
   fM (doc := .none) (pm := (.str "volleysheet.match" 888)) (an := none) (cd := .ref 547) (ct := .none) (by kernel_rfl) (by kernel_rfl) (by kernel_rfl),
   fM (doc := .none) (pm := (.str "volleysheet.match" 888)) (an := none) (cd := .ref 554) (ct := .none) (by kernel_rfl) (by kernel_rfl) (by kernel_rfl),
   fM (doc := .none) (pm := (.str "volleysheet.match" 888)) (an := none) (cd := .ref 561) (ct := .none) (by kernel_rfl) (by kernel_rfl) (by kernel_rfl),
   fM (doc := .none) (pm := (.str "volleysheet.match" 888)) (an := none) (cd := .ref 575) (ct := .none) (by kernel_rfl) (by kernel_rfl) (by kernel_rfl),
   PySem.W.mg_of X G (by kernel_rfl),
   fM (doc := .none) (pm := (.str "volleysheet.match" 888)) (an := none) (cd := .ref 582) (ct := .none) (by kernel_rfl) (by kernel_rfl) (by kernel_rfl),
   PySem.W.mg_of X G (by kernel_rfl),
   fM (doc := .none) (pm := (.str "volleysheet.match" 888)) (an := none) (cd := .ref 589) (ct := .none) (by kernel_rfl) (by kernel_rfl) (by kernel_rfl),
   PySem.W.mg_of X G (by kernel_rfl),
   fM (doc := .none) (pm := (.str "volleysheet.match" 888)) (an := none) (cd := .ref 596) (ct := .none) (by kernel_rfl) (by kernel_rfl) (by kernel_rfl),
   PySem.W.mg_of X G (by kernel_rfl),
   fM (doc := .none) (pm := (.str "volleysheet.match" 888)) (an := none) (cd := .ref 601) (ct := .none) (by kernel_rfl) (by kernel_rfl) (by kernel_rfl),
   PySem.W.mg_of X G (by kernel_rfl),
   ⟨219, PySem.W.mg_of X G (by kernel_rfl)⟩,
   ⟨221, PySem.W.mg_of X G (by kernel_rfl)⟩,
   ⟨223, PySem.W.mg_of X G (by kernel_rfl)⟩,
   ⟨225, PySem.W.mg_of X G (by kernel_rfl)⟩,
   ⟨424, PySem.W.mg_of X G (by kernel_rfl)⟩,
   ⟨426, PySem.W.mg_of X G (by kernel_rfl)⟩,
   ⟨562, PySem.W.mg_of X G (by kernel_rfl)⟩,
   ⟨564, PySem.W.mg_of X G (by kernel_rfl)⟩,
   ⟨566, PySem.W.mg_of X G (by kernel_rfl)⟩,
   ⟨568, PySem.W.mg_of X G (by kernel_rfl)⟩,
   ⟨570, PySem.W.mg_of X G (by kernel_rfl)⟩,
   ⟨572, PySem.W.mg_of X G (by kernel_rfl)⟩,
   ⟨574, PySem.W.mg_of X G (by kernel_rfl)⟩,
   ⟨632, PySem.W.mg_of X G (by kernel_rfl)⟩,
   ⟨634, PySem.W.mg_of X G (by kernel_rfl)⟩,
   ⟨890, PySem.W.mg_of X G (by kernel_rfl)⟩,
   ⟨892, PySem.W.mg_of X G (by kernel_rfl)⟩,
   ⟨894, PySem.W.mg_of X G (by kernel_rfl)⟩,
   ⟨896, PySem.W.mg_of X G (by kernel_rfl)⟩,
   ⟨898, PySem.W.mg_of X G (by kernel_rfl)⟩,
   ⟨900, PySem.W.mg_of X G (by kernel_rfl)⟩,
   ⟨902, PySem.W.mg_of X G (by kernel_rfl)⟩,
   ⟨904, PySem.W.mg_of X G (by kernel_rfl)⟩,
   ⟨906, PySem.W.mg_of X G (by kernel_rfl)⟩,
   ⟨908, PySem.W.mg_of X G (by kernel_rfl)⟩,
   ⟨910, PySem.W.mg_of X G (by kernel_rfl)⟩,
   ⟨912, PySem.W.mg_of X G (by kernel_rfl)⟩,
   PySem.W.mg_of X G (by kernel_rfl),
   ⟨⟨.type "tuple", none, .seq #[.int 0 914, .int 0 915, .int 1 916, .int 1 917, .int 1 918, .int 2 919, .int 3 920, .int 3 921, .int 1 922, .int 4 923, .int 0 924, .int 1 925, .int 1 926, .int 0 927] 0, #[]⟩, #[.int 0 914, .int 0 915, .int 1 916, .int 1 917, .int 1 918, .int 2 919, .int 3 920, .int 3 921, .int 1 922, .int 4 923, .int 0 924, .int 1 925, .int 1 926, .int 0 927], 0, (by kernel_rfl), rfl, rfl, (by show 14 ≤ sizeLine; decide), (.cons ⟨_, rfl⟩ (.cons ⟨_, rfl⟩ (.cons ⟨_, rfl⟩ (.cons ⟨_, rfl⟩ (.cons ⟨_, rfl⟩ (.cons ⟨_, rfl⟩ (.cons ⟨_, rfl⟩ (.cons ⟨_, rfl⟩ (.cons ⟨_, rfl⟩ (.cons ⟨_, rfl⟩ (.cons ⟨_, rfl⟩ (.cons ⟨_, rfl⟩ (.cons ⟨_, rfl⟩ (.cons ⟨_, rfl⟩ .nil))))))))))))))⟩,
   PySem.W.mg_of X G (by kernel_rfl),
   ⟨⟨.type "tuple", none, .seq #[.int 0 929, .int 4 930, .int 1 931, .int 0 932, .int 0 933, .int 0 934, .int 0 935, .int 0 936, .int 0 937, .int 0 938, .int 0 939, .int 0 940, .int 0 941, .int 0 942] 0, #[]⟩, #[.int 0 929, .int 4 930, .int 1 931, .int 0 932, .int 0 933, .int 0 934, .int 0 935, .int 0 936, .int 0 937, .int 0 938, .int 0 939, .int 0 940, .int 0 941, .int 0 942], 0, (by kernel_rfl), rfl, rfl, (by show 14 ≤ sizeLine; decide), (.cons ⟨_, rfl⟩ (.cons ⟨_, rfl⟩ (.cons ⟨_, rfl⟩ (.cons ⟨_, rfl⟩ (.cons ⟨_, rfl⟩ (.cons ⟨_, rfl⟩ (.cons ⟨_, rfl⟩ (.cons ⟨_, rfl⟩ (.cons ⟨_, rfl⟩ (.cons ⟨_, rfl⟩ (.cons ⟨_, rfl⟩ (.cons ⟨_, rfl⟩ (.cons ⟨_, rfl⟩ (.cons ⟨_, rfl⟩ .nil))))))))))))))⟩,
   PySem.W.mg_none_of X G (by kernel_rfl),
   PySem.W.mg_none_of X G (by kernel_rfl),
   PySem.W.mg_none_of X G (by kernel_rfl),
   PySem.W.mg_none_of X G (by kernel_rfl),
   PySem.W.mg_none_of X G (by kernel_rfl),
   PySem.W.mg_none_of X G (by kernel_rfl)⟩
noncomputable def fdA : FuncData := PySem.W.fnOf "answers" "answers" (L2.defArgs s_answers) (L2.defBody s_answers) (L2.defScope s_answers) .none .none .none (.str "volleysheet.match" 888) none (.ref 601) .none
theorem fnA (P : Params) : L2.Fun (Kf P) "answers" "answers" s_answers 602 fdA := L2.fun_mk (st := s_answers) (oc := .type "function") (od := Option.none) (osl := #[]) (by kernel_rfl) (by kernel_rfl) (by kernel_rfl)
end Vs.Hd
end
section
set_option Elab.async false
set_option maxRecDepth 100000
set_option maxHeartbeats 0
namespace Vs.Hd
open PySem PySem.W PyProof.Rows
theorem body_eq : body1 ++ (body2 ++ []) = bodyL := by
  unfold body1 body2
  rw [List.append_nil]
  exact List.take_append_drop 44 bodyL
theorem h_open : ∀ w : World, (fencedOpening treeTable pg w 7532).map (fun s => (s.heap, s.gens, s.drawn, s.toks)) = some (boot_heap w.params, Array.mk [], boot_drawn, boot_toks) :=
  boot_open (p := pg) (N := 7532) (by kernel_rfl) (by decide) (fun s => by kernel_rfl)
theorem h_size : ∀ w : World, ((boot_heap w.params).isNs mainGlobals && (Array.mk [] : Array GenState).size == 0, (boot_heap w.params).objs.size, (boot_heap w.params).nsMap mainGlobals "__annotations__") = (true, 11, ann0) := fun w => by kernel_rfl
theorem h_run : ∀ (w : World) (os : OsState), topRun treeTable pg w 11 ann0 (12 + (1 + (1864 + (1841 + 2)))) ⟨boot_heap w.params, Array.mk [], boot_drawn, boot_toks, os⟩ (topStub pg) = some ⟨heapF w.params, Array.mk [], boot_drawn, 1048, os⟩ := fun w os => by
  refine go_top (h_pre w os) (piece_block (h_block w os) ?_)
  have e1 := segRun_of (congrFun (h_one w) os)
  have e2 := segRun_of (congrFun (h_two w) os)
  rw [h_abs] at e2
  rw [← body_eq]
  exact piece_app e1 (piece_app e2 (piece_nil (h_fin w os)))
theorem left : LeftO pg qv [] Xt0 (Hook.obs hook) (Hook.val hook) 7532 :=
  LeftO.of_pieces h_open h_size h_run (by decide) fun w => by
    have a := h_looks w
    have b := h_seen w
    funext os
    have a' := congrFun a os
    exact (looks_pair (congrArg Prod.fst a') (looks_pair (congrArg Prod.snd a') b))
end Vs.Hd
end
section
set_option Elab.async false
set_option maxRecDepth 100000
set_option maxHeartbeats 2000000
namespace Vs
open PySem PySem.Spec PyProof.Rows L2 V6
open Kg60 (Slot Team State)
/-! ### how a state of the specification lies in the heap -/
inductive Role where
  | book | game | sides | points | won | over
  | side (t : Bool) | players (t : Bool) | libs (t : Bool) | outS (t : Bool) | outM (t : Bool) | places (t : Bool)
  | place (t : Bool) (i : Nat)
  deriving DecidableEq
def nV (n : Nat) : V := .int (n : Int)
def oV (x : Option Nat) : V := .int (Kg60.opt x)
def placeF (y : Slot) : List (Str × V) := [("starter", nV y.starter), ("second", oV y.sub), ("stage", nV y.phase), ("libero", oV y.libero)]
def sideF (α : Role → Addr) (t : Bool) (x : Team) : List (Str × V) := [("players", .ref (α (.players t))), ("liberos", .ref (α (.libs t))), ("out_of_set", .ref (α (.outS t))), ("out_of_match", .ref (α (.outM t))),
  ("places", .ref (α (.places t))), ("turns", nV x.first), ("substitutions", nV x.subs), ("timeouts", nV x.timeouts), ("libero_moved", .bl x.changed)]
def gameF (α : Role → Addr) (s : State) : List (Str × V) := [("begun", .bl s.ready), ("sides", .ref (α .sides)), ("points", .ref (α .points)), ("sets_won", .ref (α .won)), ("points_of_sets", .ref (α .over)), ("server", nV s.serves), ("first_server", nV s.firstServe), ("playing", .bl s.playing)]
def flatO (l : List (Nat × Nat)) : List Nat := l.flatMap fun x => [x.1, x.2]
/-- the keys of a dict are these numbers -/
def Keys (kvs : List (Key × V)) (l : List Nat) : Prop := (∀ n : Nat, (valV kvs (Sum.inl (n : Int))).isSome = l.contains n) ∧ kvs.length ≤ l.length
def ObjV (d : Ad) (α : Role → Addr) (s : State) : Role → HO → Prop
  | .book, o => ∃ dx, o = .ins d.c_Book dx [("game", .ref (α .game))]
  | .game, o => ∃ dx, o = .ins d.c_Game dx (gameF α s)
  | .sides, o => o = .lst [.ref (α (.side false)), .ref (α (.side true))]
  | .points, o => o = .lst [nV s.a.points, nV s.b.points]
  | .won, o => o = .lst [nV s.a.sets, nV s.b.sets]
  | .over, o => o = .lst ((flatO s.over).map nV)
  | .side t, o => ∃ dx, o = .ins d.c_Side dx (sideF α t (tm s t))
  | .players t, o => o = .lst ((tm s t).players.map nV)
  | .libs t, o => o = .lst ((tm s t).liberos.map nV)
  | .outS t, o => ∃ kvs, o = .dK kvs ∧ Keys kvs (tm s t).outSet
  | .outM t, o => ∃ kvs, o = .dK kvs ∧ Keys kvs (tm s t).outAll
  | .places t, o => o = .lst ((List.range (tm s t).slots.length).map fun i => .ref (α (.place t i)))
  | .place t i, o => ∃ dx y, (tm s t).slots[i]? = some y ∧ o = .ins d.c_Place dx (placeF y)
def Live (s : State) : Role → Prop
  | .place t i => i < (tm s t).slots.length
  | _ => True
structure Rep (d : Ad) (H : Hp) (α : Role → Addr) (s : State) : Prop where
  inj : ∀ r q, Live s r → Live s q → α r = α q → r = q
  at_ : ∀ r, Live s r → ∃ o, H (α r) = some o ∧ ObjV d α s r o
/-- not among the game's own things -/
def Out (α : Role → Addr) (s : State) (b : Addr) : Prop := ∀ r, Live s r → α r ≠ b
/-- what keeps its address, but where a new match is begun (D) -/
def Fixed (D : List Addr) : Role → Prop
  | .book => True
  | .points => False
  | .outS _ => False
  | .places _ => False
  | .place _ _ => False
  | _ => D = []
theorem Fixed.live {D : List Addr} {r : Role} (h : Fixed D r) (s : State) : Live s r := by
  cases r <;> first | trivial | exact h.elim
/-- from one heap and state to another: all outside stays, and stays outside, but for what is handed over (D) -/
structure Step (d : Ad) (H : Hp) (α : Role → Addr) (s : State) (H' : Hp) (α' : Role → Addr) (s' : State) (D : List Addr := []) : Prop where
  rep : Rep d H' α' s'
  ad : ∀ r, Fixed D r → α' r = α r
  fr : ∀ b o, H b = some o → Out α s b → b ∉ D → H' b = some o ∧ Out α' s' b
  gr : ∀ b, H' b = none → H b = none
section
variable {d : Ad} {H H' H1 H2 : Hp} {α α' α1 : Role → Addr} {s s' s1 : State} {D : List Addr}
theorem Same.refl {H : Hp} : Same H H := fun _ _ h => h
theorem Same.new {H : Hp} {a : Addr} {o : HO} (h : H a = none) : Same H (upd H a o) := fun b u e => by rw [upd_ne (ne_of_none e h)]; exact e
theorem upd_none {H : Hp} {a b : Addr} {o : HO} (h : upd H a o b = none) : H b = none := by
  unfold upd at h
  split at h
  · cases h
  · exact h
theorem Rep.same (R : Rep d H α s) (e : Same H H') : Rep d H' α s := ⟨R.inj, fun r h => let ⟨o, h1, h2⟩ := R.at_ r h; ⟨o, e _ _ h1, h2⟩⟩
theorem Rep.fresh (R : Rep d H α s) {a : Addr} (h : H a = none) : Out α s a := fun r hl e => by
  obtain ⟨o, h1, _⟩ := R.at_ r hl
  rw [e, h] at h1
  cases h1
theorem Rep.outw (R : Rep d H α s) {b : Addr} {o : HO} (h : Out α s b) : Rep d (upd H b o) α s := ⟨R.inj, fun r hl => let ⟨u, h1, h2⟩ := R.at_ r hl; ⟨u, by rw [upd_ne (h r hl)]; exact h1, h2⟩⟩
theorem Step.gen (R : Rep d H α s) (N : Role → Prop) (hD : ∀ b ∈ D, Out α s b) (hN : ∀ r, Live s' r → N r → H (α' r) = none ∨ α' r ∈ D) (hO : ∀ r, Live s' r → ¬ N r → Live s r ∧ α' r = α r)
    (inj : ∀ r q, Live s' r → Live s' q → N r → N q → α' r = α' q → r = q) (at_ : ∀ r, Live s' r → ∃ o, H' (α' r) = some o ∧ ObjV d α' s' r o) (bk : ∀ r, Fixed D r → ¬ N r)
    (fr : ∀ b o, H b = some o → Out α s b → b ∉ D → H' b = some o) (gr : ∀ b, H' b = none → H b = none) : Step d H α s H' α' s' D := by
  have key : ∀ r q, Live s' r → Live s' q → N r → ¬ N q → α' r = α' q → False := fun r q h1 h2 n1 n2 e => by
    obtain ⟨l2, e2⟩ := hO q h2 n2
    obtain ⟨o, ho, _⟩ := R.at_ q l2
    rcases hN r h1 n1 with z | z
    · rw [e, e2, ho] at z; cases z
    · exact hD _ z q l2 (by rw [e, e2])
  refine ⟨⟨fun r q h1 h2 e => ?_, at_⟩, fun r hr => (hO r (hr.live _) (bk r hr)).2, fun b o h ho hb => ⟨fr b o h ho hb, fun r hr e => ?_⟩, gr⟩
  · by_cases n1 : N r <;> by_cases n2 : N q
    · exact inj r q h1 h2 n1 n2 e
    · exact (key r q h1 h2 n1 n2 e).elim
    · exact (key q r h2 h1 n2 n1 e.symm).elim
    · obtain ⟨l1, e1⟩ := hO r h1 n1
      obtain ⟨l2, e2⟩ := hO q h2 n2
      exact R.inj r q l1 l2 (by rw [← e1, ← e2]; exact e)
  · by_cases n : N r
    · rcases hN r hr n with z | z
      · rw [e, h] at z; cases z
      · rw [e] at z; exact hb z
    · obtain ⟨l1, e1⟩ := hO r hr n
      exact ho r l1 (by rw [← e1]; exact e)
theorem Step.same (R : Rep d H α s) (e : Same H H') : Step d H α s H' α s := ⟨R.same e, fun _ _ => rfl, fun b o h ho _ => ⟨e b o h, ho⟩, fun b h => e.free h⟩
theorem Step.refl (R : Rep d H α s) : Step d H α s H α s := Step.same R Same.refl
theorem Step.trans (A : Step d H α s H1 α1 s1) (B : Step d H1 α1 s1 H' α' s') : Step d H α s H' α' s' :=
  ⟨B.rep, fun r hr => (B.ad r hr).trans (A.ad r hr), fun b o h ho _ => let ⟨h1, h2⟩ := A.fr b o h ho (List.not_mem_nil); B.fr b o h1 h2 (List.not_mem_nil), fun b h => A.gr b (B.gr b h)⟩
theorem Step.left (e : Same H H1) (B : Step d H1 α s H' α' s' D) : Step d H α s H' α' s' D := ⟨B.rep, B.ad, fun b o h ho hb => B.fr b o (e b o h) ho hb, fun b h => e.free (B.gr b h)⟩
theorem Step.right (A : Step d H α s H1 α' s' D) (e : Same H1 H') : Step d H α s H' α' s' D := ⟨A.rep.same e, A.ad, fun b o h ho hb => let ⟨h1, h2⟩ := A.fr b o h ho hb; ⟨e b o h1, h2⟩, fun b h => A.gr b (e.free h)⟩
theorem Step.to {x y : State} (S : Step d H α s H' α' x D) (e : x = y) : Step d H α s H' α' y D := e ▸ S
/-- one object is written anew -/
theorem Step.write (R : Rep d H α s) {r : Role} {o : HO} (hl : Live s r) (hl' : ∀ q, Live s' q → Live s q) (hr : ObjV d α s' r o) (hq : ∀ q, q ≠ r → Live s' q → ∀ u, ObjV d α s q u → ObjV d α s' q u) : Step d H α s (upd H (α r) o) α s' := by
  refine Step.gen R (fun _ => False) (fun b hb => (nomatch hb)) (fun _ _ h => h.elim) (fun q h _ => ⟨hl' q h, rfl⟩) (fun _ _ _ _ h => h.elim) (fun q h => ?_) (fun _ _ h => h) (fun b u h ho _ => by rw [upd_ne fun z => ho r hl z.symm]; exact h) (fun b h => upd_none h)
  by_cases e : q = r
  · subst e; exact ⟨o, upd_same, hr⟩
  · obtain ⟨u, h1, h2⟩ := R.at_ q (hl' _ h)
    exact ⟨u, by rw [upd_ne fun z => e (R.inj q r (hl' _ h) hl z)]; exact h1, hq q e h u h2⟩
/-! what stands where -/
theorem Rep.o_book (R : Rep d H α s) : ∃ dx, H (α .book) = some (.ins d.c_Book dx [("game", .ref (α .game))]) := by
  obtain ⟨o, h, dx, e⟩ := R.at_ .book trivial
  exact ⟨dx, by rw [h, e]⟩
theorem Rep.o_game (R : Rep d H α s) : ∃ dx, H (α .game) = some (.ins d.c_Game dx (gameF α s)) := by
  obtain ⟨o, h, dx, e⟩ := R.at_ .game trivial
  exact ⟨dx, by rw [h, e]⟩
theorem Rep.o_sides (R : Rep d H α s) : H (α .sides) = some (.lst [.ref (α (.side false)), .ref (α (.side true))]) := by
  obtain ⟨o, h, e⟩ := R.at_ .sides trivial
  rw [h, show o = _ from e]
theorem Rep.o_points (R : Rep d H α s) : H (α .points) = some (.lst [nV s.a.points, nV s.b.points]) := by
  obtain ⟨o, h, e⟩ := R.at_ .points trivial
  rw [h, show o = _ from e]
theorem Rep.o_won (R : Rep d H α s) : H (α .won) = some (.lst [nV s.a.sets, nV s.b.sets]) := by
  obtain ⟨o, h, e⟩ := R.at_ .won trivial
  rw [h, show o = _ from e]
theorem Rep.o_over (R : Rep d H α s) : H (α .over) = some (.lst ((flatO s.over).map nV)) := by
  obtain ⟨o, h, e⟩ := R.at_ .over trivial
  rw [h, show o = _ from e]
theorem Rep.o_side (R : Rep d H α s) (t : Bool) : ∃ dx, H (α (.side t)) = some (.ins d.c_Side dx (sideF α t (tm s t))) := by
  obtain ⟨o, h, dx, e⟩ := R.at_ (.side t) trivial
  exact ⟨dx, by rw [h, e]⟩
theorem Rep.o_players (R : Rep d H α s) (t : Bool) : H (α (.players t)) = some (.lst ((tm s t).players.map nV)) := by
  obtain ⟨o, h, e⟩ := R.at_ (.players t) trivial
  rw [h, show o = _ from e]
theorem Rep.o_libs (R : Rep d H α s) (t : Bool) : H (α (.libs t)) = some (.lst ((tm s t).liberos.map nV)) := by
  obtain ⟨o, h, e⟩ := R.at_ (.libs t) trivial
  rw [h, show o = _ from e]
theorem Rep.o_outS (R : Rep d H α s) (t : Bool) : ∃ kvs, H (α (.outS t)) = some (.dK kvs) ∧ Keys kvs (tm s t).outSet := by
  obtain ⟨o, h, kvs, e, k⟩ := R.at_ (.outS t) trivial
  exact ⟨kvs, by rw [h, e], k⟩
theorem Rep.o_outM (R : Rep d H α s) (t : Bool) : ∃ kvs, H (α (.outM t)) = some (.dK kvs) ∧ Keys kvs (tm s t).outAll := by
  obtain ⟨o, h, kvs, e, k⟩ := R.at_ (.outM t) trivial
  exact ⟨kvs, by rw [h, e], k⟩
theorem Rep.o_places (R : Rep d H α s) (t : Bool) : H (α (.places t)) = some (.lst ((List.range (tm s t).slots.length).map fun i => .ref (α (.place t i)))) := by
  obtain ⟨o, h, e⟩ := R.at_ (.places t) trivial
  rw [h, show o = _ from e]
theorem Rep.o_place (R : Rep d H α s) (t : Bool) {i : Nat} {y : Slot} (hy : (tm s t).slots[i]? = some y) : ∃ dx, H (α (.place t i)) = some (.ins d.c_Place dx (placeF y)) := by
  obtain ⟨o, h, dx, y', h', e⟩ := R.at_ (.place t i) (List.getElem?_eq_some_iff.mp hy).1
  rw [hy] at h'
  cases h'
  exact ⟨dx, by rw [h, e]⟩
/-! the writes -/
theorem Step.side (R : Rep d H α s) (t : Bool) {x : Team} {dx : Addr} {fs : List (Str × V)} (hf : fs = sideF α t x) (h1 : x.players = (tm s t).players) (h2 : x.liberos = (tm s t).liberos) (h3 : x.outSet = (tm s t).outSet) (h4 : x.outAll = (tm s t).outAll) (h5 : x.slots = (tm s t).slots)
    (h6 : x.points = (tm s t).points) (h7 : x.sets = (tm s t).sets) : Step d H α s (upd H (α (.side t)) (.ins d.c_Side dx fs)) α (putT s t x) := by
  refine Step.write R trivial (fun q h => ?_) ?_ (fun q hne hl u hu => ?_)
  · cases q with
    | place u i => cases t <;> cases u <;> first | exact h | (show i < _; rw [← h5]; exact h)
    | _ => trivial
  · exact ⟨dx, by rw [hf, tm_putT]⟩
  · cases q with
    | side u => cases t <;> cases u <;> first | exact hu | exact absurd rfl hne
    | players u => cases t <;> cases u <;> first | exact hu | (simp only [ObjV] at hu ⊢; rw [tm_putT, h1]; exact hu)
    | libs u => cases t <;> cases u <;> first | exact hu | (simp only [ObjV] at hu ⊢; rw [tm_putT, h2]; exact hu)
    | outS u => cases t <;> cases u <;> first | exact hu | (simp only [ObjV] at hu ⊢; rw [tm_putT, h3]; exact hu)
    | outM u => cases t <;> cases u <;> first | exact hu | (simp only [ObjV] at hu ⊢; rw [tm_putT, h4]; exact hu)
    | places u => cases t <;> cases u <;> first | exact hu | (simp only [ObjV] at hu ⊢; rw [tm_putT, h5]; exact hu)
    | place u i => cases t <;> cases u <;> first | exact hu | (simp only [ObjV] at hu ⊢; rw [tm_putT, h5]; exact hu)
    | points => cases t <;> (simp only [ObjV] at hu ⊢; rw [hu]; first | exact congrArg (fun n => HO.lst [nV n, _]) h6.symm | exact congrArg (fun n => HO.lst [_, nV n]) h6.symm)
    | won => cases t <;> (simp only [ObjV] at hu ⊢; rw [hu]; first | exact congrArg (fun n => HO.lst [nV n, _]) h7.symm | exact congrArg (fun n => HO.lst [_, nV n]) h7.symm)
    | _ => cases t <;> exact hu
theorem Step.place (R : Rep d H α s) (t : Bool) {i : Nat} {y y' : Slot} {dx : Addr} {fs : List (Str × V)} (hy : (tm s t).slots[i]? = some y) (hf : fs = placeF y') : Step d H α s (upd H (α (.place t i)) (.ins d.c_Place dx fs)) α (putT s t { tm s t with slots := (tm s t).slots.set i y' }) := by
  have lt := (List.getElem?_eq_some_iff.mp hy).1
  refine Step.write (r := .place t i) R lt (fun q h => ?_) ?_ (fun q hne hl u hu => ?_)
  · cases q with
    | place u j => cases t <;> cases u <;> first | exact h | (have h : j < (List.set _ _ _).length := h; rw [List.length_set] at h; exact h)
    | _ => trivial
  · exact ⟨dx, y', by rw [tm_putT]; exact List.getElem?_set_self lt, by rw [hf]⟩
  · cases q with
    | places u => cases t <;> cases u <;> first | exact hu | (simp only [ObjV] at hu ⊢; rw [tm_putT]; show _ = HO.lst ((List.range (List.set _ _ _).length).map _); rw [List.length_set]; exact hu)
    | place u j =>
      cases t <;> cases u <;> first
        | exact hu
        | (obtain ⟨dx, z, h1, h2⟩ := hu
           refine ⟨dx, z, ?_, h2⟩
           rw [tm_putT]
           show (List.set _ _ _)[j]? = some z
           rw [List.getElem?_set_ne (fun e => hne (by rw [e]))]
           exact h1)
    | side u => cases t <;> cases u <;> exact hu
    | players u => cases t <;> cases u <;> exact hu
    | libs u => cases t <;> cases u <;> exact hu
    | outS u => cases t <;> cases u <;> exact hu
    | outM u => cases t <;> cases u <;> exact hu
    | _ => cases t <;> exact hu
theorem Step.game (R : Rep d H α s) {dx : Addr} {fs : List (Str × V)} (hf : fs = gameF α s') (ha : s'.a = s.a) (hb : s'.b = s.b) (ho : s'.over = s.over) : Step d H α s (upd H (α .game) (.ins d.c_Game dx fs)) α s' := by
  have ht : ∀ t, tm s' t = tm s t := fun t => by cases t; exact ha; exact hb
  refine Step.write R trivial (fun q h => ?_) ?_ (fun q hne hl u hu => ?_)
  · cases q with
    | place u i => have h : i < (tm s' u).slots.length := h; rw [ht] at h; exact h
    | _ => trivial
  · exact ⟨dx, by rw [hf]⟩
  · cases q with
    | game => exact absurd rfl hne
    | book => exact hu
    | sides => exact hu
    | _ => simp only [ObjV] at hu ⊢; simp only [ht, ha, hb, ho]; exact hu
theorem Step.points (R : Rep d H α s) (t : Bool) {n : Nat} {xs : List V} (hx : xs = (([nV s.a.points, nV s.b.points] : List V).set (bN t) (nV n))) : Step d H α s (upd H (α .points) (.lst xs)) α (putT s t { tm s t with points := n }) := by
  refine Step.write R trivial (fun q h => ?_) ?_ (fun q hne hl u hu => ?_)
  · cases q with
    | place u i => cases t <;> cases u <;> exact h
    | _ => trivial
  · cases t <;> (simp only [ObjV]; rw [hx]; rfl)
  · cases q with
    | points => exact absurd rfl hne
    | side u => cases t <;> cases u <;> exact hu
    | players u => cases t <;> cases u <;> exact hu
    | libs u => cases t <;> cases u <;> exact hu
    | outS u => cases t <;> cases u <;> exact hu
    | outM u => cases t <;> cases u <;> exact hu
    | places u => cases t <;> cases u <;> exact hu
    | place u i => cases t <;> cases u <;> exact hu
    | _ => cases t <;> exact hu
theorem Step.won (R : Rep d H α s) (t : Bool) {n : Nat} {xs : List V} (hx : xs = (([nV s.a.sets, nV s.b.sets] : List V).set (bN t) (nV n))) : Step d H α s (upd H (α .won) (.lst xs)) α (putT s t { tm s t with sets := n }) := by
  refine Step.write R trivial (fun q h => ?_) ?_ (fun q hne hl u hu => ?_)
  · cases q with
    | place u i => cases t <;> cases u <;> exact h
    | _ => trivial
  · cases t <;> (simp only [ObjV]; rw [hx]; rfl)
  · cases q with
    | won => exact absurd rfl hne
    | side u => cases t <;> cases u <;> exact hu
    | players u => cases t <;> cases u <;> exact hu
    | libs u => cases t <;> cases u <;> exact hu
    | outS u => cases t <;> cases u <;> exact hu
    | outM u => cases t <;> cases u <;> exact hu
    | places u => cases t <;> cases u <;> exact hu
    | place u i => cases t <;> cases u <;> exact hu
    | _ => cases t <;> exact hu
theorem Step.over (R : Rep d H α s) {l : List (Nat × Nat)} {xs : List V} (hx : xs = (flatO l).map nV) : Step d H α s (upd H (α .over) (.lst xs)) α { s with over := l } := by
  refine Step.write R trivial (fun q h => ?_) ?_ (fun q hne hl u hu => ?_)
  · cases q with
    | place u i => cases u <;> exact h
    | _ => trivial
  · simp only [ObjV]; rw [hx]
  · cases q with
    | over => exact absurd rfl hne
    | side u => cases u <;> exact hu
    | players u => cases u <;> exact hu
    | libs u => cases u <;> exact hu
    | outS u => cases u <;> exact hu
    | outM u => cases u <;> exact hu
    | places u => cases u <;> exact hu
    | place u i => cases u <;> exact hu
    | _ => exact hu
theorem Keys.put {kvs : List (Key × V)} {l : List Nat} {v : V} (h : Keys kvs l) (p : Nat) : Keys (putK kvs (Sum.inl (p : Int)) v) (l ++ [p]) := by
  refine ⟨fun n => ?_, by rw [List.length_append]; have := length_putK kvs (Sum.inl (p : Int)) v; have := h.2; simp only [List.length_singleton]; omega⟩
  rw [valV_put]
  by_cases e : n = p
  · subst e; rw [if_pos rfl]; simp
  · rw [if_neg (fun q => e (by have := Sum.inl.inj q; omega)), h.1 n]
    simp [e]
theorem Step.outS (R : Rep d H α s) (t : Bool) {p : Nat} {kvs : List (Key × V)} {v : V} (hk : Keys kvs (tm s t).outSet) : Step d H α s (upd H (α (.outS t)) (.dK (putK kvs (Sum.inl (p : Int)) v))) α (putT s t { tm s t with outSet := (tm s t).outSet ++ [p] }) := by
  refine Step.write R trivial (fun q h => ?_) ?_ (fun q hne hl u hu => ?_)
  · cases q with
    | place u i => cases t <;> cases u <;> exact h
    | _ => trivial
  · exact ⟨_, rfl, by rw [tm_putT]; exact hk.put p⟩
  · cases q with
    | outS u => cases t <;> cases u <;> first | exact hu | exact absurd rfl hne
    | side u => cases t <;> cases u <;> exact hu
    | players u => cases t <;> cases u <;> exact hu
    | libs u => cases t <;> cases u <;> exact hu
    | outM u => cases t <;> cases u <;> exact hu
    | places u => cases t <;> cases u <;> exact hu
    | place u i => cases t <;> cases u <;> exact hu
    | _ => cases t <;> exact hu
theorem Step.outM (R : Rep d H α s) (t : Bool) {p : Nat} {kvs : List (Key × V)} {v : V} (hk : Keys kvs (tm s t).outAll) : Step d H α s (upd H (α (.outM t)) (.dK (putK kvs (Sum.inl (p : Int)) v))) α (putT s t { tm s t with outAll := (tm s t).outAll ++ [p] }) := by
  refine Step.write R trivial (fun q h => ?_) ?_ (fun q hne hl u hu => ?_)
  · cases q with
    | place u i => cases t <;> cases u <;> exact h
    | _ => trivial
  · exact ⟨_, rfl, by rw [tm_putT]; exact hk.put p⟩
  · cases q with
    | outM u => cases t <;> cases u <;> first | exact hu | exact absurd rfl hne
    | side u => cases t <;> cases u <;> exact hu
    | players u => cases t <;> cases u <;> exact hu
    | libs u => cases t <;> cases u <;> exact hu
    | outS u => cases t <;> cases u <;> exact hu
    | places u => cases t <;> cases u <;> exact hu
    | place u i => cases t <;> cases u <;> exact hu
    | _ => cases t <;> exact hu
/-! a new thing in the place of an old one -/
def at1 (α : Role → Addr) (r : Role) (p : Addr) : Role → Addr := fun q => if q = r then p else α q
theorem at1_same {r : Role} {p : Addr} : at1 α r p r = p := if_pos rfl
theorem at1_ne {r q : Role} {p : Addr} (h : q ≠ r) : at1 α r p q = α q := if_neg h
theorem Step.swap (R : Rep d H α s) {r h : Role} {p : Addr} {o u : HO} (hp : H p = none) (hb : ¬ Fixed [] r) (hh : Live s h) (hrh : h ≠ r) (hl : ∀ q, q ≠ r → Live s' q → Live s q) (hr : ObjV d (at1 α r p) s' r o) (hho : ObjV d (at1 α r p) s' h u)
    (hq : ∀ q, q ≠ r → q ≠ h → Live s' q → ∀ u, ObjV d α s q u → ObjV d (at1 α r p) s' q u) : Step d H α s (upd (upd H p o) (α h) u) (at1 α r p) s' := by
  have np : ∀ q, Live s q → α q ≠ p := R.fresh hp
  refine Step.gen R (fun q => q = r) (fun b hb => (nomatch hb)) (fun q _ e => .inl (by rw [e, at1_same]; exact hp)) (fun q h e => ⟨hl q e h, at1_ne e⟩) (fun q q' _ _ e e' _ => e.trans e'.symm) (fun q h' => ?_) (fun q hq e => hb (by rw [← e]; exact hq)) (fun b w hw ho _ => ?_) (fun b h => upd_none (upd_none h))
  · by_cases e : q = r
    · subst e
      rw [at1_same]
      exact ⟨o, by rw [upd_ne (fun z => np h hh z.symm), upd_same], hr⟩
    · rw [at1_ne e]
      by_cases e2 : q = h
      · subst e2; exact ⟨u, upd_same, hho⟩
      · obtain ⟨w, h1, h2⟩ := R.at_ q (hl q e h')
        exact ⟨w, by rw [upd_ne fun z => e2 (R.inj q h (hl q e h') hh z), upd_ne (np q (hl q e h'))]; exact h1, hq q e e2 h' w h2⟩
  · rw [upd_ne fun z => ho h hh z.symm, upd_ne (ne_of_none hw hp)]; exact hw
theorem Step.newPoints (R : Rep d H α s) {p dx : Addr} {fs : List (Str × V)} (hp : H p = none) (hf : fs = gameF (at1 α .points p) s) :
    Step d H α s (upd (upd H p (.lst [nV 0, nV 0])) (α .game) (.ins d.c_Game dx fs)) (at1 α .points p) { s with a := { s.a with points := 0 }, b := { s.b with points := 0 } } := by
  refine Step.swap R (h := .game) hp (fun e => e) trivial (by intro e; cases e) (fun q hne h => ?_) rfl ⟨dx, by rw [hf]; rfl⟩ (fun q h1 h2 hl u hu => ?_)
  · cases q with
    | place u i => cases u <;> exact h
    | _ => trivial
  · cases q with
    | points => exact absurd rfl h1
    | game => exact absurd rfl h2
    | side u => cases u <;> exact hu
    | players u => cases u <;> exact hu
    | libs u => cases u <;> exact hu
    | outS u => cases u <;> exact hu
    | outM u => cases u <;> exact hu
    | places u => cases u <;> exact hu
    | place u i => cases u <;> exact hu
    | _ => exact hu
theorem Step.newOutS (R : Rep d H α s) (t : Bool) {p dx : Addr} {fs : List (Str × V)} (hp : H p = none) (hf : fs = sideF (at1 α (.outS t) p) t (tm s t)) :
    Step d H α s (upd (upd H p (.dK [])) (α (.side t)) (.ins d.c_Side dx fs)) (at1 α (.outS t) p) (putT s t { tm s t with outSet := [] }) := by
  refine Step.swap R (h := .side t) hp (fun e => e) trivial (by intro e; cases e) (fun q hne h => ?_) ?_ ?_ (fun q h1 h2 hl u hu => ?_)
  · cases q with
    | place u i => cases t <;> cases u <;> exact h
    | _ => trivial
  · exact ⟨[], rfl, by rw [tm_putT]; exact ⟨fun n => rfl, Nat.le_refl _⟩⟩
  · exact ⟨dx, by rw [hf]; cases t <;> rfl⟩
  · cases q with
    | outS u => cases t <;> cases u <;> first | exact hu | exact absurd rfl h1
    | side u => cases t <;> cases u <;> first | exact hu | exact absurd rfl h2
    | players u => cases t <;> cases u <;> exact hu
    | libs u => cases t <;> cases u <;> exact hu
    | outM u => cases t <;> cases u <;> exact hu
    | places u => cases t <;> cases u <;> exact hu
    | place u i => cases t <;> cases u <;> exact hu
    | _ => cases t <;> exact hu
theorem Step.noPlaces (R : Rep d H α s) (t : Bool) {p dx : Addr} {fs : List (Str × V)} (hp : H p = none) (hf : fs = sideF (at1 α (.places t) p) t (tm s t)) :
    Step d H α s (upd (upd H p (.lst [])) (α (.side t)) (.ins d.c_Side dx fs)) (at1 α (.places t) p) (putT s t { tm s t with slots := [] }) := by
  refine Step.swap R (h := .side t) hp (fun e => e) trivial (by intro e; cases e) (fun q hne h => ?_) ?_ ?_ (fun q h1 h2 hl u hu => ?_)
  · cases q with
    | place u i => cases t <;> cases u <;> first | exact h | exact absurd h (Nat.not_lt_zero _)
    | _ => trivial
  · simp only [ObjV]; rw [tm_putT]; rfl
  · exact ⟨dx, by rw [hf]; cases t <;> rfl⟩
  · cases q with
    | places u => cases t <;> cases u <;> first | exact hu | exact absurd rfl h1
    | side u => cases t <;> cases u <;> first | exact hu | exact absurd rfl h2
    | players u => cases t <;> cases u <;> exact hu
    | libs u => cases t <;> cases u <;> exact hu
    | outS u => cases t <;> cases u <;> exact hu
    | outM u => cases t <;> cases u <;> exact hu
    | place u i => cases t <;> cases u <;> first | exact hu | exact absurd hl (Nat.not_lt_zero _)
    | _ => cases t <;> exact hu
/-- a line-up's places in the place of old ones -/
def atL (α : Role → Addr) (t : Bool) (D : Addr) (as : List Addr) : Role → Addr
  | .places u => if u = t then D else α (.places u)
  | .place u i => if u = t then as.getD i 0 else α (.place u i)
  | r => α r
theorem Step.lineup (R : Rep d H α s) (t : Bool) {D dx : Addr} {as : List Addr} {fs : List (Str × V)} {l : List Nat} (hlen : as.length = l.length) (sm : Same H H1) (hD : H D = none) (hDl : H1 D = some (.lst (as.map V.ref))) (hnew : ∀ a ∈ as, H a = none) (hnd : as.Nodup) (hDn : D ∉ as)
    (hat : ∀ (j : Nat) (a : Addr) (n : Nat), as[j]? = some a → l[j]? = some n → ∃ dx, H1 a = some (.ins d.c_Place dx (placeF ⟨n, none, 0, none⟩))) (hf : fs = sideF (atL α t D as) t (tm s t)) :
    Step d H α s (upd H1 (α (.side t)) (.ins d.c_Side dx fs)) (atL α t D as) (putT s t { tm s t with slots := l.map fun p => ⟨p, none, 0, none⟩ }) := by
  obtain ⟨_, hside⟩ := R.o_side t
  have nD : D ≠ α (.side t) := fun e => by rw [e, hside] at hD; cases hD
  have nas : ∀ a ∈ as, a ≠ α (.side t) := fun a ha e => by have := hnew a ha; rw [e, hside] at this; cases this
  have keep : ∀ (q : Role) {o : HO}, Live s q → q ≠ .side t → H (α q) = some o → upd H1 (α (.side t)) (.ins d.c_Side dx fs) (α q) = some o := fun q o hl hne h => by
    rw [upd_ne fun z => hne (R.inj q (.side t) hl trivial z)]; exact sm _ _ h
  have getas : ∀ i, i < l.length → ∃ a, as[i]? = some a ∧ as.getD i 0 = a := fun i hi => ⟨as[i], List.getElem?_eq_getElem (by omega), by rw [List.getD_eq_getElem?_getD, List.getElem?_eq_getElem (by omega)]; rfl⟩
  have lenT : (tm (putT s t { tm s t with slots := l.map fun p => ⟨p, none, 0, none⟩ }) t).slots.length = l.length := by rw [tm_putT]; exact List.length_map _
  refine Step.gen R (fun q => match q with | .places u => u = t | .place u _ => u = t | _ => False) (fun b hb => (nomatch hb)) (fun q hl hq => .inl ?_) (fun q hl hq => ?_) (fun q q' hl hl' n1 n2 e => ?_) (fun q hl => ?_) (fun q hf => ?_) (fun b o hb ho _ => ?_) (fun b h => sm.free (upd_none h))
  · cases q with
    | places u => simp only at hq; subst hq; simp only [atL, if_true]; exact hD
    | place u i =>
      simp only at hq; subst hq
      simp only [Live, lenT] at hl
      obtain ⟨a, h1, h2⟩ := getas i hl
      simp only [atL, if_true, h2]
      exact hnew a (List.mem_of_getElem? h1)
    | _ => exact hq.elim
  · cases q with
    | places u => exact ⟨trivial, by simp only [atL]; exact if_neg hq⟩
    | place u i =>
      have hq : ¬ u = t := hq
      refine ⟨?_, by simp only [atL]; exact if_neg hq⟩
      cases t <;> cases u <;> first | exact hl | exact absurd rfl hq
    | _ => exact ⟨trivial, rfl⟩
  · cases q with
    | places u =>
      have n1 : u = t := n1
      subst n1
      cases q' with
      | places u' => have n2 : u' = u := n2; rw [n2]
      | place u' i =>
        have n2 : u' = u := n2
        subst n2
        simp only [Live, lenT] at hl'
        obtain ⟨a, h1, h2⟩ := getas i hl'
        simp only [atL, if_true, h2] at e
        exact absurd (List.mem_of_getElem? h1) (by rw [← e]; exact hDn)
      | _ => exact n2.elim
    | place u i =>
      have n1 : u = t := n1
      subst n1
      simp only [Live, lenT] at hl
      obtain ⟨a, h1, h2⟩ := getas i hl
      cases q' with
      | places u' =>
        have n2 : u' = u := n2
        subst n2
        simp only [atL, if_true, h2] at e
        exact absurd (List.mem_of_getElem? h1) (by rw [e]; exact hDn)
      | place u' i' =>
        have n2 : u' = u := n2
        subst n2
        simp only [Live, lenT] at hl'
        obtain ⟨a', h1', h2'⟩ := getas i' hl'
        simp only [atL, if_true, h2, h2'] at e
        subst e
        rw [nd_ix hnd h1 h1']
      | _ => exact n2.elim
    | _ => exact n1.elim
  · cases q with
    | side u =>
      by_cases e : u = t
      · subst e
        exact ⟨_, upd_same, dx, by rw [hf, tm_putT]; rfl⟩
      · obtain ⟨o, h1, dy, h2⟩ := R.at_ (.side u) trivial
        refine ⟨o, by show upd H1 _ _ (α (.side u)) = _; rw [upd_ne fun z => e (by have := R.inj (.side u) (.side t) trivial trivial z; cases this; rfl)]; exact sm _ _ h1, dy, ?_⟩
        rw [h2]
        cases t <;> cases u <;> first | rfl | exact absurd rfl e
    | places u =>
      by_cases e : u = t
      · subst e
        refine ⟨_, by simp only [atL, if_true]; rw [upd_ne nD]; exact hDl, ?_⟩
        simp only [ObjV, lenT]
        congr 1
        apply List.ext_getElem?
        intro i
        rw [List.getElem?_map, List.getElem?_map]
        by_cases hi : i < l.length
        · obtain ⟨a, h1, h2⟩ := getas i hi
          rw [h1, List.getElem?_range hi]
          simp only [Option.map_some, atL, if_true, h2]
        · rw [List.getElem?_eq_none (by omega), List.getElem?_eq_none (by rw [List.length_range]; omega)]; rfl
      · obtain ⟨o, h1, h2⟩ := R.at_ (.places u) trivial
        refine ⟨o, by simp only [atL, if_neg e]; exact keep (.places u) trivial (by intro z; cases z) h1, ?_⟩
        simp only [ObjV] at h2 ⊢
        rw [h2]
        cases t <;> cases u <;> first | rfl | exact absurd rfl e
    | place u i =>
      by_cases e : u = t
      · subst e
        simp only [Live, lenT] at hl
        obtain ⟨a, h1, h2⟩ := getas i hl
        obtain ⟨dy, h3⟩ := hat i a _ h1 (List.getElem?_eq_getElem hl)
        refine ⟨_, by simp only [atL, if_true, h2]; rw [upd_ne (nas a (List.mem_of_getElem? h1))]; exact h3, dy, _, ?_, rfl⟩
        rw [tm_putT]
        show (l.map _)[i]? = _
        rw [List.getElem?_map, List.getElem?_eq_getElem hl]; rfl
      · have hl0 : Live s (.place u i) := by cases t <;> cases u <;> first | exact hl | exact absurd rfl e
        obtain ⟨o, h1, dy, y, h2, h3⟩ := R.at_ (.place u i) hl0
        refine ⟨o, by simp only [atL, if_neg e]; exact keep (.place u i) hl0 (by intro z; cases z) h1, dy, y, ?_, h3⟩
        cases t <;> cases u <;> first | exact h2 | exact absurd rfl e
    | players u => obtain ⟨o, h1, h2⟩ := R.at_ (.players u) trivial; exact ⟨o, keep (.players u) trivial (by intro z; cases z) h1, by cases t <;> cases u <;> exact h2⟩
    | libs u => obtain ⟨o, h1, h2⟩ := R.at_ (.libs u) trivial; exact ⟨o, keep (.libs u) trivial (by intro z; cases z) h1, by cases t <;> cases u <;> exact h2⟩
    | outS u => obtain ⟨o, h1, h2⟩ := R.at_ (.outS u) trivial; exact ⟨o, keep (.outS u) trivial (by intro z; cases z) h1, by cases t <;> cases u <;> exact h2⟩
    | outM u => obtain ⟨o, h1, h2⟩ := R.at_ (.outM u) trivial; exact ⟨o, keep (.outM u) trivial (by intro z; cases z) h1, by cases t <;> cases u <;> exact h2⟩
    | book => obtain ⟨o, h1, h2⟩ := R.at_ .book trivial; exact ⟨o, keep .book trivial (by intro z; cases z) h1, by cases t <;> exact h2⟩
    | game => obtain ⟨o, h1, h2⟩ := R.at_ .game trivial; exact ⟨o, keep .game trivial (by intro z; cases z) h1, by cases t <;> exact h2⟩
    | sides => obtain ⟨o, h1, h2⟩ := R.at_ .sides trivial; exact ⟨o, keep .sides trivial (by intro z; cases z) h1, by cases t <;> exact h2⟩
    | points => obtain ⟨o, h1, h2⟩ := R.at_ .points trivial; exact ⟨o, keep .points trivial (by intro z; cases z) h1, by cases t <;> exact h2⟩
    | won => obtain ⟨o, h1, h2⟩ := R.at_ .won trivial; exact ⟨o, keep .won trivial (by intro z; cases z) h1, by cases t <;> exact h2⟩
    | over => obtain ⟨o, h1, h2⟩ := R.at_ .over trivial; exact ⟨o, keep .over trivial (by intro z; cases z) h1, by cases t <;> exact h2⟩
  · cases q <;> first | exact hf.elim | exact fun e => e
  · rw [upd_ne fun z => ho (.side t) trivial z.symm]; exact sm b o hb
end
/-! ### reading fields -/
section
variable {K : PySem.W.Frag} {mg : Str → Option Value} {d : Ad} {H : Hp} {p C dx : Addr} {f : Str} {fs : List (Str × V)} {v : V} {Q : V → Prop}
theorem rF (h : H p = some (.ins C dx fs)) (c : Cls K C) (n : NoAttr K C f) (l : fs.lookup f = some v) (q : Q v) : ∃ a C dx fs v, V.ref p = V.ref a ∧ H a = some (.ins C dx fs) ∧ Cls K C ∧ NoAttr K C f ∧ fs.lookup f = some v ∧ Q v := ⟨p, C, dx, fs, v, rfl, h, c, n, l, q⟩
theorem wF {R : Hp → Prop} (h : H p = some (.ins C dx fs)) (c : Cls K C) (n : NoAttr K C f) (l : fs.length < 1000) (q : R (upd H p (.ins C dx (putF f v fs)))) : ∃ a C dx fs, V.ref p = V.ref a ∧ H a = some (.ins C dx fs) ∧ Cls K C ∧ NoAttr K C f ∧ fs.length < 1000 ∧ R (upd H a (.ins C dx (putF f v fs))) := ⟨p, C, dx, fs, rfl, h, c, n, l, q⟩
theorem eqI {i j : Int} : decide (V.int i = V.int j) = decide (i = j) := by
  by_cases h : i = j
  · rw [decide_eq_true h, decide_eq_true (by rw [h])]
  · rw [decide_eq_false h, decide_eq_false (fun e => h (V.int.inj e))]
end
end Vs
end
section
set_option Elab.async false
set_option maxRecDepth 100000
set_option maxHeartbeats 2000000
namespace Vs
open PySem PySem.Spec PyProof.Rows L2 V6
open Kg60 (Slot Team State within)
section
variable {P : Program} {w : World} {K : PySem.W.Frag} {mg : Str → Option Value} {base : Heap} {d : Ad}
/-! ### all([.. for x in xs]) -/
theorem take_snoc {α : Type} {l : List α} {i : Nat} {x : α} (h : l[i]? = some x) : l.take (i + 1) = l.take i ++ [x] := by
  rw [List.take_add_one, h]; rfl
theorem all_lc {tl te : TE} {j : Nat} {σ : L2.St} {H : Hp} {Q : VK} {a : Addr} {xs : List V} (f : V → Bool) (htl : ∀ R : VK, R (.ref a) H → tl σ H R) (hS : SqL K H a xs) (hlen : xs.length ≤ 1000)
    (hw : ∀ x, wipe ((wipe σ [j]).set j (some x)) [j] = wipe σ [j]) (he : ∀ x H' (R : VK), x ∈ xs → Same H H' → R (.bl (f x)) H' → te ((wipe σ [j]).set j (some x)) H' R)
    (k : ∀ H', Same H H' → Q (.bl (xs.all f)) H') : tCB (rAll K) (tCons (tLc (iList K tl) (gName j) tYes te [j]) tNil) σ H Q := by
  refine htl _ ⟨a, rfl, ⟨xs, hS⟩, fun D hD => ?_⟩
  refine lc_list (K := K) (a := a) (xs := xs) (fun i H' => Same H H' ∧ H' D = some (.lst ((xs.take i).map fun x => V.bl (f x)))) ⟨Same.new hD, upd_same⟩ (fun i H' _ p => p.1.seq hS) (fun i x H' hx p => ?_) (fun H' p => ?_)
  · refine ⟨hw x, he x H' _ (List.mem_of_getElem? hx) p.1 ⟨_, p.2, ?_, ?_, ?_⟩⟩
    · rw [List.length_map, List.length_take]
      exact Nat.lt_of_le_of_lt (Nat.le_trans (Nat.min_le_right _ _) hlen) (by decide)
    · exact fun b o e => by rw [upd_ne (ne_of_none e hD)]; exact p.1 b o e
    · rw [upd_same, take_snoc hx, List.map_append]; rfl
  · refine ⟨D, xs.map f, rfl, SqL.of ?_, ?_⟩
    · rw [p.2, List.take_length, List.map_map]; rfl
    · have e : (xs.map f).all id = xs.all f := by rw [List.all_map]; rfl
      rw [e]; exact k H' p.1
/-! ### what the numbers may be -/
def spIsTeam : Sp := fun vs H Q _ => ∃ z : Int, vs = [.int z] ∧ Q (.bl (within z 0 1)) H
def spIsShirt : Sp := fun vs H Q _ => ∃ z : Int, vs = [.int z] ∧ Q (.bl (within z 1 99)) H
def spAreShirts (K : PySem.W.Frag) : Sp := fun vs H Q _ => ∃ (a : Addr) (zs : List Int), vs = [.ref a] ∧ SqL K H a (zs.map V.int) ∧ zs.length ≤ 1000 ∧ ∀ H', Same H H' → Q (.bl (zs.all fun z => within z 1 99)) H'
def spAllDiff (K : PySem.W.Frag) : Sp := fun vs H Q _ => ∃ (a : Addr) (zs : List Int), vs = [.ref a] ∧ SqL K H a (zs.map V.int) ∧ zs.length ≤ 1000 ∧ ∀ H', Same H H' → Q (.bl (decide zs.Nodup)) H'
theorem ok_is_team (T : Txt K mg d) : GF P w K mg base 1 d.f_is_team ["number"] (spIsTeam) := by
  obtain ⟨fd, F⟩ := T.fn_is_team
  refine ⟨fd, F.ok sc_is_team (fun vs H Q E h => ?_) (fun cdv A outer sh H vs Q E hr h => ?_), F.binds (fun _ _ _ _ _ _ us hl => match us, hl with | [_], _ => rfl)⟩
  · obtain ⟨z, rfl, _⟩ := h; rfl
  · obtain ⟨z, rfl, k⟩ := h
    refine ⟨_, (pss_one (ps_ret (pe_or (pe_cmpR op_eq (pv 0) pe_int (nomark _)) (pe_one (pe_cmpR op_eq (pv 0) pe_int (nomark _)))))), ?_⟩
    refine ⟨_, rfl, rfl, _, rfl, ite2 (fun h => ?_) (fun h => ⟨_, rfl, rfl, ?_⟩)⟩
    · rw [eqI] at h
      have e : within z 0 1 = true := by have := of_decide_eq_true h; subst this; rfl
      rw [e] at k; exact k
    · rw [eqI] at h ⊢
      have e : within z 0 1 = decide (z = 1) := by
        rw [Bool.eq_iff_iff, within_iff, decide_eq_true_iff]
        rw [decide_eq_true_iff] at h
        omega
      rw [e] at k; exact k
theorem ok_is_shirt (T : Txt K mg d) : GF P w K mg base 1 d.f_is_shirt ["number"] (spIsShirt) := by
  obtain ⟨fd, F⟩ := T.fn_is_shirt
  refine ⟨fd, F.ok sc_is_shirt (fun vs H Q E h => ?_) (fun cdv A outer sh H vs Q E hr h => ?_), F.binds (fun _ _ _ _ _ _ us hl => match us, hl with | [_], _ => rfl)⟩
  · obtain ⟨z, rfl, _⟩ := h; rfl
  · obtain ⟨z, rfl, k⟩ := h
    refine ⟨_, (pss_one (ps_ret (pe_chain op_le op_le pe_int (pv 0) pe_int))), ?_⟩
    refine ⟨_, rfl, _, _, rfl, rfl, _, rfl, ite2 (fun h => ⟨_, _, rfl, rfl, ?_⟩) (fun h => ?_)⟩
    · have e : within z 1 99 = decide (z ≤ 99) := by unfold Kg60.within; rw [h, Bool.true_and]
      rw [e] at k; exact k
    · have e : within z 1 99 = false := by unfold Kg60.within; rw [Bool.eq_false_iff.mpr h, Bool.false_and]
      rw [e] at k; exact k
theorem ok_are_shirts (T : Txt K mg d) : GF P w K mg base 2 d.f_are_shirts ["numbers"] (spAreShirts K) := by
  obtain ⟨fd, F⟩ := T.fn_are_shirts
  refine ⟨fd, F.ok sc_are_shirts (fun vs H Q E h => ?_) (fun cdv A outer sh H vs Q E hr h => ?_), F.binds (fun _ _ _ _ _ _ us hl => match us, hl with | [_], _ => rfl)⟩
  · obtain ⟨a, zs, rfl, _⟩ := h; rfl
  · obtain ⟨a, zs, rfl, hS, hl, k⟩ := h
    refine ⟨_, (pss_one (ps_ret (pe_callB (cr_all rfl) (by rfl) T.no_all V6.boot_all (pa_cons (pe_lc rfl sc_are_shirts.nd (pi_list (pv 0)) (blkOk_by (N := ["numbers", "number"]) (sc := defScope s_are_shirts) (own := [("number", 1)]) (by decide +kernel)) (fun _ _ _ _ _ => pg_name (i := 1) sc_are_shirts.nd rfl (Or.inl rfl)) (fun _ _ _ _ _ => pts_nil) (fun _ _ _ _ _ => (V6.qe_call (ok_is_shirt T) (hr.mono (by decide)) (by rfl) T.mg_is_shirt (V6.kp_of T.fn_is_shirt) (pa_cons (pv 1) pa_nil)))) pa_nil)))), ?_⟩
    refine all_lc (K := K) (j := 1) (a := a) (xs := zs.map V.int) (fun x => match x with | .int z => within z 1 99 | _ => false) (fun R h => ⟨_, rfl, h⟩) hS (by rw [List.length_map]; exact hl) (fun x => rfl) (fun x H' R hx sm h => ?_) (fun H' sm => ?_)
    · obtain ⟨z, _, rfl⟩ := List.mem_map.mp hx
      exact ⟨_, rfl, z, rfl, h⟩
    · have := k H' sm
      rw [List.all_map]; exact this
theorem ok_all_different (T : Txt K mg d) : GF P w K mg base 1 d.f_all_different ["numbers"] (spAllDiff K) := by
  obtain ⟨fd, F⟩ := T.fn_all_different
  refine ⟨fd, F.ok sc_all_different (fun vs H Q E h => ?_) (fun cdv A outer sh H vs Q E hr h => ?_), F.binds (fun _ _ _ _ _ _ us hl => match us, hl with | [_], _ => rfl)⟩
  · obtain ⟨a, zs, rfl, _⟩ := h; rfl
  · obtain ⟨a, zs, rfl, hS, hl, k⟩ := h
    refine ⟨_, (pss_one (ps_ret (pe_cmpR op_eq (pe_callB V6.call_len_set (by rfl) T.no_len PySem.boot_len (pa_cons (pe_callTy (V6.call_set rfl) (by rfl) T.no_set PyProof.Rows.boot_set (pa_cons (pv 0) pa_nil)) pa_nil)) (pe_callB call_len_seq (by rfl) T.no_len PySem.boot_len (pa_cons (pv 0) pa_nil)) (nomark _)))), ?_⟩
    refine ⟨_, rfl, a, zs, rfl, hS, hl, fun p hp => ⟨p, _, _, rfl, upd_same, _, rfl, a, _, rfl, .inl ((Same.new hp).seq hS), rfl, ?_⟩⟩
    rw [eqI, List.length_map, dd_nodup]; exact k _ (Same.new hp)
/-! ### Place -/
def PhOk (y : Slot) : Prop := y.phase = 1 → y.sub ≠ none
def PlaceAt (d : Ad) (H : Hp) (a : Addr) (y : Slot) : Prop := ∃ dx, H a = some (.ins d.c_Place dx (placeF y))
def spPlaceInit (d : Ad) : Sp := fun vs H Q _ => ∃ (a dx : Addr) (n : Nat), vs = [.ref a, nV n] ∧ H a = some (.ins d.c_Place dx []) ∧ Q .non (upd H a (.ins d.c_Place dx (placeF ⟨n, none, 0, none⟩)))
def spOwner (d : Ad) : Sp := fun vs H Q _ => ∃ (a : Addr) (y : Slot), vs = [.ref a] ∧ PlaceAt d H a y ∧ PhOk y ∧ Q (nV y.regular) H
def spHas (d : Ad) : Sp := fun vs H Q _ => ∃ (a : Addr) (y : Slot), vs = [.ref a] ∧ PlaceAt d H a y ∧ Q (.bl y.libero.isSome) H
def spOn (d : Ad) : Sp := fun vs H Q _ => ∃ (a : Addr) (y : Slot), vs = [.ref a] ∧ PlaceAt d H a y ∧ PhOk y ∧ Q (nV y.stands) H
def spOff (d : Ad) : Sp := fun vs H Q _ => ∃ (a dx : Addr) (y : Slot), vs = [.ref a] ∧ H a = some (.ins d.c_Place dx (placeF y)) ∧ Q .non (upd H a (.ins d.c_Place dx (placeF { y with libero := none })))
def spPut (d : Ad) : Sp := fun vs H Q _ => ∃ (a dx : Addr) (y : Slot) (n : Nat), vs = [.ref a, nV n] ∧ H a = some (.ins d.c_Place dx (placeF y)) ∧ Q .non (upd H a (.ins d.c_Place dx (placeF (putIn y n))))
theorem ok_Place_init (T : Txt K mg d) : GF P w K mg base 1 d.f_Place_init ["self", "starter"] (spPlaceInit d) := by
  obtain ⟨fd, F⟩ := T.fn_Place_init
  refine ⟨fd, F.ok sc_Place_init (fun vs H Q E h => ?_) (fun cdv A outer sh H vs Q E hr h => ?_), F.binds (fun _ _ _ _ _ _ us hl => match us, hl with | [_, _], _ => rfl)⟩
  · obtain ⟨a, dx, n, rfl, _⟩ := h; rfl
  · obtain ⟨a, dx, n, rfl, h1, k⟩ := h
    refine ⟨_, (pss_cons (ps_fld (pv 0) (pv 1) rfl) (pss_cons (ps_fld (pv 0) (V6.pe_k (by rfl) T.k_NOBODY) rfl) (pss_cons (ps_fld (pv 0) (V6.pe_k (by rfl) T.k_STARTER_NEVER_CHANGED) rfl) (pss_one (ps_fld (pv 0) (V6.pe_k (by rfl) T.k_NOBODY) rfl))))), ?_⟩
    refine ⟨_, rfl, _, rfl, wF h1 T.cl_Place T.na_Place_starter (show 0 < 1000 by decide) ?_⟩
    refine ⟨_, rfl, wF upd_same T.cl_Place T.na_Place_second (show 1 < 1000 by decide) ?_⟩
    rw [upd_upd]
    refine ⟨_, rfl, wF upd_same T.cl_Place T.na_Place_stage (show 2 < 1000 by decide) ?_⟩
    rw [upd_upd]
    refine ⟨_, rfl, wF upd_same T.cl_Place T.na_Place_libero (show 3 < 1000 by decide) ?_⟩
    rw [upd_upd]
    exact k
theorem ok_Place_owner (T : Txt K mg d) : GF P w K mg base 1 d.f_Place_owner ["self"] (spOwner d) := by
  obtain ⟨fd, F⟩ := T.fn_Place_owner
  refine ⟨fd, F.ok sc_Place_owner (fun vs H Q E h => ?_) (fun cdv A outer sh H vs Q E hr h => ?_), F.binds (fun _ _ _ _ _ _ us hl => match us, hl with | [_], _ => rfl)⟩
  · obtain ⟨a, y, rfl, _⟩ := h; rfl
  · obtain ⟨a, y, rfl, ⟨dx, h1⟩, hy, k⟩ := h
    refine ⟨_, (pss_cons (ps_if (pt_cmpR op_eq (pe_fld (pv 0) rfl) (V6.pe_k (by rfl) T.k_SECOND_PLAYS) (nomark _)) (pss_one (ps_ret (pe_fld (pv 0) rfl))) pss_nil) (pss_one (ps_ret (pe_fld (pv 0) rfl)))), ?_⟩
    refine ⟨_, rfl, rF h1 T.cl_Place T.na_Place_stage rfl ⟨rfl, _, rfl, ite2 (fun hc => ?_) (fun hc => ?_)⟩⟩
    · rw [show nV y.phase = V.int (y.phase : Int) from rfl, eqI] at hc
      have e : y.phase = 1 := by have := of_decide_eq_true hc; omega
      refine ⟨_, rfl, rF h1 T.cl_Place T.na_Place_second rfl ?_⟩
      cases hs : y.sub with
      | none => exact absurd hs (hy e)
      | some n =>
        have e2 : y.regular = n := by unfold Slot.regular; rw [if_pos e, hs]; rfl
        rw [e2] at k; exact k
    · rw [show nV y.phase = V.int (y.phase : Int) from rfl, eqI] at hc
      have e : ¬ y.phase = 1 := fun e => hc (decide_eq_true (by omega))
      refine ⟨_, rfl, rF h1 T.cl_Place T.na_Place_starter rfl ?_⟩
      have e2 : y.regular = y.starter := by unfold Slot.regular; rw [if_neg e]
      rw [e2] at k; exact k
theorem ok_Place_has_libero (T : Txt K mg d) : GF P w K mg base 1 d.f_Place_has_libero ["self"] (spHas d) := by
  obtain ⟨fd, F⟩ := T.fn_Place_has_libero
  refine ⟨fd, F.ok sc_Place_has_libero (fun vs H Q E h => ?_) (fun cdv A outer sh H vs Q E hr h => ?_), F.binds (fun _ _ _ _ _ _ us hl => match us, hl with | [_], _ => rfl)⟩
  · obtain ⟨a, y, rfl, _⟩ := h; rfl
  · obtain ⟨a, y, rfl, ⟨dx, h1⟩, k⟩ := h
    refine ⟨_, (pss_one (ps_ret (pe_cmpR op_ne (pe_fld (pv 0) rfl) (V6.pe_k (by rfl) T.k_NOBODY) (nomark _)))), ?_⟩
    refine ⟨_, rfl, rF h1 T.cl_Place T.na_Place_libero rfl ⟨rfl, ?_⟩⟩
    cases hl : y.libero with
    | none => rw [hl] at k; exact k
    | some n =>
      rw [hl] at k
      rw [show oV (some n) = V.int (n : Int) from rfl, eqI, decide_eq_false (by omega)]
      exact k
theorem ok_Place_on_court (T : Txt K mg d) : GF P w K mg base 2 d.f_Place_on_court ["self"] (spOn d) := by
  obtain ⟨fd, F⟩ := T.fn_Place_on_court
  refine ⟨fd, F.ok sc_Place_on_court (fun vs H Q E h => ?_) (fun cdv A outer sh H vs Q E hr h => ?_), F.binds (fun _ _ _ _ _ _ us hl => match us, hl with | [_], _ => rfl)⟩
  · obtain ⟨a, y, rfl, _⟩ := h; rfl
  · obtain ⟨a, y, rfl, ⟨dx, h1⟩, hy, k⟩ := h
    refine ⟨_, (pss_cons (ps_if (pt_val (V6.qe_meth0 (pv 0) T.cl_Place T.me_Place_has_libero (ok_Place_has_libero T) (hr.mono (by decide)))) (pss_one (ps_ret (pe_fld (pv 0) rfl))) pss_nil) (pss_one (ps_ret (V6.qe_meth0 (pv 0) T.cl_Place T.me_Place_owner (ok_Place_owner T) (hr.mono (by decide)))))), ?_⟩
    refine ⟨_, rfl, a, dx, _, rfl, h1, rfl, a, y, rfl, ⟨dx, h1⟩, _, rfl, ite2 (fun hc => ?_) (fun hc => ?_)⟩
    · refine ⟨_, rfl, rF h1 T.cl_Place T.na_Place_libero rfl ?_⟩
      unfold Slot.stands at k
      cases hl : y.libero with
      | none => rw [hl] at hc; cases hc
      | some n => rw [hl] at k; exact k
    · refine ⟨_, rfl, a, dx, _, rfl, h1, rfl, a, y, rfl, ⟨dx, h1⟩, hy, ?_⟩
      unfold Slot.stands at k
      cases hl : y.libero with
      | none => rw [hl] at k; exact k
      | some n => rw [hl] at hc; exact absurd rfl hc
theorem ok_Place_send_libero_off (T : Txt K mg d) : GF P w K mg base 1 d.f_Place_send_libero_off ["self"] (spOff d) := by
  obtain ⟨fd, F⟩ := T.fn_Place_send_libero_off
  refine ⟨fd, F.ok sc_Place_send_libero_off (fun vs H Q E h => ?_) (fun cdv A outer sh H vs Q E hr h => ?_), F.binds (fun _ _ _ _ _ _ us hl => match us, hl with | [_], _ => rfl)⟩
  · obtain ⟨a, dx, y, rfl, _⟩ := h; rfl
  · obtain ⟨a, dx, y, rfl, h1, k⟩ := h
    refine ⟨_, (pss_one (ps_fld (pv 0) (V6.pe_k (by rfl) T.k_NOBODY) rfl)), ?_⟩
    exact ⟨_, rfl, wF h1 T.cl_Place T.na_Place_libero (show 4 < 1000 by decide) k⟩
theorem ok_Place_substitute (T : Txt K mg d) : GF P w K mg base 1 d.f_Place_substitute ["self", "coming"] (spPut d) := by
  obtain ⟨fd, F⟩ := T.fn_Place_substitute
  refine ⟨fd, F.ok sc_Place_substitute (fun vs H Q E h => ?_) (fun cdv A outer sh H vs Q E hr h => ?_), F.binds (fun _ _ _ _ _ _ us hl => match us, hl with | [_, _], _ => rfl)⟩
  · obtain ⟨a, dx, y, n, rfl, _⟩ := h; rfl
  · obtain ⟨a, dx, y, n, rfl, h1, k⟩ := h
    refine ⟨_, (pss_one (ps_if (pt_cmpR op_eq (pe_fld (pv 0) rfl) (V6.pe_k (by rfl) T.k_STARTER_NEVER_CHANGED) (nomark _)) (pss_cons (ps_fld (pv 0) (pv 1) rfl) (pss_one (ps_fld (pv 0) (V6.pe_k (by rfl) T.k_SECOND_PLAYS) rfl))) (pss_one (ps_fld (pv 0) (V6.pe_k (by rfl) T.k_STARTER_PLAYS_AGAIN) rfl)))), ?_⟩
    refine ⟨_, rfl, rF h1 T.cl_Place T.na_Place_stage rfl ⟨rfl, _, rfl, ite2 (fun hc => ?_) (fun hc => ?_)⟩⟩
    · rw [show nV y.phase = V.int (y.phase : Int) from rfl, eqI] at hc
      have e : y.phase = 0 := by have := of_decide_eq_true hc; omega
      refine ⟨_, rfl, _, rfl, wF h1 T.cl_Place T.na_Place_second (show 4 < 1000 by decide) ?_⟩
      refine ⟨_, rfl, wF upd_same T.cl_Place T.na_Place_stage (show 4 < 1000 by decide) ?_⟩
      rw [upd_upd]
      unfold putIn at k
      rw [if_pos e] at k
      exact k
    · rw [show nV y.phase = V.int (y.phase : Int) from rfl, eqI] at hc
      have e : ¬ y.phase = 0 := fun e => hc (decide_eq_true (by omega))
      refine ⟨_, rfl, wF h1 T.cl_Place T.na_Place_stage (show 4 < 1000 by decide) ?_⟩
      unfold putIn at k
      rw [if_neg e] at k
      exact k
end
end Vs
end
section
set_option Elab.async false
set_option maxRecDepth 100000
set_option maxHeartbeats 2000000
namespace Vs
open PySem PySem.Spec PyProof.Rows L2 V6
open Kg60 (Slot Team State within)
section
variable {P : Program} {w : World} {K : PySem.W.Frag} {mg : Str → Option Value} {base : Heap} {d : Ad}
/-! ### reading and writing by roles -/
section
variable {H Hc : Hp} {α α' : Role → Addr} {s s' : State} {a : Addr} {t : Bool} {f : Str} {v : V} {Q : V → Prop} {R' : Hp → Prop} {X : Prop}
theorem rSide (T : Txt K mg d) (R : Rep d H α s) (ea : a = α (.side t)) (n : NoAttr K d.c_Side f) (l : (sideF α t (tm s t)).lookup f = some v) (q : Q v) :
    ∃ a' C dx fs v, V.ref a = V.ref a' ∧ H a' = some (.ins C dx fs) ∧ Cls K C ∧ NoAttr K C f ∧ fs.lookup f = some v ∧ Q v := by
  subst ea
  obtain ⟨dx, h⟩ := R.o_side t
  exact rF h T.cl_Side n l q
theorem rGame (T : Txt K mg d) (R : Rep d H α s) (ea : a = α .game) (n : NoAttr K d.c_Game f) (l : (gameF α s).lookup f = some v) (q : Q v) :
    ∃ a' C dx fs v, V.ref a = V.ref a' ∧ H a' = some (.ins C dx fs) ∧ Cls K C ∧ NoAttr K C f ∧ fs.lookup f = some v ∧ Q v := by
  subst ea
  obtain ⟨dx, h⟩ := R.o_game
  exact rF h T.cl_Game n l q
theorem rPlace (T : Txt K mg d) (R : Rep d H α s) {i : Nat} {y : Slot} (hy : (tm s t).slots[i]? = some y) (ea : a = α (.place t i)) (n : NoAttr K d.c_Place f) (l : (placeF y).lookup f = some v) (q : Q v) :
    ∃ a' C dx fs v, V.ref a = V.ref a' ∧ H a' = some (.ins C dx fs) ∧ Cls K C ∧ NoAttr K C f ∧ fs.lookup f = some v ∧ Q v := by
  subst ea
  obtain ⟨dx, h⟩ := R.o_place t hy
  exact rF h T.cl_Place n l q
theorem mSide (R : Rep d H α s) (ea : a = α (.side t)) {m : Str} (l : (sideF α t (tm s t)).lookup m = none) (q : X) : ∃ a' dx fs, V.ref a = V.ref a' ∧ H a' = some (.ins d.c_Side dx fs) ∧ fs.lookup m = none ∧ X := by
  subst ea
  obtain ⟨dx, h⟩ := R.o_side t
  exact ⟨_, dx, _, rfl, h, l, q⟩
theorem mGame (R : Rep d H α s) (ea : a = α .game) {m : Str} (l : (gameF α s).lookup m = none) (q : X) : ∃ a' dx fs, V.ref a = V.ref a' ∧ H a' = some (.ins d.c_Game dx fs) ∧ fs.lookup m = none ∧ X := by
  subst ea
  obtain ⟨dx, h⟩ := R.o_game
  exact ⟨_, dx, _, rfl, h, l, q⟩
theorem mPlace (R : Rep d H α s) {i : Nat} {y : Slot} (hy : (tm s t).slots[i]? = some y) (ea : a = α (.place t i)) {m : Str} (l : (placeF y).lookup m = none) (q : X) : ∃ a' dx fs, V.ref a = V.ref a' ∧ H a' = some (.ins d.c_Place dx fs) ∧ fs.lookup m = none ∧ X := by
  subst ea
  obtain ⟨dx, h⟩ := R.o_place t hy
  exact ⟨_, dx, _, rfl, h, l, q⟩
theorem wSide (T : Txt K mg d) (R : Rep d H α s) (sm : Same H Hc) (ea : a = α (.side t)) (n : NoAttr K d.c_Side f) (hs : ∀ dx, Step d H α s (upd Hc (α (.side t)) (.ins d.c_Side dx (putF f v (sideF α t (tm s t))))) α' s') (q : ∀ H', Step d H α s H' α' s' → R' H') :
    ∃ a' C dx fs, V.ref a = V.ref a' ∧ Hc a' = some (.ins C dx fs) ∧ Cls K C ∧ NoAttr K C f ∧ fs.length < 1000 ∧ R' (upd Hc a' (.ins C dx (putF f v fs))) := by
  subst ea
  obtain ⟨dx, h⟩ := R.o_side t
  exact wF (sm _ _ h) T.cl_Side n (by show 9 < 1000; decide) (q _ (hs dx))
theorem wGame (T : Txt K mg d) (R : Rep d H α s) (sm : Same H Hc) (ea : a = α .game) (n : NoAttr K d.c_Game f) (hs : ∀ dx, Step d H α s (upd Hc (α .game) (.ins d.c_Game dx (putF f v (gameF α s)))) α' s') (q : ∀ H', Step d H α s H' α' s' → R' H') :
    ∃ a' C dx fs, V.ref a = V.ref a' ∧ Hc a' = some (.ins C dx fs) ∧ Cls K C ∧ NoAttr K C f ∧ fs.length < 1000 ∧ R' (upd Hc a' (.ins C dx (putF f v fs))) := by
  subst ea
  obtain ⟨dx, h⟩ := R.o_game
  exact wF (sm _ _ h) T.cl_Game n (by show 8 < 1000; decide) (q _ (hs dx))
theorem wPlace (T : Txt K mg d) (R : Rep d H α s) {i : Nat} {y : Slot} (hy : (tm s t).slots[i]? = some y) (ea : a = α (.place t i)) (n : NoAttr K d.c_Place f) (hs : ∀ dx, Step d H α s (upd H (α (.place t i)) (.ins d.c_Place dx (putF f v (placeF y)))) α' s') (q : ∀ H', Step d H α s H' α' s' → R' H') :
    ∃ a' C dx fs, V.ref a = V.ref a' ∧ H a' = some (.ins C dx fs) ∧ Cls K C ∧ NoAttr K C f ∧ fs.length < 1000 ∧ R' (upd H a' (.ins C dx (putF f v fs))) := by
  subst ea
  obtain ⟨dx, h⟩ := R.o_place t hy
  exact wF h T.cl_Place n (by show 4 < 1000; decide) (q _ (hs dx))
/-- o.f += e -/
theorem uSide (T : Txt K mg d) (R : Rep d H α s) (ea : a = α (.side t)) (n : NoAttr K d.c_Side f) (l : (sideF α t (tm s t)).lookup f = some v) {tv : (V → Hp → Prop) → Prop} {rd : V → V → Hp → VK → Prop} {u z : V} (htv : ∀ Q : V → Hp → Prop, Q u H → tv Q) (hrd : ∀ Q : VK, Q z H → rd v u H Q)
    (hs : ∀ dx, Step d H α s (upd H (α (.side t)) (.ins d.c_Side dx (putF f z (sideF α t (tm s t))))) α' s') (q : ∀ H', Step d H α s H' α' s' → R' H') :
    ∃ a' C dx fs v, V.ref a = V.ref a' ∧ H a' = some (.ins C dx fs) ∧ Cls K C ∧ NoAttr K C f ∧ fs.lookup f = some v ∧ tv fun y H2 => rd v y H2 fun z H3 => ∃ dx' fs', H3 a' = some (.ins C dx' fs') ∧ fs'.length < 1000 ∧ R' (upd H3 a' (.ins C dx' (putF f z fs'))) := by
  subst ea
  obtain ⟨dx, h⟩ := R.o_side t
  exact ⟨_, _, dx, _, v, rfl, h, T.cl_Side, n, l, htv _ (hrd _ ⟨dx, _, h, by show 9 < 1000; decide, q _ (hs dx)⟩)⟩
end
theorem int_nV {z : Int} {n : Nat} (h : z = (n : Int)) : V.int z = nV n := by rw [h]; rfl
theorem sF_turns {α : Role → Addr} {t : Bool} {x : Team} {n : Nat} : putF "turns" (nV n) (sideF α t x) = sideF α t { x with first := n } := rfl
theorem sF_subs {α : Role → Addr} {t : Bool} {x : Team} {n : Nat} : putF "substitutions" (nV n) (sideF α t x) = sideF α t { x with subs := n } := rfl
theorem sF_tos {α : Role → Addr} {t : Bool} {x : Team} {n : Nat} : putF "timeouts" (nV n) (sideF α t x) = sideF α t { x with timeouts := n } := rfl
theorem sF_moved {α : Role → Addr} {t : Bool} {x : Team} {b : Bool} : putF "libero_moved" (.bl b) (sideF α t x) = sideF α t { x with changed := b } := rfl
theorem sF_outS {α : Role → Addr} {t : Bool} {x : Team} {p : Addr} : putF "out_of_set" (.ref p) (sideF α t x) = sideF (at1 α (.outS t) p) t x := by cases t <;> rfl
theorem sF_places {α : Role → Addr} {t : Bool} {x : Team} {p : Addr} : putF "places" (.ref p) (sideF α t x) = sideF (at1 α (.places t) p) t x := by cases t <;> rfl
theorem sF_lineup {α : Role → Addr} {t : Bool} {x : Team} {p : Addr} {as : List Addr} : putF "places" (.ref p) (sideF α t x) = sideF (atL α t p as) t x := by cases t <;> rfl
theorem in_neg {b : Bool} : (if true = true then !b else b) = !b := rfl
theorem in_pos {b : Bool} : (if false = true then !b else b) = b := rfl
theorem inV_nats (n : Nat) (l : List Nat) : inV (nV n) (l.map nV) = l.contains n := by
  unfold inV
  rw [List.any_map, List.contains_eq_any_beq]
  congr 1
  funext m
  show eqV (V.int (m : Int)) (V.int (n : Int)) = (n == m)
  unfold eqV
  rw [Bool.eq_iff_iff, beq_iff_eq, beq_iff_eq]
  omega
theorem flat_nats (l : List Nat) : (l.map nV).all flatV = true := by
  rw [List.all_map, List.all_eq_true]; intro x _; rfl
/-! ### Side -/
def WfT (x : Team) : Prop := x.slots.length = 6 ∧ ∀ y ∈ x.slots, PhOk y
def spHasLineup (d : Ad) : Sp := fun vs H Q _ => ∃ (α : Role → Addr) (s : State) (t : Bool), vs = [.ref (α (.side t))] ∧ Rep d H α s ∧ Q (.bl (decide (0 < (tm s t).slots.length))) H
def spPlaceAtPos (d : Ad) : Sp := fun vs H Q _ => ∃ (α : Role → Addr) (s : State) (t : Bool) (p : Nat), vs = [.ref (α (.side t)), nV p] ∧ Rep d H α s ∧ 1 ≤ p ∧ (tm s t).slots.length = 6 ∧ Q (.ref (α (.place t ((p - 1 + (tm s t).first) % 6)))) H
def spIsOut (d : Ad) : Sp := fun vs H Q _ => ∃ (α : Role → Addr) (s : State) (t : Bool) (n : Nat), vs = [.ref (α (.side t)), nV n] ∧ Rep d H α s ∧ Q (.bl (!(tm s t).mayStand n)) H
def mayBegin (x : Team) (n : Nat) : Bool := x.players.contains n && (!x.liberos.contains n && !x.outAll.contains n)
def spMayBegin (d : Ad) : Sp := fun vs H Q _ => ∃ (α : Role → Addr) (s : State) (t : Bool) (n : Nat), vs = [.ref (α (.side t)), nV n] ∧ Rep d H α s ∧ Q (.bl (mayBegin (tm s t) n)) H
def spGoOn (d : Ad) : Sp := fun vs H Q _ => ∃ (α : Role → Addr) (s : State) (t : Bool), vs = [.ref (α (.side t))] ∧ Rep d H α s ∧ ∀ H', Step d H α s H' α (putT s t { tm s t with first := ((tm s t).first + 1) % 6 }) → Q .non H'
def leftT (x : Team) : Team := { x with slots := [], first := 0, subs := 0, timeouts := 0, changed := false, outSet := [] }
def spLeave (d : Ad) : Sp := fun vs H Q _ => ∃ (α : Role → Addr) (s : State) (t : Bool), vs = [.ref (α (.side t))] ∧ Rep d H α s ∧ ∀ H' α', Step d H α s H' α' (putT s t (leftT (tm s t))) → Q .non H'
theorem ok_Side_has_lineup (T : Txt K mg d) : GF P w K mg base 1 d.f_Side_has_lineup ["self"] (spHasLineup d) := by
  obtain ⟨fd, F⟩ := T.fn_Side_has_lineup
  refine ⟨fd, F.ok sc_Side_has_lineup (fun vs H Q E h => ?_) (fun cdv A outer sh H vs Q E hr h => ?_), F.binds (fun _ _ _ _ _ _ us hl => match us, hl with | [_], _ => rfl)⟩
  · obtain ⟨α, s, t, rfl, _⟩ := h; rfl
  · obtain ⟨α, s, t, rfl, R, k⟩ := h
    refine ⟨_, (pss_one (ps_ret (pe_cmpR op_gt (pe_callB call_len_seq (by rfl) T.no_len PySem.boot_len (pa_cons (pe_fld (pv 0) rfl) pa_nil)) pe_int (nomark _)))), ?_⟩
    refine ⟨_, rfl, rSide T R rfl T.na_Side_places rfl ⟨_, _, rfl, .inl (SqL.of (R.o_places t)), _, _, rfl, rfl, ?_⟩⟩
    have e : decide (0 < (tm s t).slots.length) = decide ((0 : Int) < ((((List.range (tm s t).slots.length).map fun i => V.ref (α (.place t i))).length : Nat) : Int)) := by
      rw [List.length_map, List.length_range, Bool.eq_iff_iff, decide_eq_true_iff, decide_eq_true_iff]; omega
    rw [e] at k; exact k
theorem ok_Side_place_at (T : Txt K mg d) : GF P w K mg base 1 d.f_Side_place_at ["self", "position"] (spPlaceAtPos d) := by
  obtain ⟨fd, F⟩ := T.fn_Side_place_at
  refine ⟨fd, F.ok sc_Side_place_at (fun vs H Q E h => ?_) (fun cdv A outer sh H vs Q E hr h => ?_), F.binds (fun _ _ _ _ _ _ us hl => match us, hl with | [_, _], _ => rfl)⟩
  · obtain ⟨α, s, t, p, rfl, _⟩ := h; rfl
  · obtain ⟨α, s, t, p, rfl, R, hp, hl, k⟩ := h
    refine ⟨_, (pss_one (ps_ret (pe_ix ix_list (pe_fld (pv 0) rfl) (pe_op op_mod (pe_op op_add (pe_op op_sub (pv 1) pe_int) (pe_fld (pv 0) rfl)) pe_int) (fun _ _ => rfl)))), ?_⟩
    refine ⟨_, rfl, rSide T R rfl T.na_Side_places rfl ⟨_, rfl, _, _, rfl, rfl, _, rfl, rSide T R rfl T.na_Side_turns rfl ⟨_, _, rfl, rfl, _, _, rfl, rfl, (by show (0 : Int) < 6; decide), _, _, _, _, rfl, rfl, SqL.of (R.o_places t), at_of (j := (p - 1 + (tm s t).first) % 6) (by omega) ?_, k⟩⟩⟩
    rw [List.getElem?_map, List.getElem?_range (by rw [hl]; omega)]; rfl
theorem ok_Side_is_out (T : Txt K mg d) : GF P w K mg base 1 d.f_Side_is_out ["self", "number"] (spIsOut d) := by
  obtain ⟨fd, F⟩ := T.fn_Side_is_out
  refine ⟨fd, F.ok sc_Side_is_out (fun vs H Q E h => ?_) (fun cdv A outer sh H vs Q E hr h => ?_), F.binds (fun _ _ _ _ _ _ us hl => match us, hl with | [_, _], _ => rfl)⟩
  · obtain ⟨α, s, t, n, rfl, _⟩ := h; rfl
  · obtain ⟨α, s, t, n, rfl, R, k⟩ := h
    obtain ⟨kv1, e1, k1⟩ := R.o_outS t
    obtain ⟨kv2, e2, k2⟩ := R.o_outM t
    refine ⟨_, (pss_one (ps_ret (pe_or (pe_cmp (pc_din (hu_of hr) (pv 1) (pe_fld (pv 0) rfl))) (pe_one (pe_cmp (pc_din (hu_of hr) (pv 1) (pe_fld (pv 0) rfl))))))), ?_⟩
    refine ⟨_, rfl, _, rfl, rSide T R rfl T.na_Side_out_of_set rfl ⟨_, _, rfl, DGet.k (k := Sum.inl (n : Int)) e1, _, rfl, ite2 (fun hc => ?_) (fun hc => ⟨_, rfl, _, rfl, rSide T R rfl T.na_Side_out_of_match rfl ⟨_, _, rfl, DGet.k (k := Sum.inl (n : Int)) e2, ?_⟩⟩)⟩⟩
    · have e : (!(tm s t).mayStand n) = true := by unfold Team.mayStand; rw [← k1.1 n, hc]; rfl
      rw [e] at k; exact k
    · have e : (!(tm s t).mayStand n) = (valV kv2 (Sum.inl (n : Int))).isSome := by
        unfold Team.mayStand
        rw [← k1.1 n, ← k2.1 n, Bool.eq_false_iff.mpr hc, Bool.not_false, Bool.true_and, Bool.not_not]
      rw [e] at k; exact k
theorem ok_Side_may_begin (T : Txt K mg d) : GF P w K mg base 1 d.f_Side_may_begin ["self", "number"] (spMayBegin d) := by
  obtain ⟨fd, F⟩ := T.fn_Side_may_begin
  refine ⟨fd, F.ok sc_Side_may_begin (fun vs H Q E h => ?_) (fun cdv A outer sh H vs Q E hr h => ?_), F.binds (fun _ _ _ _ _ _ us hl => match us, hl with | [_, _], _ => rfl)⟩
  · obtain ⟨α, s, t, n, rfl, _⟩ := h; rfl
  · obtain ⟨α, s, t, n, rfl, R, k⟩ := h
    obtain ⟨kv2, e2, k2⟩ := R.o_outM t
    refine ⟨_, (pss_one (ps_ret (pe_and (pe_cmpR op_in_seq (pv 1) (pe_fld (pv 0) rfl) (by with_unfolding_all rfl)) (pe_and (pe_cmpR op_notIn_seq (pv 1) (pe_fld (pv 0) rfl) (by with_unfolding_all rfl)) (pe_one (pe_cmp (pc_dnotin (hu_of hr) (pv 1) (pe_fld (pv 0) rfl)))))))), ?_⟩
    unfold mayBegin at k
    refine ⟨_, rfl, _, rfl, rSide T R rfl T.na_Side_players rfl ⟨_, _, rfl, .inl (SqL.of (R.o_players t)), rfl, flat_nats _, _, rfl, ?_⟩⟩
    rw [in_pos, inV_nats]
    refine ite2 (fun hc => ⟨_, rfl, _, rfl, rSide T R rfl T.na_Side_liberos rfl ⟨_, _, rfl, .inl (SqL.of (R.o_libs t)), rfl, flat_nats _, _, rfl, ?_⟩⟩) (fun hc => ?_)
    · rw [hc, Bool.true_and] at k
      rw [in_neg, inV_nats]
      refine ite2 (fun hc => ⟨_, rfl, _, rfl, rSide T R rfl T.na_Side_out_of_match rfl ⟨_, _, rfl, DGet.k (k := Sum.inl (n : Int)) e2, ?_⟩⟩) (fun hc => ?_)
      · rw [hc, Bool.true_and, ← k2.1 n] at k; exact k
      · rw [Bool.eq_false_iff.mpr hc, Bool.false_and] at k; exact k
    · rw [Bool.eq_false_iff.mpr hc, Bool.false_and] at k; exact k
theorem ok_Side_go_on_by_one (T : Txt K mg d) : GF P w K mg base 1 d.f_Side_go_on_by_one ["self"] (spGoOn d) := by
  obtain ⟨fd, F⟩ := T.fn_Side_go_on_by_one
  refine ⟨fd, F.ok sc_Side_go_on_by_one (fun vs H Q E h => ?_) (fun cdv A outer sh H vs Q E hr h => ?_), F.binds (fun _ _ _ _ _ _ us hl => match us, hl with | [_], _ => rfl)⟩
  · obtain ⟨α, s, t, rfl, _⟩ := h; rfl
  · obtain ⟨α, s, t, rfl, R, k⟩ := h
    refine ⟨_, (pss_one (ps_fld (pv 0) (pe_op op_mod (pe_op op_add (pe_fld (pv 0) rfl) pe_int) pe_int) rfl)), ?_⟩
    refine ⟨_, rfl, rSide T R rfl T.na_Side_turns rfl ⟨_, _, rfl, rfl, _, _, rfl, rfl, (by show (0 : Int) < 6; decide), _, rfl, ?_⟩⟩
    exact wSide T R Same.refl rfl T.na_Side_turns (fun dx => Step.side R t ((congrArg (fun v => putF "turns" v _) (int_nV (n := ((tm s t).first + 1) % 6) (by show ((tm s t).first + 1 : Int) % 6 = _; omega))).trans sF_turns) rfl rfl rfl rfl rfl rfl rfl) k
theorem ok_Side_leave_set (T : Txt K mg d) : GF P w K mg base 1 d.f_Side_leave_set ["self"] (spLeave d) := by
  obtain ⟨fd, F⟩ := T.fn_Side_leave_set
  refine ⟨fd, F.ok sc_Side_leave_set (fun vs H Q E h => ?_) (fun cdv A outer sh H vs Q E hr h => ?_), F.binds (fun _ _ _ _ _ _ us hl => match us, hl with | [_], _ => rfl)⟩
  · obtain ⟨α, s, t, rfl, _⟩ := h; rfl
  · obtain ⟨α, s, t, rfl, R, k⟩ := h
    refine ⟨_, (pss_cons (ps_fld (pv 0) pe_dnewK rfl) (pss_cons (ps_fld (pv 0) (pe_lst pa_nil) rfl) (pss_cons (ps_fld (pv 0) pe_int rfl) (pss_cons (ps_fld (pv 0) pe_int rfl) (pss_cons (ps_fld (pv 0) pe_int rfl) (pss_one (ps_fld (pv 0) pe_bl rfl))))))), ?_⟩
    intro p1 hp1
    refine ⟨_, rfl, wSide T R (Same.new hp1) rfl T.na_Side_out_of_set (fun dx => Step.newOutS R t hp1 sF_outS) fun H1 S1 => ?_⟩
    refine ⟨Nat.zero_le _, fun p2 hp2 => ⟨_, rfl, wSide T S1.rep (Same.new hp2) (S1.ad (.side t) rfl).symm T.na_Side_places (fun dx => Step.noPlaces S1.rep t hp2 sF_places) fun H2 S2' => ?_⟩⟩
    have S2 := S1.trans S2'
    refine ⟨_, rfl, wSide T S2.rep Same.refl (S2.ad (.side t) rfl).symm T.na_Side_turns (fun dx => Step.side S2.rep t (sF_turns (n := 0)) rfl rfl rfl rfl rfl rfl rfl) fun H3 S3' => ?_⟩
    have S3 := S2.trans S3'
    refine ⟨_, rfl, wSide T S3.rep Same.refl (S3.ad (.side t) rfl).symm T.na_Side_substitutions (fun dx => Step.side S3.rep t (sF_subs (n := 0)) rfl rfl rfl rfl rfl rfl rfl) fun H4 S4' => ?_⟩
    have S4 := S3.trans S4'
    refine ⟨_, rfl, wSide T S4.rep Same.refl (S4.ad (.side t) rfl).symm T.na_Side_timeouts (fun dx => Step.side S4.rep t (sF_tos (n := 0)) rfl rfl rfl rfl rfl rfl rfl) fun H5 S5' => ?_⟩
    have S5 := S4.trans S5'
    refine ⟨_, rfl, wSide T S5.rep Same.refl (S5.ad (.side t) rfl).symm T.na_Side_libero_moved (fun dx => Step.side S5.rep t (sF_moved (b := false)) rfl rfl rfl rfl rfl rfl rfl) fun H6 S6' => ?_⟩
    have S6 := S5.trans S6'
    exact k H6 _ (S6.to (by cases t <;> rfl))
end
end Vs
end
section
set_option Elab.async false
set_option maxRecDepth 100000
set_option maxHeartbeats 2000000
namespace Vs
open PySem PySem.Spec PyProof.Rows L2 V6
open Kg60 (Slot Team State within)
section
variable {P : Program} {w : World} {K : PySem.W.Frag} {mg : Str → Option Value} {base : Heap} {d : Ad}
/-! ### all([.. for x in xs]) by places -/
theorem all_lcN {tl te : TE} {j : Nat} {σ : L2.St} {H : Hp} {Q : VK} {a : Addr} {xs : List V} (f : Nat → Bool) (htl : ∀ R : VK, R (.ref a) H → tl σ H R) (hS : SqL K H a xs) (hlen : xs.length ≤ 1000)
    (hw : ∀ x, wipe ((wipe σ [j]).set j (some x)) [j] = wipe σ [j]) (he : ∀ i x H' (R : VK), xs[i]? = some x → Same H H' → R (.bl (f i)) H' → te ((wipe σ [j]).set j (some x)) H' R)
    (k : ∀ H', Same H H' → Q (.bl ((List.range xs.length).all f)) H') : tCB (rAll K) (tCons (tLc (iList K tl) (gName j) tYes te [j]) tNil) σ H Q := by
  refine htl _ ⟨a, rfl, ⟨xs, hS⟩, fun D hD => ?_⟩
  refine lc_list (K := K) (a := a) (xs := xs) (fun i H' => Same H H' ∧ H' D = some (.lst ((List.range i).map fun x => V.bl (f x))) ∧ i ≤ xs.length) ⟨Same.new hD, upd_same, Nat.zero_le _⟩ (fun i H' _ p => p.1.seq hS) (fun i x H' hx p => ?_) (fun H' p => ?_)
  · have hi := (List.getElem?_eq_some_iff.mp hx).1
    refine ⟨hw x, he i x H' _ hx p.1 ⟨_, p.2.1, ?_, ?_, ?_, hi⟩⟩
    · rw [List.length_map, List.length_range]
      exact Nat.lt_of_le_of_lt (Nat.le_trans p.2.2 hlen) (by decide)
    · exact fun b o e => by rw [upd_ne (ne_of_none e hD)]; exact p.1 b o e
    · rw [upd_same, List.range_succ, List.map_append]; rfl
  · refine ⟨D, (List.range xs.length).map f, rfl, SqL.of ?_, ?_⟩
    · rw [p.2.1, List.map_map]; rfl
    · have e : ((List.range xs.length).map f).all id = (List.range xs.length).all f := by rw [List.all_map]; rfl
      rw [e]; exact k H' p.1
theorem range_all {α : Type} (l : List α) (f : Nat → Bool) (g : α → Bool) (h : ∀ i x, l[i]? = some x → f i = g x) : (List.range l.length).all f = l.all g := by
  rw [Bool.eq_iff_iff, List.all_eq_true, List.all_eq_true]
  constructor
  · intro q x hx
    obtain ⟨i, hi⟩ := List.getElem?_of_mem hx
    rw [← h i x hi]
    exact q i (List.mem_range.mpr (List.getElem?_eq_some_iff.mp hi).1)
  · intro q i hi
    have hi' := List.mem_range.mp hi
    rw [h i _ (List.getElem?_eq_getElem hi')]
    exact q _ (List.getElem_mem hi')
theorem places_get {α : Role → Addr} {t : Bool} {n i : Nat} {x : V} (h : ((List.range n).map fun i => V.ref (α (.place t i)))[i]? = some x) : i < n ∧ x = .ref (α (.place t i)) := by
  rw [List.getElem?_map] at h
  by_cases hi : i < n
  · rw [List.getElem?_range hi] at h
    exact ⟨hi, (Option.some.inj h).symm⟩
  · rw [List.getElem?_eq_none (by rw [List.length_range]; omega)] at h; cases h
/-! ### who stands where -/
def spCourt (d : Ad) : Sp := fun vs H Q _ => ∃ (α : Role → Addr) (s : State) (t : Bool), vs = [.ref (α (.side t))] ∧ Rep d H α s ∧ WfT (tm s t) ∧ ∀ H' p, Same H H' → H p = none → H' p = some (.lst ((tm s t).court.map nV)) → Q (.ref p) H'
def spPosOf (d : Ad) : Sp := fun vs H Q _ => ∃ (α : Role → Addr) (s : State) (t : Bool) (n : Nat), vs = [.ref (α (.side t)), nV n] ∧ Rep d H α s ∧ WfT (tm s t) ∧ Q (nV (posOf (tm s t) fun y => y.stands == n)) H
def spLibPos (d : Ad) : Sp := fun vs H Q _ => ∃ (α : Role → Addr) (s : State) (t : Bool), vs = [.ref (α (.side t))] ∧ Rep d H α s ∧ WfT (tm s t) ∧ Q (nV (posOf (tm s t) fun y => y.libero.isSome)) H
def isAt (n : Nat) (y : Slot) : Bool := y.regular == n || y.libero == some n
def spPlaceOf (d : Ad) : Sp := fun vs H Q _ => ∃ (α : Role → Addr) (s : State) (t : Bool) (n : Nat), vs = [.ref (α (.side t)), nV n] ∧ Rep d H α s ∧ (∀ y ∈ (tm s t).slots, PhOk y) ∧
  (Kg60.findSlot (tm s t) (isAt n) = none → Q .non H) ∧ ∀ i y, Kg60.findSlot (tm s t) (isAt n) = some i → (tm s t).slots[i]? = some y → Q (.ref (α (.place t i))) H
def spIsNew (d : Ad) : Sp := fun vs H Q _ => ∃ (α : Role → Addr) (s : State) (t : Bool) (n : Nat), vs = [.ref (α (.side t)), nV n] ∧ Rep d H α s ∧ (tm s t).slots.length ≤ 1000 ∧ ∀ H', Same H H' → Q (.bl (isNew (tm s t) n)) H'
theorem slot_at {x : Team} (h : x.slots.length = 6) (j : Nat) : ∃ y, x.slots[j % 6]? = some y := ⟨_, List.getElem?_eq_getElem (by rw [h]; omega)⟩
theorem on_nV {m n : Nat} : decide (nV m = nV n) = decide (m = n) := by
  show decide (V.int (m : Int) = V.int (n : Int)) = _
  rw [eqI, Bool.eq_iff_iff, decide_eq_true_iff, decide_eq_true_iff]; omega
theorem ok_Side_position_of (T : Txt K mg d) : GF P w K mg base 3 d.f_Side_position_of ["self", "number"] (spPosOf d) := by
  obtain ⟨fd, F⟩ := T.fn_Side_position_of
  refine ⟨fd, F.ok sc_Side_position_of (fun vs H Q E h => ?_) (fun cdv A outer sh H vs Q E hr h => ?_), F.binds (fun _ _ _ _ _ _ us hl => match us, hl with | [_, _], _ => rfl)⟩
  · obtain ⟨α, s, t, n, rfl, _⟩ := h; rfl
  · obtain ⟨α, s, t, n, rfl, R, ⟨hl, hw⟩, k⟩ := h
    refine ⟨_, (pss_cons (ps_for PassesOwn.never rfl (pi_range2 rfl T.no_range (pa_cons pe_int (pa_cons pe_int pa_nil))) (pg_name (i := 2) sc_Side_position_of.nd rfl (Or.inl rfl)) (pss_one (ps_if (pt_cmpR op_eq (V6.qe_meth0 (V6.qe_meth (pv 0) T.cl_Side T.me_Side_place_at (ok_Side_place_at T) (hr.mono (by decide)) (pa_cons (pv 2) pa_nil)) T.cl_Place T.me_Place_on_court (ok_Place_on_court T) (hr.mono (by decide))) (pv 1) (nomark _)) (pss_one (ps_ret (pv 2))) pss_nil))) (pss_one (ps_ret pe_int))), ?_⟩
    refine ⟨1, 7, rfl, ⟨by decide, by decide, by decide, by decide⟩, for_range (lo := 1) (n := 6) (fun i σ H' => (∃ v, σ = [some (.ref (α (.side t))), some (nV n), v]) ∧ H' = H ∧ ∀ j, j < i → ((tm s t).slots[(j + (tm s t).first) % 6]?).any (fun y => y.stands == n) = false)
      ⟨⟨_, rfl⟩, rfl, fun j hj => absurd hj (Nat.not_lt_zero _)⟩ ?_ ?_⟩
    · rintro i σ H' hi ⟨⟨v, rfl⟩, rfl, hj⟩
      obtain ⟨y, hy⟩ := slot_at hl (i + (tm s t).first)
      obtain ⟨dx, hp⟩ := R.o_place t hy
      rw [show (1 + (i : Int)) = ((i + 1 : Nat) : Int) by omega]
      refine ⟨_, rfl, mSide R rfl rfl ⟨_, rfl, α, s, t, i + 1, rfl, R, Nat.succ_le_succ (Nat.zero_le _), hl, ?_⟩⟩
      rw [Nat.add_sub_cancel]
      refine mPlace R hy rfl rfl ⟨_, y, rfl, ⟨dx, hp⟩, hw y (List.mem_of_getElem? hy), _, rfl, rfl, _, rfl, ite2 (fun hc => ?_) (fun hc => ?_)⟩
      · rw [on_nV] at hc
        refine ⟨_, rfl, ?_⟩
        rw [posOf_hit (f := fun y => y.stands == n) hi hy (beq_iff_eq.mpr (of_decide_eq_true hc)) hj] at k
        exact k
      · rw [on_nV] at hc
        refine ⟨⟨_, rfl⟩, rfl, fun j hj' => ?_⟩
        by_cases e : j = i
        · subst e
          rw [hy]
          show (y.stands == n) = false
          cases z : y.stands == n with
          | false => rfl
          | true => exact absurd (decide_eq_true (beq_iff_eq.mp z)) hc
        · exact hj j (by omega)
    · rintro σ H' ⟨⟨v, rfl⟩, rfl, hj⟩
      rw [posOf_miss hj] at k
      exact k
theorem ok_Side_libero_position (T : Txt K mg d) : GF P w K mg base 2 d.f_Side_libero_position ["self"] (spLibPos d) := by
  obtain ⟨fd, F⟩ := T.fn_Side_libero_position
  refine ⟨fd, F.ok sc_Side_libero_position (fun vs H Q E h => ?_) (fun cdv A outer sh H vs Q E hr h => ?_), F.binds (fun _ _ _ _ _ _ us hl => match us, hl with | [_], _ => rfl)⟩
  · obtain ⟨α, s, t, rfl, _⟩ := h; rfl
  · obtain ⟨α, s, t, rfl, R, ⟨hl, hw⟩, k⟩ := h
    refine ⟨_, (pss_cons (ps_for PassesOwn.never rfl (pi_range2 rfl T.no_range (pa_cons pe_int (pa_cons pe_int pa_nil))) (pg_name (i := 1) sc_Side_libero_position.nd rfl (Or.inl rfl)) (pss_one (ps_if (pt_val (V6.qe_meth0 (V6.qe_meth (pv 0) T.cl_Side T.me_Side_place_at (ok_Side_place_at T) (hr.mono (by decide)) (pa_cons (pv 1) pa_nil)) T.cl_Place T.me_Place_has_libero (ok_Place_has_libero T) (hr.mono (by decide)))) (pss_one (ps_ret (pv 1))) pss_nil))) (pss_one (ps_ret pe_int))), ?_⟩
    refine ⟨1, 7, rfl, ⟨by decide, by decide, by decide, by decide⟩, for_range (lo := 1) (n := 6) (fun i σ H' => (∃ v, σ = [some (.ref (α (.side t))), v]) ∧ H' = H ∧ ∀ j, j < i → ((tm s t).slots[(j + (tm s t).first) % 6]?).any (fun y => y.libero.isSome) = false)
      ⟨⟨_, rfl⟩, rfl, fun j hj => absurd hj (Nat.not_lt_zero _)⟩ ?_ ?_⟩
    · rintro i σ H' hi ⟨⟨v, rfl⟩, rfl, hj⟩
      obtain ⟨y, hy⟩ := slot_at hl (i + (tm s t).first)
      obtain ⟨dx, hp⟩ := R.o_place t hy
      rw [show (1 + (i : Int)) = ((i + 1 : Nat) : Int) by omega]
      refine ⟨_, rfl, mSide R rfl rfl ⟨_, rfl, α, s, t, i + 1, rfl, R, Nat.succ_le_succ (Nat.zero_le _), hl, ?_⟩⟩
      rw [Nat.add_sub_cancel]
      refine mPlace R hy rfl rfl ⟨_, y, rfl, ⟨dx, hp⟩, _, rfl, ite2 (fun hc => ?_) (fun hc => ?_)⟩
      · refine ⟨_, rfl, ?_⟩
        rw [posOf_hit hi hy hc hj] at k
        exact k
      · refine ⟨⟨_, rfl⟩, rfl, fun j hj' => ?_⟩
        by_cases e : j = i
        · subst e
          rw [hy]
          exact Bool.eq_false_iff.mpr hc
        · exact hj j (by omega)
    · rintro σ H' ⟨⟨v, rfl⟩, rfl, hj⟩
      rw [posOf_miss hj] at k
      exact k
theorem fm_some {α β : Type} (f : α → Option β) (g : α → β) : ∀ l : List α, (∀ x ∈ l, f x = some (g x)) → l.filterMap f = l.map g
  | [], _ => rfl
  | x :: r, h => by
    rw [List.filterMap_cons, h x List.mem_cons_self, List.map_cons, fm_some f g r fun y hy => h y (List.mem_cons_of_mem _ hy)]
theorem court_eq {x : Team} (hl : x.slots.length = 6) : x.court.length = 6 ∧ ∀ i, i < 6 → ∃ y, x.slots[(i + x.first) % 6]? = some y ∧ x.court[i]? = some y.stands := by
  have e : x.court = (List.range 6).map fun i => ((x.slots[(i + x.first) % 6]?).map Slot.stands).getD 0 := by
    unfold Team.court Kg60.Team.slotAt
    have : ∀ p, x.slots[(x.first + (p + 1) - 1) % 6]? = x.slots[(p + x.first) % 6]? := fun p => by congr 1; omega
    simp only [this]
    refine fm_some _ _ _ fun p _ => ?_
    obtain ⟨y, hy⟩ := slot_at hl (p + x.first)
    rw [hy]; rfl
  refine ⟨by rw [e, List.length_map, List.length_range], fun i hi => ?_⟩
  obtain ⟨y, hy⟩ := slot_at hl (i + x.first)
  refine ⟨y, hy, ?_⟩
  rw [e, List.getElem?_map, List.getElem?_range hi, Option.map_some, hy]; rfl
theorem ok_Side_court (T : Txt K mg d) : GF P w K mg base 3 d.f_Side_court ["self"] (spCourt d) := by
  obtain ⟨fd, F⟩ := T.fn_Side_court
  refine ⟨fd, F.ok sc_Side_court (fun vs H Q E h => ?_) (fun cdv A outer sh H vs Q E hr h => ?_), F.binds (fun _ _ _ _ _ _ us hl => match us, hl with | [_], _ => rfl)⟩
  · obtain ⟨α, s, t, rfl, _⟩ := h; rfl
  · obtain ⟨α, s, t, rfl, R, ⟨hl, hw⟩, k⟩ := h
    obtain ⟨cl, ca⟩ := court_eq hl
    refine ⟨_, (pss_one (ps_ret (pe_lc rfl sc_Side_court.nd (pi_range2 rfl T.no_range (pa_cons pe_int (pa_cons pe_int pa_nil))) (blkOk_by (N := ["self", "position"]) (sc := defScope s_Side_court) (own := [("position", 1)]) (by decide +kernel)) (fun _ _ _ _ _ => pg_name (i := 1) sc_Side_court.nd rfl (Or.inl rfl)) (fun _ _ _ _ _ => pts_nil) (fun _ _ _ _ _ => (V6.qe_meth0 (V6.qe_meth (pv 0) T.cl_Side T.me_Side_place_at (ok_Side_place_at T) (hr.mono (by decide)) (pa_cons (pv 1) pa_nil)) T.cl_Place T.me_Place_on_court (ok_Place_on_court T) (hr.mono (by decide))))))), ?_⟩
    refine ⟨1, 7, rfl, ⟨by decide, by decide, by decide, by decide⟩, fun D hD => lc_range (lo := 1) (n := 6) (fun i H' => Same H H' ∧ H' D = some (.lst (((tm s t).court.take i).map nV))) ⟨Same.new hD, upd_same⟩ ?_ ?_⟩
    · rintro i H' hi ⟨sm, hDl⟩
      obtain ⟨y, hy, hc⟩ := ca i hi
      have R' := R.same sm
      obtain ⟨dx, hp⟩ := R'.o_place t hy
      rw [show (1 + (i : Int)) = ((i + 1 : Nat) : Int) by omega]
      refine ⟨rfl, _, rfl, mSide R' rfl rfl ⟨_, rfl, α, s, t, i + 1, rfl, R', Nat.succ_le_succ (Nat.zero_le _), hl, ?_⟩⟩
      rw [Nat.add_sub_cancel]
      refine mPlace R' hy rfl rfl ⟨_, y, rfl, ⟨dx, hp⟩, hw y (List.mem_of_getElem? hy), _, hDl, ?_, ?_, ?_⟩
      · rw [List.length_map, List.length_take]
        exact Nat.lt_of_le_of_lt (Nat.min_le_left _ _) (Nat.lt_trans hi (by decide))
      · exact fun b o e => by rw [upd_ne (ne_of_none e hD)]; exact sm b o e
      · rw [upd_same, take_snoc hc, List.map_append]; rfl
    · rintro H' ⟨sm, hDl⟩
      refine k H' D sm hD ?_
      rw [hDl, List.take_of_length_le (by omega)]
theorem ok_Side_place_of (T : Txt K mg d) : GF P w K mg base 2 d.f_Side_place_of ["self", "number"] (spPlaceOf d) := by
  obtain ⟨fd, F⟩ := T.fn_Side_place_of
  refine ⟨fd, F.ok sc_Side_place_of (fun vs H Q E h => ?_) (fun cdv A outer sh H vs Q E hr h => ?_), F.binds (fun _ _ _ _ _ _ us hl => match us, hl with | [_, _], _ => rfl)⟩
  · obtain ⟨α, s, t, n, rfl, _⟩ := h; rfl
  · obtain ⟨α, s, t, n, rfl, R, hw, k1, k2⟩ := h
    refine ⟨_, (pss_cons (ps_for PassesOwn.never rfl (pi_list (pe_fld (pv 0) rfl)) (pg_name (i := 2) sc_Side_place_of.nd rfl (Or.inl rfl)) (pss_one (ps_if (PW.pt (pw_or (pt_cmpR op_eq (pv 1) (pe_fld (pv 2) rfl) (nomark _)) (pw_or1 (pt_cmpR op_eq (pv 1) (V6.qe_meth0 (pv 2) T.cl_Place T.me_Place_owner (ok_Place_owner T) (hr.mono (by decide))) (nomark _))))) (pss_one (ps_ret (pv 2))) pss_nil))) (pss_one (ps_ret pe_non))), ?_⟩
    refine ⟨_, rfl, rSide T R rfl T.na_Side_places rfl ⟨_, rfl, ⟨_, SqL.of (R.o_places t)⟩, for_list (K := K) (a := α (.places t)) (xs := (List.range (tm s t).slots.length).map fun i => V.ref (α (.place t i))) (fun i σ H' => (∃ v, σ = [some (.ref (α (.side t))), some (nV n), v]) ∧ H' = H ∧ ∀ j y, j < i → (tm s t).slots[j]? = some y → isAt n y = false)
      ⟨⟨_, rfl⟩, rfl, fun j _ hj => absurd hj (Nat.not_lt_zero _)⟩ (fun i σ H' _ p => by rw [p.2.1]; exact SqL.of (R.o_places t)) ?_ ?_⟩⟩
    · rintro i x σ H' hx ⟨⟨v, rfl⟩, rfl, hj⟩
      obtain ⟨hi, rfl⟩ := places_get hx
      have hy : (tm s t).slots[i]? = some (tm s t).slots[i] := List.getElem?_eq_getElem hi
      generalize (tm s t).slots[i] = y at hy
      obtain ⟨dx, hp⟩ := R.o_place t hy
      have hit : isAt n y = true → Q (.ref (α (.place t i))) H' := fun hc => k2 i y (by
        unfold Kg60.findSlot
        rw [List.findIdx?_eq_some_iff_getElem]
        refine ⟨hi, by rw [(List.getElem?_eq_some_iff.mp hy).2]; exact hc, fun j hji => ?_⟩
        rw [hj j _ hji (List.getElem?_eq_getElem (by omega))]; decide) hy
      refine ⟨_, rfl, _, rfl, rPlace T R hy rfl T.na_Place_libero rfl ⟨rfl, _, rfl, ite2 (fun hc => iteT ⟨_, rfl, ?_⟩) (fun hc => ⟨_, rfl, _, rfl, mPlace R hy rfl rfl ⟨_, y, rfl, ⟨dx, hp⟩, hw y (List.mem_of_getElem? hy), rfl, _, rfl, ite2 (fun hc2 => ⟨_, rfl, ?_⟩) (fun hc2 => ?_)⟩⟩)⟩⟩
      · refine hit ?_
        unfold isAt
        cases hl : y.libero with
        | none =>
          rw [hl, show nV n = V.int (n : Int) from rfl, show oV none = V.int (-1) from rfl, eqI] at hc
          have := of_decide_eq_true hc
          omega
        | some m =>
          rw [hl, show oV (some m) = nV m from rfl, on_nV] at hc
          rw [of_decide_eq_true hc]; simp
      · refine hit ?_
        rw [on_nV] at hc2
        unfold isAt
        rw [← of_decide_eq_true hc2]; simp
      · refine ⟨⟨_, rfl⟩, rfl, fun j z hj' hz => ?_⟩
        by_cases e : j = i
        · subst e
          have : y = z := Option.some.inj (hy.symm.trans hz)
          subst this
          unfold isAt
          rw [Bool.or_eq_false_iff]
          rw [on_nV] at hc2
          refine ⟨by cases q : y.regular == n with
            | false => rfl
            | true => exact absurd (decide_eq_true (beq_iff_eq.mp q).symm) hc2, ?_⟩
          cases hl : y.libero with
          | none => rfl
          | some m =>
            rw [hl, show oV (some m) = nV m from rfl, on_nV] at hc
            cases q : (some m == some n : Bool) with
            | false => rfl
            | true => exact absurd (decide_eq_true (Option.some.inj (beq_iff_eq.mp q)).symm) hc
        · exact hj j z (by omega) hz
    · rintro σ H' ⟨⟨v, rfl⟩, rfl, hj⟩
      refine k1 ?_
      unfold Kg60.findSlot
      rw [List.findIdx?_eq_none_iff]
      intro y hy
      obtain ⟨j, hj2⟩ := List.getElem?_of_mem hy
      exact hj j y (by rw [List.length_map, List.length_range]; exact (List.getElem?_eq_some_iff.mp hj2).1) hj2
theorem ok_Side_is_new (T : Txt K mg d) : GF P w K mg base 1 d.f_Side_is_new ["self", "number"] (spIsNew d) := by
  obtain ⟨fd, F⟩ := T.fn_Side_is_new
  refine ⟨fd, F.ok sc_Side_is_new (fun vs H Q E h => ?_) (fun cdv A outer sh H vs Q E hr h => ?_), F.binds (fun _ _ _ _ _ _ us hl => match us, hl with | [_, _], _ => rfl)⟩
  · obtain ⟨α, s, t, n, rfl, _⟩ := h; rfl
  · obtain ⟨α, s, t, n, rfl, R, hl, k⟩ := h
    refine ⟨_, (pss_cons (ps_if (PW.pt (pw_or (pt_cmpR op_notIn_seq (pv 1) (pe_fld (pv 0) rfl) (by with_unfolding_all rfl)) (pw_or1 (pt_cmpR op_in_seq (pv 1) (pe_fld (pv 0) rfl) (by with_unfolding_all rfl))))) (pss_one (ps_ret pe_bl)) pss_nil) (pss_one (ps_ret (pe_callB (cr_all rfl) (by rfl) T.no_all V6.boot_all (pa_cons (pe_lc rfl sc_Side_is_new.nd (pi_list (pe_fld (pv 0) rfl)) (blkOk_by (N := ["self", "number", "place"]) (sc := defScope s_Side_is_new) (own := [("place", 2)]) (by decide +kernel)) (fun _ _ _ _ _ => pg_name (i := 2) sc_Side_is_new.nd rfl (Or.inl rfl)) (fun _ _ _ _ _ => pts_nil) (fun _ _ _ _ _ => (pe_and (pe_cmpR op_ne (pv 1) (V6.pe_fldK (K' := K) (pv 2) rfl rfl) (nomark _)) (pe_one (pe_cmpR op_ne (pv 1) (V6.pe_fldK (K' := K) (pv 2) rfl rfl) (nomark _)))))) pa_nil))))), ?_⟩
    unfold isNew at k
    refine ⟨_, rfl, _, rfl, rSide T R rfl T.na_Side_players rfl ⟨_, _, rfl, .inl (SqL.of (R.o_players t)), rfl, flat_nats _, _, rfl, ?_⟩⟩
    rw [in_neg, inV_nats]
    refine ite2 (fun hc => iteT ?_) (fun hc => ⟨_, rfl, _, rfl, rSide T R rfl T.na_Side_liberos rfl ⟨_, _, rfl, .inl (SqL.of (R.o_libs t)), rfl, flat_nats _, _, rfl, ?_⟩⟩)
    · have := k H Same.refl
      rw [show (tm s t).players.contains n = false by simpa using hc, Bool.false_and] at this; exact this
    · have hc : (tm s t).players.contains n = true := by simpa using hc
      rw [hc] at k
      rw [in_pos, inV_nats]
      refine ite2 (fun hc => ?_) (fun hc => ?_)
      · have := k H Same.refl
        rw [hc, Bool.not_true, Bool.false_and, Bool.and_false] at this; exact this
      · rw [Bool.eq_false_iff.mpr hc] at k
        simp only [tNext, tRet]
        refine all_lcN (K := K) (j := 2) (a := α (.places t)) (xs := (List.range (tm s t).slots.length).map fun i => V.ref (α (.place t i))) (fun i => ((tm s t).slots[i]?).all fun y => !(y.starter == n || y.sub == some n)) (fun R' h => ⟨_, rfl, rSide T R rfl T.na_Side_places rfl h⟩) (SqL.of (R.o_places t)) (by rw [List.length_map, List.length_range]; exact hl) (fun x => rfl) (fun i x H' R' hx sm h => ?_) (fun H' sm => ?_)
        · obtain ⟨hi, rfl⟩ := places_get hx
          have R1 := R.same sm
          have hy : (tm s t).slots[i]? = some (tm s t).slots[i] := List.getElem?_eq_getElem hi
          generalize (tm s t).slots[i] = y at hy
          simp only [hy, Option.all_some] at h
          refine ⟨_, rfl, _, rfl, rPlace T R1 hy rfl T.na_Place_starter rfl ⟨rfl, _, rfl, ?_⟩⟩
          rw [on_nV]
          refine ite2 (fun hc => ⟨_, rfl, _, rfl, rPlace T R1 hy rfl T.na_Place_second rfl ⟨rfl, ?_⟩⟩) (fun hc => ?_)
          · have e1 : (y.starter == n) = false := by
              cases q : y.starter == n with
              | false => rfl
              | true => rw [decide_eq_true (beq_iff_eq.mp q).symm] at hc; cases hc
            rw [e1, Bool.false_or] at h
            cases hs : y.sub with
            | none =>
              rw [hs] at h
              rw [show nV n = V.int (n : Int) from rfl, show oV none = V.int (-1) from rfl, eqI, decide_eq_false (by omega)]
              exact h
            | some m =>
              rw [hs] at h
              rw [show oV (some m) = nV m from rfl, on_nV]
              have e2 : (some m == some n : Bool) = decide (n = m) := by
                rw [Bool.eq_iff_iff, beq_iff_eq, decide_eq_true_iff]
                exact ⟨fun e => (Option.some.inj e).symm, fun e => by rw [e]⟩
              rw [e2] at h; exact h
          · have e1 : (y.starter == n) = true := by
              rw [beq_iff_eq]
              by_cases q : n = y.starter
              · exact q.symm
              · rw [decide_eq_false q] at hc; exact absurd rfl hc
            rw [e1, Bool.true_or] at h; exact h
        · have := k H' sm
          have e : (List.range ((List.range (tm s t).slots.length).map fun i => V.ref (α (.place t i))).length).all (fun i => ((tm s t).slots[i]?).all fun y => !(y.starter == n || y.sub == some n)) = !(tm s t).used n := by
            rw [List.length_map, List.length_range, range_all (tm s t).slots _ (fun y => !(y.starter == n || y.sub == some n)) (fun i x hx => by rw [hx]; rfl)]
            unfold Kg60.Team.used
            rw [List.not_any_eq_all_not]
          rw [e]
          rw [Bool.not_false, Bool.true_and, Bool.true_and] at this; exact this
/-! ### a line-up -/
def spTake (d : Ad) (K : PySem.W.Frag) : Sp := fun vs H Q _ => ∃ (α : Role → Addr) (s : State) (t : Bool) (a : Addr) (l : List Nat), vs = [.ref (α (.side t)), .ref a] ∧ Rep d H α s ∧ SqL K H a (l.map nV) ∧ l.length ≤ 1000 ∧
  ∀ H' α', Step d H α s H' α' (putT s t { tm s t with slots := l.map fun p => ⟨p, none, 0, none⟩ }) → Q .non H'
structure Laid (d : Ad) (H : Hp) (D : Addr) (l : List Nat) (H' : Hp) (as : List Addr) : Prop where
  sm : Same H H'
  dl : H' D = some (.lst (as.map V.ref))
  new : ∀ a ∈ as, H a = none
  nd : as.Nodup
  nD : D ∉ as
  len : as.length = l.length
  at_ : ∀ (j : Nat) (a : Addr) (n : Nat), as[j]? = some a → l[j]? = some n → ∃ dx, H' a = some (.ins d.c_Place dx (placeF ⟨n, none, 0, none⟩))
theorem ok_Side_take_lineup (T : Txt K mg d) : GF P w K mg base 3 d.f_Side_take_lineup ["self", "players"] (spTake d K) := by
  obtain ⟨fd, F⟩ := T.fn_Side_take_lineup
  refine ⟨fd, F.ok sc_Side_take_lineup (fun vs H Q E h => ?_) (fun cdv A outer sh H vs Q E hr h => ?_), F.binds (fun _ _ _ _ _ _ us hl => match us, hl with | [_, _], _ => rfl)⟩
  · obtain ⟨α, s, t, a, l, rfl, _⟩ := h; rfl
  · obtain ⟨α, s, t, a, l, rfl, R, hS, hlen, k⟩ := h
    refine ⟨_, (pss_one (ps_fld (pv 0) (pe_lc rfl sc_Side_take_lineup.nd (pi_list (pv 1)) (blkOk_by (N := ["self", "players", "player"]) (sc := defScope s_Side_take_lineup) (own := [("player", 2)]) (by decide +kernel)) (fun _ _ _ _ _ => pg_name (i := 2) sc_Side_take_lineup.nd rfl (Or.inl rfl)) (fun _ _ _ _ _ => pts_nil) (fun _ _ _ _ _ => (V6.qe_make T.mk_Place (ok_Place_init T) (hr.mono (by decide)) (by rfl) T.mg_Place (pa_cons (pv 2) pa_nil)))) rfl)), ?_⟩
    refine ⟨_, rfl, a, rfl, ⟨_, hS⟩, fun D hD => lc_list (K := K) (a := a) (xs := l.map nV) (fun i H' => ∃ as, Laid d H D (l.take i) H' as ∧ i ≤ l.length) ⟨[], ⟨Same.new hD, upd_same, fun a h => (nomatch h), List.nodup_nil, List.not_mem_nil, rfl, fun j a n h => (by simp at h)⟩, Nat.zero_le _⟩ (fun i H' _ p => let ⟨_, p, _⟩ := p; p.sm.seq hS) ?_ ?_⟩
    · rintro i x H' hx ⟨as, L, hi⟩
      obtain ⟨n, hn, rfl⟩ : ∃ n, l[i]? = some n ∧ x = nV n := by
        rw [List.getElem?_map] at hx
        cases e : l[i]? with
        | none => rw [e] at hx; cases hx
        | some n => rw [e] at hx; exact ⟨n, rfl, (Option.some.inj hx).symm⟩
      have hi' : i < l.length := (List.getElem?_eq_some_iff.mp hn).1
      refine ⟨rfl, _, rfl, fun x dx hx hdx hne => ⟨x, dx, n, rfl, upd_same, rfl, ?_⟩⟩
      rw [upd_upd]
      have nDx : D ≠ x := ne_of_none L.dl hx
      have nDdx : D ≠ dx := ne_of_none L.dl hdx
      have lenas : as.length = i := by rw [L.len, List.length_take]; omega
      have fx : H x = none := L.sm.free hx
      have fdx : H dx = none := L.sm.free hdx
      have hasn : ∀ b ∈ as, ∃ o, H' b = some o := fun b hb => by
        obtain ⟨j, hj⟩ := List.getElem?_of_mem hb
        have hjl : j < (l.take i).length := by rw [← L.len]; exact (List.getElem?_eq_some_iff.mp hj).1
        obtain ⟨dy, h⟩ := L.at_ j b _ hj (List.getElem?_eq_getElem hjl)
        exact ⟨_, h⟩
      refine ⟨as.map V.ref, by rw [upd_ne nDx, upd_ne nDdx]; exact L.dl, by rw [List.length_map, lenas]; exact Nat.lt_of_lt_of_le hi' (Nat.le_trans hlen (by decide)), as ++ [x], ⟨?_, ?_, ?_, ?_, ?_, ?_, ?_⟩, hi'⟩
      · exact fun b o e => by rw [upd_ne (ne_of_none e hD), upd_ne (ne_of_none e fx), upd_ne (ne_of_none e fdx)]; exact L.sm b o e
      · rw [upd_same, List.map_append]; rfl
      · intro b hb
        rcases List.mem_append.mp hb with hb | hb
        · exact L.new b hb
        · rw [List.mem_singleton.mp hb]; exact fx
      · rw [List.nodup_append]
        refine ⟨L.nd, List.nodup_cons.mpr ⟨List.not_mem_nil, List.nodup_nil⟩, fun b hb c hc e => ?_⟩
        rw [List.mem_singleton.mp hc] at e
        obtain ⟨o, h⟩ := hasn b hb
        rw [e, hx] at h; cases h
      · intro hb
        rcases List.mem_append.mp hb with hb | hb
        · exact L.nD hb
        · exact nDx (List.mem_singleton.mp hb)
      · rw [List.length_append, lenas, List.length_take, List.length_singleton]; omega
      · intro j b m hj hm
        by_cases e : j = i
        · subst e
          rw [List.getElem?_append_right (by omega), lenas, Nat.sub_self] at hj
          have : x = b := Option.some.inj hj
          subst this
          rw [List.getElem?_take_of_lt (Nat.lt_succ_self _), hn] at hm
          have : n = m := Option.some.inj hm
          subst this
          exact ⟨dx, by rw [upd_ne (fun z => nDx z.symm), upd_same]⟩
        · have hj1 : j < i := by
            have := (List.getElem?_eq_some_iff.mp hj).1
            rw [List.length_append, List.length_singleton] at this
            omega
          rw [List.getElem?_append_left (by omega)] at hj
          rw [List.getElem?_take_of_lt (by omega)] at hm
          obtain ⟨dy, h⟩ := L.at_ j b m hj (by rw [List.getElem?_take_of_lt hj1]; exact hm)
          have mb := List.mem_of_getElem? hj
          refine ⟨dy, ?_⟩
          rw [upd_ne (fun z => L.nD (by rw [← z]; exact mb)), upd_ne (ne_of_none h hx), upd_ne (ne_of_none h hdx)]
          exact h
    · rintro H' ⟨as, L, _⟩
      rw [List.length_map, List.take_length] at L
      refine ⟨_, rfl, wSide T R L.sm rfl T.na_Side_places (fun dx => Step.lineup R t L.len L.sm hD L.dl L.new L.nd L.nD L.at_ sF_lineup) fun H2 S => ?_⟩
      exact k _ _ S
/-! ### a new side -/
def sideI (p l os om pl : Addr) : List (Str × V) := [("players", .ref p), ("liberos", .ref l), ("out_of_set", .ref os), ("out_of_match", .ref om), ("places", .ref pl), ("turns", nV 0), ("substitutions", nV 0), ("timeouts", nV 0), ("libero_moved", .bl false)]
/-- made: H1 has all of H but a, and the new things -/
def spSideInit (d : Ad) : Sp := fun vs H Q _ => ∃ (a dx p l : Addr), vs = [.ref a, .ref p, .ref l] ∧ H a = some (.ins d.c_Side dx []) ∧
  ∀ H' os om pl, (∀ b o, H b = some o → b ≠ a → H' b = some o) → H' a = some (.ins d.c_Side dx (sideI p l os om pl)) → H os = none → H om = none → H pl = none → os ≠ om → os ≠ pl → om ≠ pl → H' os = some (.dK []) → H' om = some (.dK []) → H' pl = some (.lst []) → Q .non H'
theorem ok_Side_init (T : Txt K mg d) : GF P w K mg base 1 d.f_Side_init ["self", "players", "liberos"] (spSideInit d) := by
  obtain ⟨fd, F⟩ := T.fn_Side_init
  refine ⟨fd, F.ok sc_Side_init (fun vs H Q E h => ?_) (fun cdv A outer sh H vs Q E hr h => ?_), F.binds (fun _ _ _ _ _ _ us hl => match us, hl with | [_, _, _], _ => rfl)⟩
  · obtain ⟨a, dx, p, l, rfl, _⟩ := h; rfl
  · obtain ⟨a, dx, p, l, rfl, h1, k⟩ := h
    refine ⟨_, (pss_cons (ps_fld (pv 0) (pv 1) rfl) (pss_cons (ps_fld (pv 0) (pv 2) rfl) (pss_cons (ps_fld (pv 0) pe_dnewK rfl) (pss_cons (ps_fld (pv 0) pe_dnewK rfl) (pss_cons (ps_fld (pv 0) (pe_lst pa_nil) rfl) (pss_cons (ps_fld (pv 0) pe_int rfl) (pss_cons (ps_fld (pv 0) pe_int rfl) (pss_cons (ps_fld (pv 0) pe_int rfl) (pss_one (ps_fld (pv 0) pe_bl rfl)))))))))), ?_⟩
    refine ⟨_, rfl, _, rfl, wF h1 T.cl_Side T.na_Side_players (show 0 < 1000 by decide) ?_⟩
    refine ⟨_, rfl, _, rfl, wF upd_same T.cl_Side T.na_Side_liberos (show 1 < 1000 by decide) ?_⟩
    rw [upd_upd]
    intro os hos
    have n1 : a ≠ os := ne_of_none upd_same hos
    refine ⟨_, rfl, wF ((upd_ne n1).trans upd_same) T.cl_Side T.na_Side_out_of_set (show 2 < 1000 by decide) ?_⟩
    intro om hom
    have n2 : a ≠ om := ne_of_none upd_same hom
    refine ⟨_, rfl, wF ((upd_ne n2).trans upd_same) T.cl_Side T.na_Side_out_of_match (show 3 < 1000 by decide) ?_⟩
    refine ⟨Nat.zero_le _, fun pl hpl => ?_⟩
    have n3 : a ≠ pl := ne_of_none upd_same hpl
    refine ⟨_, rfl, wF ((upd_ne n3).trans upd_same) T.cl_Side T.na_Side_places (show 4 < 1000 by decide) ?_⟩
    refine ⟨_, rfl, wF upd_same T.cl_Side T.na_Side_turns (show 5 < 1000 by decide) ?_⟩
    rw [upd_upd]
    refine ⟨_, rfl, wF upd_same T.cl_Side T.na_Side_substitutions (show 6 < 1000 by decide) ?_⟩
    rw [upd_upd]
    refine ⟨_, rfl, wF upd_same T.cl_Side T.na_Side_timeouts (show 7 < 1000 by decide) ?_⟩
    rw [upd_upd]
    refine ⟨_, rfl, wF upd_same T.cl_Side T.na_Side_libero_moved (show 8 < 1000 by decide) ?_⟩
    rw [upd_upd]
    have fos : H os = none := by rw [upd_ne n1.symm] at hos; exact hos
    have m1 : om ≠ os := fun e => by rw [e, upd_ne n1.symm, upd_same] at hom; cases hom
    have fom : H om = none := by rw [upd_ne n2.symm, upd_ne m1, upd_ne n2.symm] at hom; exact hom
    have m2 : pl ≠ om := fun e => by rw [e, upd_ne n2.symm, upd_same] at hpl; cases hpl
    have m3 : pl ≠ os := fun e => by rw [e, upd_ne n1.symm, upd_ne (fun z => m1 z.symm), upd_ne n1.symm, upd_same] at hpl; cases hpl
    have fpl : H pl = none := by rw [upd_ne n3.symm, upd_ne m2, upd_ne n3.symm, upd_ne m3, upd_ne n3.symm] at hpl; exact hpl
    refine k _ os om pl (fun b o e hb => ?_) upd_same fos fom fpl (fun e => m1 e.symm) (fun e => m3 e.symm) (fun e => m2 e.symm) ?_ ?_ ?_
    · rw [upd_ne hb, upd_ne (ne_of_none e fpl), upd_ne hb, upd_ne (ne_of_none e fom), upd_ne hb, upd_ne (ne_of_none e fos), upd_ne hb]; exact e
    · rw [upd_ne n1.symm, upd_ne (fun e => m3 e.symm), upd_ne n1.symm, upd_ne (fun e => m1 e.symm), upd_ne n1.symm, upd_same]
    · rw [upd_ne n2.symm, upd_ne (fun e => m2 e.symm), upd_ne n2.symm, upd_same]
    · rw [upd_ne n3.symm, upd_same]
end
end Vs
end
section
set_option Elab.async false
set_option maxRecDepth 100000
set_option maxHeartbeats 2000000
namespace Vs
open PySem PySem.Spec PyProof.Rows L2 V6
open Kg60 (Slot Team State within)
section
variable {P : Program} {w : World} {K : PySem.W.Frag} {mg : Str → Option Value} {base : Heap} {d : Ad}
theorem gF_server {α : Role → Addr} {s : State} {n : Nat} : putF "server" (nV n) (gameF α s) = gameF α { s with serves := n } := rfl
theorem gF_first {α : Role → Addr} {s : State} {n : Nat} : putF "first_server" (nV n) (gameF α s) = gameF α { s with firstServe := n } := rfl
theorem gF_playing {α : Role → Addr} {s : State} {b : Bool} : putF "playing" (.bl b) (gameF α s) = gameF α { s with playing := b } := rfl
theorem gF_points {α : Role → Addr} {s : State} {p : Addr} : putF "points" (.ref p) (gameF α s) = gameF (at1 α .points p) s := rfl
/-! ### Game: what is read -/
def spSetsOver (d : Ad) : Sp := fun vs H Q _ => ∃ (α : Role → Addr) (s : State), vs = [.ref (α .game)] ∧ Rep d H α s ∧ Q (nV (s.a.sets + s.b.sets)) H
def spSetNumber (d : Ad) : Sp := fun vs H Q _ => ∃ (α : Role → Addr) (s : State), vs = [.ref (α .game)] ∧ Rep d H α s ∧ Q (nV (s.a.sets + s.b.sets + 1)) H
def spCanGoOn (d : Ad) : Sp := fun vs H Q _ => ∃ (α : Role → Addr) (s : State), vs = [.ref (α .game)] ∧ Rep d H α s ∧ Q (.bl (s.ready && !Kg60.over s)) H
def toldV (s : State) : List V := (Kg60.whole (Kg60.told s)).map V.int
def spHow (d : Ad) : Sp := fun vs H Q _ => ∃ (α : Role → Addr) (s : State), vs = [.ref (α .game)] ∧ Rep d H α s ∧ ∀ H' p, Same H H' → H p = none → H' p = some (.lst (toldV s)) → Q (.ref p) H'
def spToWin (d : Ad) : Sp := fun vs H Q _ => ∃ (α : Role → Addr) (s : State), vs = [.ref (α .game)] ∧ Rep d H α s ∧ Q (nV (Kg60.top (s.a.sets + s.b.sets))) H
def spEnough (d : Ad) : Sp := fun vs H Q _ => ∃ (α : Role → Addr) (s : State) (t : Bool), vs = [.ref (α .game), nV (bN t)] ∧ Rep d H α s ∧ Q (.bl (Kg60.wonBy (s.a.sets + s.b.sets) (tm s t).points (tm s (!t)).points)) H
theorem ok_Game_sets_over (T : Txt K mg d) : GF P w K mg base 1 d.f_Game_sets_over ["self"] (spSetsOver d) := by
  obtain ⟨fd, F⟩ := T.fn_Game_sets_over
  refine ⟨fd, F.ok sc_Game_sets_over (fun vs H Q E h => ?_) (fun cdv A outer sh H vs Q E hr h => ?_), F.binds (fun _ _ _ _ _ _ us hl => match us, hl with | [_], _ => rfl)⟩
  · obtain ⟨α, s, rfl, _⟩ := h; rfl
  · obtain ⟨α, s, rfl, R, k⟩ := h
    refine ⟨_, (pss_one (ps_ret (pe_callB (cr_sum rfl) (by rfl) T.no_sum PyProof.Rows.boot_sum (pa_cons (pe_fld (pv 0) rfl) pa_nil)))), ?_⟩
    refine ⟨_, rfl, rGame T R rfl T.na_Game_sets_won rfl ⟨_, [(s.a.sets : Int), (s.b.sets : Int)], rfl, SqL.of R.o_won, ?_⟩⟩
    rw [int_nV (n := s.a.sets + s.b.sets) (by simp)]
    exact k
theorem ok_Game_set_number (T : Txt K mg d) : GF P w K mg base 2 d.f_Game_set_number ["self"] (spSetNumber d) := by
  obtain ⟨fd, F⟩ := T.fn_Game_set_number
  refine ⟨fd, F.ok sc_Game_set_number (fun vs H Q E h => ?_) (fun cdv A outer sh H vs Q E hr h => ?_), F.binds (fun _ _ _ _ _ _ us hl => match us, hl with | [_], _ => rfl)⟩
  · obtain ⟨α, s, rfl, _⟩ := h; rfl
  · obtain ⟨α, s, rfl, R, k⟩ := h
    refine ⟨_, (pss_one (ps_ret (pe_op op_add (V6.qe_meth0 (pv 0) T.cl_Game T.me_Game_sets_over (ok_Game_sets_over T) (hr.mono (by decide))) pe_int))), ?_⟩
    refine ⟨_, rfl, mGame R rfl rfl ⟨α, s, rfl, R, _, _, rfl, rfl, ?_⟩⟩
    exact k
theorem ok_Game_can_go_on (T : Txt K mg d) : GF P w K mg base 1 d.f_Game_can_go_on ["self"] (spCanGoOn d) := by
  obtain ⟨fd, F⟩ := T.fn_Game_can_go_on
  refine ⟨fd, F.ok sc_Game_can_go_on (fun vs H Q E h => ?_) (fun cdv A outer sh H vs Q E hr h => ?_), F.binds (fun _ _ _ _ _ _ us hl => match us, hl with | [_], _ => rfl)⟩
  · obtain ⟨α, s, rfl, _⟩ := h; rfl
  · obtain ⟨α, s, rfl, R, k⟩ := h
    refine ⟨_, (pss_one (ps_ret (pe_and (pe_fld (pv 0) rfl) (pe_one (pe_cmpR op_lt (pe_callB (cr_max rfl) (by rfl) T.no_max PyProof.Rows.boot_max (pa_cons (pe_fld (pv 0) rfl) pa_nil)) (V6.pe_k (by rfl) T.k_SETS_TO_WIN) (nomark _)))))), ?_⟩
    refine ⟨_, rfl, rGame T R rfl T.na_Game_begun rfl ⟨_, rfl, ite2 (fun hc => ⟨_, rfl, rGame T R rfl T.na_Game_sets_won rfl ⟨_, [(s.a.sets : Int), (s.b.sets : Int)], rfl, SqL.of R.o_won, (by show 0 < 2; decide), fun m hm hmax => ⟨_, _, rfl, rfl, ?_⟩⟩⟩) (fun hc => ?_)⟩⟩
    · have e : (s.ready && !Kg60.over s) = decide (m < 3) := by
        rw [hc, Bool.true_and]
        unfold Kg60.over
        have h1 := hmax _ (List.mem_cons_self)
        have h2 := hmax (s.b.sets : Int) (by simp)
        have h3 : m = (s.a.sets : Int) ∨ m = (s.b.sets : Int) := by simpa using hm
        rw [Bool.eq_iff_iff, decide_eq_true_iff]
        simp only [Bool.not_or, Bool.and_eq_true, Bool.not_eq_true', decide_eq_false_iff_not]
        omega
      rw [e] at k; exact k
    · rw [Bool.eq_false_iff.mpr hc, Bool.false_and] at k; exact k
theorem ok_Game_how_it_stands (T : Txt K mg d) : GF P w K mg base 1 d.f_Game_how_it_stands ["self"] (spHow d) := by
  obtain ⟨fd, F⟩ := T.fn_Game_how_it_stands
  refine ⟨fd, F.ok sc_Game_how_it_stands (fun vs H Q E h => ?_) (fun cdv A outer sh H vs Q E hr h => ?_), F.binds (fun _ _ _ _ _ _ us hl => match us, hl with | [_], _ => rfl)⟩
  · obtain ⟨α, s, rfl, _⟩ := h; rfl
  · obtain ⟨α, s, rfl, R, k⟩ := h
    refine ⟨_, (pss_one (ps_ret (pe_op op_cat (pe_op op_cat (pe_fld (pv 0) rfl) (pe_lst (pa_cons (pe_fld (pv 0) rfl) (pa_cons (pe_ifExp (pt_val (pe_fld (pv 0) rfl)) pe_int pe_int) pa_nil)))) (pe_fld (pv 0) rfl)))), ?_⟩
    have fin : ∀ n : Nat, n = Kg60.truth s.playing → ∀ p1, H p1 = none → ∃ l b xs zs, V.ref (α .points) = .ref l ∧ V.ref p1 = .ref b ∧ (upd H p1 (.lst [nV s.serves, nV n])) l = some (.lst xs) ∧ (upd H p1 (.lst [nV s.serves, nV n])) b = some (.lst zs) ∧ xs.length + zs.length ≤ sizeLine ∧
        ∀ p, (upd H p1 (.lst [nV s.serves, nV n])) p = none → tFld K (tVar 0) "sets_won" (start ["self"] [V.ref (α .game)]) (upd (upd H p1 (.lst [nV s.serves, nV n])) p (.lst (xs ++ zs))) (fun y H2 => rCat (V.ref p) y H2 Q) := by
      rintro n rfl p1 hp1
      have R1 := R.same (Same.new (o := .lst [nV s.serves, nV (Kg60.truth s.playing)]) hp1)
      refine ⟨_, _, _, _, rfl, rfl, R1.o_points, upd_same, by show 4 ≤ sizeLine; decide, fun p2 hp2 => ?_⟩
      have R2 := R1.same (Same.new (o := .lst ([nV s.a.points, nV s.b.points] ++ [nV s.serves, nV (Kg60.truth s.playing)])) hp2)
      refine ⟨_, rfl, rGame T R2 rfl T.na_Game_sets_won rfl ⟨_, _, _, _, rfl, rfl, upd_same, R2.o_won, by show 6 ≤ sizeLine; decide, fun p3 hp3 => ?_⟩⟩
      have sm := ((Same.new hp1).trans (Same.new hp2)).trans (Same.new (o := .lst (([nV s.a.points, nV s.b.points] ++ [nV s.serves, nV (Kg60.truth s.playing)]) ++ [nV s.a.sets, nV s.b.sets])) hp3)
      exact k _ p3 sm (((Same.new hp1).trans (Same.new hp2)).free hp3) upd_same
    refine ⟨_, rfl, rGame T R rfl T.na_Game_points rfl ⟨_, rfl, rGame T R rfl T.na_Game_server rfl ⟨_, rfl, rGame T R rfl T.na_Game_playing rfl ⟨_, rfl, ite2 (fun hc => ?_) (fun hc => ?_)⟩⟩⟩⟩
    · exact ⟨by show 2 ≤ sizeLine; decide, fun p1 hp1 => fin 1 (by unfold Kg60.truth; rw [if_pos hc]) p1 hp1⟩
    · exact ⟨by show 2 ≤ sizeLine; decide, fun p1 hp1 => fin 0 (by unfold Kg60.truth; rw [if_neg hc]) p1 hp1⟩
theorem ok_Game_points_to_win (T : Txt K mg d) : GF P w K mg base 3 d.f_Game_points_to_win ["self"] (spToWin d) := by
  obtain ⟨fd, F⟩ := T.fn_Game_points_to_win
  refine ⟨fd, F.ok sc_Game_points_to_win (fun vs H Q E h => ?_) (fun cdv A outer sh H vs Q E hr h => ?_), F.binds (fun _ _ _ _ _ _ us hl => match us, hl with | [_], _ => rfl)⟩
  · obtain ⟨α, s, rfl, _⟩ := h; rfl
  · obtain ⟨α, s, rfl, R, k⟩ := h
    refine ⟨_, (pss_one (ps_ret (pe_ifExp (pt_cmpR op_eq (V6.qe_meth0 (pv 0) T.cl_Game T.me_Game_set_number (ok_Game_set_number T) (hr.mono (by decide))) (V6.pe_k (by rfl) T.k_LAST_SET) (nomark _)) pe_int pe_int))), ?_⟩
    refine ⟨_, rfl, mGame R rfl rfl ⟨α, s, rfl, R, rfl, _, rfl, ite2 (fun hc => ?_) (fun hc => ?_)⟩⟩
    · have hc : decide (V.int ((s.a.sets + s.b.sets + 1 : Nat) : Int) = V.int 5) = true := hc
      rw [eqI] at hc
      have e : Kg60.top (s.a.sets + s.b.sets) = 15 := if_pos (by have := of_decide_eq_true hc; omega)
      rw [e] at k; exact k
    · have hc : ¬ decide (V.int ((s.a.sets + s.b.sets + 1 : Nat) : Int) = V.int 5) = true := hc
      rw [eqI] at hc
      have e : Kg60.top (s.a.sets + s.b.sets) = 25 := if_neg (fun e => hc (decide_eq_true (by omega)))
      rw [e] at k; exact k
theorem sub_bN (t : Bool) : (1 : Int) - ((bN t : Nat) : Int) = ((bN (!t) : Nat) : Int) := by cases t <;> rfl
theorem pts_at (s : State) (t : Bool) : ([nV s.a.points, nV s.b.points] : List V)[bN t]? = some (nV (tm s t).points) := by cases t <;> rfl
theorem won_at (s : State) (t : Bool) : ([nV s.a.sets, nV s.b.sets] : List V)[bN t]? = some (nV (tm s t).sets) := by cases t <;> rfl
theorem sides_at (α : Role → Addr) (t : Bool) : ([.ref (α (.side false)), .ref (α (.side true))] : List V)[bN t]? = some (.ref (α (.side t))) := by cases t <;> rfl
theorem ok_Game_has_enough (T : Txt K mg d) : GF P w K mg base 4 d.f_Game_has_enough ["self", "team"] (spEnough d) := by
  obtain ⟨fd, F⟩ := T.fn_Game_has_enough
  refine ⟨fd, F.ok sc_Game_has_enough (fun vs H Q E h => ?_) (fun cdv A outer sh H vs Q E hr h => ?_), F.binds (fun _ _ _ _ _ _ us hl => match us, hl with | [_, _], _ => rfl)⟩
  · obtain ⟨α, s, t, rfl, _⟩ := h; rfl
  · obtain ⟨α, s, t, rfl, R, k⟩ := h
    refine ⟨_, (pss_cons (ps_set (i := 2) sc_Game_has_enough.nd rfl (Or.inl rfl) (pe_op op_sub (pe_ix ix_list (pe_fld (pv 0) rfl) (pv 1) (fun _ _ => rfl)) (pe_ix ix_list (pe_fld (pv 0) rfl) (pe_op op_sub pe_int (pv 1)) (fun _ _ => rfl)))) (pss_one (ps_ret (pe_and (pe_cmpR op_ge (pe_ix ix_list (pe_fld (pv 0) rfl) (pv 1) (fun _ _ => rfl)) (V6.qe_meth0 (pv 0) T.cl_Game T.me_Game_points_to_win (ok_Game_points_to_win T) (hr.mono (by decide))) (nomark _)) (pe_one (pe_cmpR op_ge (pv 2) pe_int (nomark _))))))), ?_⟩
    refine ⟨_, rfl, rGame T R rfl T.na_Game_points rfl ⟨_, rfl, _, _, _, _, rfl, rfl, SqL.of R.o_points, atI_nat (pts_at s t), _, rfl, rGame T R rfl T.na_Game_points rfl ⟨_, rfl, _, _, rfl, rfl, _, _, _, _, rfl, rfl, SqL.of R.o_points, at_of (sub_bN t) (pts_at s (!t)), _, _, rfl, rfl, ?_⟩⟩⟩
    refine ⟨_, rfl, rGame T R rfl T.na_Game_points rfl ⟨_, rfl, _, _, _, _, rfl, rfl, SqL.of R.o_points, atI_nat (pts_at s t), _, rfl, mGame R rfl rfl ⟨α, s, rfl, R, _, _, rfl, rfl, _, rfl, ite2 (fun hc => ⟨_, rfl, _, _, rfl, rfl, ?_⟩) (fun hc => ?_)⟩⟩⟩
    · have e : Kg60.wonBy (s.a.sets + s.b.sets) (tm s t).points (tm s (!t)).points = decide ((2 : Int) ≤ ((tm s t).points : Int) - ((tm s (!t)).points : Int)) := by
        unfold Kg60.wonBy
        rw [Bool.eq_iff_iff, decide_eq_true_iff, Bool.and_eq_true, decide_eq_true_iff, decide_eq_true_iff]
        have := of_decide_eq_true hc
        omega
      rw [e] at k; exact k
    · have e : Kg60.wonBy (s.a.sets + s.b.sets) (tm s t).points (tm s (!t)).points = false := by
        unfold Kg60.wonBy
        rw [decide_eq_false (fun q => hc (decide_eq_true (by omega))), Bool.false_and]
      rw [e] at k; exact k
/-! ### Game: what is written -/
theorem setPts {H : Hp} {α : Role → Addr} {s : State} (R : Rep d H α s) (t : Bool) {n : Nat} {v : V} (hv : v = nV n) {Q : Hp → Prop} (q : ∀ H', Step d H α s H' α (putT s t { tm s t with points := n }) → Q H') : rSetL (.ref (α .points)) (nV (bN t)) v H Q :=
  ⟨_, _, _, bN t, rfl, rfl, R.o_points, (by cases t <;> rfl), q _ (Step.points R t (by rw [hv]))⟩
theorem setWon {H : Hp} {α : Role → Addr} {s : State} (R : Rep d H α s) (t : Bool) {n : Nat} {v : V} (hv : v = nV n) {Q : Hp → Prop} (q : ∀ H', Step d H α s H' α (putT s t { tm s t with sets := n }) → Q H') : rSetL (.ref (α .won)) (nV (bN t)) v H Q :=
  ⟨_, _, _, bN t, rfl, rfl, R.o_won, (by cases t <;> rfl), q _ (Step.won R t (by rw [hv]))⟩
def spStart (d : Ad) : Sp := fun vs H Q _ => ∃ (α : Role → Addr) (s : State) (t : Bool), vs = [.ref (α .game), nV (bN t)] ∧ Rep d H α s ∧ ∀ H', Step d H α s H' α { s with serves := bN t, firstServe := bN t, playing := true } → Q .non H'
def spEnd (d : Ad) : Sp := fun vs H Q _ => ∃ (α : Role → Addr) (s : State) (t : Bool), vs = [.ref (α .game), nV (bN t)] ∧ Rep d H α s ∧ s.over.length ≤ 100 ∧ ∀ H' α', Step d H α s H' α' (ended s (bN t)) → Q .non H'
def spPoint (d : Ad) : Sp := fun vs H Q _ => ∃ (α : Role → Addr) (s : State) (t : Bool), vs = [.ref (α .game), nV (bN t)] ∧ Rep d H α s ∧ GS s ∧ ∀ H' α', Step d H α s H' α' (s.point (bN t)) → Q .non H'
def spRally (d : Ad) : Sp := fun vs H Q _ => ∃ (α : Role → Addr) (s : State) (t : Bool), vs = [.ref (α .game), nV (bN t)] ∧ Rep d H α s ∧ GS s ∧ ∀ H' α', Step d H α s H' α' (s.rally (bN t)) → Q .non H'
def spLose (d : Ad) : Sp := fun vs H Q _ => ∃ (α : Role → Addr) (s : State) (t : Bool), vs = [.ref (α .game), nV (bN t)] ∧ Rep d H α s ∧ GS s ∧ ∀ H' α', Step d H α s H' α' (s.lose (bN t)) → Q .non H'
theorem ok_Game_start_set (T : Txt K mg d) : GF P w K mg base 1 d.f_Game_start_set ["self", "team"] (spStart d) := by
  obtain ⟨fd, F⟩ := T.fn_Game_start_set
  refine ⟨fd, F.ok sc_Game_start_set (fun vs H Q E h => ?_) (fun cdv A outer sh H vs Q E hr h => ?_), F.binds (fun _ _ _ _ _ _ us hl => match us, hl with | [_, _], _ => rfl)⟩
  · obtain ⟨α, s, t, rfl, _⟩ := h; rfl
  · obtain ⟨α, s, t, rfl, R, k⟩ := h
    refine ⟨_, (pss_cons (ps_fld (pv 0) (pv 1) rfl) (pss_cons (ps_fld (pv 0) (pv 1) rfl) (pss_one (ps_fld (pv 0) pe_bl rfl)))), ?_⟩
    refine ⟨_, rfl, _, rfl, wGame T R Same.refl rfl T.na_Game_server (fun dx => Step.game R gF_server rfl rfl rfl) fun H1 S1 => ?_⟩
    refine ⟨_, rfl, _, rfl, wGame T S1.rep Same.refl rfl T.na_Game_first_server (fun dx => Step.game S1.rep gF_first rfl rfl rfl) fun H2 S2' => ?_⟩
    have S2 := S1.trans S2'
    refine ⟨_, rfl, wGame T S2.rep Same.refl rfl T.na_Game_playing (fun dx => Step.game S2.rep gF_playing rfl rfl rfl) fun H3 S3' => ?_⟩
    exact k _ (S2.trans S3')
theorem flatO_snoc (l : List (Nat × Nat)) (a b : Nat) : (flatO l).map nV ++ [nV a, nV b] = (flatO (l ++ [(a, b)])).map nV := by
  unfold flatO
  rw [List.flatMap_append, List.map_append]; rfl
theorem flatO_len (l : List (Nat × Nat)) : (flatO l).length = 2 * l.length := by
  induction l with
  | nil => rfl
  | cons x r ih =>
    have e : flatO (x :: r) = x.1 :: x.2 :: flatO r := rfl
    rw [e, List.length_cons, List.length_cons, ih, List.length_cons]; omega
theorem extOver {H : Hp} {α : Role → Addr} {s : State} (R : Rep d H α s) (hl : s.over.length ≤ 100) {Q : VK} (q : ∀ H', Step d H α s H' α { s with over := s.over ++ [(s.a.points, s.b.points)] } → Q .non H') : rExtend (.ref (α .over)) [.ref (α .points)] H Q := by
  refine ⟨_, _, _, _, rfl, rfl, R.o_over, R.o_points, ?_, q _ (Step.over R (flatO_snoc _ _ _))⟩
  rw [List.length_map, flatO_len]
  show 2 * s.over.length + 2 ≤ sizeLine
  have : (1000 : Nat) ≤ sizeLine := by decide
  omega
theorem ok_Game_end_set (T : Txt K mg d) : GF P w K mg base 2 d.f_Game_end_set ["self", "winner"] (spEnd d) := by
  obtain ⟨fd, F⟩ := T.fn_Game_end_set
  refine ⟨fd, F.ok sc_Game_end_set (fun vs H Q E h => ?_) (fun cdv A outer sh H vs Q E hr h => ?_), F.binds (fun _ _ _ _ _ _ us hl => match us, hl with | [_, _], _ => rfl)⟩
  · obtain ⟨α, s, t, rfl, _⟩ := h; rfl
  · obtain ⟨α, s, t, rfl, R, hlen, k⟩ := h
    refine ⟨_, (pss_cons (ps_augS (pe_fld (pv 0) rfl) (pv 1) V6.get_list pe_int ip_add set_list) (pss_cons (ps_expr (pe_bm PySem.F.plainAttrs_list PySem.F.slot_list_extend PySem.F.type_list_extend mt_extend (pe_fld (pv 0) rfl) (pa_cons (pe_fld (pv 0) rfl) pa_nil))) (pss_cons (ps_fld (pv 0) (pe_lst (pa_cons pe_int (pa_cons pe_int pa_nil))) rfl) (pss_cons (ps_fld (pv 0) pe_bl rfl) (pss_one (ps_for PassesOwn.never rfl (pi_list (pe_fld (pv 0) rfl)) (pg_name (i := 2) sc_Game_end_set.nd rfl (Or.inl rfl)) (pss_one (ps_expr (V6.qe_meth0 (pv 2) T.cl_Side T.me_Side_leave_set (ok_Side_leave_set T) (hr.mono (by decide))))))))))), ?_⟩
    -- self.sets_won[winner] += 1
    refine ⟨_, rfl, rGame T R rfl T.na_Game_sets_won rfl ⟨_, rfl, _, _, bN t, _, rfl, rfl, R.o_won, won_at s t, _, _, rfl, rfl, setWon R t (n := (tm s t).sets + 1) rfl fun H1 S1 => ?_⟩⟩
    -- self.points_of_sets.extend(self.points)
    have R1 := S1.rep
    have eo : (putT s t { tm s t with sets := (tm s t).sets + 1 }).over = s.over := by cases t <;> rfl
    refine ⟨_, rfl, rGame T R1 rfl T.na_Game_points_of_sets rfl ⟨.inl ⟨rfl, _, SqL.of R1.o_over⟩, _, rfl, rGame T R1 rfl T.na_Game_points rfl ?_⟩⟩
    simp only [tNil]
    refine extOver R1 (by rw [eo]; exact hlen) fun H2 S2' => ?_
    have S2 := S1.trans S2'
    -- self.points = [0, 0]
    refine ⟨by show 2 ≤ sizeLine; decide, fun p hp => ⟨_, rfl, wGame T S2.rep (Same.new hp) rfl T.na_Game_points (fun dx => Step.newPoints S2.rep hp gF_points) fun H3 S3' => ?_⟩⟩
    have S3 := S2.trans S3'
    -- self.playing = False
    refine ⟨_, rfl, wGame T S3.rep Same.refl rfl T.na_Game_playing (fun dx => Step.game S3.rep gF_playing rfl rfl rfl) fun H4 S4' => ?_⟩
    have S4 := S3.trans S4'
    -- for side in self.sides: side.leave_set()
    generalize at1 α Role.points p = α4 at S4
    obtain ⟨s4, hs4, S4⟩ : ∃ s4, s4 = _ ∧ Step d H α s H4 α4 s4 := ⟨_, rfl, S4⟩
    have eg : α .game = α4 .game := (S4.ad .game rfl).symm
    refine ⟨_, rfl, rGame T S4.rep eg T.na_Game_sides rfl ⟨_, rfl, ⟨_, SqL.of S4.rep.o_sides⟩, for_list (K := K) (a := α4 .sides) (xs := [.ref (α4 (.side false)), .ref (α4 (.side true))])
      (fun i σ H' => (∃ v, σ = [some (.ref (α .game)), some (nV (bN t)), v]) ∧ ∃ α', Step d H4 α4 s4 H' α' (match i with | 0 => s4 | 1 => putT s4 false (leftT (tm s4 false)) | _ => putT (putT s4 false (leftT (tm s4 false))) true (leftT (tm (putT s4 false (leftT (tm s4 false))) true))))
      ⟨⟨_, rfl⟩, α4, Step.refl S4.rep⟩ (fun i σ H' _ p => ?_) ?_ ?_⟩⟩
    · obtain ⟨_, α', S⟩ := p
      have := S.rep.o_sides
      rw [S.ad .sides rfl, S.ad (.side false) rfl, S.ad (.side true) rfl] at this
      exact SqL.of this
    · rintro i x σ H' hx ⟨⟨v, rfl⟩, α', S⟩
      match i, hx, S with
      | 0, hx, S =>
        have e : V.ref (α4 (.side false)) = x := Option.some.inj hx
        subst e
        exact ⟨_, rfl, mSide (t := false) S.rep (S.ad (.side false) rfl).symm rfl ⟨α', _, false, by rw [S.ad (.side false) rfl]; rfl, S.rep, fun H'' α'' S' => ⟨⟨_, rfl⟩, α'', S.trans S'⟩⟩⟩
      | 1, hx, S =>
        have e : V.ref (α4 (.side true)) = x := Option.some.inj hx
        subst e
        exact ⟨_, rfl, mSide (t := true) S.rep (S.ad (.side true) rfl).symm rfl ⟨α', _, true, by rw [S.ad (.side true) rfl]; rfl, S.rep, fun H'' α'' S' => ⟨⟨_, rfl⟩, α'', S.trans S'⟩⟩⟩
      | i + 2, hx, _ => simp at hx
    · rintro σ H' ⟨_, α', S⟩
      refine k H' α' ((S4.trans S).to ?_)
      rw [hs4]
      cases t <;> rfl
theorem ok_Game_win_point (T : Txt K mg d) : GF P w K mg base 5 d.f_Game_win_point ["self", "winner"] (spPoint d) := by
  obtain ⟨fd, F⟩ := T.fn_Game_win_point
  refine ⟨fd, F.ok sc_Game_win_point (fun vs H Q E h => ?_) (fun cdv A outer sh H vs Q E hr h => ?_), F.binds (fun _ _ _ _ _ _ us hl => match us, hl with | [_, _], _ => rfl)⟩
  · obtain ⟨α, s, t, rfl, _⟩ := h; rfl
  · obtain ⟨α, s, t, rfl, R, g, k⟩ := h
    refine ⟨_, (pss_cons (ps_augS (pe_fld (pv 0) rfl) (pv 1) V6.get_list pe_int ip_add set_list) (pss_cons (ps_if (pt_cmpR op_ne (pe_fld (pv 0) rfl) (pv 1) (nomark _)) (pss_cons (ps_fld (pv 0) (pv 1) rfl) (pss_one (ps_expr (V6.qe_meth0 (pe_ix ix_list (pe_fld (pv 0) rfl) (pv 1) (fun _ _ => rfl)) T.cl_Side T.me_Side_go_on_by_one (ok_Side_go_on_by_one T) (hr.mono (by decide)))))) pss_nil) (pss_one (ps_if (pt_val (V6.qe_meth (pv 0) T.cl_Game T.me_Game_has_enough (ok_Game_has_enough T) (hr.mono (by decide)) (pa_cons (pv 1) pa_nil))) (pss_one (ps_expr (V6.qe_meth (pv 0) T.cl_Game T.me_Game_end_set (ok_Game_end_set T) (hr.mono (by decide)) (pa_cons (pv 1) pa_nil)))) pss_nil)))), ?_⟩
    rw [point_eq g.nw t] at k
    -- self.points[winner] += 1
    refine ⟨_, rfl, rGame T R rfl T.na_Game_points rfl ⟨_, rfl, _, _, bN t, _, rfl, rfl, R.o_points, pts_at s t, _, _, rfl, rfl, setPts R t (n := (tm s t).points + 1) rfl fun H1 S1 => ?_⟩⟩
    have rest : ∀ H' α', Step d H α s H' α' (pointed s t) → ∀ σ, σ = [some (.ref (α .game)), some (nV (bN t))] → tIfS (tB (tMeth d.c_Game "has_enough" (spEnough d) [] E0 (tVar 0) (tCons (tVar 1) tNil))) (tDrop (tMeth d.c_Game "end_set" (spEnd d) [] E0 (tVar 0) (tCons (tVar 1) tNil))) tNext { nx := fun _ H' => Q .non H', rt := Q } σ H' := by
      rintro H' α' S σ rfl
      have eg : α .game = α' .game := (S.ad .game rfl).symm
      have c1 : (pointed s t).a.sets + (pointed s t).b.sets = s.over.length := by rw [g.cnt]; cases t <;> rfl
      have c2 : (tm (pointed s t) t).points = (tm s t).points + 1 := by cases t <;> rfl
      have c3 : (tm (pointed s t) (!t)).points = (tm s (!t)).points := by cases t <;> rfl
      refine ⟨_, rfl, mGame S.rep eg rfl ⟨_, rfl, α', pointed s t, t, by rw [eg]; rfl, S.rep, _, rfl, ?_⟩⟩
      rw [c1, c2, c3]
      refine ite2 (fun hc => ?_) (fun hc => ?_)
      · rw [if_pos hc] at k
        refine ⟨_, rfl, mGame S.rep eg rfl ⟨_, rfl, α', pointed s t, t, by rw [eg]; rfl, S.rep, ?_, fun H'' α'' S' => k _ _ (S.trans S')⟩⟩
        have : (pointed s t).over = s.over := by cases t <;> rfl
        rw [this, g.cnt]
        have := g.le
        omega
      · rw [if_neg hc] at k
        exact k _ _ S
    have R1 := S1.rep
    have es : (putT s t { tm s t with points := (tm s t).points + 1 }).serves = s.serves := by cases t <;> rfl
    refine ⟨_, rfl, rGame T R1 rfl T.na_Game_server rfl ⟨_, rfl, rfl, _, rfl, ?_⟩⟩
    rw [es, on_nV]
    refine ite2 (fun hc => ?_) (fun hc => ?_)
    · have hne : ¬ s.serves = bN t := by simpa using hc
      refine ⟨_, rfl, _, rfl, wGame T R1 Same.refl rfl T.na_Game_server (fun dx => Step.game R1 gF_server rfl rfl rfl) fun H2 S2' => ?_⟩
      have S2 := S1.trans S2'
      refine ⟨_, rfl, rGame T S2.rep rfl T.na_Game_sides rfl ⟨_, rfl, _, _, _, _, rfl, rfl, SqL.of S2.rep.o_sides, atI_nat (sides_at α t), mSide S2.rep rfl rfl ⟨α, _, t, rfl, S2.rep, fun H3 S3' => ?_⟩⟩⟩
      refine rest H3 α ?_ _ rfl
      have S3 := S2.trans S3'
      have e : ∀ x y : State, x = y → Step d H α s H3 α x → Step d H α s H3 α y := fun x y e h => e ▸ h
      refine e _ _ ?_ S3
      unfold pointed
      rw [if_neg hne]
      cases t <;> rfl
    · have hes : s.serves = bN t := by
        by_cases q : s.serves = bN t
        · exact q
        · exact absurd (by rw [decide_eq_false q]; rfl) hc
      refine rest H1 α ?_ _ rfl
      have e : ∀ x y : State, x = y → Step d H α s H1 α x → Step d H α s H1 α y := fun x y e h => e ▸ h
      refine e _ _ ?_ S1
      unfold pointed
      rw [if_pos hes]
      cases t <;> (rw [← hes]; rfl)
theorem ok_Game_win_rally (T : Txt K mg d) : GF P w K mg base 6 d.f_Game_win_rally ["self", "winner"] (spRally d) := by
  obtain ⟨fd, F⟩ := T.fn_Game_win_rally
  refine ⟨fd, F.ok sc_Game_win_rally (fun vs H Q E h => ?_) (fun cdv A outer sh H vs Q E hr h => ?_), F.binds (fun _ _ _ _ _ _ us hl => match us, hl with | [_, _], _ => rfl)⟩
  · obtain ⟨α, s, t, rfl, _⟩ := h; rfl
  · obtain ⟨α, s, t, rfl, R, g, k⟩ := h
    refine ⟨_, (pss_cons (ps_for PassesOwn.never rfl (pi_list (pe_fld (pv 0) rfl)) (pg_name (i := 2) sc_Game_win_rally.nd rfl (Or.inl rfl)) (pss_one (ps_fld (pv 2) pe_bl rfl))) (pss_one (ps_expr (V6.qe_meth (pv 0) T.cl_Game T.me_Game_win_point (ok_Game_win_point T) (hr.mono (by decide)) (pa_cons (pv 1) pa_nil))))), ?_⟩
    refine ⟨_, rfl, rGame T R rfl T.na_Game_sides rfl ⟨_, rfl, ⟨_, SqL.of R.o_sides⟩, for_list (K := K) (a := α .sides) (xs := [.ref (α (.side false)), .ref (α (.side true))])
      (fun i σ H' => (∃ v, σ = [some (.ref (α .game)), some (nV (bN t)), v]) ∧ Step d H α s H' α (match i with | 0 => s | 1 => { s with a := { s.a with changed := false } } | _ => { s with a := { s.a with changed := false }, b := { s.b with changed := false } }))
      ⟨⟨_, rfl⟩, Step.refl R⟩ (fun i σ H' _ p => SqL.of p.2.rep.o_sides) ?_ ?_⟩⟩
    · rintro i x σ H' hx ⟨⟨v, rfl⟩, S⟩
      match i, hx, S with
      | 0, hx, S =>
        have e : V.ref (α (.side false)) = x := Option.some.inj hx
        subst e
        exact ⟨_, rfl, wSide (t := false) T S.rep Same.refl rfl T.na_Side_libero_moved (fun dx => Step.side S.rep false sF_moved rfl rfl rfl rfl rfl rfl rfl) fun H'' S' => ⟨⟨_, rfl⟩, S.trans S'⟩⟩
      | 1, hx, S =>
        have e : V.ref (α (.side true)) = x := Option.some.inj hx
        subst e
        exact ⟨_, rfl, wSide (t := true) T S.rep Same.refl rfl T.na_Side_libero_moved (fun dx => Step.side S.rep true sF_moved rfl rfl rfl rfl rfl rfl rfl) fun H'' S' => ⟨⟨_, rfl⟩, S.trans S'⟩⟩
      | i + 2, hx, _ => simp at hx
    · rintro σ H' ⟨⟨v, rfl⟩, S⟩
      exact ⟨_, rfl, mGame S.rep rfl rfl ⟨_, rfl, α, _, t, rfl, S.rep, g.calm, fun H'' α'' S' => k _ _ (S.trans S')⟩⟩
theorem ok_Game_lose_set (T : Txt K mg d) : GF P w K mg base 4 d.f_Game_lose_set ["self", "loser"] (spLose d) := by
  obtain ⟨fd, F⟩ := T.fn_Game_lose_set
  refine ⟨fd, F.ok sc_Game_lose_set (fun vs H Q E h => ?_) (fun cdv A outer sh H vs Q E hr h => ?_), F.binds (fun _ _ _ _ _ _ us hl => match us, hl with | [_, _], _ => rfl)⟩
  · obtain ⟨α, s, t, rfl, _⟩ := h; rfl
  · obtain ⟨α, s, t, rfl, R, g, k⟩ := h
    refine ⟨_, (pss_cons (ps_set (i := 2) sc_Game_lose_set.nd rfl (Or.inl rfl) (pe_op op_sub pe_int (pv 1))) (pss_cons (ps_asg (pe_callB (V6.call_max3 rfl) (by rfl) T.no_max PyProof.Rows.boot_max (pa_cons (V6.qe_meth0 (pv 0) T.cl_Game T.me_Game_points_to_win (ok_Game_points_to_win T) (hr.mono (by decide))) (pa_cons (pe_ix ix_list (pe_fld (pv 0) rfl) (pv 2) (fun _ _ => rfl)) (pa_cons (pe_op op_add (pe_ix ix_list (pe_fld (pv 0) rfl) (pv 1) (fun _ _ => rfl)) pe_int) pa_nil)))) (pg_sub (pe_fld (pv 0) rfl) (pv 2) set_list)) (pss_one (ps_expr (V6.qe_meth (pv 0) T.cl_Game T.me_Game_end_set (ok_Game_end_set T) (hr.mono (by decide)) (pa_cons (pv 2) pa_nil)))))), ?_⟩
    rw [lose_eq] at k
    refine ⟨_, rfl, _, _, rfl, rfl, ?_⟩
    simp only [sub_bN]
    refine ⟨_, rfl, mGame R rfl rfl ⟨α, s, rfl, R, _, rfl, rGame T R rfl T.na_Game_points rfl ⟨_, rfl, _, _, _, _, rfl, rfl, SqL.of R.o_points, atI_nat (pts_at s (!t)), _, rfl, rGame T R rfl T.na_Game_points rfl ⟨_, rfl, _, _, _, _, rfl, rfl, SqL.of R.o_points, atI_nat (pts_at s t), _, _, rfl, rfl, _, _, _, rfl, ?_⟩⟩⟩⟩
    refine ⟨_, rfl, rGame T R rfl T.na_Game_points rfl ⟨_, rfl, setPts R (!t) (n := max (max (tm s (!t)).points (Kg60.top s.over.length)) ((tm s t).points + 2)) (int_nV (by rw [g.cnt]; omega)) fun H1 S1 => ?_⟩⟩
    refine ⟨_, rfl, mGame S1.rep rfl rfl ⟨_, rfl, α, _, !t, rfl, S1.rep, ?_, fun H'' α'' S' => k _ _ (S1.trans S')⟩⟩
    have : (putT s (!t) { tm s (!t) with points := max (max (tm s (!t)).points (Kg60.top s.over.length)) ((tm s t).points + 2) }).over = s.over := by cases t <;> rfl
    rw [this, g.cnt]
    have := g.le
    omega
end
end Vs
end
section
set_option Elab.async false
set_option maxRecDepth 100000
set_option maxHeartbeats 2000000
namespace Vs
open PySem PySem.Spec PyProof.Rows L2 V6
open Kg60 (Slot Team State within)
section
variable {P : Program} {w : World} {K : PySem.W.Frag} {mg : Str → Option Value} {base : Heap} {d : Ad}
/-- what is wanted of an answer -/
def AnsOk (d : Ad) (H : Hp) (α : Role → Addr) (s : State) (c : Kg60.Call) (Q : VK) : Prop := ∀ H' α' p, Step d H α s H' α' (Kg60.spec s c).1 → H p = none → H' p = some (.lst (((Kg60.spec s c).2.value :: (Kg60.spec s c).2.out).map V.int)) → Q (.ref p) H'
theorem AnsOk.give {H H' : Hp} {α α' : Role → Addr} {s s' : State} {c : Kg60.Call} {Q : VK} {a : Kg60.Ans} {p : Addr} (k : AnsOk d H α s c Q) (e : Kg60.spec s c = (s', a)) (S : Step d H α s H' α' s') (hp : H p = none) (hl : H' p = some (.lst ((a.value :: a.out).map V.int))) : Q (.ref p) H' := by
  have := k H' α' p
  rw [e] at this
  exact this S hp hl
/-- a refusal, or a number alone, and nothing changes -/
theorem AnsOk.num {H H1 : Hp} {α : Role → Addr} {s : State} {c : Kg60.Call} {Q : VK} {z : Int} (k : AnsOk d H α s c Q) (R : Rep d H α s) (e : Kg60.spec s c = (s, Kg60.num z)) (sm : Same H H1) : ([V.int z] : List V).length ≤ sizeLine ∧ ∀ p, H1 p = none → Q (.ref p) (upd H1 p (.lst [V.int z])) :=
  ⟨by show 1 ≤ sizeLine; decide, fun p hp => k.give e (Step.same R (sm.trans (Same.new hp))) (sm.free hp) upd_same⟩
/-- a number alone, behind a change -/
theorem AnsOk.one {H H1 : Hp} {α α' : Role → Addr} {s s' : State} {c : Kg60.Call} {Q : VK} {z : Int} (k : AnsOk d H α s c Q) (S : Step d H α s H1 α' s') (e : Kg60.spec s c = (s', Kg60.num z)) : ([V.int z] : List V).length ≤ sizeLine ∧ ∀ p, H1 p = none → Q (.ref p) (upd H1 p (.lst [V.int z])) :=
  ⟨by show 1 ≤ sizeLine; decide, fun p hp => k.give e (S.right (Same.new hp)) (S.gr p hp) upd_same⟩
/-! ### the refusals that calls have in common -/
def playRef (s : State) (z : Int) (zs : List Int) : Int := if (within z 0 1 && zs.all fun z => within z 1 99) = false then -1 else if s.playing = false then -2 else 0
def spPlayRef (d : Ad) (K : PySem.W.Frag) : Sp := fun vs H Q _ => ∃ (α : Role → Addr) (s : State) (z : Int) (a : Addr) (zs : List Int), vs = [.ref (α .game), .int z, .ref a] ∧ Rep d H α s ∧ SqL K H a (zs.map V.int) ∧ zs.length ≤ 1000 ∧ ∀ H', Same H H' → Q (.int (playRef s z zs)) H'
theorem ok_play_refusal (T : Txt K mg d) : GF P w K mg base 3 d.f_play_refusal ["game", "team", "shirts"] (spPlayRef d K) := by
  obtain ⟨fd, F⟩ := T.fn_play_refusal
  refine ⟨fd, F.ok sc_play_refusal (fun vs H Q E h => ?_) (fun cdv A outer sh H vs Q E hr h => ?_), F.binds (fun _ _ _ _ _ _ us hl => match us, hl with | [_, _, _], _ => rfl)⟩
  · obtain ⟨α, s, z, a, zs, rfl, _⟩ := h; rfl
  · obtain ⟨α, s, z, a, zs, rfl, R, hS, hl, k⟩ := h
    refine ⟨_, (pss_cons (ps_if (PW.pt (pw_or (pt_not (pt_val (V6.qe_call (ok_is_team T) (hr.mono (by decide)) (by rfl) T.mg_is_team (V6.kp_of T.fn_is_team) (pa_cons (pv 1) pa_nil)))) (pw_or1 (pt_not (pt_val (V6.qe_call (ok_are_shirts T) (hr.mono (by decide)) (by rfl) T.mg_are_shirts (V6.kp_of T.fn_are_shirts) (pa_cons (pv 2) pa_nil))))))) (pss_one (ps_ret (pe_un un_neg pe_int))) pss_nil) (pss_cons (ps_if (pt_not (pt_val (pe_fld (pv 0) rfl))) (pss_one (ps_ret (pe_un un_neg pe_int))) pss_nil) (pss_one (ps_ret pe_int)))), ?_⟩
    unfold playRef at k
    refine ⟨_, rfl, z, rfl, _, rfl, ite2 (fun hc => iteT ⟨_, rfl, ?_⟩) (fun hc => ⟨_, rfl, a, zs, rfl, hS, hl, fun H1 sm => ⟨_, rfl, ite2 (fun hc2 => ⟨_, rfl, ?_⟩) (fun hc2 => ?_)⟩⟩)⟩
    · have := k H Same.refl
      rw [show within z 0 1 = false by simpa using hc, Bool.false_and, if_pos rfl] at this; exact this
    · have := k H1 sm
      rw [show (zs.all fun z => within z 1 99) = false by simpa using hc2, Bool.and_false, if_pos rfl] at this; exact this
    · have h1 : within z 0 1 = true := by simpa using hc
      have h2 : (zs.all fun z => within z 1 99) = true := by
        cases q : zs.all fun z => within z 1 99 with
        | true => rfl
        | false => rw [q] at hc2; exact absurd rfl hc2
      rw [h1, h2, Bool.true_and, if_neg (by decide)] at k
      refine ⟨_, rfl, rGame T (R.same sm) rfl T.na_Game_playing rfl ⟨_, rfl, ite2 (fun hc => ⟨_, rfl, ?_⟩) (fun hc => ?_)⟩⟩
      · have := k H1 sm
        rw [if_pos (by simpa using hc)] at this; exact this
      · have := k H1 sm
        rw [if_neg (by simpa using hc)] at this; exact this
def spMayStand (d : Ad) : Sp := fun vs H Q _ => ∃ (α : Role → Addr) (s : State) (t : Bool) (p : Nat), vs = [.ref (α .game), nV (bN t), nV p] ∧ Rep d H α s ∧ Q (.bl (standOk p (s.serves == bN t))) H
theorem eq_lit {p : Nat} (m : Nat) : decide (nV p = V.int (m : Int)) = (p == m) := by
  show decide (nV p = nV m) = _
  rw [on_nV, Bool.eq_iff_iff, decide_eq_true_iff, beq_iff_eq]
theorem ok_libero_may_stand (T : Txt K mg d) : GF P w K mg base 1 d.f_libero_may_stand ["game", "team", "position"] (spMayStand d) := by
  obtain ⟨fd, F⟩ := T.fn_libero_may_stand
  refine ⟨fd, F.ok sc_libero_may_stand (fun vs H Q E h => ?_) (fun cdv A outer sh H vs Q E hr h => ?_), F.binds (fun _ _ _ _ _ _ us hl => match us, hl with | [_, _, _], _ => rfl)⟩
  · obtain ⟨α, s, t, p, rfl, _⟩ := h; rfl
  · obtain ⟨α, s, t, p, rfl, R, k⟩ := h
    refine ⟨_, (pss_cons (ps_if (pt_cmpR op_eq (pv 2) pe_int (nomark _)) (pss_one (ps_ret (pe_cmpR op_ne (pe_fld (pv 0) rfl) (pv 1) (nomark _)))) pss_nil) (pss_one (ps_ret (pe_or (pe_cmpR op_eq (pv 2) pe_int (nomark _)) (pe_one (pe_cmpR op_eq (pv 2) pe_int (nomark _))))))), ?_⟩
    unfold standOk at k
    refine ⟨_, rfl, rfl, _, rfl, ite2 (fun hc => ?_) (fun hc => ?_)⟩
    · have hp : p = 1 := by have := (eq_lit 1).symm.trans hc; simpa using this
      rw [if_pos hp] at k
      refine ⟨_, rfl, rGame T R rfl T.na_Game_server rfl ⟨_, rfl, rfl, ?_⟩⟩
      rw [on_nV]
      have e : (s.serves == bN t) = decide (s.serves = bN t) := by rw [Bool.eq_iff_iff, decide_eq_true_iff, beq_iff_eq]
      rw [e] at k; exact k
    · have hp : ¬ p = 1 := fun e => hc (by rw [e]; rfl)
      rw [if_neg hp] at k
      refine ⟨_, rfl, rfl, _, rfl, ite2 (fun hc => ?_) (fun hc => ⟨_, rfl, rfl, ?_⟩)⟩
      · rw [(eq_lit 5).symm.trans hc, Bool.true_or] at k; exact k
      · have h5 : (p == 5) = false := by
          rw [← eq_lit 5]; exact Bool.eq_false_iff.mpr hc
        rw [h5, Bool.false_or, ← eq_lit 6] at k; exact k
/-- both teams' liberos stand where they may -/
def wellT (s : State) (t : Bool) : Bool := decide (posOf (tm s t) (fun y => y.libero.isSome) = 0) || standOk (posOf (tm s t) fun y => y.libero.isSome) (s.serves == bN t)
def spWell (d : Ad) : Sp := fun vs H Q _ => ∃ (α : Role → Addr) (s : State), vs = [.ref (α .game)] ∧ Rep d H α s ∧ WfT s.a ∧ WfT s.b ∧ ∀ H', Same H H' → Q (.bl (wellT s false && wellT s true)) H'
theorem ok_liberos_stand_well (T : Txt K mg d) : GF P w K mg base 3 d.f_liberos_stand_well ["game"] (spWell d) := by
  obtain ⟨fd, F⟩ := T.fn_liberos_stand_well
  refine ⟨fd, F.ok sc_liberos_stand_well (fun vs H Q E h => ?_) (fun cdv A outer sh H vs Q E hr h => ?_), F.binds (fun _ _ _ _ _ _ us hl => match us, hl with | [_], _ => rfl)⟩
  · obtain ⟨α, s, rfl, _⟩ := h; rfl
  · obtain ⟨α, s, rfl, R, wa, wb, k⟩ := h
    refine ⟨_, (pss_cons (ps_for PassesOwn.never rfl (pi_tup (pe_tup (pa_cons pe_int (pa_cons pe_int pa_nil)))) (pg_name (i := 1) sc_liberos_stand_well.nd rfl (Or.inl rfl)) (pss_cons (ps_set (i := 2) sc_liberos_stand_well.nd rfl (Or.inl rfl) (V6.qe_meth0 (pe_ix ix_list (pe_fld (pv 0) rfl) (pv 1) (fun _ _ => rfl)) T.cl_Side T.me_Side_libero_position (ok_Side_libero_position T) (hr.mono (by decide)))) (pss_one (ps_if (PW.pt (pw_and (pt_cmpR op_gt (pv 2) pe_int (nomark _)) (pw_and1 (pt_not (pt_val (V6.qe_call (ok_libero_may_stand T) (hr.mono (by decide)) (by rfl) T.mg_libero_may_stand (V6.kp_of T.fn_libero_may_stand) (pa_cons (pv 0) (pa_cons (pv 1) (pa_cons (pv 2) pa_nil))))))))) (pss_one (ps_ret pe_bl)) pss_nil)))) (pss_one (ps_ret pe_bl))), ?_⟩
    have wt : ∀ t, WfT (tm s t) := fun t => by cases t; exact wa; exact wb
    refine ⟨by show 2 ≤ sizeLine; decide, fun tp htp => ?_⟩
    have sm1 := Same.new (o := .tup [.int 0, .int 1]) htp
    refine ⟨_, rfl, ⟨_, SqT.of upd_same⟩, for_tup (K := K) (a := tp) (xs := [.int 0, .int 1]) (fun i σ H' => (∃ v u, σ = [some (.ref (α .game)), v, u]) ∧ H' = upd H tp (.tup [.int 0, .int 1]) ∧ (1 ≤ i → wellT s false = true) ∧ (2 ≤ i → wellT s true = true))
      ⟨⟨_, _, rfl⟩, rfl, fun h => absurd h (by decide), fun h => absurd h (by decide)⟩ (fun i σ H' _ p => by rw [p.2.1]; exact SqT.of upd_same) ?_ ?_⟩
    · rintro i x σ H' hx ⟨⟨v, u, rfl⟩, rfl, w1, w2⟩
      have R1 := R.same sm1
      obtain ⟨t, ht, rfl⟩ : ∃ t, bN t = i ∧ x = nV (bN t) := by
        match i, hx with
        | 0, hx => exact ⟨false, rfl, (Option.some.inj hx).symm⟩
        | 1, hx => exact ⟨true, rfl, (Option.some.inj hx).symm⟩
        | i + 2, hx => simp at hx
      have next : wellT s t = true → (∃ v u, ([some (.ref (α .game)), some (nV (bN t)), some (nV (posOf (tm s t) fun y => y.libero.isSome))] : L2.St) = [some (.ref (α .game)), v, u]) ∧ upd H tp (.tup [.int 0, .int 1]) = upd H tp (.tup [.int 0, .int 1]) ∧ (1 ≤ i + 1 → wellT s false = true) ∧ (2 ≤ i + 1 → wellT s true = true) := fun hw => by
        refine ⟨⟨_, _, rfl⟩, rfl, fun _ => ?_, fun h2 => ?_⟩
        · cases t with
          | false => exact hw
          | true => exact w1 (by rw [← ht]; exact Nat.le_refl 1)
        · cases t with
          | false => rw [← ht] at h2; exact absurd h2 (by decide)
          | true => exact hw
      refine ⟨_, rfl, rGame T R1 rfl T.na_Game_sides rfl ⟨_, rfl, _, _, _, _, rfl, rfl, SqL.of R1.o_sides, atI_nat (sides_at α t), mSide R1 rfl rfl ⟨α, s, t, rfl, R1, wt t, ?_⟩⟩⟩
      refine ⟨_, rfl, _, _, rfl, rfl, _, rfl, ite2 (fun hc => ?_) (fun hc => ?_)⟩
      · refine ⟨_, rfl, _, rfl, _, rfl, α, s, t, _, rfl, R1, _, rfl, ite2 (fun hc2 => ?_) (fun hc2 => ?_)⟩
        · have e : wellT s t = false := by
            unfold wellT
            rw [decide_eq_false (by have := of_decide_eq_true hc; omega), Bool.false_or]
            simpa using hc2
          have := k _ sm1
          cases t with
          | false => rw [e, Bool.false_and] at this; exact this
          | true => rw [e, Bool.and_false] at this; exact this
        · exact next (by unfold wellT; rw [show standOk (posOf (tm s t) fun y => y.libero.isSome) (s.serves == bN t) = true by simpa using hc2, Bool.or_true])
      · refine next ?_
        unfold wellT
        rw [decide_eq_true (by
          by_cases q : posOf (tm s t) (fun y => y.libero.isSome) = 0
          · exact q
          · exact absurd (decide_eq_true (by omega)) hc), Bool.true_or]
    · rintro σ H' ⟨⟨v, u, rfl⟩, rfl, w1, w2⟩
      have := k _ sm1
      rw [w1 (by decide), w2 (by decide)] at this
      exact this
end
end Vs
end
section
set_option Elab.async false
set_option maxRecDepth 100000
set_option maxHeartbeats 2000000
namespace Vs
open PySem PySem.Spec PyProof.Rows L2 V6
open Kg60 (Slot Team State within)
section
variable {P : Program} {w : World} {K : PySem.W.Frag} {mg : Str → Option Value} {base : Heap} {d : Ad}
theorem bnotT {b : Bool} (h : (!b) = true) : b = false := by cases b; rfl; cases h
theorem bnotF {b : Bool} (h : ¬ (!b) = true) : b = true := by cases b; exact absurd rfl h; rfl
/-- what holds of the state when a call comes -/
structure Good (s : State) : Prop where
  g : GS s
  o : GO s
  l : GL 1000 s
theorem wf_of {s : State} (g : GS s) (hp : s.playing = true) (t : Bool) : WfT (tm s t) := by
  refine ⟨by cases t; exact (g.play hp).1; exact (g.play hp).2.1, fun y hy h1 h2 => ?_⟩
  have := ((g.tm t).ph y hy).2.mpr h2
  omega
theorem ph_of {s : State} (g : GS s) (t : Bool) : ∀ y ∈ (tm s t).slots, PhOk y := fun y hy h1 h2 => by
  have := ((g.tm t).ph y hy).2.mpr h2
  omega
theorem playRef_neg {s : State} {z : Int} {zs : List Int} (h : playRef s z zs < 0) : ((within z 0 1 && zs.all fun z => within z 1 99) = false ∧ playRef s z zs = -1) ∨ ((within z 0 1 && zs.all fun z => within z 1 99) = true ∧ s.playing = false ∧ playRef s z zs = -2) := by
  unfold playRef at h ⊢
  by_cases h1 : (within z 0 1 && zs.all fun z => within z 1 99) = false
  · rw [if_pos h1]; exact .inl ⟨h1, rfl⟩
  · rw [if_neg h1] at h ⊢
    by_cases h2 : s.playing = false
    · rw [if_pos h2]; exact .inr ⟨nots h1, h2, rfl⟩
    · rw [if_neg h2] at h; omega
theorem playRef_ok {s : State} {z : Int} {zs : List Int} (h : ¬ playRef s z zs < 0) : (within z 0 1 && zs.all fun z => within z 1 99) = true ∧ s.playing = true := by
  unfold playRef at h
  by_cases h1 : (within z 0 1 && zs.all fun z => within z 1 99) = false
  · rw [if_pos h1] at h; exact absurd (by decide) h
  · rw [if_neg h1] at h
    by_cases h2 : s.playing = false
    · rw [if_pos h2] at h; exact absurd (by decide) h
    · exact ⟨nots h1, nots h2⟩
theorem onSet_no {s : State} {f : Unit → State × Kg60.Ans} (h : s.playing = false) : Kg60.onSet s f = (s, Kg60.num (-2)) := if_pos h
theorem onSet_yes {s : State} {f : Unit → State × Kg60.Ans} (h : s.playing = true) : Kg60.onSet s f = f () := if_neg (by rw [h]; decide)
theorem cons_whole (z : Int) (s : State) : V.int z :: toldV s = ((⟨z, Kg60.whole (Kg60.told s)⟩ : Kg60.Ans).value :: (⟨z, Kg60.whole (Kg60.told s)⟩ : Kg60.Ans).out).map V.int := rfl
/-- [z] + game.how_it_stands() -/
theorem how_cat {H H1 : Hp} {α α' : Role → Addr} {s s' : State} {c : Kg60.Call} {Q : VK} {z : Int} {σ : L2.St} {i : Nat} {a : Addr} (hσ : σ[i]? = some (some (.ref a))) (k : AnsOk d H α s c Q) (S : Step d H α s H1 α' s') (ea : a = α' .game) (e : Kg60.spec s c = (s', ⟨z, Kg60.whole (Kg60.told s')⟩)) :
    ([V.int z] : List V).length ≤ sizeLine ∧ ∀ p, H1 p = none → tMeth d.c_Game "how_it_stands" (spHow d) [] E0 (tVar i) tNil σ (upd H1 p (.lst [V.int z])) fun y H2 => rCat (.ref p) y H2 Q := by
  refine ⟨by show 1 ≤ sizeLine; decide, fun p hp => ?_⟩
  have S1 := S.right (Same.new (o := .lst [V.int z]) hp)
  refine ⟨_, hσ, mGame S1.rep ea rfl ⟨α', s', by rw [ea]; rfl, S1.rep, fun H2 q sm hq hl => ?_⟩⟩
  have S2 := S1.right sm
  refine ⟨_, _, _, _, rfl, rfl, sm _ _ upd_same, hl, ?_, fun p3 hp3 => ?_⟩
  · show 1 + 6 ≤ sizeLine; decide
  · exact k.give e (S2.right (Same.new hp3)) (S2.gr _ hp3) upd_same
/-! ### rally, serve -/
def spRallyA (d : Ad) : Sp := fun vs H Q _ => ∃ (α : Role → Addr) (s : State) (z : Int), vs = [.ref (α .game), .int z] ∧ Rep d H α s ∧ Good s ∧ AnsOk d H α s (.rally z) Q
def spServeA (d : Ad) : Sp := fun vs H Q _ => ∃ (α : Role → Addr) (s : State) (z p : Int), vs = [.ref (α .game), .int z, .int p] ∧ Rep d H α s ∧ Good s ∧ AnsOk d H α s (.serve z p) Q
theorem well_eq {s : State} (g : GS s) (hp : s.playing = true) : (wellT s false && wellT s true) = (s.a.mayPlay (s.serves == 0) && s.b.mayPlay (s.serves == 1)) := by
  rw [mayPlay_eq g.a (g.play hp).1, mayPlay_eq g.b (g.play hp).2.1]; rfl
theorem ok_answer_rally (T : Txt K mg d) : GF P w K mg base 7 d.f_answer_rally ["game", "team"] (spRallyA d) := by
  obtain ⟨fd, F⟩ := T.fn_answer_rally
  refine ⟨fd, F.ok sc_answer_rally (fun vs H Q E h => ?_) (fun cdv A outer sh H vs Q E hr h => ?_), F.binds (fun _ _ _ _ _ _ us hl => match us, hl with | [_, _], _ => rfl)⟩
  · obtain ⟨α, s, z, rfl, _⟩ := h; rfl
  · obtain ⟨α, s, z, rfl, R, G, k⟩ := h
    refine ⟨_, (pss_cons (ps_set (i := 2) sc_answer_rally.nd rfl (Or.inl rfl) (V6.qe_call (ok_play_refusal T) (hr.mono (by decide)) (by rfl) T.mg_play_refusal (V6.kp_of T.fn_play_refusal) (pa_cons (pv 0) (pa_cons (pv 1) (pa_cons (pe_lst pa_nil) pa_nil))))) (pss_cons (ps_if (pt_cmpR op_lt (pv 2) pe_int (nomark _)) (pss_one (ps_ret (pe_lst (pa_cons (pv 2) pa_nil)))) pss_nil) (pss_cons (ps_if (pt_not (pt_val (V6.qe_call (ok_liberos_stand_well T) (hr.mono (by decide)) (by rfl) T.mg_liberos_stand_well (V6.kp_of T.fn_liberos_stand_well) (pa_cons (pv 0) pa_nil)))) (pss_one (ps_ret (pe_lst (pa_cons (pe_un un_neg pe_int) pa_nil)))) pss_nil) (pss_cons (ps_expr (V6.qe_meth (pv 0) T.cl_Game T.me_Game_win_rally (ok_Game_win_rally T) (hr.mono (by decide)) (pa_cons (pv 1) pa_nil))) (pss_one (ps_ret (pe_op op_cat (pe_lst (pa_cons (V6.qe_meth0 (pv 0) T.cl_Game T.me_Game_sets_over (ok_Game_sets_over T) (hr.mono (by decide))) pa_nil)) (V6.qe_meth0 (pv 0) T.cl_Game T.me_Game_how_it_stands (ok_Game_how_it_stands T) (hr.mono (by decide)))))))))), ?_⟩
    refine ⟨_, rfl, _, rfl, Nat.zero_le _, fun p0 hp0 => ⟨α, s, z, p0, [], rfl, R.same (Same.new hp0), SqL.of upd_same, Nat.zero_le _, fun H1 sm1 => ?_⟩⟩
    have sm : Same H H1 := (Same.new hp0).trans sm1
    refine ⟨_, rfl, _, _, rfl, rfl, _, rfl, ite2 (fun hc => ?_) (fun hc => ?_)⟩
    · refine ⟨_, rfl, ?_⟩
      rcases playRef_neg (of_decide_eq_true hc) with ⟨h1, h2⟩ | ⟨h1, h2, h3⟩
      · rw [h2]
        refine k.num R ?_ sm
        rw [List.all_nil, Bool.and_true] at h1
        unfold Kg60.spec
        simp only [h1, if_true]
      · rw [h3]
        refine k.num R ?_ sm
        rw [List.all_nil, Bool.and_true] at h1
        unfold Kg60.spec
        simp only [h1, onSet_no h2, Bool.true_eq_false, if_false]
    · obtain ⟨h1, hp⟩ := playRef_ok (fun q => hc (decide_eq_true q))
      rw [List.all_nil, Bool.and_true] at h1
      obtain ⟨t, e1, e2⟩ := bN_of h1
      have R1 := R.same sm
      refine ⟨_, rfl, α, s, rfl, R1, wf_of G.g hp false, wf_of G.g hp true, fun H2 sm2 => ⟨_, rfl, ?_⟩⟩
      rw [well_eq G.g hp]
      have smm := sm.trans sm2
      refine ite2 (fun hc => ⟨_, rfl, ?_⟩) (fun hc => ?_)
      · refine k.num R ?_ smm
        unfold Kg60.spec
        simp only [h1, onSet_yes hp, Bool.true_eq_false, if_false]
        rw [if_pos (bnotT hc)]
      · refine ⟨_, rfl, mGame (R.same smm) rfl rfl ⟨_, rfl, α, s, t, by rw [e1]; rfl, R.same smm, G.g, fun H3 α3 S3' => ?_⟩⟩
        have S3 := (Step.same R smm).trans S3'
        have eg : α .game = α3 .game := (S3.ad .game rfl).symm
        have ec : (s.rally (bN t)).a.sets + (s.rally (bN t)).b.sets = (s.rally (bN t)).over.length := (G.g.rally hp (by cases t; exact .inl rfl; exact .inr rfl)).cnt.symm
        refine ⟨_, rfl, mGame S3.rep eg rfl ⟨α3, _, by rw [eg]; rfl, S3.rep, ?_⟩⟩
        rw [ec]
        refine how_cat (i := 0) rfl k S3 eg ?_
        unfold Kg60.spec
        simp only [h1, onSet_yes hp, Bool.true_eq_false, if_false]
        rw [if_neg (by rw [bnotF hc]; decide), e2]
theorem ok_answer_serve (T : Txt K mg d) : GF P w K mg base 7 d.f_answer_serve ["game", "team", "player"] (spServeA d) := by
  obtain ⟨fd, F⟩ := T.fn_answer_serve
  refine ⟨fd, F.ok sc_answer_serve (fun vs H Q E h => ?_) (fun cdv A outer sh H vs Q E hr h => ?_), F.binds (fun _ _ _ _ _ _ us hl => match us, hl with | [_, _, _], _ => rfl)⟩
  · obtain ⟨α, s, z, p, rfl, _⟩ := h; rfl
  · obtain ⟨α, s, z, p, rfl, R, G, k⟩ := h
    refine ⟨_, (pss_cons (ps_set (i := 3) sc_answer_serve.nd rfl (Or.inl rfl) (V6.qe_call (ok_play_refusal T) (hr.mono (by decide)) (by rfl) T.mg_play_refusal (V6.kp_of T.fn_play_refusal) (pa_cons (pv 0) (pa_cons (pv 1) (pa_cons (pe_lst (pa_cons (pv 2) pa_nil)) pa_nil))))) (pss_cons (ps_if (pt_cmpR op_lt (pv 3) pe_int (nomark _)) (pss_one (ps_ret (pe_lst (pa_cons (pv 3) pa_nil)))) pss_nil) (pss_cons (ps_if (pt_cmpR op_ne (pe_fld (pv 0) rfl) (pv 1) (nomark _)) (pss_one (ps_ret (pe_lst (pa_cons (pe_un un_neg pe_int) pa_nil)))) pss_nil) (pss_cons (ps_if (pt_cmpR op_eq (V6.qe_meth (pe_ix ix_list (pe_fld (pv 0) rfl) (pv 1) (fun _ _ => rfl)) T.cl_Side T.me_Side_position_of (ok_Side_position_of T) (hr.mono (by decide)) (pa_cons (pv 2) pa_nil)) pe_int (nomark _)) (pss_one (ps_ret (pe_lst (pa_cons pe_int pa_nil)))) pss_nil) (pss_cons (ps_expr (V6.qe_meth (pv 0) T.cl_Game T.me_Game_win_rally (ok_Game_win_rally T) (hr.mono (by decide)) (pa_cons (pe_op op_sub pe_int (pv 1)) pa_nil))) (pss_one (ps_ret (pe_op op_cat (pe_lst (pa_cons pe_int pa_nil)) (V6.qe_meth0 (pv 0) T.cl_Game T.me_Game_how_it_stands (ok_Game_how_it_stands T) (hr.mono (by decide))))))))))), ?_⟩
    refine ⟨_, rfl, _, rfl, _, rfl, (by show 1 ≤ sizeLine; decide), fun p0 hp0 => ⟨α, s, z, p0, [p], rfl, R.same (Same.new hp0), SqL.of upd_same, (by show 1 ≤ 1000; decide), fun H1 sm1 => ?_⟩⟩
    have sm : Same H H1 := (Same.new hp0).trans sm1
    refine ⟨_, rfl, _, _, rfl, rfl, _, rfl, ite2 (fun hc => ?_) (fun hc => ?_)⟩
    · refine ⟨_, rfl, ?_⟩
      rcases playRef_neg (of_decide_eq_true hc) with ⟨h1, h2⟩ | ⟨h1, h2, h3⟩
      · rw [h2]
        refine k.num R ?_ sm
        simp only [List.all_cons, List.all_nil, Bool.and_true] at h1
        unfold Kg60.spec
        simp only [h1, if_true]
      · rw [h3]
        refine k.num R ?_ sm
        simp only [List.all_cons, List.all_nil, Bool.and_true] at h1
        unfold Kg60.spec
        simp only [h1, onSet_no h2, Bool.true_eq_false, if_false]
    · obtain ⟨h1, hp⟩ := playRef_ok (fun q => hc (decide_eq_true q))
      simp only [List.all_cons, List.all_nil, Bool.and_true] at h1
      have h1' := h1
      rw [Bool.and_eq_true] at h1'
      obtain ⟨t, e1, e2⟩ := bN_of h1'.1
      have e3 := within_iff.mp h1'.2
      have R1 := R.same sm
      subst e1
      refine ⟨_, rfl, rGame T R1 rfl T.na_Game_server rfl ⟨_, rfl, rfl, _, rfl, ?_⟩⟩
      rw [show V.int ((bN t : Nat) : Int) = nV (bN t) from rfl, on_nV]
      refine ite2 (fun hc => ⟨_, rfl, ?_⟩) (fun hc => ?_)
      · refine k.num R ?_ sm
        unfold Kg60.spec
        simp only [h1, onSet_yes hp, Bool.true_eq_false, if_false]
        rw [if_pos (by rw [e2]; simpa using hc)]
      · have hsv : s.serves = bN t := by simpa using hc
        have ev : V.int p = nV p.toNat := int_nV (by omega)
        refine ⟨_, rfl, rGame T R1 rfl T.na_Game_sides rfl ⟨_, rfl, _, _, _, _, rfl, rfl, SqL.of R1.o_sides, atI_nat (sides_at α t), mSide R1 rfl rfl ⟨_, rfl, α, s, t, p.toNat, by rw [ev]; rfl, R1, wf_of G.g hp t, rfl, _, rfl, ?_⟩⟩⟩
        have gt := G.g.tm t
        have hl := (wf_of G.g hp t).1
        have pos1 : decide (nV (posOf (tm s t) fun y => y.stands == p.toNat) = V.int 1) = decide (((tm s t).slotAt 1).map Slot.stands = some p.toNat) := by
          rw [show V.int 1 = nV 1 from rfl, on_nV, Bool.eq_iff_iff, decide_eq_true_iff, decide_eq_true_iff]
          obtain ⟨y, hy⟩ := slot_at hl (0 + (tm s t).first)
          have hy' : (tm s t).slotAt 1 = some y := by
            unfold Kg60.Team.slotAt
            rw [← hy]; congr 1; omega
          rw [hy', Option.map_some]
          constructor
          · intro q
            by_cases z : y.stands = p.toNat
            · rw [z]
            · exfalso
              have : posOf (tm s t) (fun y => y.stands == p.toNat) ≠ 1 := by
                cases hf : Kg60.findSlot (tm s t) (fun y => y.stands == p.toNat) with
                | none => rw [posOf_none hf]; decide
                | some i =>
                  obtain ⟨ep, h6⟩ := posOf_some (gt.uniq_stands _) hl gt.fst hf
                  obtain ⟨y2, hy2, hf2⟩ := find_slot hf
                  obtain ⟨q1, q2, q3⟩ := pos_ix h6 gt.fst
                  rw [ep]
                  intro e
                  rw [e] at q1
                  rw [show (1 - 1 + (tm s t).first) % 6 = (0 + (tm s t).first) % 6 by omega] at q1
                  rw [q1, hy2] at hy
                  have := Option.some.inj hy
                  subst this
                  exact z (beq_iff_eq.mp hf2)
              exact this q
          · intro q
            have := Option.some.inj q
            exact posOf_hit (k := 0) (by decide) hy (beq_iff_eq.mpr this) (fun j hj => absurd hj (Nat.not_lt_zero _))
        rw [pos1]
        refine ite2 (fun hc => ?_) (fun hc => ?_)
        · refine k.num R ?_ sm
          unfold Kg60.spec
          simp only [h1, onSet_yes hp, Bool.true_eq_false, if_false, e2, team_tm]
          rw [if_neg (fun q => q hsv), if_pos (of_decide_eq_true hc)]
        · refine ⟨_, rfl, mGame R1 rfl rfl ⟨_, rfl, _, _, rfl, rfl, α, s, !t, congrArg (fun v => [V.ref (α .game), v]) (congrArg V.int (sub_bN t)), R1, G.g, fun H3 α3 S3' => ?_⟩⟩
          have S3 := (Step.same R sm).trans S3'
          have eg : α .game = α3 .game := (S3.ad .game rfl).symm
          refine how_cat (i := 0) rfl k S3 eg ?_
          unfold Kg60.spec
          simp only [h1, onSet_yes hp, Bool.true_eq_false, if_false, e2, team_tm]
          rw [if_neg (fun q => q hsv), if_neg (fun q => hc (decide_eq_true q)), one_sub]
/-! ### timeout -/
def spTimeA (d : Ad) : Sp := fun vs H Q _ => ∃ (α : Role → Addr) (s : State) (z : Int), vs = [.ref (α .game), .int z] ∧ Rep d H α s ∧ Good s ∧ AnsOk d H α s (.timeout z) Q
theorem ok_answer_timeout (T : Txt K mg d) : GF P w K mg base 4 d.f_answer_timeout ["game", "team"] (spTimeA d) := by
  obtain ⟨fd, F⟩ := T.fn_answer_timeout
  refine ⟨fd, F.ok sc_answer_timeout (fun vs H Q E h => ?_) (fun cdv A outer sh H vs Q E hr h => ?_), F.binds (fun _ _ _ _ _ _ us hl => match us, hl with | [_, _], _ => rfl)⟩
  · obtain ⟨α, s, z, rfl, _⟩ := h; rfl
  · obtain ⟨α, s, z, rfl, R, G, k⟩ := h
    refine ⟨_, (pss_cons (ps_set (i := 2) sc_answer_timeout.nd rfl (Or.inl rfl) (V6.qe_call (ok_play_refusal T) (hr.mono (by decide)) (by rfl) T.mg_play_refusal (V6.kp_of T.fn_play_refusal) (pa_cons (pv 0) (pa_cons (pv 1) (pa_cons (pe_lst pa_nil) pa_nil))))) (pss_cons (ps_if (pt_cmpR op_lt (pv 2) pe_int (nomark _)) (pss_one (ps_ret (pe_lst (pa_cons (pv 2) pa_nil)))) pss_nil) (pss_cons (ps_set (i := 3) sc_answer_timeout.nd rfl (Or.inl rfl) (pe_ix ix_list (pe_fld (pv 0) rfl) (pv 1) (fun _ _ => rfl))) (pss_cons (ps_if (pt_cmpR op_ge (pe_fld (pv 3) rfl) (V6.pe_k (by rfl) T.k_MOST_TIMEOUTS) (nomark _)) (pss_one (ps_ret (pe_lst (pa_cons (pe_un un_neg pe_int) pa_nil)))) pss_nil) (pss_cons (ps_fldaug (pv 3) pe_int in_add) (pss_one (ps_ret (pe_lst (pa_cons (pe_fld (pv 3) rfl) pa_nil))))))))), ?_⟩
    refine ⟨_, rfl, _, rfl, Nat.zero_le _, fun p0 hp0 => ⟨α, s, z, p0, [], rfl, R.same (Same.new hp0), SqL.of upd_same, Nat.zero_le _, fun H1 sm1 => ?_⟩⟩
    have sm : Same H H1 := (Same.new hp0).trans sm1
    refine ⟨_, rfl, _, _, rfl, rfl, _, rfl, ite2 (fun hc => ?_) (fun hc => ?_)⟩
    · refine ⟨_, rfl, ?_⟩
      rcases playRef_neg (of_decide_eq_true hc) with ⟨h1, h2⟩ | ⟨h1, h2, h3⟩
      · rw [h2]
        refine k.num R ?_ sm
        rw [List.all_nil, Bool.and_true] at h1
        unfold Kg60.spec
        simp only [h1, if_true]
      · rw [h3]
        refine k.num R ?_ sm
        rw [List.all_nil, Bool.and_true] at h1
        unfold Kg60.spec
        simp only [h1, onSet_no h2, Bool.true_eq_false, if_false]
    · obtain ⟨h1, hp⟩ := playRef_ok (fun q => hc (decide_eq_true q))
      rw [List.all_nil, Bool.and_true] at h1
      obtain ⟨t, e1, e2⟩ := bN_of h1
      subst e1
      have R1 := R.same sm
      refine ⟨_, rfl, rGame T R1 rfl T.na_Game_sides rfl ⟨_, rfl, _, _, _, _, rfl, rfl, SqL.of R1.o_sides, atI_nat (sides_at α t), ?_⟩⟩
      refine ⟨_, rfl, rSide T R1 rfl T.na_Side_timeouts rfl ⟨_, _, rfl, rfl, _, rfl, ite2 (fun hc => ⟨_, rfl, ?_⟩) (fun hc => ?_)⟩⟩
      · refine k.num R ?_ sm
        unfold Kg60.spec
        simp only [h1, onSet_yes hp, Bool.true_eq_false, if_false, e2, team_tm]
        rw [if_pos (by have := of_decide_eq_true hc; omega)]
      · refine ⟨_, rfl, uSide T R1 rfl T.na_Side_timeouts rfl (u := .int 1) (z := nV ((tm s t).timeouts + 1)) (fun Q h => h) (fun Q h => ⟨_, _, rfl, rfl, h⟩) (fun dx => Step.side R1 t sF_tos rfl rfl rfl rfl rfl rfl rfl) fun H2 S2' => ?_⟩
        have S2 := (Step.same R sm).trans S2'
        refine ⟨_, rfl, rSide T S2.rep rfl T.na_Side_timeouts rfl ?_⟩
        rw [tm_putT]
        refine k.one S2 ?_
        unfold Kg60.spec
        simp only [h1, onSet_yes hp, Bool.true_eq_false, if_false, e2, team_tm]
        rw [if_neg (fun q => hc (decide_eq_true (by omega))), set_putT]
end
end Vs
end
section
set_option Elab.async false
set_option maxRecDepth 100000
set_option maxHeartbeats 2000000
namespace Vs
open PySem PySem.Spec PyProof.Rows L2 V6
open Kg60 (Slot Team State within)
section
variable {P : Program} {w : World} {K : PySem.W.Frag} {mg : Str → Option Value} {base : Heap} {d : Ad}
/-! ### sub, libero -/
def standsF (n : Nat) (y : Slot) : Bool := y.stands == n
/-- what change_refusal tells -/
def spChangeRef (d : Ad) : Sp := fun vs H Q _ => ∃ (α : Role → Addr) (s : State) (z o i : Int), vs = [.ref (α .game), .int z, .int o, .int i] ∧ Rep d H α s ∧ GS s ∧
  (playRef s z [o, i] < 0 → ∀ H', Same H H' → Q (.int (playRef s z [o, i])) H') ∧
  (∀ t, ¬ playRef s z [o, i] < 0 → z = ((bN t : Nat) : Int) → Kg60.findSlot (tm s t) (fun y => y.stands == o.toNat) = none → ∀ H', Same H H' → Q (.int (-4)) H') ∧
  (∀ t k, ¬ playRef s z [o, i] < 0 → z = ((bN t : Nat) : Int) → Kg60.findSlot (tm s t) (fun y => y.stands == o.toNat) = some k → ∀ H', Same H H' → Q (.int 0) H')
theorem two_ok {s : State} {z o i : Int} (h : ¬ playRef s z [o, i] < 0) : (within z 0 1 && (within o 1 99 && within i 1 99)) = true ∧ s.playing = true := by
  obtain ⟨h1, hp⟩ := playRef_ok h
  simp only [List.all_cons, List.all_nil, Bool.and_true] at h1
  exact ⟨h1, hp⟩
theorem ok_change_refusal (T : Txt K mg d) : GF P w K mg base 4 d.f_change_refusal ["game", "team", "leaving", "coming"] (spChangeRef d) := by
  obtain ⟨fd, F⟩ := T.fn_change_refusal
  refine ⟨fd, F.ok sc_change_refusal (fun vs H Q E h => ?_) (fun cdv A outer sh H vs Q E hr h => ?_), F.binds (fun _ _ _ _ _ _ us hl => match us, hl with | [_, _, _, _], _ => rfl)⟩
  · obtain ⟨α, s, z, o, i, rfl, _⟩ := h; rfl
  · obtain ⟨α, s, z, o, i, rfl, R, g, k1, k2, k3⟩ := h
    refine ⟨_, (pss_cons (ps_set (i := 4) sc_change_refusal.nd rfl (Or.inl rfl) (V6.qe_call (ok_play_refusal T) (hr.mono (by decide)) (by rfl) T.mg_play_refusal (V6.kp_of T.fn_play_refusal) (pa_cons (pv 0) (pa_cons (pv 1) (pa_cons (pe_lst (pa_cons (pv 2) (pa_cons (pv 3) pa_nil))) pa_nil))))) (pss_cons (ps_if (pt_cmpR op_lt (pv 4) pe_int (nomark _)) (pss_one (ps_ret (pv 4))) pss_nil) (pss_cons (ps_if (pt_cmpR op_eq (V6.qe_meth (pe_ix ix_list (pe_fld (pv 0) rfl) (pv 1) (fun _ _ => rfl)) T.cl_Side T.me_Side_position_of (ok_Side_position_of T) (hr.mono (by decide)) (pa_cons (pv 2) pa_nil)) pe_int (nomark _)) (pss_one (ps_ret (pe_un un_neg pe_int))) pss_nil) (pss_one (ps_ret pe_int))))), ?_⟩
    refine ⟨_, rfl, _, rfl, _, rfl, _, rfl, (by show 2 ≤ sizeLine; decide), fun p0 hp0 => ⟨α, s, z, p0, [o, i], rfl, R.same (Same.new hp0), SqL.of upd_same, (by show 2 ≤ 1000; decide), fun H1 sm1 => ?_⟩⟩
    have sm : Same H H1 := (Same.new hp0).trans sm1
    refine ⟨_, rfl, _, _, rfl, rfl, _, rfl, ite2 (fun hc => ⟨_, rfl, k1 (of_decide_eq_true hc) H1 sm⟩) (fun hc => ?_)⟩
    have hn : ¬ playRef s z [o, i] < 0 := fun q => hc (decide_eq_true q)
    obtain ⟨h1, hp⟩ := two_ok hn
    simp only [Bool.and_eq_true] at h1
    obtain ⟨t, e1, e2⟩ := bN_of h1.1
    have e3 := within_iff.mp h1.2.1
    have R1 := R.same sm
    have ev : V.int o = nV o.toNat := int_nV (by omega)
    have hl := (wf_of g hp t).1
    have gt := g.tm t
    refine ⟨_, rfl, rGame T R1 rfl T.na_Game_sides rfl ⟨_, rfl, _, _, _, _, rfl, rfl, SqL.of R1.o_sides, at_of e1 (sides_at α t), mSide R1 rfl rfl ⟨_, rfl, α, s, t, o.toNat, by rw [ev]; rfl, R1, wf_of g hp t, rfl, _, rfl, ?_⟩⟩⟩
    rw [show V.int 0 = nV 0 from rfl, on_nV]
    cases hf : Kg60.findSlot (tm s t) (fun y => y.stands == o.toNat) with
    | none =>
      rw [posOf_none hf]
      exact iteT ⟨_, rfl, k2 t hn e1 hf H1 sm⟩
    | some k =>
      obtain ⟨ep, h6⟩ := posOf_some (gt.uniq_stands _) hl gt.fst hf
      obtain ⟨q1, q2, q3⟩ := pos_ix h6 gt.fst
      rw [ep, decide_eq_false (by omega)]
      exact iteF (k3 t k hn e1 hf H1 sm)
def spMayReplace (d : Ad) : Sp := fun vs H Q _ => ∃ (α : Role → Addr) (s : State) (t : Bool) (i : Nat) (y : Slot) (n : Nat), vs = [.ref (α (.side t)), .ref (α (.place t i)), nV n] ∧ Rep d H α s ∧ (tm s t).slots[i]? = some y ∧ (tm s t).slots.length ≤ 1000 ∧ ∀ H', Same H H' → Q (.bl (subOk (tm s t) { y with libero := none } n)) H'
theorem ok_may_replace (T : Txt K mg d) : GF P w K mg base 2 d.f_may_replace ["side", "place", "coming"] (spMayReplace d) := by
  obtain ⟨fd, F⟩ := T.fn_may_replace
  refine ⟨fd, F.ok sc_may_replace (fun vs H Q E h => ?_) (fun cdv A outer sh H vs Q E hr h => ?_), F.binds (fun _ _ _ _ _ _ us hl => match us, hl with | [_, _, _], _ => rfl)⟩
  · obtain ⟨α, s, t, i, y, n, rfl, _⟩ := h; rfl
  · obtain ⟨α, s, t, i, y, n, rfl, R, hy, hl, k⟩ := h
    refine ⟨_, (pss_cons (ps_if (PW.pt (pw_or (pt_cmpR op_ge (pe_fld (pv 0) rfl) (V6.pe_k (by rfl) T.k_MOST_SUBSTITUTIONS) (nomark _)) (pw_or1 (pt_val (V6.qe_meth (pv 0) T.cl_Side T.me_Side_is_out (ok_Side_is_out T) (hr.mono (by decide)) (pa_cons (pv 2) pa_nil)))))) (pss_one (ps_ret pe_bl)) pss_nil) (pss_cons (ps_if (pt_cmpR op_eq (pe_fld (pv 1) rfl) (V6.pe_k (by rfl) T.k_STARTER_NEVER_CHANGED) (nomark _)) (pss_one (ps_ret (V6.qe_meth (pv 0) T.cl_Side T.me_Side_is_new (ok_Side_is_new T) (hr.mono (by decide)) (pa_cons (pv 2) pa_nil)))) pss_nil) (pss_one (ps_ret (pe_and (pe_cmpR op_eq (pe_fld (pv 1) rfl) (V6.pe_k (by rfl) T.k_SECOND_PLAYS) (nomark _)) (pe_one (pe_cmpR op_eq (pv 2) (pe_fld (pv 1) rfl) (nomark _)))))))), ?_⟩
    unfold subOk at k
    simp only [Option.isSome_none, Bool.false_or] at k
    refine ⟨_, rfl, rSide T R rfl T.na_Side_substitutions rfl ⟨_, _, rfl, rfl, _, rfl, ite2 (fun hc => iteT ?_) (fun hc => ⟨_, rfl, mSide R rfl rfl ⟨_, rfl, α, s, t, n, rfl, R, _, rfl, ite2 (fun hc2 => ?_) (fun hc2 => ?_)⟩⟩)⟩⟩
    · have := k H Same.refl
      rw [decide_eq_true (show 6 ≤ (tm s t).subs by have := of_decide_eq_true hc; omega), Bool.true_or, if_pos rfl] at this; exact this
    · have := k H Same.refl
      rw [hc2, Bool.or_true, if_pos rfl] at this; exact this
    · rw [decide_eq_false (show ¬ 6 ≤ (tm s t).subs from fun q => hc (decide_eq_true (by omega))), Bool.eq_false_iff.mpr hc2, Bool.or_false, if_neg (by decide)] at k
      refine ⟨_, rfl, rPlace T R hy rfl T.na_Place_stage rfl ⟨rfl, _, rfl, ?_⟩⟩
      rw [show V.int 0 = nV 0 from rfl, on_nV]
      refine ite2 (fun hc => ?_) (fun hc => ?_)
      · rw [if_pos (of_decide_eq_true hc)] at k
        exact ⟨_, rfl, mSide R rfl rfl ⟨_, rfl, α, s, t, n, rfl, R, hl, k⟩⟩
      · rw [if_neg (fun q => hc (decide_eq_true q))] at k
        refine ⟨_, rfl, rPlace T R hy rfl T.na_Place_stage rfl ⟨rfl, _, rfl, ?_⟩⟩
        rw [show V.int 1 = nV 1 from rfl, on_nV]
        have k := k H Same.refl
        refine ite2 (fun hc => ⟨_, rfl, _, rfl, rPlace T R hy rfl T.na_Place_starter rfl ⟨rfl, ?_⟩⟩) (fun hc => ?_)
        · rw [on_nV]
          rw [hc, Bool.true_and] at k; exact k
        · rw [Bool.eq_false_iff.mpr hc, Bool.false_and] at k; exact k
def spReplace (d : Ad) : Sp := fun vs H Q _ => ∃ (α : Role → Addr) (s : State) (t : Bool) (i : Nat) (y : Slot) (n : Nat), vs = [.ref (α (.side t)), .ref (α (.place t i)), nV n] ∧ Rep d H α s ∧ (tm s t).slots[i]? = some y ∧
  ∀ H', Step d H α s H' α (putT s t { tm s t with slots := (tm s t).slots.set i (putIn y n), subs := (tm s t).subs + 1 }) → Q .non H'
theorem ok_replace_owner (T : Txt K mg d) : GF P w K mg base 2 d.f_replace_owner ["side", "place", "coming"] (spReplace d) := by
  obtain ⟨fd, F⟩ := T.fn_replace_owner
  refine ⟨fd, F.ok sc_replace_owner (fun vs H Q E h => ?_) (fun cdv A outer sh H vs Q E hr h => ?_), F.binds (fun _ _ _ _ _ _ us hl => match us, hl with | [_, _, _], _ => rfl)⟩
  · obtain ⟨α, s, t, i, y, n, rfl, _⟩ := h; rfl
  · obtain ⟨α, s, t, i, y, n, rfl, R, hy, k⟩ := h
    refine ⟨_, (pss_cons (ps_expr (V6.qe_meth (pv 1) T.cl_Place T.me_Place_substitute (ok_Place_substitute T) (hr.mono (by decide)) (pa_cons (pv 2) pa_nil))) (pss_one (ps_fldaug (pv 0) pe_int in_add))), ?_⟩
    obtain ⟨dx, hp⟩ := R.o_place t hy
    refine ⟨_, rfl, mPlace R hy rfl rfl ⟨_, rfl, _, dx, y, n, rfl, hp, ?_⟩⟩
    have S1 : Step d H α s (upd H (α (.place t i)) (.ins d.c_Place dx (placeF (putIn y n)))) α _ := Step.place R t hy rfl
    revert S1
    generalize upd H (α (.place t i)) _ = H1
    intro S1
    refine ⟨_, rfl, uSide T S1.rep rfl T.na_Side_substitutions rfl (u := .int 1) (z := nV ((tm s t).subs + 1)) (fun Q h => h) (fun Q h => ⟨_, _, rfl, rfl, by rw [tm_putT]; exact h⟩) (fun dx => Step.side S1.rep t sF_subs rfl rfl rfl rfl rfl rfl rfl) fun H2 S2' => ?_⟩
    have S2 := S1.trans S2'
    refine k H2 ?_
    have e : ∀ x y : State, x = y → Step d H α s H2 α x → Step d H α s H2 α y := fun x y e h => e ▸ h
    refine e _ _ ?_ S2
    cases t <;> rfl
def spSubA (d : Ad) : Sp := fun vs H Q _ => ∃ (α : Role → Addr) (s : State) (z o i : Int), vs = [.ref (α .game), .int z, .int o, .int i] ∧ Rep d H α s ∧ Good s ∧ AnsOk d H α s (.sub z o i) Q
theorem bind_find {x : Team} {f : Slot → Bool} {k : Nat} {y : Slot} (hf : Kg60.findSlot x f = some k) (hy : x.slots[k]? = some y) : ((Kg60.findSlot x f).bind fun k => (x.slots[k]?).map fun y => (k, y)) = some (k, y) := by rw [hf, Option.bind_some, hy]; rfl
theorem sub_lib {x : Team} {y : Slot} {n : Nat} : subOk x y n = (!y.libero.isSome && subOk x { y with libero := none } n) := by
  unfold subOk
  cases h : y.libero with
  | none => simp
  | some l => simp
theorem ok_answer_sub (T : Txt K mg d) : GF P w K mg base 5 d.f_answer_sub ["game", "team", "leaving", "coming"] (spSubA d) := by
  obtain ⟨fd, F⟩ := T.fn_answer_sub
  refine ⟨fd, F.ok sc_answer_sub (fun vs H Q E h => ?_) (fun cdv A outer sh H vs Q E hr h => ?_), F.binds (fun _ _ _ _ _ _ us hl => match us, hl with | [_, _, _, _], _ => rfl)⟩
  · obtain ⟨α, s, z, o, i, rfl, _⟩ := h; rfl
  · obtain ⟨α, s, z, o, i, rfl, R, G, k⟩ := h
    refine ⟨_, (pss_cons (ps_set (i := 4) sc_answer_sub.nd rfl (Or.inl rfl) (V6.qe_call (ok_change_refusal T) (hr.mono (by decide)) (by rfl) T.mg_change_refusal (V6.kp_of T.fn_change_refusal) (pa_cons (pv 0) (pa_cons (pv 1) (pa_cons (pv 2) (pa_cons (pv 3) pa_nil)))))) (pss_cons (ps_if (pt_cmpR op_lt (pv 4) pe_int (nomark _)) (pss_one (ps_ret (pe_lst (pa_cons (pv 4) pa_nil)))) pss_nil) (pss_cons (ps_set (i := 5) sc_answer_sub.nd rfl (Or.inl rfl) (pe_ix ix_list (pe_fld (pv 0) rfl) (pv 1) (fun _ _ => rfl))) (pss_cons (ps_set (i := 6) sc_answer_sub.nd rfl (Or.inl rfl) (V6.qe_meth (pv 5) T.cl_Side T.me_Side_place_at (ok_Side_place_at T) (hr.mono (by decide)) (pa_cons (V6.qe_meth (pv 5) T.cl_Side T.me_Side_position_of (ok_Side_position_of T) (hr.mono (by decide)) (pa_cons (pv 2) pa_nil)) pa_nil))) (pss_cons (ps_if (PW.pt (pw_or (pt_val (V6.qe_meth0 (pv 6) T.cl_Place T.me_Place_has_libero (ok_Place_has_libero T) (hr.mono (by decide)))) (pw_or1 (pt_not (pt_val (V6.qe_call (ok_may_replace T) (hr.mono (by decide)) (by rfl) T.mg_may_replace (V6.kp_of T.fn_may_replace) (pa_cons (pv 5) (pa_cons (pv 6) (pa_cons (pv 3) pa_nil))))))))) (pss_one (ps_ret (pe_lst (pa_cons (pe_un un_neg pe_int) pa_nil)))) pss_nil) (pss_cons (ps_expr (V6.qe_call (ok_replace_owner T) (hr.mono (by decide)) (by rfl) T.mg_replace_owner (V6.kp_of T.fn_replace_owner) (pa_cons (pv 5) (pa_cons (pv 6) (pa_cons (pv 3) pa_nil))))) (pss_one (ps_ret (pe_lst (pa_cons (pe_fld (pv 5) rfl) pa_nil)))))))))), ?_⟩
    refine ⟨_, rfl, _, rfl, _, rfl, _, rfl, α, s, z, o, i, rfl, R, G.g, fun hn H1 sm => ?_, fun t hn e1 hf H1 sm => ?_, fun t j hn e1 hf H1 sm => ?_⟩
    · refine ⟨_, rfl, _, _, rfl, rfl, _, rfl, ?_⟩
      rw [decide_eq_true hn]
      refine iteT ⟨_, rfl, ?_⟩
      rcases playRef_neg hn with ⟨h1, h2⟩ | ⟨h1, h2, h3⟩
      · rw [h2]
        refine k.num R ?_ sm
        simp only [List.all_cons, List.all_nil, Bool.and_true] at h1
        unfold Kg60.spec
        simp only [h1, if_true]
      · rw [h3]
        refine k.num R ?_ sm
        simp only [List.all_cons, List.all_nil, Bool.and_true] at h1
        unfold Kg60.spec
        simp only [h1, onSet_no h2, Bool.true_eq_false, if_false]
    · obtain ⟨h1, hp⟩ := two_ok hn
      have e2 : z.toNat = bN t := by rw [e1]; rfl
      refine ⟨_, rfl, _, _, rfl, rfl, _, rfl, iteT ⟨_, rfl, ?_⟩⟩
      refine k.num R ?_ sm
      unfold Kg60.spec
      simp only [h1, onSet_yes hp, Bool.true_eq_false, if_false, e2, team_tm, hf, Option.bind_none]
    · obtain ⟨h1, hp⟩ := two_ok hn
      have h1' := h1
      simp only [Bool.and_eq_true] at h1'
      have e2 : z.toNat = bN t := by rw [e1]; rfl
      have e3 := within_iff.mp h1'.2.1
      have e4 := within_iff.mp h1'.2.2
      subst e1
      have R1 := R.same sm
      have eo : V.int o = nV o.toNat := int_nV (by omega)
      have ei : V.int i = nV i.toNat := int_nV (by omega)
      have hl := (wf_of G.g hp t).1
      have gt := G.g.tm t
      obtain ⟨y, hy, hfy⟩ := find_slot hf
      obtain ⟨ep, h6⟩ := posOf_some (gt.uniq_stands _) hl gt.fst hf
      obtain ⟨q1, q2, q3⟩ := pos_ix h6 gt.fst
      refine ⟨_, rfl, _, _, rfl, rfl, _, rfl, iteF ?_⟩
      refine ⟨_, rfl, rGame T R1 rfl T.na_Game_sides rfl ⟨_, rfl, _, _, _, _, rfl, rfl, SqL.of R1.o_sides, atI_nat (sides_at α t), ?_⟩⟩
      refine ⟨_, rfl, mSide R1 rfl rfl ⟨_, rfl, mSide R1 rfl rfl ⟨_, rfl, α, s, t, o.toNat, by rw [eo]; rfl, R1, wf_of G.g hp t, ?_⟩⟩⟩
      rw [ep]
      refine ⟨α, s, t, _, rfl, R1, q2, hl, ?_⟩
      rw [q1]
      obtain ⟨dx, hpl⟩ := R1.o_place t hy
      have fin : ∀ H2, Same H1 H2 → subOk (tm s t) y i.toNat = false → Kg60.spec s (.sub ((bN t : Nat) : Int) o i) = (s, Kg60.num (-5)) := fun H2 _ hs => by
        unfold Kg60.spec
        simp only [h1, onSet_yes hp, Bool.true_eq_false, if_false, e2, team_tm, bind_find hf hy, substitute_eq, hs, Bool.false_eq_true]
      refine ⟨_, rfl, mPlace R1 hy rfl rfl ⟨_, y, rfl, ⟨dx, hpl⟩, _, rfl, ite2 (fun hc => iteT ⟨_, rfl, ?_⟩) (fun hc => ?_)⟩⟩
      · exact k.num R (fin H1 Same.refl (by rw [sub_lib, hc]; rfl)) sm
      · have hlb : y.libero.isSome = false := Bool.eq_false_iff.mpr hc
        refine ⟨_, rfl, _, rfl, _, rfl, α, s, t, j, y, i.toNat, by rw [ei]; rfl, R1, hy, by rw [hl]; decide, fun H2 sm2 => ⟨_, rfl, ite2 (fun hc2 => ⟨_, rfl, ?_⟩) (fun hc2 => ?_)⟩⟩
        · refine k.num R (fin H2 sm2 ?_) (sm.trans sm2)
          rw [sub_lib, hlb, Bool.not_false, Bool.true_and]
          simpa using hc2
        · have hs : subOk (tm s t) y i.toNat = true := by
            rw [sub_lib, hlb, Bool.not_false, Bool.true_and]
            simpa using hc2
          have R2 := R1.same sm2
          refine ⟨_, rfl, _, rfl, _, rfl, α, s, t, j, y, i.toNat, by rw [ei]; rfl, R2, hy, fun H3 S3' => ?_⟩
          have S3 := (Step.same R (sm.trans sm2)).trans S3'
          refine ⟨_, rfl, rSide T S3.rep rfl T.na_Side_substitutions rfl ?_⟩
          rw [tm_putT]
          refine k.one S3 ?_
          unfold Kg60.spec
          simp only [h1, onSet_yes hp, Bool.true_eq_false, if_false, e2, team_tm, bind_find hf hy, substitute_eq, hs, if_true, set_putT]
def spReturn (d : Ad) : Sp := fun vs H Q _ => ∃ (α : Role → Addr) (s : State) (t : Bool) (i : Nat) (y : Slot) (n : Nat), vs = [.ref (α (.side t)), .ref (α (.place t i)), nV n] ∧ Rep d H α s ∧ (tm s t).slots[i]? = some y ∧ PhOk y ∧ Q (.bl (mayReturn (tm s t) y n)) H
theorem ok_owner_may_return (T : Txt K mg d) : GF P w K mg base 2 d.f_owner_may_return ["side", "place", "coming"] (spReturn d) := by
  obtain ⟨fd, F⟩ := T.fn_owner_may_return
  refine ⟨fd, F.ok sc_owner_may_return (fun vs H Q E h => ?_) (fun cdv A outer sh H vs Q E hr h => ?_), F.binds (fun _ _ _ _ _ _ us hl => match us, hl with | [_, _, _], _ => rfl)⟩
  · obtain ⟨α, s, t, i, y, n, rfl, _⟩ := h; rfl
  · obtain ⟨α, s, t, i, y, n, rfl, R, hy, hph, k⟩ := h
    refine ⟨_, (pss_one (ps_ret (pe_and (V6.qe_meth0 (pv 1) T.cl_Place T.me_Place_has_libero (ok_Place_has_libero T) (hr.mono (by decide))) (pe_and (pe_cmpR op_eq (pv 2) (V6.qe_meth0 (pv 1) T.cl_Place T.me_Place_owner (ok_Place_owner T) (hr.mono (by decide))) (nomark _)) (pe_one (pe_not (V6.qe_meth (pv 0) T.cl_Side T.me_Side_is_out (ok_Side_is_out T) (hr.mono (by decide)) (pa_cons (pv 2) pa_nil)))))))), ?_⟩
    obtain ⟨dx, hp⟩ := R.o_place t hy
    unfold mayReturn at k
    refine ⟨_, rfl, mPlace R hy rfl rfl ⟨_, y, rfl, ⟨dx, hp⟩, _, rfl, ite2 (fun hc => ⟨_, rfl, _, rfl, mPlace R hy rfl rfl ⟨_, y, rfl, ⟨dx, hp⟩, hph, rfl, _, rfl, ?_⟩⟩) (fun hc => ?_)⟩⟩
    · rw [on_nV]
      rw [hc, Bool.true_and] at k
      refine ite2 (fun hc => ⟨_, rfl, mSide R rfl rfl ⟨_, rfl, α, s, t, n, rfl, R, _, rfl, ?_⟩⟩) (fun hc => ?_)
      · rw [hc, Bool.true_and] at k
        rw [Bool.not_not]; exact k
      · rw [Bool.eq_false_iff.mpr hc, Bool.false_and] at k; exact k
    · rw [Bool.eq_false_iff.mpr hc, Bool.false_and] at k; exact k
def spCome (d : Ad) : Sp := fun vs H Q _ => ∃ (α : Role → Addr) (s : State) (t : Bool) (p : Nat) (y : Slot) (n : Nat), vs = [.ref (α .game), nV (bN t), nV p, nV n] ∧ Rep d H α s ∧ WfT (tm s t) ∧ 1 ≤ p ∧ (tm s t).slots[(p - 1 + (tm s t).first) % 6]? = some y ∧ Q (.bl (mayCome (tm s t) p y n (s.serves == bN t))) H
theorem ok_libero_may_come (T : Txt K mg d) : GF P w K mg base 3 d.f_libero_may_come ["game", "team", "position", "coming"] (spCome d) := by
  obtain ⟨fd, F⟩ := T.fn_libero_may_come
  refine ⟨fd, F.ok sc_libero_may_come (fun vs H Q E h => ?_) (fun cdv A outer sh H vs Q E hr h => ?_), F.binds (fun _ _ _ _ _ _ us hl => match us, hl with | [_, _, _, _], _ => rfl)⟩
  · obtain ⟨α, s, t, p, y, n, rfl, _⟩ := h; rfl
  · obtain ⟨α, s, t, p, y, n, rfl, R, hw, h1, hy, k⟩ := h
    refine ⟨_, (pss_cons (ps_set (i := 4) sc_libero_may_come.nd rfl (Or.inl rfl) (pe_ix ix_list (pe_fld (pv 0) rfl) (pv 1) (fun _ _ => rfl))) (pss_cons (ps_if (PW.pt (pw_or (pt_cmpR op_notIn_seq (pv 3) (pe_fld (pv 4) rfl) (by with_unfolding_all rfl)) (pw_or (pt_val (V6.qe_meth (pv 4) T.cl_Side T.me_Side_is_out (ok_Side_is_out T) (hr.mono (by decide)) (pa_cons (pv 3) pa_nil))) (pw_or1 (pt_val (pe_fld (pv 4) rfl)))))) (pss_one (ps_ret pe_bl)) pss_nil) (pss_cons (ps_if (pt_not (pt_val (V6.qe_call (ok_libero_may_stand T) (hr.mono (by decide)) (by rfl) T.mg_libero_may_stand (V6.kp_of T.fn_libero_may_stand) (pa_cons (pv 0) (pa_cons (pv 1) (pa_cons (pv 2) pa_nil)))))) (pss_one (ps_ret pe_bl)) pss_nil) (pss_cons (ps_if (pt_cmpR op_gt (V6.qe_meth0 (pv 4) T.cl_Side T.me_Side_libero_position (ok_Side_libero_position T) (hr.mono (by decide))) pe_int (nomark _)) (pss_one (ps_ret (pe_and (pe_cmpR op_eq (V6.qe_meth0 (pv 4) T.cl_Side T.me_Side_libero_position (ok_Side_libero_position T) (hr.mono (by decide))) (pv 2) (nomark _)) (pe_one (pe_cmpR op_ne (pe_fld (V6.qe_meth (pv 4) T.cl_Side T.me_Side_place_at (ok_Side_place_at T) (hr.mono (by decide)) (pa_cons (pv 2) pa_nil)) rfl) (pv 3) (nomark _)))))) pss_nil) (pss_one (ps_ret pe_bl)))))), ?_⟩
    unfold mayCome at k
    refine ⟨_, rfl, rGame T R rfl T.na_Game_sides rfl ⟨_, rfl, _, _, _, _, rfl, rfl, SqL.of R.o_sides, atI_nat (sides_at α t), ?_⟩⟩
    refine ⟨_, rfl, _, rfl, rSide T R rfl T.na_Side_liberos rfl ⟨_, _, rfl, .inl (SqL.of (R.o_libs t)), rfl, flat_nats _, _, rfl, ?_⟩⟩
    rw [in_neg, inV_nats]
    refine ite2 (fun hc => iteT ?_) (fun hc => ⟨_, rfl, mSide R rfl rfl ⟨_, rfl, α, s, t, n, rfl, R, _, rfl, ite2 (fun hc2 => iteT ?_) (fun hc2 => ⟨_, rfl, rSide T R rfl T.na_Side_libero_moved rfl ⟨_, rfl, ite2 (fun hc3 => ?_) (fun hc3 => ?_)⟩⟩)⟩⟩)
    · rw [show (tm s t).liberos.contains n = false by simpa using hc, Bool.false_and] at k; exact k
    · rw [show (tm s t).mayStand n = false by simpa using hc2, Bool.false_and, Bool.and_false] at k; exact k
    · rw [hc3, Bool.not_true, Bool.false_and, Bool.and_false, Bool.and_false] at k; exact k
    · rw [show (tm s t).liberos.contains n = true by simpa using hc, show (tm s t).mayStand n = true by simpa using hc2, Bool.eq_false_iff.mpr hc3, Bool.not_false, Bool.true_and, Bool.true_and, Bool.true_and] at k
      refine ⟨_, rfl, _, rfl, _, rfl, α, s, t, p, rfl, R, _, rfl, ite2 (fun hc => ?_) (fun hc => ?_)⟩
      · rw [show standOk p (s.serves == bN t) = false by simpa using hc, Bool.false_and] at k; exact k
      · rw [show standOk p (s.serves == bN t) = true by simpa using hc, Bool.true_and] at k
        refine ⟨_, rfl, mSide R rfl rfl ⟨α, s, t, rfl, R, hw, _, _, rfl, rfl, _, rfl, ite2 (fun hc => ?_) (fun hc => ?_)⟩⟩
        · rw [decide_eq_false (show ¬ posOf (tm s t) (fun y => y.libero.isSome) = 0 by have := of_decide_eq_true hc; omega), Bool.false_or] at k
          refine ⟨_, rfl, mSide R rfl rfl ⟨α, s, t, rfl, R, hw, _, rfl, rfl, _, rfl, ?_⟩⟩
          rw [on_nV]
          refine ite2 (fun hc => ⟨_, rfl, mSide R rfl rfl ⟨_, rfl, α, s, t, p, rfl, R, h1, hw.1, rPlace T R hy rfl T.na_Place_libero rfl ⟨_, rfl, rfl, ?_⟩⟩⟩) (fun hc => ?_)
          · rw [hc, Bool.true_and] at k
            cases hl : y.libero with
            | none =>
              rw [hl, decide_eq_false (by intro e; cases e)] at k
              rw [show nV n = V.int (n : Int) from rfl, show oV none = V.int (-1) from rfl, eqI, decide_eq_false (by omega)]
              exact k
            | some m =>
              rw [hl] at k
              rw [show oV (some m) = nV m from rfl, on_nV]
              have e : decide (some m = some n) = decide (m = n) := by
                rw [Bool.eq_iff_iff, decide_eq_true_iff, decide_eq_true_iff]
                exact ⟨fun e => Option.some.inj e, fun e => by rw [e]⟩
              rw [e] at k; exact k
          · rw [Bool.eq_false_iff.mpr hc, Bool.false_and] at k; exact k
        · rw [decide_eq_true (show posOf (tm s t) (fun y => y.libero.isSome) = 0 by
            by_cases q : posOf (tm s t) (fun y => y.libero.isSome) = 0
            · exact q
            · exact absurd (decide_eq_true (by omega)) hc), Bool.true_or] at k
          exact k
def spLiberoA (d : Ad) : Sp := fun vs H Q _ => ∃ (α : Role → Addr) (s : State) (z o i : Int), vs = [.ref (α .game), .int z, .int o, .int i] ∧ Rep d H α s ∧ Good s ∧ AnsOk d H α s (.libero z o i) Q
theorem pF_libero {y : Slot} {n : Nat} : putF "libero" (nV n) (placeF y) = placeF { y with libero := some n } := rfl
theorem ok_answer_libero (T : Txt K mg d) : GF P w K mg base 5 d.f_answer_libero ["game", "team", "leaving", "coming"] (spLiberoA d) := by
  obtain ⟨fd, F⟩ := T.fn_answer_libero
  refine ⟨fd, F.ok sc_answer_libero (fun vs H Q E h => ?_) (fun cdv A outer sh H vs Q E hr h => ?_), F.binds (fun _ _ _ _ _ _ us hl => match us, hl with | [_, _, _, _], _ => rfl)⟩
  · obtain ⟨α, s, z, o, i, rfl, _⟩ := h; rfl
  · obtain ⟨α, s, z, o, i, rfl, R, G, k⟩ := h
    refine ⟨_, (pss_cons (ps_set (i := 4) sc_answer_libero.nd rfl (Or.inl rfl) (V6.qe_call (ok_change_refusal T) (hr.mono (by decide)) (by rfl) T.mg_change_refusal (V6.kp_of T.fn_change_refusal) (pa_cons (pv 0) (pa_cons (pv 1) (pa_cons (pv 2) (pa_cons (pv 3) pa_nil)))))) (pss_cons (ps_if (pt_cmpR op_lt (pv 4) pe_int (nomark _)) (pss_one (ps_ret (pe_lst (pa_cons (pv 4) pa_nil)))) pss_nil) (pss_cons (ps_set (i := 5) sc_answer_libero.nd rfl (Or.inl rfl) (pe_ix ix_list (pe_fld (pv 0) rfl) (pv 1) (fun _ _ => rfl))) (pss_cons (ps_set (i := 6) sc_answer_libero.nd rfl (Or.inl rfl) (V6.qe_meth (pv 5) T.cl_Side T.me_Side_position_of (ok_Side_position_of T) (hr.mono (by decide)) (pa_cons (pv 2) pa_nil))) (pss_cons (ps_set (i := 7) sc_answer_libero.nd rfl (Or.inl rfl) (V6.qe_meth (pv 5) T.cl_Side T.me_Side_place_at (ok_Side_place_at T) (hr.mono (by decide)) (pa_cons (pv 6) pa_nil))) (pss_cons (ps_if (pt_val (V6.qe_call (ok_owner_may_return T) (hr.mono (by decide)) (by rfl) T.mg_owner_may_return (V6.kp_of T.fn_owner_may_return) (pa_cons (pv 5) (pa_cons (pv 7) (pa_cons (pv 3) pa_nil))))) (pss_one (ps_expr (V6.qe_meth0 (pv 7) T.cl_Place T.me_Place_send_libero_off (ok_Place_send_libero_off T) (hr.mono (by decide))))) (pss_one (ps_if (pt_val (V6.qe_call (ok_libero_may_come T) (hr.mono (by decide)) (by rfl) T.mg_libero_may_come (V6.kp_of T.fn_libero_may_come) (pa_cons (pv 0) (pa_cons (pv 1) (pa_cons (pv 6) (pa_cons (pv 3) pa_nil)))))) (pss_one (ps_fld (pv 7) (pv 3) rfl)) (pss_one (ps_ret (pe_lst (pa_cons (pe_un un_neg pe_int) pa_nil))))))) (pss_cons (ps_fld (pv 5) pe_bl rfl) (pss_one (ps_ret (pe_lst (pa_cons pe_int pa_nil))))))))))), ?_⟩
    refine ⟨_, rfl, _, rfl, _, rfl, _, rfl, α, s, z, o, i, rfl, R, G.g, fun hn H1 sm => ?_, fun t hn e1 hf H1 sm => ?_, fun t j hn e1 hf H1 sm => ?_⟩
    · refine ⟨_, rfl, _, _, rfl, rfl, _, rfl, ?_⟩
      rw [decide_eq_true hn]
      refine iteT ⟨_, rfl, ?_⟩
      rcases playRef_neg hn with ⟨h1, h2⟩ | ⟨h1, h2, h3⟩
      · rw [h2]
        refine k.num R ?_ sm
        simp only [List.all_cons, List.all_nil, Bool.and_true] at h1
        unfold Kg60.spec
        simp only [h1, if_true]
      · rw [h3]
        refine k.num R ?_ sm
        simp only [List.all_cons, List.all_nil, Bool.and_true] at h1
        unfold Kg60.spec
        simp only [h1, onSet_no h2, Bool.true_eq_false, if_false]
    · obtain ⟨h1, hp⟩ := two_ok hn
      have e2 : z.toNat = bN t := by rw [e1]; rfl
      refine ⟨_, rfl, _, _, rfl, rfl, _, rfl, iteT ⟨_, rfl, ?_⟩⟩
      refine k.num R ?_ sm
      unfold Kg60.spec
      simp only [h1, onSet_yes hp, Bool.true_eq_false, if_false, e2, team_tm, hf, Option.isNone_none, if_true]
    · obtain ⟨h1, hp⟩ := two_ok hn
      have h1' := h1
      simp only [Bool.and_eq_true] at h1'
      have e2 : z.toNat = bN t := by rw [e1]; rfl
      have e3 := within_iff.mp h1'.2.1
      have e4 := within_iff.mp h1'.2.2
      subst e1
      have R1 := R.same sm
      have eo : V.int o = nV o.toNat := int_nV (by omega)
      have ei : V.int i = nV i.toNat := int_nV (by omega)
      have hwf := wf_of G.g hp t
      have hl := hwf.1
      have gt := G.g.tm t
      obtain ⟨y, hy, hfy⟩ := find_slot hf
      obtain ⟨ep, h6⟩ := posOf_some (gt.uniq_stands _) hl gt.fst hf
      obtain ⟨q1, q2, q3⟩ := pos_ix h6 gt.fst
      have hsp := exchange_eq gt hl (into := i.toNat) (s.serves == bN t) hf hy
      have spec_eq : Kg60.spec s (.libero ((bN t : Nat) : Int) o i) = (match (tm s t).exchange o.toNat i.toNat (s.serves == bN t) with | none => (s, Kg60.num (-5)) | some z => (putT s t z, Kg60.num 0)) := by
        unfold Kg60.spec
        simp only [h1, onSet_yes hp, Bool.true_eq_false, if_false, e2, team_tm, hf, Option.isNone_some, Bool.false_eq_true, set_putT]
        rfl
      refine ⟨_, rfl, _, _, rfl, rfl, _, rfl, iteF ?_⟩
      refine ⟨_, rfl, rGame T R1 rfl T.na_Game_sides rfl ⟨_, rfl, _, _, _, _, rfl, rfl, SqL.of R1.o_sides, atI_nat (sides_at α t), ?_⟩⟩
      refine ⟨_, rfl, mSide R1 rfl rfl ⟨_, rfl, α, s, t, o.toNat, by rw [eo]; rfl, R1, hwf, ?_⟩⟩
      rw [ep]
      refine ⟨_, rfl, mSide R1 rfl rfl ⟨_, rfl, α, s, t, _, rfl, R1, q2, hl, ?_⟩⟩
      rw [q1]
      -- behind the change: side.libero_moved = True
      have fin : ∀ H2 l, Step d H α s H2 α (putT s t { tm s t with slots := (tm s t).slots.set j { y with libero := l } }) → Kg60.spec s (.libero ((bN t : Nat) : Int) o i) = (putT s t { tm s t with slots := (tm s t).slots.set j { y with libero := l }, changed := true }, Kg60.num 0) →
          ∀ (σ : L2.St), σ[5]? = some (some (.ref (α (.side t)))) → tSeq (sFld K (tVar 5) (tC (.bl true)) "libero_moved") (tRet (tLst (tCons (tC (.int 0)) tNil))) { nx := fun _ H' => Q .non H', rt := Q } σ H2 := by
        intro H2 l S2 es σ hσ
        refine ⟨_, hσ, wSide T S2.rep Same.refl rfl T.na_Side_libero_moved (fun dx => Step.side S2.rep t sF_moved rfl rfl rfl rfl rfl rfl rfl) fun H3 S3' => ?_⟩
        have S3 := S2.trans S3'
        refine k.one S3 ?_
        rw [es]
        cases t <;> rfl
      refine ⟨_, rfl, _, rfl, _, rfl, α, s, t, j, y, i.toNat, by rw [ei]; rfl, R1, hy, hwf.2 y (List.mem_of_getElem? hy), _, rfl, ite2 (fun hc => ?_) (fun hc => ?_)⟩
      · obtain ⟨dx, hpl⟩ := R1.o_place t hy
        refine ⟨_, rfl, mPlace R1 hy rfl rfl ⟨_, dx, y, rfl, hpl, ?_⟩⟩
        refine fin _ none ((Step.same R sm).trans (Step.place R1 t hy rfl)) ?_ _ rfl
        rw [spec_eq, hsp, if_pos hc]
      · refine ⟨_, rfl, _, rfl, _, rfl, _, rfl, α, s, t, _, y, i.toNat, by rw [ei]; rfl, R1, hwf, q2, by rw [q1]; exact hy, _, rfl, ite2 (fun hc2 => ?_) (fun hc2 => ⟨_, rfl, ?_⟩)⟩
        · refine ⟨_, rfl, _, rfl, ?_⟩
          rw [ei]
          refine wPlace T R1 hy rfl T.na_Place_libero (fun dx => Step.place R1 t hy pF_libero) fun H2 S2' => ?_
          refine fin _ (some i.toNat) ((Step.same R sm).trans S2') ?_ _ rfl
          rw [spec_eq, hsp, if_neg hc, if_pos hc2]
        · refine k.num R ?_ sm
          rw [spec_eq, hsp, if_neg hc, if_neg hc2]
end
end Vs
end
section
set_option Elab.async false
set_option maxRecDepth 100000
set_option maxHeartbeats 2000000
namespace Vs
open PySem PySem.Spec PyProof.Rows L2 V6
open Kg60 (Slot Team State within)
section
variable {P : Program} {w : World} {K : PySem.W.Frag} {mg : Str → Option Value} {base : Heap} {d : Ad}
/-! ### cards -/
def spGoodCard : Sp := fun vs H Q _ => ∃ k c : Int, vs = [.int k, .int c] ∧ Q (.bl (within k 0 2 && within c 0 99)) H
theorem ok_good_card (T : Txt K mg d) : GF P w K mg base 2 d.f_good_card ["kind", "coming"] (spGoodCard) := by
  obtain ⟨fd, F⟩ := T.fn_good_card
  refine ⟨fd, F.ok sc_good_card (fun vs H Q E h => ?_) (fun cdv A outer sh H vs Q E hr h => ?_), F.binds (fun _ _ _ _ _ _ us hl => match us, hl with | [_, _], _ => rfl)⟩
  · obtain ⟨z, c, rfl, _⟩ := h; rfl
  · obtain ⟨z, c, rfl, k⟩ := h
    refine ⟨_, (pss_one (ps_ret (pe_and (pe_chain op_le op_le (V6.pe_k (by rfl) T.k_POINT) (pv 0) (V6.pe_k (by rfl) T.k_OUT_FOR_MATCH)) (pe_one (pe_or (pe_cmpR op_eq (pv 1) (V6.pe_k (by rfl) T.k_NOBODY_TOLD) (nomark _)) (pe_one (V6.qe_call (ok_is_shirt T) (hr.mono (by decide)) (by rfl) T.mg_is_shirt (V6.kp_of T.fn_is_shirt) (pa_cons (pv 1) pa_nil)))))))), ?_⟩
    refine ⟨_, rfl, _, _, rfl, rfl, _, rfl, ite2 (fun hc => ⟨_, _, rfl, rfl, _, rfl, ite2 (fun hc2 => ⟨_, rfl, rfl, _, rfl, ite2 (fun hc3 => ?_) (fun hc3 => ⟨_, rfl, c, rfl, ?_⟩)⟩) (fun hc2 => ?_)⟩) (fun hc => ⟨_, rfl, iteF ?_⟩)⟩
    · rw [eqI] at hc3
      have e : c = 0 := of_decide_eq_true hc3
      have e1 : within z 0 2 = true := by unfold Kg60.within; rw [hc, hc2]; rfl
      rw [e1, e] at k; exact k
    · rw [eqI] at hc3
      have e1 : within z 0 2 = true := by unfold Kg60.within; rw [hc, hc2]; rfl
      have e2 : within c 0 99 = within c 1 99 := by
        have : ¬ c = 0 := fun e => hc3 (decide_eq_true e)
        rw [Bool.eq_iff_iff, within_iff, within_iff]; omega
      rw [e1, e2, Bool.true_and] at k; exact k
    · have e1 : within z 0 2 = false := by unfold Kg60.within; rw [Bool.eq_false_iff.mpr hc2, Bool.and_false]
      rw [e1, Bool.false_and] at k; exact k
    · have e1 : within z 0 2 = false := by unfold Kg60.within; rw [Bool.eq_false_iff.mpr hc, Bool.false_and]
      rw [e1, Bool.false_and] at k; exact k
/-- what card_refusal tells -/
def spCardRef (d : Ad) : Sp := fun vs H Q _ => ∃ (α : Role → Addr) (s : State) (z p kk c : Int), vs = [.ref (α .game), .int z, .int p, .int kk, .int c] ∧ Rep d H α s ∧
  ((within kk 0 2 && within c 0 99) = false → ∀ H', Same H H' → Q (.int (-1)) H') ∧
  ((within kk 0 2 && within c 0 99) = true → playRef s z [p] < 0 → ∀ H', Same H H' → Q (.int (playRef s z [p])) H') ∧
  (∀ t, (within kk 0 2 && within c 0 99) = true → ¬ playRef s z [p] < 0 → z = ((bN t : Nat) : Int) → ((tm s t).players.contains p.toNat = false ∨ (tm s t).mayStand p.toNat = false) → ∀ H', Same H H' → Q (.int (-4)) H') ∧
  (∀ t, (within kk 0 2 && within c 0 99) = true → ¬ playRef s z [p] < 0 → z = ((bN t : Nat) : Int) → (tm s t).players.contains p.toNat = true → (tm s t).mayStand p.toNat = true → ∀ H', Same H H' → Q (.int 0) H')
theorem ok_card_refusal (T : Txt K mg d) : GF P w K mg base 4 d.f_card_refusal ["game", "team", "player", "kind", "coming"] (spCardRef d) := by
  obtain ⟨fd, F⟩ := T.fn_card_refusal
  refine ⟨fd, F.ok sc_card_refusal (fun vs H Q E h => ?_) (fun cdv A outer sh H vs Q E hr h => ?_), F.binds (fun _ _ _ _ _ _ us hl => match us, hl with | [_, _, _, _, _], _ => rfl)⟩
  · obtain ⟨α, s, z, p, kk, c, rfl, _⟩ := h; rfl
  · obtain ⟨α, s, z, p, kk, c, rfl, R, k1, k2, k3, k4⟩ := h
    refine ⟨_, (pss_cons (ps_if (pt_not (pt_val (V6.qe_call (ok_good_card T) (hr.mono (by decide)) (by rfl) T.mg_good_card (V6.kp_of T.fn_good_card) (pa_cons (pv 3) (pa_cons (pv 4) pa_nil))))) (pss_one (ps_ret (pe_un un_neg pe_int))) pss_nil) (pss_cons (ps_set (i := 5) sc_card_refusal.nd rfl (Or.inl rfl) (V6.qe_call (ok_play_refusal T) (hr.mono (by decide)) (by rfl) T.mg_play_refusal (V6.kp_of T.fn_play_refusal) (pa_cons (pv 0) (pa_cons (pv 1) (pa_cons (pe_lst (pa_cons (pv 2) pa_nil)) pa_nil))))) (pss_cons (ps_if (pt_cmpR op_lt (pv 5) pe_int (nomark _)) (pss_one (ps_ret (pv 5))) pss_nil) (pss_cons (ps_set (i := 6) sc_card_refusal.nd rfl (Or.inl rfl) (pe_ix ix_list (pe_fld (pv 0) rfl) (pv 1) (fun _ _ => rfl))) (pss_cons (ps_if (PW.pt (pw_or (pt_cmpR op_notIn_seq (pv 2) (pe_fld (pv 6) rfl) (by with_unfolding_all rfl)) (pw_or1 (pt_val (V6.qe_meth (pv 6) T.cl_Side T.me_Side_is_out (ok_Side_is_out T) (hr.mono (by decide)) (pa_cons (pv 2) pa_nil)))))) (pss_one (ps_ret (pe_un un_neg pe_int))) pss_nil) (pss_one (ps_ret pe_int))))))), ?_⟩
    refine ⟨_, rfl, _, rfl, kk, c, rfl, _, rfl, ite2 (fun hc => ⟨_, rfl, k1 (bnotT hc) H Same.refl⟩) (fun hc => ?_)⟩
    have hg : (within kk 0 2 && within c 0 99) = true := by
      cases q : within kk 0 2 && within c 0 99 with
      | true => rfl
      | false => rw [q] at hc; exact absurd rfl hc
    refine ⟨_, rfl, _, rfl, _, rfl, (by show 1 ≤ sizeLine; decide), fun p0 hp0 => ⟨α, s, z, p0, [p], rfl, R.same (Same.new hp0), SqL.of upd_same, (by show 1 ≤ 1000; decide), fun H1 sm1 => ?_⟩⟩
    have sm : Same H H1 := (Same.new hp0).trans sm1
    refine ⟨_, rfl, _, _, rfl, rfl, _, rfl, ite2 (fun hc => ⟨_, rfl, k2 hg (of_decide_eq_true hc) H1 sm⟩) (fun hc => ?_)⟩
    have hn : ¬ playRef s z [p] < 0 := fun q => hc (decide_eq_true q)
    obtain ⟨h1, hp⟩ := playRef_ok hn
    simp only [List.all_cons, List.all_nil, Bool.and_true, Bool.and_eq_true] at h1
    obtain ⟨t, e1, e2⟩ := bN_of h1.1
    have e3 := within_iff.mp h1.2
    have R1 := R.same sm
    have ev : V.int p = nV p.toNat := int_nV (by omega)
    refine ⟨_, rfl, rGame T R1 rfl T.na_Game_sides rfl ⟨_, rfl, _, _, _, _, rfl, rfl, SqL.of R1.o_sides, at_of e1 (sides_at α t), ?_⟩⟩
    refine ⟨_, rfl, _, rfl, rSide T R1 rfl T.na_Side_players rfl ⟨_, _, rfl, .inl (SqL.of (R1.o_players t)), rfl, flat_nats _, _, rfl, ?_⟩⟩
    rw [in_neg, ev, inV_nats]
    refine ite2 (fun hc => iteT ⟨_, rfl, k3 t hg hn e1 (.inl (by simpa using hc)) H1 sm⟩) (fun hc => ⟨_, rfl, mSide R1 rfl rfl ⟨_, rfl, α, s, t, p.toNat, rfl, R1, _, rfl, ite2 (fun hc2 => ⟨_, rfl, k3 t hg hn e1 (.inr (by simpa using hc2)) H1 sm⟩) (fun hc2 => k4 t hg hn e1 (by simpa using hc) (by simpa using hc2) H1 sm)⟩⟩)
def outT (x : Team) (kk : Int) (n : Nat) : Team := if kk = 1 then { x with outSet := x.outSet ++ [n] } else { x with outAll := x.outAll ++ [n] }
def spPutOut (d : Ad) : Sp := fun vs H Q _ => ∃ (α : Role → Addr) (s : State) (t : Bool) (n : Nat) (kk : Int), vs = [.ref (α (.side t)), nV n, .int kk] ∧ Rep d H α s ∧ OutLe 1000 (tm s t) ∧ ∀ H', Step d H α s H' α (putT s t (outT (tm s t) kk n)) → Q .non H'
theorem ok_put_out (T : Txt K mg d) : GF P w K mg base 1 d.f_put_out ["side", "player", "kind"] (spPutOut d) := by
  obtain ⟨fd, F⟩ := T.fn_put_out
  refine ⟨fd, F.ok sc_put_out (fun vs H Q E h => ?_) (fun cdv A outer sh H vs Q E hr h => ?_), F.binds (fun _ _ _ _ _ _ us hl => match us, hl with | [_, _, _], _ => rfl)⟩
  · obtain ⟨α, s, t, n, kk, rfl, _⟩ := h; rfl
  · obtain ⟨α, s, t, n, kk, rfl, R, hl, k⟩ := h
    obtain ⟨kv1, e1, k1⟩ := R.o_outS t
    obtain ⟨kv2, e2, k2⟩ := R.o_outM t
    have b1 : kv1.length < sizeLine := Nat.lt_of_le_of_lt (Nat.le_trans k1.2 hl.1) (by decide)
    have b2 : kv2.length < sizeLine := Nat.lt_of_le_of_lt (Nat.le_trans k2.2 hl.2) (by decide)
    refine ⟨_, (pss_one (ps_if (pt_cmpR op_eq (pv 2) (V6.pe_k (by rfl) T.k_OUT_FOR_SET) (nomark _)) (pss_one (ps_dput (hu_of hr) (pe_fld (pv 0) rfl) (pv 1) pe_bl rfl)) (pss_one (ps_dput (hu_of hr) (pe_fld (pv 0) rfl) (pv 1) pe_bl rfl)))), ?_⟩
    refine ⟨_, rfl, rfl, _, rfl, ?_⟩
    rw [eqI]
    refine ite2 (fun hc => ⟨_, rfl, rSide T R rfl T.na_Side_out_of_set rfl ⟨_, rfl, _, _, rfl, DPut.k (k := Sum.inl (n : Int)) e1 b1, ?_⟩⟩) (fun hc => ⟨_, rfl, rSide T R rfl T.na_Side_out_of_match rfl ⟨_, rfl, _, _, rfl, DPut.k (k := Sum.inl (n : Int)) e2 b2, ?_⟩⟩)
    · refine k _ ?_
      unfold outT
      rw [if_pos (of_decide_eq_true hc)]
      exact Step.outS R t k1
    · refine k _ ?_
      unfold outT
      rw [if_neg (fun q => hc (decide_eq_true q))]
      exact Step.outM R t k2
def spFill (d : Ad) : Sp := fun vs H Q _ => ∃ (α : Role → Addr) (s : State) (t : Bool) (n m : Nat), vs = [.ref (α (.side t)), nV n, nV m] ∧ Rep d H α s ∧ (∀ y ∈ (tm s t).slots, PhOk y) ∧ (tm s t).slots.length ≤ 1000 ∧
  (Kg60.findSlot (tm s t) (isAt n) = none → ∀ H', Same H H' → Q (.int 0) H') ∧
  (∀ i y, Kg60.findSlot (tm s t) (isAt n) = some i → (tm s t).slots[i]? = some y → y.libero = some n → ∀ H', Step d H α s H' α (putT s t { tm s t with slots := (tm s t).slots.set i { y with libero := none }, changed := true }) → Q (.int 1) H') ∧
  (∀ i y, Kg60.findSlot (tm s t) (isAt n) = some i → (tm s t).slots[i]? = some y → ¬ y.libero = some n → subOk (tm s t) { y with libero := none } m = true → ∀ H', Step d H α s H' α (putT s t { tm s t with slots := (tm s t).slots.set i (putIn y m), subs := (tm s t).subs + 1 }) → Q (.int 1) H') ∧
  (∀ i y, Kg60.findSlot (tm s t) (isAt n) = some i → (tm s t).slots[i]? = some y → ¬ y.libero = some n → subOk (tm s t) { y with libero := none } m = false → ∀ H', Same H H' → Q (.int 2) H')
theorem ok_fill_place (T : Txt K mg d) : GF P w K mg base 3 d.f_fill_place ["side", "player", "coming"] (spFill d) := by
  obtain ⟨fd, F⟩ := T.fn_fill_place
  refine ⟨fd, F.ok sc_fill_place (fun vs H Q E h => ?_) (fun cdv A outer sh H vs Q E hr h => ?_), F.binds (fun _ _ _ _ _ _ us hl => match us, hl with | [_, _, _], _ => rfl)⟩
  · obtain ⟨α, s, t, n, m, rfl, _⟩ := h; rfl
  · obtain ⟨α, s, t, n, m, rfl, R, hph, hl, k1, k2, k3, k4⟩ := h
    refine ⟨_, (pss_cons (ps_set (i := 3) sc_fill_place.nd rfl (Or.inl rfl) (V6.qe_meth (pv 0) T.cl_Side T.me_Side_place_of (ok_Side_place_of T) (hr.mono (by decide)) (pa_cons (pv 1) pa_nil))) (pss_cons (ps_if (pt_cmpR op_isN (pv 3) pe_non (nomark _)) (pss_one (ps_ret (V6.pe_k (by rfl) T.k_NOBODY_LEAVES))) pss_nil) (pss_cons (ps_if (pt_cmpR op_eq (pe_fld (pv 3) rfl) (pv 1) (nomark _)) (pss_cons (ps_expr (V6.qe_meth0 (pv 3) T.cl_Place T.me_Place_send_libero_off (ok_Place_send_libero_off T) (hr.mono (by decide)))) (pss_cons (ps_fld (pv 0) pe_bl rfl) (pss_one (ps_ret (V6.pe_k (by rfl) T.k_SOMEBODY_COMES))))) pss_nil) (pss_cons (ps_if (pt_not (pt_val (V6.qe_call (ok_may_replace T) (hr.mono (by decide)) (by rfl) T.mg_may_replace (V6.kp_of T.fn_may_replace) (pa_cons (pv 0) (pa_cons (pv 3) (pa_cons (pv 2) pa_nil)))))) (pss_one (ps_ret (V6.pe_k (by rfl) T.k_SET_LOST))) pss_nil) (pss_cons (ps_expr (V6.qe_call (ok_replace_owner T) (hr.mono (by decide)) (by rfl) T.mg_replace_owner (V6.kp_of T.fn_replace_owner) (pa_cons (pv 0) (pa_cons (pv 3) (pa_cons (pv 2) pa_nil))))) (pss_one (ps_ret (V6.pe_k (by rfl) T.k_SOMEBODY_COMES)))))))), ?_⟩
    refine ⟨_, rfl, mSide R rfl rfl ⟨_, rfl, α, s, t, n, rfl, R, hph, fun hf => ?_, fun i y hf hy => ?_⟩⟩
    · exact ⟨_, rfl, rfl, _, rfl, iteT (k1 hf H Same.refl)⟩
    · refine ⟨_, rfl, rfl, _, rfl, iteF ?_⟩
      refine ⟨_, rfl, rPlace T R hy rfl T.na_Place_libero rfl ⟨_, rfl, rfl, _, rfl, ?_⟩⟩
      have e : decide (oV y.libero = nV n) = decide (y.libero = some n) := by
        cases y.libero with
        | none => rw [show nV n = V.int (n : Int) from rfl, show oV none = V.int (-1) from rfl, eqI, decide_eq_false (by omega), decide_eq_false (by intro e; cases e)]
        | some q =>
          rw [show oV (some q) = nV q from rfl, on_nV, Bool.eq_iff_iff, decide_eq_true_iff, decide_eq_true_iff]
          exact ⟨fun e => by rw [e], fun e => Option.some.inj e⟩
      rw [e]
      refine ite2 (fun hc => ?_) (fun hc => ?_)
      · obtain ⟨dx, hpl⟩ := R.o_place t hy
        refine ⟨_, rfl, mPlace R hy rfl rfl ⟨_, dx, y, rfl, hpl, ?_⟩⟩
        have S1 : Step d H α s (upd H (α (.place t i)) (.ins d.c_Place dx (placeF { y with libero := none }))) α _ := Step.place R t hy rfl
        revert S1
        generalize upd H (α (.place t i)) _ = H1
        intro S1
        refine ⟨_, rfl, wSide T S1.rep Same.refl rfl T.na_Side_libero_moved (fun dx => Step.side S1.rep t sF_moved rfl rfl rfl rfl rfl rfl rfl) fun H2 S2' => ?_⟩
        refine k2 i y hf hy (of_decide_eq_true hc) H2 ?_
        have S2 := S1.trans S2'
        have e : ∀ x y : State, x = y → Step d H α s H2 α x → Step d H α s H2 α y := fun x y e h => e ▸ h
        refine e _ _ ?_ S2
        cases t <;> rfl
      · have hne : ¬ y.libero = some n := fun q => hc (decide_eq_true q)
        refine ⟨_, rfl, _, rfl, _, rfl, α, s, t, i, y, m, rfl, R, hy, hl, fun H1 sm => ⟨_, rfl, ite2 (fun hc2 => k4 i y hf hy hne (by simpa using hc2) H1 sm) (fun hc2 => ?_)⟩⟩
        refine ⟨_, rfl, _, rfl, _, rfl, α, s, t, i, y, m, rfl, R.same sm, hy, fun H2 S2 => ?_⟩
        exact k3 i y hf hy hne (by simpa using hc2) H2 ((Step.same R sm).trans S2)
def spCardA (d : Ad) : Sp := fun vs H Q _ => ∃ (α : Role → Addr) (s : State) (z p kk c : Int), vs = [.ref (α .game), .int z, .int p, .int kk, .int c] ∧ Rep d H α s ∧ Good s ∧ AnsOk d H α s (.card z p kk c) Q
theorem ok_answer_card (T : Txt K mg d) : GF P w K mg base 6 d.f_answer_card ["game", "team", "player", "kind", "coming"] (spCardA d) := by
  obtain ⟨fd, F⟩ := T.fn_answer_card
  refine ⟨fd, F.ok sc_answer_card (fun vs H Q E h => ?_) (fun cdv A outer sh H vs Q E hr h => ?_), F.binds (fun _ _ _ _ _ _ us hl => match us, hl with | [_, _, _, _, _], _ => rfl)⟩
  · obtain ⟨α, s, z, p, kk, c, rfl, _⟩ := h; rfl
  · obtain ⟨α, s, z, p, kk, c, rfl, R, G, k⟩ := h
    refine ⟨_, (pss_cons (ps_set (i := 5) sc_answer_card.nd rfl (Or.inl rfl) (V6.qe_call (ok_card_refusal T) (hr.mono (by decide)) (by rfl) T.mg_card_refusal (V6.kp_of T.fn_card_refusal) (pa_cons (pv 0) (pa_cons (pv 1) (pa_cons (pv 2) (pa_cons (pv 3) (pa_cons (pv 4) pa_nil))))))) (pss_cons (ps_if (pt_cmpR op_lt (pv 5) pe_int (nomark _)) (pss_one (ps_ret (pe_lst (pa_cons (pv 5) pa_nil)))) pss_nil) (pss_cons (ps_if (pt_cmpR op_eq (pv 3) (V6.pe_k (by rfl) T.k_POINT) (nomark _)) (pss_cons (ps_expr (V6.qe_meth (pv 0) T.cl_Game T.me_Game_win_point (ok_Game_win_point T) (hr.mono (by decide)) (pa_cons (pe_op op_sub pe_int (pv 1)) pa_nil))) (pss_one (ps_ret (pe_op op_cat (pe_lst (pa_cons (V6.pe_k (by rfl) T.k_NOBODY_LEAVES) pa_nil)) (V6.qe_meth0 (pv 0) T.cl_Game T.me_Game_how_it_stands (ok_Game_how_it_stands T) (hr.mono (by decide))))))) pss_nil) (pss_cons (ps_set (i := 6) sc_answer_card.nd rfl (Or.inl rfl) (pe_ix ix_list (pe_fld (pv 0) rfl) (pv 1) (fun _ _ => rfl))) (pss_cons (ps_expr (V6.qe_call (ok_put_out T) (hr.mono (by decide)) (by rfl) T.mg_put_out (V6.kp_of T.fn_put_out) (pa_cons (pv 6) (pa_cons (pv 2) (pa_cons (pv 3) pa_nil))))) (pss_cons (ps_set (i := 7) sc_answer_card.nd rfl (Or.inl rfl) (V6.qe_call (ok_fill_place T) (hr.mono (by decide)) (by rfl) T.mg_fill_place (V6.kp_of T.fn_fill_place) (pa_cons (pv 6) (pa_cons (pv 2) (pa_cons (pv 4) pa_nil))))) (pss_cons (ps_if (pt_cmpR op_eq (pv 7) (V6.pe_k (by rfl) T.k_SET_LOST) (nomark _)) (pss_one (ps_expr (V6.qe_meth (pv 0) T.cl_Game T.me_Game_lose_set (ok_Game_lose_set T) (hr.mono (by decide)) (pa_cons (pv 1) pa_nil)))) pss_nil) (pss_one (ps_ret (pe_op op_cat (pe_lst (pa_cons (pv 7) pa_nil)) (V6.qe_meth0 (pv 0) T.cl_Game T.me_Game_how_it_stands (ok_Game_how_it_stands T) (hr.mono (by decide))))))))))))), ?_⟩
    refine ⟨_, rfl, _, rfl, _, rfl, _, rfl, _, rfl, α, s, z, p, kk, c, rfl, R, fun hg H1 sm => ?_, fun hg hn H1 sm => ?_, fun t hg hn e1 ho H1 sm => ?_, fun t hg hn e1 ho1 ho2 H1 sm => ?_⟩
    · refine ⟨_, rfl, _, _, rfl, rfl, _, rfl, iteT ⟨_, rfl, ?_⟩⟩
      refine k.num R ?_ sm
      unfold Kg60.spec
      have e : (within z 0 1 && (within p 1 99 && (within kk 0 2 && within c 0 99))) = false := by rw [hg, Bool.and_false, Bool.and_false]
      simp only [e, if_true]
    · refine ⟨_, rfl, _, _, rfl, rfl, _, rfl, ?_⟩
      rw [decide_eq_true hn]
      refine iteT ⟨_, rfl, ?_⟩
      rcases playRef_neg hn with ⟨h1, h2⟩ | ⟨h1, h2, h3⟩
      · rw [h2]
        refine k.num R ?_ sm
        simp only [List.all_cons, List.all_nil, Bool.and_true] at h1
        unfold Kg60.spec
        have e : (within z 0 1 && (within p 1 99 && (within kk 0 2 && within c 0 99))) = false := by rw [← Bool.and_assoc, h1, Bool.false_and]
        simp only [e, if_true]
      · rw [h3]
        refine k.num R ?_ sm
        simp only [List.all_cons, List.all_nil, Bool.and_true] at h1
        unfold Kg60.spec
        have e : (within z 0 1 && (within p 1 99 && (within kk 0 2 && within c 0 99))) = true := by rw [← Bool.and_assoc, h1, hg]; rfl
        simp only [e, onSet_no h2, Bool.true_eq_false, if_false]
    · obtain ⟨h1, hp⟩ := playRef_ok hn
      simp only [List.all_cons, List.all_nil, Bool.and_true] at h1
      have e2 : z.toNat = bN t := by rw [e1]; rfl
      refine ⟨_, rfl, _, _, rfl, rfl, _, rfl, iteT ⟨_, rfl, ?_⟩⟩
      refine k.num R ?_ sm
      unfold Kg60.spec
      have e : (within z 0 1 && (within p 1 99 && (within kk 0 2 && within c 0 99))) = true := by rw [← Bool.and_assoc, h1, hg]; rfl
      simp only [e, onSet_yes hp, Bool.true_eq_false, if_false, e2, team_tm]
      rw [if_pos ho]
    · obtain ⟨h1, hp⟩ := playRef_ok hn
      simp only [List.all_cons, List.all_nil, Bool.and_true] at h1
      have e2 : z.toNat = bN t := by rw [e1]; rfl
      have ew : (within z 0 1 && (within p 1 99 && (within kk 0 2 && within c 0 99))) = true := by rw [← Bool.and_assoc, h1, hg]; rfl
      rw [Bool.and_eq_true] at h1 hg
      have e3 := within_iff.mp h1.2
      have e4 := within_iff.mp hg.2
      have hno : ¬ ((tm s t).players.contains p.toNat = false ∨ (tm s t).mayStand p.toNat = false) := by rw [ho1, ho2]; decide
      have spec1 : Kg60.spec s (.card z p kk c) = if kk = 0 then (s.point (bN (!t)), ⟨0, Kg60.whole (Kg60.told (s.point (bN (!t))))⟩) else Kg60.sentOff (putT s t (outT (tm s t) kk p.toNat)) (bN t) p.toNat c.toNat := by
        unfold Kg60.spec
        simp only [ew, onSet_yes hp, Bool.true_eq_false, if_false, e2, team_tm]
        rw [if_neg hno, one_sub, set_putT]
        rfl
      subst e1
      have R1 := R.same sm
      refine ⟨_, rfl, _, _, rfl, rfl, _, rfl, iteF ?_⟩
      refine ⟨_, rfl, rfl, _, rfl, ?_⟩
      rw [eqI]
      refine ite2 (fun hc => ?_) (fun hc => ?_)
      · have hk : kk = 0 := of_decide_eq_true hc
        rw [if_pos hk] at spec1
        refine ⟨_, rfl, mGame R1 rfl rfl ⟨_, rfl, _, _, rfl, rfl, α, s, !t, congrArg (fun v => [V.ref (α .game), v]) (congrArg V.int (sub_bN t)), R1, G.g, fun H3 α3 S3' => ?_⟩⟩
        have S3 := (Step.same R sm).trans S3'
        exact how_cat (i := 0) rfl k S3 (S3.ad .game rfl).symm spec1
      · have hk : ¬ kk = 0 := fun q => hc (decide_eq_true q)
        rw [if_neg hk] at spec1
        have ep : V.int p = nV p.toNat := int_nV (by omega)
        have ec : V.int c = nV c.toNat := int_nV (by omega)
        have gt := G.g.tm t
        refine ⟨_, rfl, rGame T R1 rfl T.na_Game_sides rfl ⟨_, rfl, _, _, _, _, rfl, rfl, SqL.of R1.o_sides, atI_nat (sides_at α t), ?_⟩⟩
        refine ⟨_, rfl, _, rfl, _, rfl, α, s, t, p.toNat, kk, by rw [ep]; rfl, R1, G.l.at_ t, fun H2 S2' => ?_⟩
        have S2 := (Step.same R sm).trans S2'
        clear S2'
        have es : (outT (tm s t) kk p.toNat).slots = (tm s t).slots := by unfold outT; split <;> rfl
        have gx : GT (outT (tm s t) kk p.toNat) := by unfold outT; split <;> exact gt.same rfl gt.fst rfl gt.subs
        have g1 : GS (putT s t (outT (tm s t) kk p.toNat)) := by
          rw [← set_putT]
          refine G.g.setTeam _ gx (fun _ => ?_) ?_ ?_
          · rw [es]; exact (wf_of G.g hp t).1
          · rw [team_tm]; unfold outT; split <;> rfl
          · rw [team_tm]; unfold outT; split <;> rfl
        have hr : ∀ y ∈ (outT (tm s t) kk p.toNat).slots, y.regular ≠ p.toNat → (outT (tm s t) kk p.toNat).mayStand y.regular = true := fun y hy hne => by
          rw [out_stand (x := tm s t) (p := p.toNat) (by unfold outT; split; exact .inl ⟨rfl, rfl⟩; exact .inr ⟨rfl, rfl⟩) hne]
          exact G.o.at_ t y (by rw [← es]; exact hy)
        rw [sent_off (by rw [tm_putT]; exact gx) (by rw [tm_putT]; exact hr), tm_putT] at spec1
        generalize hs1 : putT s t (outT (tm s t) kk p.toNat) = s1 at S2 g1 spec1
        have ex : tm s1 t = outT (tm s t) kk p.toNat := by rw [← hs1, tm_putT]
        rw [← ex] at gx es spec1
        -- how it ends: nobody lost the set
        have fin : ∀ (o : Int) H3 α3 s3, o ≠ 2 → Step d H α s H3 α3 s3 → Kg60.spec s (.card ((bN t : Nat) : Int) p kk c) = (s3, ⟨o, Kg60.whole (Kg60.told s3)⟩) →
            ∀ (σ : L2.St), σ[0]? = some (some (.ref (α .game))) → σ[7]? = some (some (.int o)) → tSeq (tIfS (tTest (tOp rEq (tVar 7) (tC (.int 2)))) (tDrop (tMeth d.c_Game "lose_set" (spLose d) [] E0 (tVar 0) (tCons (tVar 1) tNil))) tNext) (tRet (tOp rCat (tLst (tCons (tVar 7) tNil)) (tMeth d.c_Game "how_it_stands" (spHow d) [] E0 (tVar 0) tNil))) { nx := fun _ H' => Q .non H', rt := Q } σ H3 := by
          intro o H3 α3 s3 ho S3 e σ h0 h7
          refine ⟨_, h7, rfl, _, rfl, ?_⟩
          rw [eqI, decide_eq_false ho]
          refine iteF ⟨_, h7, ?_⟩
          exact how_cat (i := 0) h0 k S3 (S3.ad .game rfl).symm e
        refine ⟨_, rfl, _, rfl, _, rfl, α, s1, t, p.toNat, c.toNat, by rw [ep, ec]; rfl, S2.rep, ?_, ?_, fun hf H3 sm3 => ?_, fun i y hf hy hlb H3 S3' => ?_, fun i y hf hy hlb hs H3 S3' => ?_, fun i y hf hy hlb hs H3 sm3 => ?_⟩
        · exact ph_of g1 t
        · rw [es, (wf_of G.g hp t).1]; decide
        · have hf' : Kg60.findSlot (tm s1 t) (fun y => y.regular == p.toNat || y.libero == some p.toNat) = none := hf
          rw [hf'] at spec1
          exact fin 0 H3 α s1 (by decide) (S2.right sm3) spec1 _ rfl rfl
        · have hf' : Kg60.findSlot (tm s1 t) (fun y => y.regular == p.toNat || y.libero == some p.toNat) = some i := hf
          rw [hf'] at spec1
          simp only [hy] at spec1
          rw [if_pos hlb] at spec1
          refine fin 1 H3 α _ (by decide) (S2.trans S3') ?_ _ rfl rfl
          rw [spec1]
          cases t <;> rfl
        · have hf' : Kg60.findSlot (tm s1 t) (fun y => y.regular == p.toNat || y.libero == some p.toNat) = some i := hf
          rw [hf'] at spec1
          simp only [hy] at spec1
          rw [if_neg hlb, if_pos hs] at spec1
          refine fin 1 H3 α _ (by decide) (S2.trans S3') ?_ _ rfl rfl
          rw [spec1]
          cases t <;> rfl
        · have hf' : Kg60.findSlot (tm s1 t) (fun y => y.regular == p.toNat || y.libero == some p.toNat) = some i := hf
          rw [hf'] at spec1
          simp only [hy] at spec1
          rw [if_neg hlb, if_neg (by rw [hs]; decide)] at spec1
          have S3 := S2.right sm3
          refine ⟨_, rfl, rfl, _, rfl, iteT ⟨_, rfl, mGame S3.rep rfl rfl ⟨_, rfl, α, s1, t, rfl, S3.rep, g1, fun H4 α4 S4' => ?_⟩⟩⟩
          have S4 := S3.trans S4'
          exact ⟨_, rfl, how_cat (i := 0) rfl k S4 (S4.ad .game rfl).symm spec1⟩
end
end Vs
end
section
set_option Elab.async false
set_option maxRecDepth 100000
set_option maxHeartbeats 2000000
namespace Vs
open PySem PySem.Spec PyProof.Rows L2 V6
open Kg60 (Slot Team State within)
section
variable {P : Program} {w : World} {K : PySem.W.Frag} {mg : Str → Option Value} {base : Heap} {d : Ad}
/-! ### a new match -/
def gameI (b : Bool) (sd pt wn ov : Addr) : List (Str × V) := [("begun", .bl b), ("sides", .ref sd), ("points", .ref pt), ("sets_won", .ref wn), ("points_of_sets", .ref ov), ("server", nV 0), ("first_server", nV 0), ("playing", .bl false)]
def spGameInit (d : Ad) : Sp := fun vs H Q _ => ∃ (a dx : Addr) (b : Bool) (sd : Addr), vs = [.ref a, .bl b, .ref sd] ∧ H a = some (.ins d.c_Game dx []) ∧
  ∀ H' pt wn ov, (∀ b o, H b = some o → b ≠ a → H' b = some o) → H' a = some (.ins d.c_Game dx (gameI b sd pt wn ov)) → H pt = none → H wn = none → H ov = none → pt ≠ wn → pt ≠ ov → wn ≠ ov → H' pt = some (.lst [nV 0, nV 0]) → H' wn = some (.lst [nV 0, nV 0]) → H' ov = some (.lst []) → Q .non H'
theorem ok_Game_init (T : Txt K mg d) : GF P w K mg base 1 d.f_Game_init ["self", "begun", "sides"] (spGameInit d) := by
  obtain ⟨fd, F⟩ := T.fn_Game_init
  refine ⟨fd, F.ok sc_Game_init (fun vs H Q E h => ?_) (fun cdv A outer sh H vs Q E hr h => ?_), F.binds (fun _ _ _ _ _ _ us hl => match us, hl with | [_, _, _], _ => rfl)⟩
  · obtain ⟨a, dx, b, sd, rfl, _⟩ := h; rfl
  · obtain ⟨a, dx, b, sd, rfl, h1, k⟩ := h
    refine ⟨_, (pss_cons (ps_fld (pv 0) (pv 1) rfl) (pss_cons (ps_fld (pv 0) (pv 2) rfl) (pss_cons (ps_fld (pv 0) (pe_lst (pa_cons pe_int (pa_cons pe_int pa_nil))) rfl) (pss_cons (ps_fld (pv 0) (pe_lst (pa_cons pe_int (pa_cons pe_int pa_nil))) rfl) (pss_cons (ps_fld (pv 0) (pe_lst pa_nil) rfl) (pss_cons (ps_fld (pv 0) pe_int rfl) (pss_cons (ps_fld (pv 0) pe_int rfl) (pss_one (ps_fld (pv 0) pe_bl rfl))))))))), ?_⟩
    refine ⟨_, rfl, _, rfl, wF h1 T.cl_Game T.na_Game_begun (show 0 < 1000 by decide) ?_⟩
    refine ⟨_, rfl, _, rfl, wF upd_same T.cl_Game T.na_Game_sides (show 1 < 1000 by decide) ?_⟩
    rw [upd_upd]
    refine ⟨by show 2 ≤ sizeLine; decide, fun os hos => ?_⟩
    have n1 : a ≠ os := ne_of_none upd_same hos
    refine ⟨_, rfl, wF ((upd_ne n1).trans upd_same) T.cl_Game T.na_Game_points (show 2 < 1000 by decide) ?_⟩
    refine ⟨by show 2 ≤ sizeLine; decide, fun om hom => ?_⟩
    have n2 : a ≠ om := ne_of_none upd_same hom
    refine ⟨_, rfl, wF ((upd_ne n2).trans upd_same) T.cl_Game T.na_Game_sets_won (show 3 < 1000 by decide) ?_⟩
    refine ⟨Nat.zero_le _, fun pl hpl => ?_⟩
    have n3 : a ≠ pl := ne_of_none upd_same hpl
    refine ⟨_, rfl, wF ((upd_ne n3).trans upd_same) T.cl_Game T.na_Game_points_of_sets (show 4 < 1000 by decide) ?_⟩
    refine ⟨_, rfl, wF upd_same T.cl_Game T.na_Game_server (show 5 < 1000 by decide) ?_⟩
    rw [upd_upd]
    refine ⟨_, rfl, wF upd_same T.cl_Game T.na_Game_first_server (show 6 < 1000 by decide) ?_⟩
    rw [upd_upd]
    refine ⟨_, rfl, wF upd_same T.cl_Game T.na_Game_playing (show 7 < 1000 by decide) ?_⟩
    rw [upd_upd]
    have fos : H os = none := by rw [upd_ne n1.symm] at hos; exact hos
    have m1 : om ≠ os := fun e => by rw [e, upd_ne n1.symm, upd_same] at hom; cases hom
    have fom : H om = none := by rw [upd_ne n2.symm, upd_ne m1, upd_ne n2.symm] at hom; exact hom
    have m2 : pl ≠ om := fun e => by rw [e, upd_ne n2.symm, upd_same] at hpl; cases hpl
    have m3 : pl ≠ os := fun e => by rw [e, upd_ne n1.symm, upd_ne (fun z => m1 z.symm), upd_ne n1.symm, upd_same] at hpl; cases hpl
    have fpl : H pl = none := by rw [upd_ne n3.symm, upd_ne m2, upd_ne n3.symm, upd_ne m3, upd_ne n3.symm] at hpl; exact hpl
    refine k _ os om pl (fun b o e hb => ?_) upd_same fos fom fpl (fun e => m1 e.symm) (fun e => m3 e.symm) (fun e => m2 e.symm) ?_ ?_ ?_
    · rw [upd_ne hb, upd_ne (ne_of_none e fpl), upd_ne hb, upd_ne (ne_of_none e fom), upd_ne hb, upd_ne (ne_of_none e fos), upd_ne hb]; exact e
    · rw [upd_ne n1.symm, upd_ne (fun e => m3 e.symm), upd_ne n1.symm, upd_ne (fun e => m1 e.symm), upd_ne n1.symm, upd_same]; rfl
    · rw [upd_ne n2.symm, upd_ne (fun e => m2 e.symm), upd_ne n2.symm, upd_same]; rfl
    · rw [upd_ne n3.symm, upd_same]
/-- new things -/
def New (H H' : Hp) (L : List Addr) : Prop := L.Nodup ∧ ∀ a ∈ L, H a = none ∧ ∃ o, H' a = some o
theorem New.one {H : Hp} {a : Addr} {o : HO} (h : H a = none) : New H (upd H a o) [a] := ⟨List.nodup_cons.mpr ⟨List.not_mem_nil, List.nodup_nil⟩, fun b hb => by rw [List.mem_singleton.mp hb]; exact ⟨h, o, upd_same⟩⟩
theorem New.app {H H1 H2 : Hp} {L1 L2 : List Addr} (A : New H H1 L1) (s1 : Same H H1) (B : New H1 H2 L2) (s2 : Same H1 H2) : New H H2 (L2 ++ L1) := by
  refine ⟨List.nodup_append.mpr ⟨B.1, A.1, fun a ha b hb e => ?_⟩, fun a ha => ?_⟩
  · obtain ⟨_, o, ho⟩ := A.2 b hb
    have := (B.2 a ha).1
    rw [e, ho] at this; cases this
  · rcases List.mem_append.mp ha with h | h
    · obtain ⟨h1, h2⟩ := B.2 a h
      exact ⟨s1.free h1, h2⟩
    · obtain ⟨h1, o, h2⟩ := A.2 a h
      exact ⟨h1, o, s2 a o h2⟩
/-- an instance made, with three things of its own -/
theorem made3 {H H' : Hp} {C x dx os om pl : Addr} {o o1 o2 o3 : HO} (hx : H x = none) (hdx : H dx = none) (fr : ∀ b o, (upd (upd H dx (.own x)) x (.ins C dx [])) b = some o → b ≠ x → H' b = some o) (ha : H' x = some o)
    (h1 : (upd (upd H dx (.own x)) x (.ins C dx [])) os = none) (h2 : (upd (upd H dx (.own x)) x (.ins C dx [])) om = none) (h3 : (upd (upd H dx (.own x)) x (.ins C dx [])) pl = none) (n1 : os ≠ om) (n2 : os ≠ pl) (n3 : om ≠ pl)
    (e1 : H' os = some o1) (e2 : H' om = some o2) (e3 : H' pl = some o3) : Same H H' ∧ New H H' [x, os, om, pl] := by
  have f1 : H os = none := upd_none (upd_none h1)
  have f2 : H om = none := upd_none (upd_none h2)
  have f3 : H pl = none := upd_none (upd_none h3)
  have x1 : x ≠ os := ne_of_none upd_same h1
  have x2 : x ≠ om := ne_of_none upd_same h2
  have x3 : x ≠ pl := ne_of_none upd_same h3
  refine ⟨fun b o e => fr b o (by rw [upd_ne (ne_of_none e hx), upd_ne (ne_of_none e hdx)]; exact e) (ne_of_none e hx), ?_, fun a ha' => ?_⟩
  · simp only [List.nodup_cons, List.mem_cons, List.not_mem_nil, or_false, not_or]
    exact ⟨⟨x1, x2, x3⟩, ⟨n1, n2⟩, n3, fun h => h, List.nodup_nil⟩
  · simp only [List.mem_cons, List.not_mem_nil, or_false] at ha'
    rcases ha' with rfl | rfl | rfl | rfl
    · exact ⟨hx, _, ha⟩
    · exact ⟨f1, _, e1⟩
    · exact ⟨f2, _, e2⟩
    · exact ⟨f3, _, e3⟩
/-! where all of it stands: the list of addresses, and each role's place in it -/
def ixR : Role → Nat
  | .book => 0
  | .game => 1
  | .points => 2
  | .won => 3
  | .over => 4
  | .sides => 5
  | .side true => 6
  | .outS true => 7
  | .outM true => 8
  | .places true => 9
  | .side false => 10
  | .outS false => 11
  | .outM false => 12
  | .places false => 13
  | .players false => 14
  | .players true => 15
  | .libs false => 16
  | .libs true => 17
  | .place _ _ => 18
def roleAt : Nat → Role
  | 0 => .book
  | 1 => .game
  | 2 => .points
  | 3 => .won
  | 4 => .over
  | 5 => .sides
  | 6 => .side true
  | 7 => .outS true
  | 8 => .outM true
  | 9 => .places true
  | 10 => .side false
  | 11 => .outS false
  | 12 => .outM false
  | 13 => .places false
  | 14 => .players false
  | 15 => .players true
  | 16 => .libs false
  | 17 => .libs true
  | _ => .place false 0
def newS (b : Bool) (p0 l0 p1 l1 : List Nat) : State := { Kg60.init with ready := b, a := { Kg60.nobody with players := p0, liberos := l0 }, b := { Kg60.nobody with players := p1, liberos := l1 } }
def onL (L : List Addr) : Role → Addr := fun r => L.getD (ixR r) 0
theorem new_live {b : Bool} {p0 l0 p1 l1 : List Nat} {r : Role} (h : Live (newS b p0 l0 p1 l1) r) : roleAt (ixR r) = r ∧ ixR r < 18 := by
  cases r with
  | place t i => cases t <;> exact absurd h (Nat.not_lt_zero _)
  | side t => cases t <;> exact ⟨rfl, by decide⟩
  | players t => cases t <;> exact ⟨rfl, by decide⟩
  | libs t => cases t <;> exact ⟨rfl, by decide⟩
  | outS t => cases t <;> exact ⟨rfl, by decide⟩
  | outM t => cases t <;> exact ⟨rfl, by decide⟩
  | places t => cases t <;> exact ⟨rfl, by decide⟩
  | _ => exact ⟨rfl, by decide⟩
theorem new_rep {H : Hp} {bk g pt wn ov sd s1 os1 om1 pl1 s0 os0 om0 pl0 p0 p1 l0 l1 dg d0 d1 db : Addr} {b : Bool} {P0 P1 L0 L1 : List Nat}
    (nd : [bk, g, pt, wn, ov, sd, s1, os1, om1, pl1, s0, os0, om0, pl0, p0, p1, l0, l1].Nodup)
    (hg : H g = some (.ins d.c_Game dg (gameI b sd pt wn ov))) (hpt : H pt = some (.lst [nV 0, nV 0])) (hwn : H wn = some (.lst [nV 0, nV 0])) (hov : H ov = some (.lst [])) (hsd : H sd = some (.lst [.ref s0, .ref s1]))
    (hs1 : H s1 = some (.ins d.c_Side d1 (sideI p1 l1 os1 om1 pl1))) (ho1 : H os1 = some (.dK [])) (hm1 : H om1 = some (.dK [])) (hpl1 : H pl1 = some (.lst []))
    (hs0 : H s0 = some (.ins d.c_Side d0 (sideI p0 l0 os0 om0 pl0))) (ho0 : H os0 = some (.dK [])) (hm0 : H om0 = some (.dK [])) (hpl0 : H pl0 = some (.lst []))
    (hp0 : H p0 = some (.lst (P0.map nV))) (hp1 : H p1 = some (.lst (P1.map nV))) (hl0 : H l0 = some (.lst (L0.map nV))) (hl1 : H l1 = some (.lst (L1.map nV))) :
    Rep d (upd H bk (.ins d.c_Book db [("game", .ref g)])) (onL [bk, g, pt, wn, ov, sd, s1, os1, om1, pl1, s0, os0, om0, pl0, p0, p1, l0, l1]) (newS b P0 L0 P1 L1) := by
  have nb : ∀ a ∈ [g, pt, wn, ov, sd, s1, os1, om1, pl1, s0, os0, om0, pl0, p0, p1, l0, l1], a ≠ bk := fun a ha e => (List.nodup_cons.mp nd).1 (by rw [← e]; exact ha)
  have keep : ∀ a ∈ [g, pt, wn, ov, sd, s1, os1, om1, pl1, s0, os0, om0, pl0, p0, p1, l0, l1], ∀ o, H a = some o → (upd H bk (.ins d.c_Book db [("game", .ref g)])) a = some o := fun a ha o h => by rw [upd_ne (nb a ha)]; exact h
  refine ⟨fun r q hr hq e => ?_, fun r hr => ?_⟩
  · obtain ⟨e1, k1⟩ := new_live hr
    obtain ⟨e2, k2⟩ := new_live hq
    have g1 : ∀ i, i < 18 → [bk, g, pt, wn, ov, sd, s1, os1, om1, pl1, s0, os0, om0, pl0, p0, p1, l0, l1][i]? = some ([bk, g, pt, wn, ov, sd, s1, os1, om1, pl1, s0, os0, om0, pl0, p0, p1, l0, l1].getD i 0) := fun i hi => by
      rw [List.getD_eq_getElem?_getD, List.getElem?_eq_getElem (show i < [bk, g, pt, wn, ov, sd, s1, os1, om1, pl1, s0, os0, om0, pl0, p0, p1, l0, l1].length from hi)]; rfl
    have h1 := g1 _ k1
    have h2 := g1 _ k2
    unfold onL at e
    rw [e] at h1
    rw [← e1, ← e2, nd_ix nd h1 h2]
  · cases r with
    | place t i => cases t <;> exact absurd hr (Nat.not_lt_zero _)
    | book => exact ⟨_, upd_same, db, rfl⟩
    | game => exact ⟨_, keep g (by simp) _ hg, dg, rfl⟩
    | points => exact ⟨_, keep pt (by simp) _ hpt, rfl⟩
    | won => exact ⟨_, keep wn (by simp) _ hwn, rfl⟩
    | over => exact ⟨_, keep ov (by simp) _ hov, rfl⟩
    | sides => exact ⟨_, keep sd (by simp) _ hsd, rfl⟩
    | side t => cases t
                · exact ⟨_, keep s0 (by simp) _ hs0, d0, rfl⟩
                · exact ⟨_, keep s1 (by simp) _ hs1, d1, rfl⟩
    | outS t => cases t
                · exact ⟨_, keep os0 (by simp) _ ho0, [], rfl, fun n => rfl, Nat.le_refl _⟩
                · exact ⟨_, keep os1 (by simp) _ ho1, [], rfl, fun n => rfl, Nat.le_refl _⟩
    | outM t => cases t
                · exact ⟨_, keep om0 (by simp) _ hm0, [], rfl, fun n => rfl, Nat.le_refl _⟩
                · exact ⟨_, keep om1 (by simp) _ hm1, [], rfl, fun n => rfl, Nat.le_refl _⟩
    | places t => cases t
                  · exact ⟨_, keep pl0 (by simp) _ hpl0, rfl⟩
                  · exact ⟨_, keep pl1 (by simp) _ hpl1, rfl⟩
    | players t => cases t
                   · exact ⟨_, keep p0 (by simp) _ hp0, rfl⟩
                   · exact ⟨_, keep p1 (by simp) _ hp1, rfl⟩
    | libs t => cases t
                · exact ⟨_, keep l0 (by simp) _ hl0, rfl⟩
                · exact ⟨_, keep l1 (by simp) _ hl1, rfl⟩
/-! ### Book() -/
def spBookInit (d : Ad) : Sp := fun vs H Q _ => ∃ (a dx : Addr), vs = [.ref a] ∧ H a = some (.ins d.c_Book dx []) ∧
  ∀ H' α, Rep d H' α Kg60.init → α .book = a → (∀ b o, H b = some o → b ≠ a → H' b = some o ∧ Out α Kg60.init b) → Q .non H'
theorem ok_Book_init (T : Txt K mg d) : GF P w K mg base 3 d.f_Book_init ["self"] (spBookInit d) := by
  obtain ⟨fd, F⟩ := T.fn_Book_init
  refine ⟨fd, F.ok sc_Book_init (fun vs H Q E h => ?_) (fun cdv A outer sh H vs Q E hr h => ?_), F.binds (fun _ _ _ _ _ _ us hl => match us, hl with | [_], _ => rfl)⟩
  · obtain ⟨a, dx, rfl, _⟩ := h; rfl
  · obtain ⟨a, dx, rfl, h1, k⟩ := h
    refine ⟨_, (pss_one (ps_fld (pv 0) (V6.qe_make T.mk_Game (ok_Game_init T) (hr.mono (by decide)) (by rfl) T.mg_Game (pa_cons pe_bl (pa_cons (pe_lst (pa_cons (V6.qe_make T.mk_Side (ok_Side_init T) (hr.mono (by decide)) (by rfl) T.mg_Side (pa_cons (pe_lst pa_nil) (pa_cons (pe_lst pa_nil) pa_nil))) (pa_cons (V6.qe_make T.mk_Side (ok_Side_init T) (hr.mono (by decide)) (by rfl) T.mg_Side (pa_cons (pe_lst pa_nil) (pa_cons (pe_lst pa_nil) pa_nil))) pa_nil))) pa_nil))) rfl)), ?_⟩
    refine ⟨Nat.zero_le _, fun p0 fp0 => ⟨Nat.zero_le _, fun l0 fl0 => ?_⟩⟩
    refine fun s0 d0 hx hdx hne => ⟨s0, d0, p0, l0, rfl, upd_same, fun H1 os0 om0 pl0 fr hs0 h1' h2' h3' n1 n2 n3 ho0 hm0 hpl0 => ⟨rfl, ?_⟩⟩
    obtain ⟨sm1, N1⟩ := made3 hx hdx fr hs0 h1' h2' h3' n1 n2 n3 ho0 hm0 hpl0
    clear fr h1' h2' h3'
    refine ⟨Nat.zero_le _, fun p1 fp1 => ⟨Nat.zero_le _, fun l1 fl1 => ?_⟩⟩
    refine fun s1 d1 hx hdx hne => ⟨s1, d1, p1, l1, rfl, upd_same, fun H2 os1 om1 pl1 fr hs1 h1' h2' h3' n1 n2 n3 ho1 hm1 hpl1 => ⟨rfl, ?_⟩⟩
    obtain ⟨sm2, N2⟩ := made3 hx hdx fr hs1 h1' h2' h3' n1 n2 n3 ho1 hm1 hpl1
    clear fr h1' h2' h3'
    refine ⟨by show 2 ≤ sizeLine; decide, fun sd fsd => ?_⟩
    refine fun g dg hx hdx hne => ⟨g, dg, _, sd, rfl, upd_same, fun H3 pt wn ov fr hg h1' h2' h3' n1 n2 n3 hpt hwn hov => ⟨rfl, ?_⟩⟩
    obtain ⟨sm3, N3⟩ := made3 hx hdx fr hg h1' h2' h3' n1 n2 n3 hpt hwn hov
    clear fr h1' h2' h3'
    -- what is new, in order
    have a0 := New.one (o := .lst []) fp0
    have t0 := Same.new (o := .lst []) fp0
    have a1 := a0.app t0 (New.one (o := .lst []) fl0) (Same.new fl0)
    have t1 := t0.trans (Same.new (o := .lst []) fl0)
    have a2 := a1.app t1 N1 sm1
    have t2 := t1.trans sm1
    have a3 := a2.app t2 (New.one (o := .lst []) fp1) (Same.new fp1)
    have t3 := t2.trans (Same.new (o := .lst []) fp1)
    have a4 := a3.app t3 (New.one (o := .lst []) fl1) (Same.new fl1)
    have t4 := t3.trans (Same.new (o := .lst []) fl1)
    have a5 := a4.app t4 N2 sm2
    have t5 := t4.trans sm2
    have sd_ := Same.new (o := .lst [.ref s0, .ref s1]) fsd
    have a6 := a5.app t5 (New.one (o := .lst [.ref s0, .ref s1]) fsd) sd_
    have t6 := t5.trans sd_
    have a7 := a6.app t6 N3 sm3
    have t7 := t6.trans sm3
    refine ⟨_, rfl, a, d.c_Book, dx, _, rfl, t7 _ _ h1, T.cl_Book, T.na_Book_game, by show 0 < 1000; decide, ?_⟩
    have b3 : Same H2 H3 := sd_.trans sm3
    have b2 : Same (upd (upd H1 p1 (.lst [])) l1 (.lst [])) H3 := sm2.trans b3
    have b1 : Same H1 H3 := ((Same.new fp1).trans (Same.new fl1)).trans b2
    have b0 : Same (upd (upd H p0 (.lst [])) l0 (.lst [])) H3 := sm1.trans b1
    have np : p0 ≠ l0 := ne_of_none upd_same fl0
    have np1 : p1 ≠ l1 := ne_of_none upd_same fl1
    have hp0 : H3 p0 = some (.lst []) := b0 _ _ (by rw [upd_ne np]; exact upd_same)
    have hl0 : H3 l0 = some (.lst []) := b0 _ _ upd_same
    have hp1 : H3 p1 = some (.lst []) := b2 _ _ (by rw [upd_ne np1]; exact upd_same)
    have hl1 : H3 l1 = some (.lst []) := b2 _ _ upd_same
    have na : a ∉ [g, pt, wn, ov] ++ ([sd] ++ ([s1, os1, om1, pl1] ++ ([l1] ++ ([p1] ++ ([s0, os0, om0, pl0] ++ ([l0] ++ [p0])))))) := fun ha => by
      have := (a7.2 a ha).1
      rw [h1] at this; cases this
    have nd : [a, g, pt, wn, ov, sd, s1, os1, om1, pl1, s0, os0, om0, pl0, p0, p1, l0, l1].Nodup := by
      have n7 := List.nodup_cons.mpr ⟨na, a7.1⟩
      have pm : List.Perm ([a, g, pt, wn, ov, sd, s1, os1, om1, pl1, s0, os0, om0, pl0, p0, p1, l0, l1]) (a :: ([g, pt, wn, ov] ++ ([sd] ++ ([s1, os1, om1, pl1] ++ ([l1] ++ ([p1] ++ ([s0, os0, om0, pl0] ++ ([l0] ++ [p0])))))))) := by
        refine .cons _ (.cons _ (.cons _ (.cons _ (.cons _ (.cons _ (.cons _ (.cons _ (.cons _ (.cons _ ?_)))))))))
        have q1 : List.Perm [p0, p1, l0, l1] [l1, p1, l0, p0] := List.Perm.trans (List.perm_append_comm (l₁ := [p0]) (l₂ := [p1, l0, l1])) (List.Perm.append_right [p0] (List.perm_append_comm (l₁ := [p1, l0]) (l₂ := [l1])))
        have q2 : List.Perm ([s0, os0, om0, pl0] ++ [p0, p1, l0, l1]) ([s0, os0, om0, pl0] ++ [l1, p1, l0, p0]) := List.Perm.append_left _ q1
        have q3 : List.Perm (([s0, os0, om0, pl0] ++ [l1, p1]) ++ [l0, p0]) (([l1, p1] ++ [s0, os0, om0, pl0]) ++ [l0, p0]) := List.Perm.append_right _ List.perm_append_comm
        exact q2.trans q3
      exact pm.nodup_iff.mpr n7
    have rep := new_rep (d := d) (db := dx) (b := false) (P0 := []) (P1 := []) (L0 := []) (L1 := []) nd hg hpt hwn hov (sm3 _ _ upd_same) (b3 _ _ hs1) (b3 _ _ ho1) (b3 _ _ hm1) (b3 _ _ hpl1) (b1 _ _ hs0) (b1 _ _ ho0) (b1 _ _ hm0) (b1 _ _ hpl0) hp0 hp1 hl0 hl1
    refine k _ _ rep rfl (fun b o hb hne => ⟨by rw [upd_ne hne]; exact t7 b o hb, fun r hr e => ?_⟩)
    obtain ⟨_, hlt⟩ := new_live hr
    have mem : onL [a, g, pt, wn, ov, sd, s1, os1, om1, pl1, s0, os0, om0, pl0, p0, p1, l0, l1] r ∈ [a, g, pt, wn, ov, sd, s1, os1, om1, pl1, s0, os0, om0, pl0, p0, p1, l0, l1] := by
      unfold onL
      rw [List.getD_eq_getElem?_getD, List.getElem?_eq_getElem (show ixR r < [a, g, pt, wn, ov, sd, s1, os1, om1, pl1, s0, os0, om0, pl0, p0, p1, l0, l1].length from hlt)]
      exact List.getElem_mem _
    rw [e] at mem
    have : b ∈ [g, pt, wn, ov] ++ ([sd] ++ ([s1, os1, om1, pl1] ++ ([l1] ++ ([p1] ++ ([s0, os0, om0, pl0] ++ ([l0] ++ [p0])))))) := by
      rcases List.mem_cons.mp mem with h | h
      · exact absurd h hne
      · simp only [List.mem_cons, List.mem_append, List.not_mem_nil, or_false] at h ⊢
        rcases h with h | h | h | h | h | h | h | h | h | h | h | h | h | h | h | h | h <;> simp [h]
    have q := (a7.2 b this).1
    rw [hb] at q; cases q
end
end Vs
end
section
set_option Elab.async false
set_option maxRecDepth 100000
set_option maxHeartbeats 2000000
namespace Vs
open PySem PySem.Spec PyProof.Rows L2 V6
open Kg60 (Slot Team State within)
section
variable {P : Program} {w : World} {K : PySem.W.Frag} {mg : Str → Option Value} {base : Heap} {d : Ad}
/-! ### the calls that only look -/
def spNowA (d : Ad) : Sp := fun vs H Q _ => ∃ (α : Role → Addr) (s : State), vs = [.ref (α .game)] ∧ Rep d H α s ∧ Good s ∧ AnsOk d H α s .now Q
def spSetsA (d : Ad) : Sp := fun vs H Q _ => ∃ (α : Role → Addr) (s : State), vs = [.ref (α .game)] ∧ Rep d H α s ∧ Good s ∧ AnsOk d H α s .sets Q
def spCourtA (d : Ad) : Sp := fun vs H Q _ => ∃ (α : Role → Addr) (s : State) (z : Int), vs = [.ref (α .game), .int z] ∧ Rep d H α s ∧ Good s ∧ AnsOk d H α s (.court z) Q
def spSheetA (d : Ad) : Sp := fun vs H Q _ => ∃ (α : Role → Addr) (s : State) (z : Int), vs = [.ref (α .game), .int z] ∧ Rep d H α s ∧ Good s ∧ AnsOk d H α s (.sheet z) Q
theorem ok_answer_now (T : Txt K mg d) : GF P w K mg base 2 d.f_answer_now ["game"] (spNowA d) := by
  obtain ⟨fd, F⟩ := T.fn_answer_now
  refine ⟨fd, F.ok sc_answer_now (fun vs H Q E h => ?_) (fun cdv A outer sh H vs Q E hr h => ?_), F.binds (fun _ _ _ _ _ _ us hl => match us, hl with | [_], _ => rfl)⟩
  · obtain ⟨α, s, rfl, _⟩ := h; rfl
  · obtain ⟨α, s, rfl, R, G, k⟩ := h
    refine ⟨_, (pss_one (ps_ret (pe_op op_cat (pe_lst (pa_cons (V6.qe_meth0 (pv 0) T.cl_Game T.me_Game_sets_over (ok_Game_sets_over T) (hr.mono (by decide))) pa_nil)) (V6.qe_meth0 (pv 0) T.cl_Game T.me_Game_how_it_stands (ok_Game_how_it_stands T) (hr.mono (by decide)))))), ?_⟩
    refine ⟨_, rfl, mGame R rfl rfl ⟨α, s, rfl, R, ?_⟩⟩
    rw [← G.g.cnt]
    exact how_cat (i := 0) rfl k (Step.refl R) rfl rfl
theorem ok_answer_sets (T : Txt K mg d) : GF P w K mg base 2 d.f_answer_sets ["game"] (spSetsA d) := by
  obtain ⟨fd, F⟩ := T.fn_answer_sets
  refine ⟨fd, F.ok sc_answer_sets (fun vs H Q E h => ?_) (fun cdv A outer sh H vs Q E hr h => ?_), F.binds (fun _ _ _ _ _ _ us hl => match us, hl with | [_], _ => rfl)⟩
  · obtain ⟨α, s, rfl, _⟩ := h; rfl
  · obtain ⟨α, s, rfl, R, G, k⟩ := h
    refine ⟨_, (pss_one (ps_ret (pe_op op_cat (pe_lst (pa_cons (V6.qe_meth0 (pv 0) T.cl_Game T.me_Game_sets_over (ok_Game_sets_over T) (hr.mono (by decide))) pa_nil)) (pe_fld (pv 0) rfl)))), ?_⟩
    refine ⟨_, rfl, mGame R rfl rfl ⟨α, s, rfl, R, ?_⟩⟩
    rw [← G.g.cnt]
    refine ⟨by show 1 ≤ sizeLine; decide, fun p hp => ?_⟩
    have R1 := R.same (Same.new (o := .lst [nV s.over.length]) hp)
    refine ⟨_, rfl, rGame T R1 rfl T.na_Game_points_of_sets rfl ⟨_, _, _, _, rfl, rfl, upd_same, R1.o_over, ?_, fun p2 hp2 => ?_⟩⟩
    · rw [List.length_map, flatO_len, G.g.cnt]
      have := G.g.le
      show 1 + 2 * (s.a.sets + s.b.sets) ≤ sizeLine
      have : (1000 : Nat) ≤ sizeLine := by decide
      omega
    · refine k.give (s' := s) rfl (Step.same R ((Same.new hp).trans (Same.new hp2))) ((Same.new hp).free hp2) ?_
      rw [upd_same]
      show some (HO.lst (nV s.over.length :: (flatO s.over).map nV)) = some (HO.lst (V.int _ :: (Kg60.whole (flatO s.over)).map V.int))
      unfold Kg60.whole
      rw [List.map_map]; rfl
theorem court_nil {x : Team} (h : x.slots = []) : x.court = [] := by
  unfold Team.court Kg60.Team.slotAt
  rw [h]
  rw [List.filterMap_eq_nil_iff]
  intro p _; rfl
theorem ok_answer_court (T : Txt K mg d) : GF P w K mg base 4 d.f_answer_court ["game", "team"] (spCourtA d) := by
  obtain ⟨fd, F⟩ := T.fn_answer_court
  refine ⟨fd, F.ok sc_answer_court (fun vs H Q E h => ?_) (fun cdv A outer sh H vs Q E hr h => ?_), F.binds (fun _ _ _ _ _ _ us hl => match us, hl with | [_, _], _ => rfl)⟩
  · obtain ⟨α, s, z, rfl, _⟩ := h; rfl
  · obtain ⟨α, s, z, rfl, R, G, k⟩ := h
    refine ⟨_, (pss_cons (ps_if (pt_not (pt_val (V6.qe_call (ok_is_team T) (hr.mono (by decide)) (by rfl) T.mg_is_team (V6.kp_of T.fn_is_team) (pa_cons (pv 1) pa_nil)))) (pss_one (ps_ret (pe_lst (pa_cons (pe_un un_neg pe_int) pa_nil)))) pss_nil) (pss_cons (ps_set (i := 2) sc_answer_court.nd rfl (Or.inl rfl) (pe_ix ix_list (pe_fld (pv 0) rfl) (pv 1) (fun _ _ => rfl))) (pss_cons (ps_if (pt_not (pt_val (V6.qe_meth0 (pv 2) T.cl_Side T.me_Side_has_lineup (ok_Side_has_lineup T) (hr.mono (by decide))))) (pss_one (ps_ret (pe_lst (pa_cons pe_int pa_nil)))) pss_nil) (pss_one (ps_ret (pe_op op_cat (pe_lst (pa_cons pe_int pa_nil)) (V6.qe_meth0 (pv 2) T.cl_Side T.me_Side_court (ok_Side_court T) (hr.mono (by decide))))))))), ?_⟩
    refine ⟨_, rfl, z, rfl, _, rfl, ite2 (fun hc => ⟨_, rfl, ?_⟩) (fun hc => ?_)⟩
    · refine k.num R ?_ Same.refl
      unfold Kg60.spec
      simp only [show within z 0 1 = false by simpa using hc, if_true]
    · have h1 : within z 0 1 = true := by simpa using hc
      obtain ⟨t, e1, e2⟩ := bN_of h1
      subst e1
      refine ⟨_, rfl, rGame T R rfl T.na_Game_sides rfl ⟨_, rfl, _, _, _, _, rfl, rfl, SqL.of R.o_sides, atI_nat (sides_at α t), ?_⟩⟩
      have sp : Kg60.spec s (.court ((bN t : Nat) : Int)) = (s, ⟨(tm s t).court.length, Kg60.whole (tm s t).court⟩) := by
        unfold Kg60.spec
        simp only [h1, Bool.true_eq_false, if_false, e2, team_tm]
      have gt := G.g.tm t
      refine ⟨_, rfl, mSide R rfl rfl ⟨α, s, t, rfl, R, _, rfl, ite2 (fun hc => ?_) (fun hc => ?_)⟩⟩
      · have h0 : (tm s t).slots = [] := by
          have : ¬ 0 < (tm s t).slots.length := by simpa using hc
          exact List.eq_nil_of_length_eq_zero (by omega)
        rw [court_nil h0] at sp
        exact k.num R sp Same.refl
      · have hl : (tm s t).slots.length = 6 := by
          have h0 : 0 < (tm s t).slots.length := of_decide_eq_true (bnotF hc)
          rcases gt.len with e | e
          · rw [e] at h0; exact absurd h0 (Nat.lt_irrefl _)
          · exact e
        obtain ⟨cl, _⟩ := court_eq hl
        refine ⟨by show 1 ≤ sizeLine; decide, fun p hp => ?_⟩
        have R1 := R.same (Same.new (o := .lst [V.int 6]) hp)
        refine ⟨_, rfl, mSide R1 rfl rfl ⟨α, s, t, rfl, R1, ⟨hl, ph_of G.g t⟩, fun H2 p2 sm hp2 hl2 => ?_⟩⟩
        refine ⟨_, _, _, _, rfl, rfl, sm _ _ upd_same, hl2, ?_, fun p3 hp3 => ?_⟩
        · rw [List.length_map, cl]; decide
        · refine k.give sp (Step.same R (((Same.new hp).trans sm).trans (Same.new hp3))) (((Same.new hp).trans sm).free hp3) ?_
          rw [upd_same]
          show some (HO.lst (V.int 6 :: (tm s t).court.map nV)) = some (HO.lst (V.int ((tm s t).court.length : Int) :: (Kg60.whole (tm s t).court).map V.int))
          rw [cl]
          unfold Kg60.whole
          rw [List.map_map]; rfl
def slotL (y : Slot) : List Int := [(y.starter : Int), Kg60.opt y.sub, (y.phase : Int), Kg60.opt y.libero]
theorem slots_len (l : List Slot) : (l.flatMap slotL).length = 4 * l.length := by
  induction l with
  | nil => rfl
  | cons x r ih =>
    rw [List.flatMap_cons, List.length_append, ih, List.length_cons]
    show 4 + 4 * r.length = _
    omega
theorem ok_answer_sheet (T : Txt K mg d) : GF P w K mg base 2 d.f_answer_sheet ["game", "team"] (spSheetA d) := by
  obtain ⟨fd, F⟩ := T.fn_answer_sheet
  refine ⟨fd, F.ok sc_answer_sheet (fun vs H Q E h => ?_) (fun cdv A outer sh H vs Q E hr h => ?_), F.binds (fun _ _ _ _ _ _ us hl => match us, hl with | [_, _], _ => rfl)⟩
  · obtain ⟨α, s, z, rfl, _⟩ := h; rfl
  · obtain ⟨α, s, z, rfl, R, G, k⟩ := h
    refine ⟨_, (pss_cons (ps_if (pt_not (pt_val (V6.qe_call (ok_is_team T) (hr.mono (by decide)) (by rfl) T.mg_is_team (V6.kp_of T.fn_is_team) (pa_cons (pv 1) pa_nil)))) (pss_one (ps_ret (pe_lst (pa_cons (pe_un un_neg pe_int) pa_nil)))) pss_nil) (pss_cons (ps_set (i := 2) sc_answer_sheet.nd rfl (Or.inl rfl) (pe_ix ix_list (pe_fld (pv 0) rfl) (pv 1) (fun _ _ => rfl))) (pss_cons (ps_set (i := 3) sc_answer_sheet.nd rfl (Or.inl rfl) (pe_lst (pa_cons (pe_fld (pv 2) rfl) (pa_cons (pe_fld (pv 2) rfl) pa_nil)))) (pss_cons (ps_for PassesOwn.never rfl (pi_list (pe_fld (pv 2) rfl)) (pg_name (i := 4) sc_answer_sheet.nd rfl (Or.inl rfl)) (pss_one (ps_expr (pe_bm PySem.F.plainAttrs_list PySem.F.slot_list_extend PySem.F.type_list_extend mt_extend (pv 3) (pa_cons (pe_lst (pa_cons (pe_fld (pv 4) rfl) (pa_cons (pe_fld (pv 4) rfl) (pa_cons (pe_fld (pv 4) rfl) (pa_cons (pe_fld (pv 4) rfl) pa_nil))))) pa_nil))))) (pss_one (ps_ret (pv 3))))))), ?_⟩
    refine ⟨_, rfl, z, rfl, _, rfl, ite2 (fun hc => ⟨_, rfl, ?_⟩) (fun hc => ?_)⟩
    · refine k.num R ?_ Same.refl
      unfold Kg60.spec
      simp only [show within z 0 1 = false by simpa using hc, if_true]
    · have h1 : within z 0 1 = true := by simpa using hc
      obtain ⟨t, e1, e2⟩ := bN_of h1
      subst e1
      have sp : Kg60.spec s (.sheet ((bN t : Nat) : Int)) = (s, ⟨(tm s t).subs, ((tm s t).timeouts : Int) :: (tm s t).slots.flatMap slotL⟩) := by
        unfold Kg60.spec
        simp only [h1, Bool.true_eq_false, if_false, e2, team_tm]
        rfl
      have hl : (tm s t).slots.length ≤ 6 := by
        rcases (G.g.tm t).len with e | e
        · rw [e]; decide
        · rw [e]; exact Nat.le_refl _
      refine ⟨_, rfl, rGame T R rfl T.na_Game_sides rfl ⟨_, rfl, _, _, _, _, rfl, rfl, SqL.of R.o_sides, atI_nat (sides_at α t), ?_⟩⟩
      refine ⟨_, rfl, rSide T R rfl T.na_Side_substitutions rfl ⟨_, rfl, rSide T R rfl T.na_Side_timeouts rfl ⟨by show 2 ≤ sizeLine; decide, fun q hq => ?_⟩⟩⟩
      have sm1 := Same.new (o := .lst [nV (tm s t).subs, nV (tm s t).timeouts]) hq
      have R1 := R.same sm1
      refine ⟨_, rfl, rSide T R1 rfl T.na_Side_places rfl ⟨_, rfl, ⟨_, SqL.of (R1.o_places t)⟩, for_list (K := K) (a := α (.places t)) (xs := (List.range (tm s t).slots.length).map fun i => V.ref (α (.place t i)))
        (fun i σ H' => (∃ v, σ = [some (.ref (α .game)), some (nV (bN t)), some (.ref (α (.side t))), some (.ref q), v]) ∧ Same H H' ∧ H' q = some (.lst ((((tm s t).subs : Int) :: ((tm s t).timeouts : Int) :: ((tm s t).slots.take i).flatMap slotL).map V.int)))
        ⟨⟨_, rfl⟩, sm1, upd_same⟩ (fun i σ H' _ p => SqL.of ((R.same p.2.1).o_places t)) ?_ ?_⟩⟩
      · rintro i x σ H' hx ⟨⟨v, rfl⟩, sm, hq'⟩
        obtain ⟨hi, rfl⟩ := places_get hx
        have R2 := R.same sm
        have hy : (tm s t).slots[i]? = some (tm s t).slots[i] := List.getElem?_eq_getElem hi
        generalize (tm s t).slots[i] = y at hy
        refine ⟨_, rfl, .inl ⟨rfl, _, SqL.of hq'⟩, _, rfl, rPlace T R2 hy rfl T.na_Place_starter rfl ⟨_, rfl, rPlace T R2 hy rfl T.na_Place_second rfl ⟨_, rfl, rPlace T R2 hy rfl T.na_Place_stage rfl ⟨_, rfl, rPlace T R2 hy rfl T.na_Place_libero rfl ⟨by show 4 ≤ sizeLine; decide, fun q2 hq2 => ?_⟩⟩⟩⟩⟩
        have nq : q ≠ q2 := ne_of_none hq' hq2
        refine ⟨_, _, _, _, rfl, rfl, by rw [upd_ne nq]; exact hq', upd_same, ?_, ?_⟩
        · rw [List.length_map, List.length_cons, List.length_cons, slots_len, List.length_take]
          show _ + 4 ≤ sizeLine
          have : (1000 : Nat) ≤ sizeLine := by decide
          omega
        · refine ⟨⟨_, rfl⟩, fun b o e => ?_, ?_⟩
          · rw [upd_ne (ne_of_none e hq), upd_ne (ne_of_none (sm b o e) hq2)]; exact sm b o e
          · rw [upd_same, take_snoc hy, List.flatMap_append]
            simp only [List.map_cons, List.map_append, List.flatMap_cons, List.flatMap_nil, List.append_nil, List.cons_append]
            rfl
      · rintro σ H' ⟨⟨v, rfl⟩, sm, hq'⟩
        refine ⟨_, rfl, k.give sp (Step.same R sm) hq ?_⟩
        rw [hq', List.length_map, List.length_range, List.take_length]
/-! ### ahead of a set -/
def betw (s : State) : Int := if (s.ready && !Kg60.over s) = false then -2 else if s.playing = true then -3 else 0
def spBetw (d : Ad) : Sp := fun vs H Q _ => ∃ (α : Role → Addr) (s : State), vs = [.ref (α .game)] ∧ Rep d H α s ∧ Q (.int (betw s)) H
theorem ok_between_sets_refusal (T : Txt K mg d) : GF P w K mg base 2 d.f_between_sets_refusal ["game"] (spBetw d) := by
  obtain ⟨fd, F⟩ := T.fn_between_sets_refusal
  refine ⟨fd, F.ok sc_between_sets_refusal (fun vs H Q E h => ?_) (fun cdv A outer sh H vs Q E hr h => ?_), F.binds (fun _ _ _ _ _ _ us hl => match us, hl with | [_], _ => rfl)⟩
  · obtain ⟨α, s, rfl, _⟩ := h; rfl
  · obtain ⟨α, s, rfl, R, k⟩ := h
    refine ⟨_, (pss_cons (ps_if (pt_not (pt_val (V6.qe_meth0 (pv 0) T.cl_Game T.me_Game_can_go_on (ok_Game_can_go_on T) (hr.mono (by decide))))) (pss_one (ps_ret (pe_un un_neg pe_int))) pss_nil) (pss_cons (ps_if (pt_val (pe_fld (pv 0) rfl)) (pss_one (ps_ret (pe_un un_neg pe_int))) pss_nil) (pss_one (ps_ret pe_int)))), ?_⟩
    unfold betw at k
    refine ⟨_, rfl, mGame R rfl rfl ⟨α, s, rfl, R, _, rfl, ite2 (fun hc => ⟨_, rfl, ?_⟩) (fun hc => ?_)⟩⟩
    · have e : (s.ready && !Kg60.over s) = false := by
        cases q : s.ready && !Kg60.over s with
        | false => rfl
        | true => rw [q] at hc; cases hc
      rw [if_pos e] at k; exact k
    · have e : ¬ (s.ready && !Kg60.over s) = false := fun q => hc (by rw [q]; rfl)
      rw [if_neg e] at k
      refine ⟨_, rfl, rGame T R rfl T.na_Game_playing rfl ⟨_, rfl, ite2 (fun hc => ⟨_, rfl, ?_⟩) (fun hc => ?_)⟩⟩
      · rw [if_pos hc] at k; exact k
      · rw [if_neg hc] at k; exact k
theorem betw_neg {s : State} (h : betw s < 0) : ((s.ready = false ∨ Kg60.over s = true) ∧ betw s = -2) ∨ (¬ (s.ready = false ∨ Kg60.over s = true) ∧ s.playing = true ∧ betw s = -3) := by
  unfold betw at h ⊢
  by_cases h1 : (s.ready && !Kg60.over s) = false
  · rw [if_pos h1]
    refine .inl ⟨?_, rfl⟩
    rw [Bool.and_eq_false_iff, Bool.not_eq_false'] at h1
    exact h1
  · have h1' : ¬ (s.ready = false ∨ Kg60.over s = true) := fun q => h1 (by rw [Bool.and_eq_false_iff, Bool.not_eq_false']; exact q)
    rw [if_neg h1] at h ⊢
    by_cases h2 : s.playing = true
    · rw [if_pos h2]; exact .inr ⟨h1', h2, rfl⟩
    · rw [if_neg h2] at h; exact absurd h (by decide)
theorem betw_ok {s : State} (h : ¬ betw s < 0) : ¬ (s.ready = false ∨ Kg60.over s = true) ∧ ¬ s.playing = true := by
  unfold betw at h
  by_cases h1 : (s.ready && !Kg60.over s) = false
  · rw [if_pos h1] at h; exact absurd (by decide) h
  · rw [if_neg h1] at h
    refine ⟨fun q => h1 (by rw [Bool.and_eq_false_iff, Bool.not_eq_false']; exact q), fun h2 => ?_⟩
    rw [if_pos h2] at h; exact absurd (by decide) h
/-- what lineup_refusal tells, by the specification's own answer -/
def spLineRef (d : Ad) (K : PySem.W.Frag) : Sp := fun vs H Q _ => ∃ (α : Role → Addr) (s : State) (z : Int) (a : Addr) (zs : List Int), vs = [.ref (α .game), .int z, .ref a] ∧ Rep d H α s ∧ SqL K H a (zs.map V.int) ∧ zs.length ≤ 1000 ∧
  (∀ r : Int, r < 0 → Kg60.spec s (.lineup z zs) = (s, Kg60.num r) → ∀ H', Same H H' → Q (.int r) H') ∧
  (∀ t, z = ((bN t : Nat) : Int) → (∀ x ∈ zs, 1 ≤ x) → Kg60.spec s (.lineup z zs) = (putT s t { tm s t with slots := (Kg60.nats zs).map fun p => ⟨p, none, 0, none⟩ }, Kg60.num s.over.length) → ∀ H', Same H H' → Q (.int 0) H')
theorem ok_lineup_refusal (T : Txt K mg d) : GF P w K mg base 3 d.f_lineup_refusal ["game", "team", "players"] (spLineRef d K) := by
  obtain ⟨fd, F⟩ := T.fn_lineup_refusal
  refine ⟨fd, F.ok sc_lineup_refusal (fun vs H Q E h => ?_) (fun cdv A outer sh H vs Q E hr h => ?_), F.binds (fun _ _ _ _ _ _ us hl => match us, hl with | [_, _, _], _ => rfl)⟩
  · obtain ⟨α, s, z, a, zs, rfl, _⟩ := h; rfl
  · obtain ⟨α, s, z, a, zs, rfl, R, hS, hlen, k1, k2⟩ := h
    refine ⟨_, (pss_cons (ps_if (pt_not (pt_val (V6.qe_call (ok_is_team T) (hr.mono (by decide)) (by rfl) T.mg_is_team (V6.kp_of T.fn_is_team) (pa_cons (pv 1) pa_nil)))) (pss_one (ps_ret (pe_un un_neg pe_int))) pss_nil) (pss_cons (ps_if (PW.pt (pw_or (pt_cmpR op_ne (pe_callB call_len_seq (by rfl) T.no_len PySem.boot_len (pa_cons (pv 2) pa_nil)) pe_int (nomark _)) (pw_or (pt_not (pt_val (V6.qe_call (ok_are_shirts T) (hr.mono (by decide)) (by rfl) T.mg_are_shirts (V6.kp_of T.fn_are_shirts) (pa_cons (pv 2) pa_nil)))) (pw_or1 (pt_not (pt_val (V6.qe_call (ok_all_different T) (hr.mono (by decide)) (by rfl) T.mg_all_different (V6.kp_of T.fn_all_different) (pa_cons (pv 2) pa_nil)))))))) (pss_one (ps_ret (pe_un un_neg pe_int))) pss_nil) (pss_cons (ps_set (i := 3) sc_lineup_refusal.nd rfl (Or.inl rfl) (V6.qe_call (ok_between_sets_refusal T) (hr.mono (by decide)) (by rfl) T.mg_between_sets_refusal (V6.kp_of T.fn_between_sets_refusal) (pa_cons (pv 0) pa_nil))) (pss_cons (ps_if (pt_cmpR op_lt (pv 3) pe_int (nomark _)) (pss_one (ps_ret (pv 3))) pss_nil) (pss_cons (ps_if (pt_not (pt_val (pe_callB (cr_all rfl) (by rfl) T.no_all V6.boot_all (pa_cons (pe_lc rfl sc_lineup_refusal.nd (pi_list (pv 2)) (blkOk_by (N := ["game", "team", "players", "refusal", "player"]) (sc := defScope s_lineup_refusal) (own := [("player", 4)]) (by decide +kernel)) (fun _ _ _ _ _ => pg_name (i := 4) sc_lineup_refusal.nd rfl (Or.inl rfl)) (fun _ _ _ _ _ => pts_nil) (fun _ _ _ _ _ => (V6.qe_meth (pe_ix (V6.ix_listK (K' := K) rfl) (V6.pe_fldK (K' := K) (pv 0) rfl rfl) (pv 1) (fun _ _ => rfl)) T.cl_Side T.me_Side_may_begin (ok_Side_may_begin T) (hr.mono (by decide)) (pa_cons (pv 4) pa_nil)))) pa_nil)))) (pss_one (ps_ret (pe_un un_neg pe_int))) pss_nil) (pss_one (ps_ret pe_int))))))), ?_⟩
    have bad : (within z 0 1 && (zs.length == 6 && (decide zs.Nodup && zs.all fun z => within z 1 99))) = false → Kg60.spec s (.lineup z zs) = (s, Kg60.num (-1)) := fun h => by
      unfold Kg60.spec
      simp only [h, if_true]
    refine ⟨_, rfl, z, rfl, _, rfl, ite2 (fun hc => ⟨_, rfl, k1 (-1) (by decide) (bad ?_) H Same.refl⟩) (fun hc => ?_)⟩
    · rw [show within z 0 1 = false by simpa using hc, Bool.false_and]
    have h1 : within z 0 1 = true := by simpa using hc
    obtain ⟨t, e1, e2⟩ := bN_of h1
    refine ⟨_, rfl, _, _, rfl, .inl hS, rfl, _, rfl, ite2 (fun hc => iteT ⟨_, rfl, k1 (-1) (by decide) (bad ?_) H Same.refl⟩) (fun hc => ⟨_, rfl, a, zs, rfl, hS, hlen, fun H1 sm1 => ⟨_, rfl, ite2 (fun hc2 => iteT ⟨_, rfl, k1 (-1) (by decide) (bad ?_) H1 sm1⟩) (fun hc2 => ⟨_, rfl, a, zs, rfl, sm1.seq hS, hlen, fun H2 sm2 => ⟨_, rfl, ite2 (fun hc3 => ⟨_, rfl, k1 (-1) (by decide) (bad ?_) H2 (sm1.trans sm2)⟩) (fun hc3 => ?_)⟩⟩)⟩⟩)⟩
    · rw [eqI, List.length_map] at hc
      have e : (zs.length == 6) = false := by
        cases q : zs.length == 6 with
        | false => rfl
        | true =>
          have := beq_iff_eq.mp q
          rw [decide_eq_true (by rw [this]; rfl)] at hc; cases hc
      rw [e, Bool.false_and, Bool.and_false]
    · rw [show (zs.all fun z => within z 1 99) = false by simpa using hc2, Bool.and_false, Bool.and_false, Bool.and_false]
    · rw [show decide zs.Nodup = false by simpa using hc3, Bool.false_and, Bool.and_false, Bool.and_false]
    · have hlen6 : (zs.length == 6) = true := by
        rw [eqI, List.length_map] at hc
        rw [beq_iff_eq]
        by_cases q : (zs.length : Int) = 6
        · omega
        · exact absurd (by rw [decide_eq_false q]; rfl) hc
      have hall : (zs.all fun z => within z 1 99) = true := by
        cases q : zs.all fun z => within z 1 99 with
        | true => rfl
        | false => rw [q] at hc2; exact absurd rfl hc2
      have hnd : decide zs.Nodup = true := by
        cases q : decide zs.Nodup with
        | true => rfl
        | false => rw [q] at hc3; exact absurd rfl hc3
      have good : (within z 0 1 && (zs.length == 6 && (decide zs.Nodup && zs.all fun z => within z 1 99))) = true := by rw [h1, hlen6, hall, hnd]; rfl
      have h1z : ∀ x ∈ zs, 1 ≤ x := fun x hx => (within_iff.mp (List.all_eq_true.mp hall x hx)).1
      have sm := sm1.trans sm2
      have R1 := R.same sm
      refine ⟨_, rfl, α, s, rfl, R1, ?_⟩
      refine ⟨_, rfl, _, _, rfl, rfl, _, rfl, ite2 (fun hc => ⟨_, rfl, ?_⟩) (fun hc => ?_)⟩
      · have hb := of_decide_eq_true hc
        refine k1 _ hb ?_ H2 sm
        rcases betw_neg hb with ⟨b1, b2⟩ | ⟨b1, b2, b3⟩
        · rw [b2]
          unfold Kg60.spec
          simp only [good, Bool.true_eq_false, if_false]
          rw [if_pos b1]
        · rw [b3]
          unfold Kg60.spec
          simp only [good, Bool.true_eq_false, if_false]
          rw [if_neg b1, if_pos b2]
      · obtain ⟨b1, b2⟩ := betw_ok (fun q => hc (decide_eq_true q))
        have sp : Kg60.spec s (.lineup z zs) = if (Kg60.nats zs).all (fun p => (tm s t).players.contains p && (!(tm s t).liberos.contains p && !(tm s t).outAll.contains p)) = false then (s, Kg60.num (-4)) else (putT s t { tm s t with slots := (Kg60.nats zs).map fun p => ⟨p, none, 0, none⟩ }, Kg60.num s.over.length) := by
          unfold Kg60.spec
          simp only [good, Bool.true_eq_false, if_false, e2, team_tm]
          rw [if_neg b1, if_neg b2, set_putT]
        simp only [tNext, tSeq, tIfS, tNot, tB]
        refine all_lc (K := K) (j := 4) (a := a) (xs := zs.map V.int) (fun x => match x with | .int z => mayBegin (tm s t) z.toNat | _ => false) (fun R h => ⟨_, rfl, h⟩) (sm.seq hS) (by rw [List.length_map]; exact hlen) (fun x => rfl) (fun x H' R' hx smx h => ?_) (fun H' smx => ?_)
        · obtain ⟨u, hu, rfl⟩ := List.mem_map.mp hx
          have := h1z u hu
          have R2 := R1.same smx
          exact ⟨_, rfl, rGame T R2 rfl T.na_Game_sides rfl ⟨_, rfl, _, _, _, _, rfl, rfl, SqL.of R2.o_sides, at_of e1 (sides_at α t), mSide R2 rfl rfl ⟨_, rfl, α, s, t, u.toNat, by rw [int_nV (z := u) (n := u.toNat) (by omega)]; rfl, R2, h⟩⟩⟩
        · have ea : (zs.map V.int).all (fun x => match x with | .int z => mayBegin (tm s t) z.toNat | _ => false) = (Kg60.nats zs).all (fun p => (tm s t).players.contains p && (!(tm s t).liberos.contains p && !(tm s t).outAll.contains p)) := by
            unfold Kg60.nats
            rw [List.all_map, List.all_map]; rfl
          rw [ea]
          refine ⟨_, rfl, ite2 (fun hc => ⟨_, rfl, ?_⟩) (fun hc => ?_)⟩
          · refine k1 (-4) (by decide) ?_ H' (sm.trans smx)
            rw [sp, if_pos (by
              cases q : (Kg60.nats zs).all (fun p => (tm s t).players.contains p && (!(tm s t).liberos.contains p && !(tm s t).outAll.contains p)) with
              | false => rfl
              | true => rw [q] at hc; cases hc)]
          · refine k2 t e1 h1z ?_ H' (sm.trans smx)
            rw [sp, if_neg (fun q => hc (by rw [q]; rfl))]
def spLineA (d : Ad) (K : PySem.W.Frag) : Sp := fun vs H Q _ => ∃ (α : Role → Addr) (s : State) (z : Int) (a : Addr) (zs : List Int), vs = [.ref (α .game), .int z, .ref a] ∧ Rep d H α s ∧ Good s ∧ SqL K H a (zs.map V.int) ∧ zs.length ≤ 1000 ∧ AnsOk d H α s (.lineup z zs) Q
theorem ok_answer_lineup (T : Txt K mg d) : GF P w K mg base 4 d.f_answer_lineup ["game", "team", "players"] (spLineA d K) := by
  obtain ⟨fd, F⟩ := T.fn_answer_lineup
  refine ⟨fd, F.ok sc_answer_lineup (fun vs H Q E h => ?_) (fun cdv A outer sh H vs Q E hr h => ?_), F.binds (fun _ _ _ _ _ _ us hl => match us, hl with | [_, _, _], _ => rfl)⟩
  · obtain ⟨α, s, z, a, zs, rfl, _⟩ := h; rfl
  · obtain ⟨α, s, z, a, zs, rfl, R, G, hS, hlen, k⟩ := h
    refine ⟨_, (pss_cons (ps_set (i := 3) sc_answer_lineup.nd rfl (Or.inl rfl) (V6.qe_call (ok_lineup_refusal T) (hr.mono (by decide)) (by rfl) T.mg_lineup_refusal (V6.kp_of T.fn_lineup_refusal) (pa_cons (pv 0) (pa_cons (pv 1) (pa_cons (pv 2) pa_nil))))) (pss_cons (ps_if (pt_cmpR op_lt (pv 3) pe_int (nomark _)) (pss_one (ps_ret (pe_lst (pa_cons (pv 3) pa_nil)))) pss_nil) (pss_cons (ps_expr (V6.qe_meth (pe_ix ix_list (pe_fld (pv 0) rfl) (pv 1) (fun _ _ => rfl)) T.cl_Side T.me_Side_take_lineup (ok_Side_take_lineup T) (hr.mono (by decide)) (pa_cons (pv 2) pa_nil))) (pss_one (ps_ret (pe_lst (pa_cons (V6.qe_meth0 (pv 0) T.cl_Game T.me_Game_sets_over (ok_Game_sets_over T) (hr.mono (by decide))) pa_nil))))))), ?_⟩
    refine ⟨_, rfl, _, rfl, _, rfl, α, s, z, a, zs, rfl, R, hS, hlen, fun r hr e H1 sm => ?_, fun t e1 h1 e H1 sm => ?_⟩
    · refine ⟨_, rfl, _, _, rfl, rfl, _, rfl, ?_⟩
      rw [decide_eq_true hr]
      exact iteT ⟨_, rfl, k.num R e sm⟩
    · subst e1
      have R1 := R.same sm
      refine ⟨_, rfl, _, _, rfl, rfl, _, rfl, iteF ?_⟩
      refine ⟨_, rfl, rGame T R1 rfl T.na_Game_sides rfl ⟨_, rfl, _, _, _, _, rfl, rfl, SqL.of R1.o_sides, atI_nat (sides_at α t), mSide R1 rfl rfl ⟨_, rfl, α, s, t, a, Kg60.nats zs, rfl, R1, ?_, ?_, fun H2 α2 S2' => ?_⟩⟩⟩
      · have en : (Kg60.nats zs).map nV = zs.map V.int := by
          unfold Kg60.nats
          rw [List.map_map]
          apply List.map_congr_left
          intro x hx
          have := h1 x hx
          exact (int_nV (by omega)).symm
        rw [en]; exact sm.seq hS
      · unfold Kg60.nats; rw [List.length_map]; exact hlen
      · have S2 := (Step.same R sm).trans S2'
        have eg : α .game = α2 .game := (S2.ad .game rfl).symm
        refine ⟨_, rfl, mGame S2.rep eg rfl ⟨α2, _, by rw [eg]; rfl, S2.rep, ?_⟩⟩
        have ec : (putT s t { tm s t with slots := (Kg60.nats zs).map fun p => ⟨p, none, 0, none⟩ }).a.sets + (putT s t { tm s t with slots := (Kg60.nats zs).map fun p => ⟨p, none, 0, none⟩ }).b.sets = s.over.length := by rw [G.g.cnt]; cases t <;> rfl
        rw [ec]
        exact k.one S2 e
/-- what start_refusal tells, by the specification's own answer -/
def spStartRef (d : Ad) : Sp := fun vs H Q _ => ∃ (α : Role → Addr) (s : State) (z : Int), vs = [.ref (α .game), .int z] ∧ Rep d H α s ∧ GS s ∧
  (∀ r : Int, r < 0 → Kg60.spec s (.start z) = (s, Kg60.num r) → ∀ H', Same H H' → Q (.int r) H') ∧
  (∀ t, z = ((bN t : Nat) : Int) → Kg60.spec s (.start z) = ({ s with playing := true, firstServe := bN t, serves := bN t }, Kg60.num (s.over.length + 1 : Nat)) → ∀ H', Same H H' → Q (.int 0) H')
theorem ok_start_refusal (T : Txt K mg d) : GF P w K mg base 3 d.f_start_refusal ["game", "team"] (spStartRef d) := by
  obtain ⟨fd, F⟩ := T.fn_start_refusal
  refine ⟨fd, F.ok sc_start_refusal (fun vs H Q E h => ?_) (fun cdv A outer sh H vs Q E hr h => ?_), F.binds (fun _ _ _ _ _ _ us hl => match us, hl with | [_, _], _ => rfl)⟩
  · obtain ⟨α, s, z, rfl, _⟩ := h; rfl
  · obtain ⟨α, s, z, rfl, R, g, k1, k2⟩ := h
    refine ⟨_, (pss_cons (ps_if (pt_not (pt_val (V6.qe_call (ok_is_team T) (hr.mono (by decide)) (by rfl) T.mg_is_team (V6.kp_of T.fn_is_team) (pa_cons (pv 1) pa_nil)))) (pss_one (ps_ret (pe_un un_neg pe_int))) pss_nil) (pss_cons (ps_set (i := 2) sc_start_refusal.nd rfl (Or.inl rfl) (V6.qe_call (ok_between_sets_refusal T) (hr.mono (by decide)) (by rfl) T.mg_between_sets_refusal (V6.kp_of T.fn_between_sets_refusal) (pa_cons (pv 0) pa_nil))) (pss_cons (ps_if (pt_cmpR op_lt (pv 2) pe_int (nomark _)) (pss_one (ps_ret (pv 2))) pss_nil) (pss_cons (ps_if (pt_not (pt_val (pe_callB (cr_all rfl) (by rfl) T.no_all V6.boot_all (pa_cons (pe_lc rfl sc_start_refusal.nd (pi_list (pe_fld (pv 0) rfl)) (blkOk_by (N := ["game", "team", "refusal", "side"]) (sc := defScope s_start_refusal) (own := [("side", 3)]) (by decide +kernel)) (fun _ _ _ _ _ => pg_name (i := 3) sc_start_refusal.nd rfl (Or.inl rfl)) (fun _ _ _ _ _ => pts_nil) (fun _ _ _ _ _ => (V6.qe_meth0 (pv 3) T.cl_Side T.me_Side_has_lineup (ok_Side_has_lineup T) (hr.mono (by decide))))) pa_nil)))) (pss_one (ps_ret (pe_un un_neg pe_int))) pss_nil) (pss_cons (ps_if (PW.pt (pw_and (pt_chain op_le op_le pe_int (V6.qe_meth0 (pv 0) T.cl_Game T.me_Game_set_number (ok_Game_set_number T) (hr.mono (by decide))) pe_int) (pw_and1 (pt_cmpR op_eq (pv 1) (pe_fld (pv 0) rfl) (nomark _))))) (pss_one (ps_ret (pe_un un_neg pe_int))) pss_nil) (pss_one (ps_ret pe_int))))))), ?_⟩
    refine ⟨_, rfl, z, rfl, _, rfl, ite2 (fun hc => ⟨_, rfl, k1 (-1) (by decide) ?_ H Same.refl⟩) (fun hc => ?_)⟩
    · unfold Kg60.spec
      simp only [show within z 0 1 = false by simpa using hc, if_true]
    have h1 : within z 0 1 = true := by simpa using hc
    obtain ⟨t, e1, e2⟩ := bN_of h1
    refine ⟨_, rfl, α, s, rfl, R, ?_⟩
    refine ⟨_, rfl, _, _, rfl, rfl, _, rfl, ite2 (fun hc => ⟨_, rfl, ?_⟩) (fun hc => ?_)⟩
    · have hb := of_decide_eq_true hc
      refine k1 _ hb ?_ H Same.refl
      rcases betw_neg hb with ⟨b1, b2⟩ | ⟨b1, b2, b3⟩
      · rw [b2]
        unfold Kg60.spec
        simp only [h1, Bool.true_eq_false, if_false]
        rw [if_pos b1]
      · rw [b3]
        unfold Kg60.spec
        simp only [h1, Bool.true_eq_false, if_false]
        rw [if_neg b1, if_pos b2]
    · obtain ⟨b1, b2⟩ := betw_ok (fun q => hc (decide_eq_true q))
      have sp : Kg60.spec s (.start z) = if s.a.slots = [] ∨ s.b.slots = [] then (s, Kg60.num (-4)) else if 1 ≤ s.over.length ∧ s.over.length ≤ 3 ∧ bN t = s.firstServe then (s, Kg60.num (-5)) else ({ s with playing := true, firstServe := bN t, serves := bN t }, Kg60.num (s.over.length + 1 : Nat)) := by
        unfold Kg60.spec
        simp only [h1, Bool.true_eq_false, if_false, e2]
        rw [if_neg b1, if_neg b2]
      simp only [tNext, tSeq, tIfS, tNot, tB]
      refine all_lcN (K := K) (j := 3) (a := α .sides) (xs := [.ref (α (.side false)), .ref (α (.side true))]) (fun i => decide (0 < (tm s (i == 1)).slots.length)) (fun R' h => ⟨_, rfl, rGame T R rfl T.na_Game_sides rfl h⟩) (SqL.of R.o_sides) (by show 2 ≤ 1000; decide) (fun x => rfl) (fun i x H' R' hx smx h => ?_) (fun H' smx => ?_)
      · have R2 := R.same smx
        obtain ⟨u, hu, rfl⟩ : ∃ u, u = (i == 1) ∧ x = .ref (α (.side u)) := by
          match i, hx with
          | 0, hx => exact ⟨false, rfl, (Option.some.inj hx).symm⟩
          | 1, hx => exact ⟨true, rfl, (Option.some.inj hx).symm⟩
          | i + 2, hx => simp at hx
        exact ⟨_, rfl, mSide R2 rfl rfl ⟨α, s, u, rfl, R2, by rw [hu]; exact h⟩⟩
      · have ea : (List.range ([.ref (α (.side false)), .ref (α (.side true))] : List V).length).all (fun i => decide (0 < (tm s (i == 1)).slots.length)) = (decide (0 < s.a.slots.length) && (decide (0 < s.b.slots.length) && true)) := rfl
        rw [ea, Bool.and_true]
        have R2 := R.same smx
        refine ⟨_, rfl, ite2 (fun hc => ⟨_, rfl, k1 (-4) (by decide) ?_ H' smx⟩) (fun hc => ?_)⟩
        · rw [sp, if_pos]
          simp only [Bool.not_and, Bool.or_eq_true, Bool.not_eq_true', decide_eq_false_iff_not, Nat.not_lt, Nat.le_zero_eq, List.length_eq_zero_iff] at hc
          exact hc
        · have hne : ¬ (s.a.slots = [] ∨ s.b.slots = []) := fun q => hc (by
            simp only [Bool.not_and, Bool.or_eq_true, Bool.not_eq_true', decide_eq_false_iff_not, Nat.not_lt, Nat.le_zero_eq, List.length_eq_zero_iff]
            exact q)
          rw [if_neg hne] at sp
          have hcnt := g.cnt
          have good : ¬ (1 ≤ s.over.length ∧ s.over.length ≤ 3 ∧ bN t = s.firstServe) → Q (.int 0) H' := fun q => k2 t e1 (by rw [sp, if_neg q]) H' smx
          refine ⟨_, rfl, mGame R2 rfl rfl ⟨α, s, rfl, R2, _, _, rfl, rfl, _, rfl, ite2 (fun hc => ⟨_, _, rfl, rfl, ?_⟩) (fun hc => ?_)⟩⟩
          · refine ⟨_, rfl, ite2 (fun hc2 => ⟨_, rfl, _, rfl, rGame T R2 rfl T.na_Game_first_server rfl ⟨rfl, _, rfl, ?_⟩⟩) (fun hc2 => ?_)⟩
            · rw [e1, show V.int ((bN t : Nat) : Int) = nV (bN t) from rfl, on_nV]
              refine ite2 (fun hc3 => ⟨_, rfl, k1 (-5) (by decide) ?_ H' smx⟩) (fun hc3 => ?_)
              · rw [sp, if_pos]
                have a1 := of_decide_eq_true hc
                have a2 := of_decide_eq_true hc2
                exact ⟨by omega, by omega, of_decide_eq_true hc3⟩
              · exact good fun q => hc3 (decide_eq_true q.2.2)
            · exact good fun q => hc2 (decide_eq_true (by omega))
          · refine ⟨_, rfl, ?_⟩
            exact good fun q => hc (decide_eq_true (by omega))
def spStartA (d : Ad) : Sp := fun vs H Q _ => ∃ (α : Role → Addr) (s : State) (z : Int), vs = [.ref (α .game), .int z] ∧ Rep d H α s ∧ Good s ∧ AnsOk d H α s (.start z) Q
theorem ok_answer_start (T : Txt K mg d) : GF P w K mg base 4 d.f_answer_start ["game", "team"] (spStartA d) := by
  obtain ⟨fd, F⟩ := T.fn_answer_start
  refine ⟨fd, F.ok sc_answer_start (fun vs H Q E h => ?_) (fun cdv A outer sh H vs Q E hr h => ?_), F.binds (fun _ _ _ _ _ _ us hl => match us, hl with | [_, _], _ => rfl)⟩
  · obtain ⟨α, s, z, rfl, _⟩ := h; rfl
  · obtain ⟨α, s, z, rfl, R, G, k⟩ := h
    refine ⟨_, (pss_cons (ps_set (i := 2) sc_answer_start.nd rfl (Or.inl rfl) (V6.qe_call (ok_start_refusal T) (hr.mono (by decide)) (by rfl) T.mg_start_refusal (V6.kp_of T.fn_start_refusal) (pa_cons (pv 0) (pa_cons (pv 1) pa_nil)))) (pss_cons (ps_if (pt_cmpR op_lt (pv 2) pe_int (nomark _)) (pss_one (ps_ret (pe_lst (pa_cons (pv 2) pa_nil)))) pss_nil) (pss_cons (ps_expr (V6.qe_meth (pv 0) T.cl_Game T.me_Game_start_set (ok_Game_start_set T) (hr.mono (by decide)) (pa_cons (pv 1) pa_nil))) (pss_one (ps_ret (pe_lst (pa_cons (V6.qe_meth0 (pv 0) T.cl_Game T.me_Game_set_number (ok_Game_set_number T) (hr.mono (by decide))) pa_nil))))))), ?_⟩
    refine ⟨_, rfl, _, rfl, α, s, z, rfl, R, G.g, fun r hr e H1 sm => ?_, fun t e1 e H1 sm => ?_⟩
    · refine ⟨_, rfl, _, _, rfl, rfl, _, rfl, ?_⟩
      rw [decide_eq_true hr]
      exact iteT ⟨_, rfl, k.num R e sm⟩
    · subst e1
      have R1 := R.same sm
      refine ⟨_, rfl, _, _, rfl, rfl, _, rfl, iteF ?_⟩
      refine ⟨_, rfl, mGame R1 rfl rfl ⟨_, rfl, α, s, t, rfl, R1, fun H2 S2' => ?_⟩⟩
      have S2 := (Step.same R sm).trans S2'
      refine ⟨_, rfl, mGame S2.rep rfl rfl ⟨α, _, rfl, S2.rep, ?_⟩⟩
      refine k.one S2 ?_
      rw [e]
      show _ = (_, Kg60.num ((s.a.sets + s.b.sets + 1 : Nat) : Int))
      rw [G.g.cnt]
end
end Vs
end
section
set_option Elab.async false
set_option maxRecDepth 100000
set_option maxHeartbeats 2000000
namespace Vs
open PySem PySem.Spec PyProof.Rows L2 V6
open Kg60 (Slot Team State within)
section
variable {P : Program} {w : World} {K : PySem.W.Frag} {mg : Str → Option Value} {base : Heap} {d : Ad}
/-! ### begin -/
def goodPl (l : List Int) : Bool := (decide (6 ≤ l.length) && decide (l.length ≤ 14)) && ((l.all fun z => within z 1 99) && decide l.Nodup)
def goodLb (l m : List Int) : Bool := decide (m.length ≤ 2) && (decide m.Nodup && ((m.all fun z => l.contains z) && decide (6 + m.length ≤ l.length)))
theorem roster_eq (l m : List Int) : Kg60.roster l m = (goodPl l && goodLb l m) := by
  unfold Kg60.roster goodPl goodLb
  rw [Bool.eq_iff_iff]
  simp only [Bool.and_eq_true]
  constructor
  · rintro ⟨h1, h2, h3, h4, h5, h6, h7, h8⟩; exact ⟨⟨⟨h3, h4⟩, h1, h2⟩, h6, h5, h7, h8⟩
  · rintro ⟨⟨⟨h3, h4⟩, h1, h2⟩, h6, h5, h7, h8⟩; exact ⟨h1, h2, h3, h4, h5, h6, h7, h8⟩
def spGoodPl (K : PySem.W.Frag) : Sp := fun vs H Q _ => ∃ (a : Addr) (zs : List Int), vs = [.ref a] ∧ SqL K H a (zs.map V.int) ∧ zs.length ≤ 1000 ∧ ∀ H', Same H H' → Q (.bl (goodPl zs)) H'
theorem ok_good_players (T : Txt K mg d) : GF P w K mg base 3 d.f_good_players ["players"] (spGoodPl K) := by
  obtain ⟨fd, F⟩ := T.fn_good_players
  refine ⟨fd, F.ok sc_good_players (fun vs H Q E h => ?_) (fun cdv A outer sh H vs Q E hr h => ?_), F.binds (fun _ _ _ _ _ _ us hl => match us, hl with | [_], _ => rfl)⟩
  · obtain ⟨a, zs, rfl, _⟩ := h; rfl
  · obtain ⟨a, zs, rfl, hS, hl, k⟩ := h
    refine ⟨_, (pss_one (ps_ret (pe_and (pe_chain op_le op_le pe_int (pe_callB call_len_seq (by rfl) T.no_len PySem.boot_len (pa_cons (pv 0) pa_nil)) pe_int) (pe_and (V6.qe_call (ok_are_shirts T) (hr.mono (by decide)) (by rfl) T.mg_are_shirts (V6.kp_of T.fn_are_shirts) (pa_cons (pv 0) pa_nil)) (pe_one (V6.qe_call (ok_all_different T) (hr.mono (by decide)) (by rfl) T.mg_all_different (V6.kp_of T.fn_all_different) (pa_cons (pv 0) pa_nil))))))), ?_⟩
    unfold goodPl at k
    have el : ((zs.map V.int).length : Int) = (zs.length : Int) := by rw [List.length_map]
    have no : (decide (6 ≤ zs.length) && decide (zs.length ≤ 14)) = false → Q (.bl false) H := fun h => by
      have := k H Same.refl
      rw [h, Bool.false_and] at this; exact this
    refine ⟨_, rfl, _, _, rfl, .inl hS, _, _, rfl, rfl, _, rfl, ite2 (fun hc => ⟨_, _, rfl, rfl, _, rfl, ite2 (fun hc2 => ⟨_, rfl, a, zs, rfl, hS, hl, fun H1 sm1 => ⟨_, rfl, ite2 (fun hc3 => ⟨_, rfl, a, zs, rfl, sm1.seq hS, hl, fun H2 sm2 => ?_⟩) (fun hc3 => ?_)⟩⟩) (fun hc2 => ?_)⟩) (fun hc => ⟨_, rfl, iteF ?_⟩)⟩
    · rw [el] at hc hc2
      have h1 := of_decide_eq_true hc
      have h2 := of_decide_eq_true hc2
      have := k H2 (sm1.trans sm2)
      rw [decide_eq_true (show 6 ≤ zs.length by omega), decide_eq_true (show zs.length ≤ 14 by omega), hc3, Bool.true_and, Bool.true_and, Bool.true_and] at this
      exact this
    · have := k H1 sm1
      rw [Bool.eq_false_iff.mpr hc3, Bool.false_and, Bool.and_false] at this
      exact this
    · rw [el] at hc2
      exact no (by rw [decide_eq_false (show ¬ zs.length ≤ 14 from fun q => hc2 (decide_eq_true (by omega))), Bool.and_false])
    · rw [el] at hc
      exact no (by rw [decide_eq_false (show ¬ 6 ≤ zs.length from fun q => hc (decide_eq_true (by omega))), Bool.false_and])
theorem inV_ints (z : Int) (l : List Int) : inV (.int z) (l.map V.int) = l.contains z := by
  unfold inV
  rw [List.any_map, List.contains_eq_any_beq]
  congr 1
  funext m
  show eqV (V.int m) (V.int z) = (z == m)
  unfold eqV
  rw [Bool.eq_iff_iff, beq_iff_eq, beq_iff_eq]
  exact eq_comm
theorem flat_ints (l : List Int) : (l.map V.int).all flatV = true := by
  rw [List.all_map, List.all_eq_true]; intro x _; rfl
def spGoodLb (K : PySem.W.Frag) : Sp := fun vs H Q _ => ∃ (a b : Addr) (zs ms : List Int), vs = [.ref a, .ref b] ∧ SqL K H a (zs.map V.int) ∧ SqL K H b (ms.map V.int) ∧ ms.length ≤ 1000 ∧ ∀ H', Same H H' → Q (.bl (goodLb zs ms)) H'
theorem ok_good_liberos (T : Txt K mg d) : GF P w K mg base 2 d.f_good_liberos ["players", "liberos"] (spGoodLb K) := by
  obtain ⟨fd, F⟩ := T.fn_good_liberos
  refine ⟨fd, F.ok sc_good_liberos (fun vs H Q E h => ?_) (fun cdv A outer sh H vs Q E hr h => ?_), F.binds (fun _ _ _ _ _ _ us hl => match us, hl with | [_, _], _ => rfl)⟩
  · obtain ⟨a, b, zs, ms, rfl, _⟩ := h; rfl
  · obtain ⟨a, b, zs, ms, rfl, hS, hM, hl, k⟩ := h
    refine ⟨_, (pss_cons (ps_if (PW.pt (pw_or (pt_cmpR op_gt (pe_callB call_len_seq (by rfl) T.no_len PySem.boot_len (pa_cons (pv 1) pa_nil)) pe_int (nomark _)) (pw_or1 (pt_not (pt_val (V6.qe_call (ok_all_different T) (hr.mono (by decide)) (by rfl) T.mg_all_different (V6.kp_of T.fn_all_different) (pa_cons (pv 1) pa_nil))))))) (pss_one (ps_ret pe_bl)) pss_nil) (pss_cons (ps_if (pt_not (pt_val (pe_callB (cr_all rfl) (by rfl) T.no_all V6.boot_all (pa_cons (pe_lc rfl sc_good_liberos.nd (pi_list (pv 1)) (blkOk_by (N := ["players", "liberos", "libero"]) (sc := defScope s_good_liberos) (own := [("libero", 2)]) (by decide +kernel)) (fun _ _ _ _ _ => pg_name (i := 2) sc_good_liberos.nd rfl (Or.inl rfl)) (fun _ _ _ _ _ => pts_nil) (fun _ _ _ _ _ => (pe_cmpR (V6.in_seqK (K' := K) rfl) (pv 2) (pv 0) (by with_unfolding_all rfl)))) pa_nil)))) (pss_one (ps_ret pe_bl)) pss_nil) (pss_one (ps_ret (pe_cmpR op_ge (pe_op op_sub (pe_callB call_len_seq (by rfl) T.no_len PySem.boot_len (pa_cons (pv 0) pa_nil)) (pe_callB call_len_seq (by rfl) T.no_len PySem.boot_len (pa_cons (pv 1) pa_nil))) pe_int (nomark _)))))), ?_⟩
    unfold goodLb at k
    have el : ((zs.map V.int).length : Int) = (zs.length : Int) := by rw [List.length_map]
    have em : ((ms.map V.int).length : Int) = (ms.length : Int) := by rw [List.length_map]
    refine ⟨_, rfl, _, _, rfl, .inl hM, _, _, rfl, rfl, _, rfl, ite2 (fun hc => iteT ?_) (fun hc => ⟨_, rfl, b, ms, rfl, hM, hl, fun H1 sm1 => ⟨_, rfl, ite2 (fun hc2 => ?_) (fun hc2 => ?_)⟩⟩)⟩
    · rw [em] at hc
      have := k H Same.refl
      rw [decide_eq_false (show ¬ ms.length ≤ 2 by have := of_decide_eq_true hc; omega), Bool.false_and] at this
      exact this
    · have := k H1 sm1
      rw [bnotT hc2, Bool.false_and, Bool.and_false] at this
      exact this
    · rw [em] at hc
      have h2 : decide (ms.length ≤ 2) = true := decide_eq_true (by
        by_cases q : ms.length ≤ 2
        · exact q
        · exact absurd (decide_eq_true (by omega)) hc)
      rw [h2, bnotF hc2, Bool.true_and, Bool.true_and] at k
      simp only [tNext, tSeq, tIfS, tNot, tB]
      refine all_lc (K := K) (j := 2) (a := b) (xs := ms.map V.int) (fun x => match x with | .int z => zs.contains z | _ => false) (fun R h => ⟨_, rfl, h⟩) (sm1.seq hM) (by rw [List.length_map]; exact hl) (fun x => rfl) (fun x H' R' hx smx h => ?_) (fun H' smx => ?_)
      · obtain ⟨u, hu, rfl⟩ := List.mem_map.mp hx
        refine ⟨_, rfl, _, rfl, _, _, rfl, .inl ((sm1.trans smx).seq hS), rfl, flat_ints _, ?_⟩
        rw [in_pos, inV_ints]; exact h
      · have ea : (ms.map V.int).all (fun x => match x with | .int z => zs.contains z | _ => false) = ms.all fun z => zs.contains z := by rw [List.all_map]; rfl
        rw [ea]
        have k := k H' (sm1.trans smx)
        refine ⟨_, rfl, ite2 (fun hc => ?_) (fun hc => ?_)⟩
        · rw [bnotT hc, Bool.false_and] at k; exact k
        · rw [bnotF hc, Bool.true_and] at k
          refine ⟨_, rfl, _, _, rfl, .inl ((sm1.trans smx).seq hS), _, rfl, _, _, rfl, .inl ((sm1.trans smx).seq hM), _, _, rfl, rfl, _, _, rfl, rfl, ?_⟩
          rw [el, em]
          have e : decide (6 + ms.length ≤ zs.length) = decide ((6 : Int) ≤ (zs.length : Int) - (ms.length : Int)) := by
            rw [Bool.eq_iff_iff, decide_eq_true_iff, decide_eq_true_iff]; omega
          rw [e] at k; exact k
/-- what is wanted of an answer, where lists are handed over -/
def AnsOkD (d : Ad) (H : Hp) (α : Role → Addr) (s : State) (c : Kg60.Call) (Q : VK) (D : List Addr) : Prop := ∀ H' α' p, Step d H α s H' α' (Kg60.spec s c).1 D → H p = none → H' p = some (.lst (((Kg60.spec s c).2.value :: (Kg60.spec s c).2.out).map V.int)) → Q (.ref p) H'
theorem Step.weak {H H' : Hp} {α α' : Role → Addr} {s s' : State} {D : List Addr} (S : Step d H α s H' α' s') : Step d H α s H' α' s' D :=
  ⟨S.rep, fun r h => S.ad r (by cases r <;> first | exact h | rfl | trivial), fun b o h ho _ => S.fr b o h ho List.not_mem_nil, S.gr⟩
theorem AnsOkD.plain {H : Hp} {α : Role → Addr} {s : State} {c : Kg60.Call} {Q : VK} {D : List Addr} (k : AnsOkD d H α s c Q D) : AnsOk d H α s c Q := fun H' α' p S h1 h2 => k H' α' p S.weak h1 h2
def spBeginA (d : Ad) : Sp := fun vs H Q _ => ∃ (α : Role → Addr) (s : State) (p0 p1 l0 l1 : Addr) (a b la lb : List Int), vs = [.ref (α .book), .ref p0, .ref p1, .ref l0, .ref l1] ∧ Rep d H α s ∧ [p0, p1, l0, l1].Nodup ∧
  H p0 = some (.lst (a.map V.int)) ∧ H p1 = some (.lst (b.map V.int)) ∧ H l0 = some (.lst (la.map V.int)) ∧ H l1 = some (.lst (lb.map V.int)) ∧ a.length ≤ 1000 ∧ b.length ≤ 1000 ∧ la.length ≤ 1000 ∧ lb.length ≤ 1000 ∧
  (∀ x ∈ [p0, p1, l0, l1], Out α s x) ∧ AnsOkD d H α s (.begin_ a b la lb) Q [p0, p1, l0, l1]
theorem nats_nV {l : List Int} (h : ∀ x ∈ l, 1 ≤ x) : (Kg60.nats l).map nV = l.map V.int := by
  unfold Kg60.nats
  rw [List.map_map]
  apply List.map_congr_left
  intro x hx
  have := h x hx
  exact (int_nV (by omega)).symm
theorem ok_answer_begin (T : Txt K mg d) : GF P w K mg base 4 d.f_answer_begin ["book", "players0", "players1", "liberos0", "liberos1"] (spBeginA d) := by
  obtain ⟨fd, F⟩ := T.fn_answer_begin
  refine ⟨fd, F.ok sc_answer_begin (fun vs H Q E h => ?_) (fun cdv A outer sh H vs Q E hr h => ?_), F.binds (fun _ _ _ _ _ _ us hl => match us, hl with | [_, _, _, _, _], _ => rfl)⟩
  · obtain ⟨α, s, p0, p1, l0, l1, a, b, la, lb, rfl, _⟩ := h; rfl
  · obtain ⟨α, s, p0, p1, l0, l1, a, b, la, lb, rfl, R, nd, hp0, hp1, hl0, hl1, b0, b1, b2, b3, ho, k⟩ := h
    refine ⟨_, (pss_cons (ps_if (PW.pt (pw_or (pt_not (pt_val (V6.qe_call (ok_good_players T) (hr.mono (by decide)) (by rfl) T.mg_good_players (V6.kp_of T.fn_good_players) (pa_cons (pv 1) pa_nil)))) (pw_or1 (pt_not (pt_val (V6.qe_call (ok_good_players T) (hr.mono (by decide)) (by rfl) T.mg_good_players (V6.kp_of T.fn_good_players) (pa_cons (pv 2) pa_nil))))))) (pss_one (ps_ret (pe_lst (pa_cons (pe_un un_neg pe_int) pa_nil)))) pss_nil) (pss_cons (ps_if (PW.pt (pw_or (pt_not (pt_val (V6.qe_call (ok_good_liberos T) (hr.mono (by decide)) (by rfl) T.mg_good_liberos (V6.kp_of T.fn_good_liberos) (pa_cons (pv 1) (pa_cons (pv 3) pa_nil))))) (pw_or1 (pt_not (pt_val (V6.qe_call (ok_good_liberos T) (hr.mono (by decide)) (by rfl) T.mg_good_liberos (V6.kp_of T.fn_good_liberos) (pa_cons (pv 2) (pa_cons (pv 4) pa_nil)))))))) (pss_one (ps_ret (pe_lst (pa_cons (pe_un un_neg pe_int) pa_nil)))) pss_nil) (pss_cons (ps_fld (pv 0) (V6.qe_make T.mk_Game (ok_Game_init T) (hr.mono (by decide)) (by rfl) T.mg_Game (pa_cons pe_bl (pa_cons (pe_lst (pa_cons (V6.qe_make T.mk_Side (ok_Side_init T) (hr.mono (by decide)) (by rfl) T.mg_Side (pa_cons (pv 1) (pa_cons (pv 3) pa_nil))) (pa_cons (V6.qe_make T.mk_Side (ok_Side_init T) (hr.mono (by decide)) (by rfl) T.mg_Side (pa_cons (pv 2) (pa_cons (pv 4) pa_nil))) pa_nil))) pa_nil))) rfl) (pss_one (ps_ret (pe_lst (pa_cons pe_int pa_nil))))))), ?_⟩
    have bad : ∀ H1, Same H H1 → ((goodPl a && goodLb a la) && (goodPl b && goodLb b lb)) = false → ([V.int (-1)] : List V).length ≤ sizeLine ∧ ∀ p, H1 p = none → Q (.ref p) (upd H1 p (.lst [V.int (-1)])) := fun H1 sm h => by
      refine k.plain.num R ?_ sm
      unfold Kg60.spec
      simp only [roster_eq, h, if_true]
    refine ⟨_, rfl, p0, a, rfl, SqL.of hp0, b0, fun H1 sm1 => ⟨_, rfl, ite2 (fun hc => iteT ⟨_, rfl, bad H1 sm1 (by rw [bnotT hc]; rfl)⟩) (fun hc => ⟨_, rfl, p1, b, rfl, SqL.of (sm1 _ _ hp1), b1, fun H2 sm2' => ⟨_, rfl, ?_⟩⟩)⟩⟩
    have sm2 := sm1.trans sm2'
    refine ite2 (fun hc2 => ⟨_, rfl, bad H2 sm2 (by rw [bnotT hc2, Bool.false_and, Bool.and_false])⟩) (fun hc2 => ?_)
    refine ⟨_, rfl, _, rfl, p0, l0, a, la, rfl, SqL.of (sm2 _ _ hp0), SqL.of (sm2 _ _ hl0), b2, fun H3 sm3' => ⟨_, rfl, ?_⟩⟩
    have sm3 := sm2.trans sm3'
    refine ite2 (fun hc3 => iteT ⟨_, rfl, bad H3 sm3 (by rw [bnotT hc3, Bool.and_false, Bool.false_and])⟩) (fun hc3 => ⟨_, rfl, _, rfl, p1, l1, b, lb, rfl, SqL.of (sm3 _ _ hp1), SqL.of (sm3 _ _ hl1), b3, fun H4 sm4' => ⟨_, rfl, ?_⟩⟩)
    have sm4 := sm3.trans sm4'
    refine ite2 (fun hc4 => ⟨_, rfl, bad H4 sm4 (by rw [bnotT hc4, Bool.and_false, Bool.and_false])⟩) (fun hc4 => ?_)
    have good : ((goodPl a && goodLb a la) && (goodPl b && goodLb b lb)) = true := by rw [bnotF hc, bnotF hc2, bnotF hc3, bnotF hc4]; rfl
    have sp : Kg60.spec s (.begin_ a b la lb) = (newS true (Kg60.nats a) (Kg60.nats la) (Kg60.nats b) (Kg60.nats lb), Kg60.num 0) := by
      unfold Kg60.spec
      simp only [roster_eq, good, Bool.true_eq_false, if_false]
      rfl
    have in99 : ∀ l, goodPl l = true → ∀ x ∈ l, 1 ≤ x := fun l h x hx => by
      unfold goodPl at h
      simp only [Bool.and_eq_true] at h
      exact (within_iff.mp (List.all_eq_true.mp h.2.1 x hx)).1
    have inlb : ∀ l m, goodPl l = true → goodLb l m = true → ∀ x ∈ m, 1 ≤ x := fun l m h h' x hx => by
      unfold goodLb at h'
      simp only [Bool.and_eq_true] at h'
      exact in99 l h x (List.contains_iff_mem.mp (List.all_eq_true.mp h'.2.2.1 x hx))
    have v0 := nats_nV (in99 a (bnotF hc))
    have v1 := nats_nV (in99 b (bnotF hc2))
    have v2 := nats_nV (inlb a la (bnotF hc) (bnotF hc3))
    have v3 := nats_nV (inlb b lb (bnotF hc2) (bnotF hc4))
    rw [← v0] at hp0
    rw [← v1] at hp1
    rw [← v2] at hl0
    rw [← v3] at hl1
    refine ⟨_, rfl, _, rfl, ?_⟩
    refine fun s0 d0 hx hdx hne => ⟨s0, d0, p0, l0, rfl, upd_same, fun H5 os0 om0 pl0 fr hs0 h1' h2' h3' n1 n2 n3 ho0 hm0 hpl0 => ⟨rfl, ?_⟩⟩
    obtain ⟨sm5, N1⟩ := made3 hx hdx fr hs0 h1' h2' h3' n1 n2 n3 ho0 hm0 hpl0
    clear fr h1' h2' h3'
    refine ⟨_, rfl, _, rfl, ?_⟩
    refine fun s1 d1 hx hdx hne => ⟨s1, d1, p1, l1, rfl, upd_same, fun H6 os1 om1 pl1 fr hs1 h1' h2' h3' n1 n2 n3 ho1 hm1 hpl1 => ⟨rfl, ?_⟩⟩
    obtain ⟨sm6, N2⟩ := made3 hx hdx fr hs1 h1' h2' h3' n1 n2 n3 ho1 hm1 hpl1
    clear fr h1' h2' h3'
    refine ⟨by show 2 ≤ sizeLine; decide, fun sd fsd => ?_⟩
    refine fun g dg hx hdx hne => ⟨g, dg, _, sd, rfl, upd_same, fun H7 pt wn ov fr hg h1' h2' h3' n1 n2 n3 hpt hwn hov => ⟨rfl, ?_⟩⟩
    obtain ⟨sm7, N3⟩ := made3 hx hdx fr hg h1' h2' h3' n1 n2 n3 hpt hwn hov
    clear fr h1' h2' h3'
    have sd_ := Same.new (o := .lst [.ref s0, .ref s1]) fsd
    have a5 := N1.app sm5 N2 sm6
    have t5 := sm5.trans sm6
    have a6 := a5.app t5 (New.one (o := .lst [.ref s0, .ref s1]) fsd) sd_
    have t6 := t5.trans sd_
    have a7 := a6.app t6 N3 sm7
    have t7 := t6.trans sm7
    have b6 : Same H6 H7 := sd_.trans sm7
    have b5 : Same H5 H7 := sm6.trans b6
    have all := sm4.trans t7
    obtain ⟨db, hb⟩ := R.o_book
    have newH : ∀ x ∈ [g, pt, wn, ov] ++ ([sd] ++ ([s1, os1, om1, pl1] ++ [s0, os0, om0, pl0])), H x = none := fun x hx => sm4.free (a7.2 x hx).1
    have oldH : ∀ x ∈ [p0, p1, l0, l1], ∃ o, H x = some o := fun x hx => by
      simp only [List.mem_cons, List.not_mem_nil, or_false] at hx
      rcases hx with rfl | rfl | rfl | rfl
      · exact ⟨_, hp0⟩
      · exact ⟨_, hp1⟩
      · exact ⟨_, hl0⟩
      · exact ⟨_, hl1⟩
    have nd18 : [α .book, g, pt, wn, ov, sd, s1, os1, om1, pl1, s0, os0, om0, pl0, p0, p1, l0, l1].Nodup := by
      have q : (([g, pt, wn, ov] ++ ([sd] ++ ([s1, os1, om1, pl1] ++ [s0, os0, om0, pl0]))) ++ [p0, p1, l0, l1]).Nodup := by
        refine List.nodup_append.mpr ⟨a7.1, nd, fun x hx y hy e => ?_⟩
        obtain ⟨o, h⟩ := oldH y hy
        rw [← e, newH x hx] at h; cases h
      refine List.nodup_cons.mpr ⟨fun hm => ?_, q⟩
      rcases List.mem_append.mp (show α .book ∈ ([g, pt, wn, ov] ++ ([sd] ++ ([s1, os1, om1, pl1] ++ [s0, os0, om0, pl0]))) ++ [p0, p1, l0, l1] from hm) with h | h
      · have := newH _ h
        rw [hb] at this; cases this
      · exact ho _ h .book trivial rfl
    have rep := new_rep (d := d) (db := db) (b := true) nd18 hg hpt hwn hov (sm7 _ _ upd_same) (b6 _ _ hs1) (b6 _ _ ho1) (b6 _ _ hm1) (b6 _ _ hpl1) (b5 _ _ hs0) (b5 _ _ ho0) (b5 _ _ hm0) (b5 _ _ hpl0) (all _ _ hp0) (all _ _ hp1) (all _ _ hl0) (all _ _ hl1)
    have S : Step d H α s (upd H7 (α .book) (.ins d.c_Book db [("game", .ref g)])) (onL [α .book, g, pt, wn, ov, sd, s1, os1, om1, pl1, s0, os0, om0, pl0, p0, p1, l0, l1]) (newS true (Kg60.nats a) (Kg60.nats la) (Kg60.nats b) (Kg60.nats lb)) [p0, p1, l0, l1] := by
      refine ⟨rep, fun r hr => ?_, fun x o hx hox hD => ⟨?_, fun r hr e => ?_⟩, fun x hx => all.free (upd_none hx)⟩
      · cases r <;> first | rfl | exact hr.elim | cases hr
      · rw [upd_ne fun e => hox .book trivial e.symm]; exact all _ _ hx
      · obtain ⟨_, hlt⟩ := new_live hr
        have mem : onL [α .book, g, pt, wn, ov, sd, s1, os1, om1, pl1, s0, os0, om0, pl0, p0, p1, l0, l1] r ∈ [α .book, g, pt, wn, ov, sd, s1, os1, om1, pl1, s0, os0, om0, pl0, p0, p1, l0, l1] := by
          unfold onL
          rw [List.getD_eq_getElem?_getD, List.getElem?_eq_getElem (show ixR r < [α .book, g, pt, wn, ov, sd, s1, os1, om1, pl1, s0, os0, om0, pl0, p0, p1, l0, l1].length from hlt)]
          exact List.getElem_mem _
        rw [e] at mem
        rcases List.mem_cons.mp mem with h | h
        · exact hox .book trivial h.symm
        · rcases List.mem_append.mp (show x ∈ ([g, pt, wn, ov] ++ ([sd] ++ ([s1, os1, om1, pl1] ++ [s0, os0, om0, pl0]))) ++ [p0, p1, l0, l1] from h) with h | h
          · have := newH x h
            rw [hx] at this; cases this
          · exact hD h
    refine ⟨_, rfl, α .book, d.c_Book, db, _, rfl, all _ _ hb, T.cl_Book, T.na_Book_game, by show 1 < 1000; decide, ?_⟩
    refine ⟨by show 1 ≤ sizeLine; decide, fun p hp => ?_⟩
    have hp' : upd H7 (α .book) (.ins d.c_Book db [("game", .ref g)]) p = none := hp
    generalize onL [α .book, g, pt, wn, ov, sd, s1, os1, om1, pl1, s0, os0, om0, pl0, p0, p1, l0, l1] = β at S
    refine k _ β p ?_ (S.gr p hp') ?_
    · rw [sp]
      exact S.right (Same.new hp')
    · rw [sp]
      exact upd_same
end
end Vs
end
section
set_option Elab.async false
set_option maxRecDepth 100000
set_option maxHeartbeats 2000000
namespace Vs
open PySem PySem.Spec PyProof.Rows L2 V6
open Kg60 (Slot Team State within)
section
variable {P : Program} {w : World} {K : PySem.W.Frag} {mg : Str → Option Value} {base : Heap} {d : Ad}
/-! ### Reader -/
def readF (a : Addr) (n : Nat) : List (Str × V) := [("numbers", .ref a), ("reached", nV n)]
def ReadAt (d : Ad) (H : Hp) (r a : Addr) (n : Nat) : Prop := ∃ dx, H r = some (.ins d.c_Reader dx (readF a n))
def spReadInit (d : Ad) : Sp := fun vs H Q _ => ∃ (r dx a : Addr), vs = [.ref r, .ref a] ∧ H r = some (.ins d.c_Reader dx []) ∧ Q .non (upd H r (.ins d.c_Reader dx (readF a 0)))
theorem ok_Reader_init (T : Txt K mg d) : GF P w K mg base 1 d.f_Reader_init ["self", "numbers"] (spReadInit d) := by
  obtain ⟨fd, F⟩ := T.fn_Reader_init
  refine ⟨fd, F.ok sc_Reader_init (fun vs H Q E h => ?_) (fun cdv A outer sh H vs Q E hr h => ?_), F.binds (fun _ _ _ _ _ _ us hl => match us, hl with | [_, _], _ => rfl)⟩
  · obtain ⟨r, dx, a, rfl, _⟩ := h; rfl
  · obtain ⟨r, dx, a, rfl, h1, k⟩ := h
    refine ⟨_, (pss_cons (ps_fld (pv 0) (pv 1) rfl) (pss_one (ps_fld (pv 0) pe_int rfl))), ?_⟩
    refine ⟨_, rfl, _, rfl, wF h1 T.cl_Reader T.na_Reader_numbers (show 0 < 1000 by decide) ?_⟩
    refine ⟨_, rfl, wF upd_same T.cl_Reader T.na_Reader_reached (show 1 < 1000 by decide) ?_⟩
    rw [upd_upd]
    exact k
def spAtEnd (d : Ad) (K : PySem.W.Frag) : Sp := fun vs H Q _ => ∃ (r a : Addr) (n : Nat) (ns : List Int), vs = [.ref r] ∧ ReadAt d H r a n ∧ SqL K H a (ns.map V.int) ∧ Q (.bl (decide (ns.length ≤ n))) H
theorem ok_Reader_at_end (T : Txt K mg d) : GF P w K mg base 1 d.f_Reader_at_end ["self"] (spAtEnd d K) := by
  obtain ⟨fd, F⟩ := T.fn_Reader_at_end
  refine ⟨fd, F.ok sc_Reader_at_end (fun vs H Q E h => ?_) (fun cdv A outer sh H vs Q E hr h => ?_), F.binds (fun _ _ _ _ _ _ us hl => match us, hl with | [_], _ => rfl)⟩
  · obtain ⟨r, a, n, ns, rfl, _⟩ := h; rfl
  · obtain ⟨r, a, n, ns, rfl, ⟨dx, h1⟩, hS, k⟩ := h
    refine ⟨_, (pss_one (ps_ret (pe_cmpR op_ge (pe_fld (pv 0) rfl) (pe_callB call_len_seq (by rfl) T.no_len PySem.boot_len (pa_cons (pe_fld (pv 0) rfl) pa_nil)) (nomark _)))), ?_⟩
    refine ⟨_, rfl, rF h1 T.cl_Reader T.na_Reader_reached rfl ⟨_, rfl, rF h1 T.cl_Reader T.na_Reader_numbers rfl ⟨_, _, rfl, .inl hS, _, _, rfl, rfl, ?_⟩⟩⟩
    have e : decide (ns.length ≤ n) = decide (((ns.map V.int).length : Int) ≤ (n : Int)) := by
      rw [List.length_map, Bool.eq_iff_iff, decide_eq_true_iff, decide_eq_true_iff]; omega
    rw [e] at k; exact k
theorem cut_ints (ns : List Int) (n m : Nat) : cutV (ns.map V.int) (some (n : Int)) (some ((n : Int) + (m : Int))) = ((ns.drop n).take m).map V.int := by
  unfold cutV
  rw [show ((n : Int) + (m : Int)) = ((n + m : Nat) : Int) by omega, HT.sIx_nat, HT.sIx_nat, List.length_map, ← List.map_drop, ← List.map_take]
  congr 1
  by_cases h : n ≤ ns.length
  · rw [Nat.min_eq_left h]
    by_cases h2 : n + m ≤ ns.length
    · rw [Nat.min_eq_left h2]; congr 1; omega
    · rw [Nat.min_eq_right (by omega), List.take_of_length_le (by rw [List.length_drop]; omega), List.take_of_length_le (by rw [List.length_drop]; omega)]
  · rw [Nat.min_eq_right (show ns.length ≤ n by omega), List.drop_of_length_le (Nat.le_refl _), List.drop_of_length_le (show ns.length ≤ n by omega), List.take_nil, List.take_nil]
/-- what take leaves: a new list, the reader further on, all else as it was -/
def spTakeM (d : Ad) (K : PySem.W.Frag) : Sp := fun vs H Q _ => ∃ (r a : Addr) (n m : Nat) (ns : List Int), vs = [.ref r, nV m] ∧ ReadAt d H r a n ∧ SqL K H a (ns.map V.int) ∧
  ∀ H' p, (∀ b o, H b = some o → b ≠ r → H' b = some o) → ReadAt d H' r a (n + m) → H p = none → H' p = some (.lst (((ns.drop n).take m).map V.int)) → (∀ b, H' b = none → H b = none) → Q (.ref p) H'
theorem ok_Reader_take (T : Txt K mg d) : GF P w K mg base 1 d.f_Reader_take ["self", "many"] (spTakeM d K) := by
  obtain ⟨fd, F⟩ := T.fn_Reader_take
  refine ⟨fd, F.ok sc_Reader_take (fun vs H Q E h => ?_) (fun cdv A outer sh H vs Q E hr h => ?_), F.binds (fun _ _ _ _ _ _ us hl => match us, hl with | [_, _], _ => rfl)⟩
  · obtain ⟨r, a, n, m, ns, rfl, _⟩ := h; rfl
  · obtain ⟨r, a, n, m, ns, rfl, ⟨dx, h1⟩, hS, k⟩ := h
    refine ⟨_, (pss_cons (ps_set (i := 2) sc_Reader_take.nd rfl (Or.inl rfl) (pe_slice sl_list (pe_fld (pv 0) rfl) (po_some (pe_fld (pv 0) rfl)) (po_some (pe_op op_add (pe_fld (pv 0) rfl) (pv 1))))) (pss_cons (ps_fldaug (pv 0) (pv 1) in_add) (pss_one (ps_ret (pv 2))))), ?_⟩
    refine ⟨_, rfl, rF h1 T.cl_Reader T.na_Reader_numbers rfl ⟨_, rfl, rF h1 T.cl_Reader T.na_Reader_reached rfl ⟨_, rfl, _, rfl, rF h1 T.cl_Reader T.na_Reader_reached rfl ⟨_, rfl, _, _, rfl, rfl, _, rfl, _, _, rfl, hS, fun p hp => ?_⟩⟩⟩⟩
    have np : r ≠ p := ne_of_none h1 hp
    have h2 : ∀ o, (upd H p o) r = some (.ins d.c_Reader dx (readF a n)) := fun o => (upd_ne np).trans h1
    refine ⟨_, rfl, r, _, dx, _, _, rfl, h2 _, T.cl_Reader, T.na_Reader_reached, rfl, _, rfl, _, _, rfl, rfl, dx, _, h2 _, by show 2 < 1000; decide, _, rfl, ?_⟩
    refine k _ p (fun b o e hb => ?_) ⟨dx, ?_⟩ hp ?_ (fun b hb => upd_none (upd_none hb))
    · rw [upd_ne hb, upd_ne (ne_of_none e hp)]; exact e
    · rw [upd_same]; rfl
    · rw [upd_ne np.symm, upd_same]
      exact congrArg (fun l => some (HO.lst l)) (cut_ints ns n m)
def spTakeOne (d : Ad) (K : PySem.W.Frag) : Sp := fun vs H Q _ => ∃ (r a : Addr) (n : Nat) (ns : List Int) (z : Int), vs = [.ref r] ∧ ReadAt d H r a n ∧ SqL K H a (ns.map V.int) ∧ ns[n]? = some z ∧
  ∀ H', (∀ b o, H b = some o → b ≠ r → H' b = some o) → ReadAt d H' r a (n + 1) → (∀ b, H' b = none → H b = none) → Q (.int z) H'
theorem ok_Reader_take_one (T : Txt K mg d) : GF P w K mg base 2 d.f_Reader_take_one ["self"] (spTakeOne d K) := by
  obtain ⟨fd, F⟩ := T.fn_Reader_take_one
  refine ⟨fd, F.ok sc_Reader_take_one (fun vs H Q E h => ?_) (fun cdv A outer sh H vs Q E hr h => ?_), F.binds (fun _ _ _ _ _ _ us hl => match us, hl with | [_], _ => rfl)⟩
  · obtain ⟨r, a, n, ns, z, rfl, _⟩ := h; rfl
  · obtain ⟨r, a, n, ns, z, rfl, ⟨dx, h1⟩, hS, hz, k⟩ := h
    refine ⟨_, (pss_one (ps_ret (pe_ix ix_list (V6.qe_meth (pv 0) T.cl_Reader T.me_Reader_take (ok_Reader_take T) (hr.mono (by decide)) (pa_cons pe_int pa_nil)) pe_int (fun _ _ => rfl)))), ?_⟩
    refine ⟨_, rfl, _, dx, _, rfl, h1, rfl, r, a, n, 1, ns, rfl, ⟨dx, h1⟩, hS, fun H' p fr hr hp hl gr => ?_⟩
    refine ⟨_, _, _, _, rfl, rfl, SqL.of hl, atI_nat (j := 0) (v := .int z) ?_, k H' fr hr gr⟩
    rw [List.getElem?_map, List.getElem?_take_of_lt (by decide), List.getElem?_drop, Nat.add_zero, hz]; rfl
def spTakeRow (d : Ad) (K : PySem.W.Frag) : Sp := fun vs H Q _ => ∃ (r a : Addr) (n m : Nat) (ns : List Int), vs = [.ref r] ∧ ReadAt d H r a n ∧ SqL K H a (ns.map V.int) ∧ ns[n]? = some (m : Int) ∧
  ∀ H' p, (∀ b o, H b = some o → b ≠ r → H' b = some o) → ReadAt d H' r a (n + 1 + m) → H p = none → H' p = some (.lst (((ns.drop (n + 1)).take m).map V.int)) → (∀ b, H' b = none → H b = none) → Q (.ref p) H'
theorem seq_fr {H H' : Hp} {r a : Addr} {n : Nat} {c : Addr} {xs : List V} (fr : ∀ b o, H b = some o → b ≠ r → H' b = some o) (hr : ReadAt d H r c n) (h : SqL K H a xs) : SqL K H' a xs := by
  obtain ⟨dx, hr⟩ := hr
  rcases h with (h | ⟨o, h⟩) | h
  · exact .inl (.inl (fr _ _ h (ne_of h hr (by intro z; cases z))))
  · exact .inl (.inr ⟨o, fr _ _ h (ne_of h hr (by intro z; cases z))⟩)
  · exact .inr h
theorem ok_Reader_take_row (T : Txt K mg d) : GF P w K mg base 3 d.f_Reader_take_row ["self"] (spTakeRow d K) := by
  obtain ⟨fd, F⟩ := T.fn_Reader_take_row
  refine ⟨fd, F.ok sc_Reader_take_row (fun vs H Q E h => ?_) (fun cdv A outer sh H vs Q E hr h => ?_), F.binds (fun _ _ _ _ _ _ us hl => match us, hl with | [_], _ => rfl)⟩
  · obtain ⟨r, a, n, m, ns, rfl, _⟩ := h; rfl
  · obtain ⟨r, a, n, m, ns, rfl, ⟨dx, h1⟩, hS, hz, k⟩ := h
    refine ⟨_, (pss_one (ps_ret (V6.qe_meth (pv 0) T.cl_Reader T.me_Reader_take (ok_Reader_take T) (hr.mono (by decide)) (pa_cons (V6.qe_meth0 (pv 0) T.cl_Reader T.me_Reader_take_one (ok_Reader_take_one T) (hr.mono (by decide))) pa_nil)))), ?_⟩
    refine ⟨_, rfl, _, dx, _, rfl, h1, rfl, _, rfl, _, dx, _, rfl, h1, rfl, r, a, n, ns, (m : Int), rfl, ⟨dx, h1⟩, hS, hz, fun H1 fr1 hr1 gr1 => ?_⟩
    refine ⟨r, a, n + 1, m, ns, rfl, hr1, seq_fr fr1 ⟨dx, h1⟩ hS, fun H2 p fr2 hr2 hp hl gr2 => ?_⟩
    exact k H2 p (fun b o e hb => fr2 b o (fr1 b o e hb) hb) hr2 (gr1 p hp) hl (fun b hb => gr1 b (gr2 b hb))
/-! ### which call -/
/-- a call as it was read: its number, its whole numbers, its rows; the lists that hold them -/
structure Rd0 (H : Hp) (va ra : Addr) (vs : List Int) (as : List Addr) (xs : List (List Int)) : Prop where
  v : H va = some (.lst (vs.map V.int))
  r : H ra = some (.lst (as.map V.ref))
  nd : as.Nodup
  len : as.length = xs.length
  at_ : ∀ (j : Nat) (a : Addr) (x : List Int), as[j]? = some a → xs[j]? = some x → H a = some (.lst (x.map V.int)) ∧ x.length ≤ 20
def OpenC (z : Int) (xs : List Int) (rs : List (List Int)) (c : Kg60.Call) : Prop := (z = 1 ∧ xs = [] ∧ ∃ a b la lb, rs = [a, b, la, lb] ∧ c = .begin_ a b la lb) ∨ (z = 2 ∧ ∃ t l, xs = [t] ∧ rs = [l] ∧ c = .lineup t l) ∨ (z = 3 ∧ ∃ t, xs = [t] ∧ rs = [] ∧ c = .start t)
def PlayC (z : Int) (xs : List Int) (rs : List (List Int)) (c : Kg60.Call) : Prop := (z = 4 ∧ ∃ t, xs = [t] ∧ rs = [] ∧ c = .rally t) ∨ (z = 5 ∧ ∃ t p, xs = [t, p] ∧ rs = [] ∧ c = .serve t p) ∨ (z = 6 ∧ ∃ t o i, xs = [t, o, i] ∧ rs = [] ∧ c = .sub t o i) ∨
  (z = 7 ∧ ∃ t o i, xs = [t, o, i] ∧ rs = [] ∧ c = .libero t o i) ∨ (z = 8 ∧ ∃ t, xs = [t] ∧ rs = [] ∧ c = .timeout t) ∨ (z = 9 ∧ ∃ t p k i, xs = [t, p, k, i] ∧ rs = [] ∧ c = .card t p k i)
def ViewC (z : Int) (xs : List Int) (rs : List (List Int)) (c : Kg60.Call) : Prop := (z = 10 ∧ xs = [] ∧ rs = [] ∧ c = .now) ∨ (z = 11 ∧ ∃ t, xs = [t] ∧ rs = [] ∧ c = .court t) ∨ (z = 12 ∧ ∃ t, xs = [t] ∧ rs = [] ∧ c = .sheet t) ∨ (z = 13 ∧ xs = [] ∧ rs = [] ∧ c = .sets)
theorem call_cases {z : Int} {xs : List Int} {rs : List (List Int)} {c : Kg60.Call} (h : Kg60Neutral.callOf ((z :: xs) :: rs) = some c) : OpenC z xs rs c ∨ PlayC z xs rs c ∨ ViewC z xs rs c := by
  unfold Kg60Neutral.callOf at h
  split at h
  all_goals try (rename_i e; simp only [List.cons.injEq] at e; obtain ⟨⟨rfl, rfl⟩, rfl⟩ := e)
  · exact .inl (.inl ⟨rfl, rfl, _, _, _, _, rfl, (Option.some.inj h).symm⟩)
  · exact .inl (.inr (.inl ⟨rfl, _, _, rfl, rfl, (Option.some.inj h).symm⟩))
  · exact .inl (.inr (.inr ⟨rfl, _, rfl, rfl, (Option.some.inj h).symm⟩))
  · exact .inr (.inl (.inl ⟨rfl, _, rfl, rfl, (Option.some.inj h).symm⟩))
  · exact .inr (.inl (.inr (.inl ⟨rfl, _, _, rfl, rfl, (Option.some.inj h).symm⟩)))
  · exact .inr (.inl (.inr (.inr (.inl ⟨rfl, _, _, _, rfl, rfl, (Option.some.inj h).symm⟩))))
  · exact .inr (.inl (.inr (.inr (.inr (.inl ⟨rfl, _, _, _, rfl, rfl, (Option.some.inj h).symm⟩)))))
  · exact .inr (.inl (.inr (.inr (.inr (.inr (.inl ⟨rfl, _, rfl, rfl, (Option.some.inj h).symm⟩))))))
  · exact .inr (.inl (.inr (.inr (.inr (.inr (.inr ⟨rfl, _, _, _, _, rfl, rfl, (Option.some.inj h).symm⟩))))))
  · exact .inr (.inr (.inl ⟨rfl, rfl, rfl, (Option.some.inj h).symm⟩))
  · exact .inr (.inr (.inr (.inl ⟨rfl, _, rfl, rfl, (Option.some.inj h).symm⟩)))
  · exact .inr (.inr (.inr (.inr (.inl ⟨rfl, _, rfl, rfl, (Option.some.inj h).symm⟩))))
  · exact .inr (.inr (.inr (.inr (.inr ⟨rfl, rfl, rfl, (Option.some.inj h).symm⟩))))
  · cases h
def spOpening (d : Ad) : Sp := fun vs H Q _ => ∃ (α : Role → Addr) (s : State) (z : Int) (va ra : Addr) (xs : List Int) (as : List Addr) (rs : List (List Int)) (c : Kg60.Call),
  vs = [.ref (α .book), .int z, .ref va, .ref ra] ∧ Rep d H α s ∧ Good s ∧ Rd0 H va ra xs as rs ∧ (∀ a ∈ as, Out α s a) ∧ OpenC z xs rs c ∧ AnsOkD d H α s c Q as
def spPlayC (d : Ad) : Sp := fun vs H Q _ => ∃ (α : Role → Addr) (s : State) (z : Int) (va : Addr) (xs : List Int) (rs : List (List Int)) (c : Kg60.Call),
  vs = [.ref (α .game), .int z, .ref va] ∧ Rep d H α s ∧ Good s ∧ H va = some (.lst (xs.map V.int)) ∧ PlayC z xs rs c ∧ AnsOk d H α s c Q
def spViewC (d : Ad) : Sp := fun vs H Q _ => ∃ (α : Role → Addr) (s : State) (z : Int) (va : Addr) (xs : List Int) (rs : List (List Int)) (c : Kg60.Call),
  vs = [.ref (α .game), .int z, .ref va] ∧ Rep d H α s ∧ Good s ∧ H va = some (.lst (xs.map V.int)) ∧ ViewC z xs rs c ∧ AnsOk d H α s c Q
def spCallC (d : Ad) : Sp := fun vs H Q _ => ∃ (α : Role → Addr) (s : State) (z : Int) (va ra : Addr) (xs : List Int) (as : List Addr) (rs : List (List Int)) (c : Kg60.Call),
  vs = [.ref (α .book), .int z, .ref va, .ref ra] ∧ Rep d H α s ∧ Good s ∧ Rd0 H va ra xs as rs ∧ (∀ a ∈ as, Out α s a) ∧ (OpenC z xs rs c ∨ PlayC z xs rs c ∨ ViewC z xs rs c) ∧ AnsOkD d H α s c Q as
/-- book.game -/
theorem rBook {H : Hp} {α : Role → Addr} {s : State} {Q : V → Prop} (T : Txt K mg d) (R : Rep d H α s) (q : Q (.ref (α .game))) : ∃ a' C dx fs v, V.ref (α .book) = V.ref a' ∧ H a' = some (.ins C dx fs) ∧ Cls K C ∧ NoAttr K C "game" ∧ fs.lookup ("game" : Str) = some v ∧ Q v := by
  obtain ⟨dx, h⟩ := R.o_book
  exact rF h T.cl_Book T.na_Book_game rfl q
theorem ok_answer_opening (T : Txt K mg d) : GF P w K mg base 5 d.f_answer_opening ["book", "call", "values", "rows"] (spOpening d) := by
  obtain ⟨fd, F⟩ := T.fn_answer_opening
  refine ⟨fd, F.ok sc_answer_opening (fun vs H Q E h => ?_) (fun cdv A outer sh H vs Q E hr h => ?_), F.binds (fun _ _ _ _ _ _ us hl => match us, hl with | [_, _, _, _], _ => rfl)⟩
  · obtain ⟨α, s, z, va, ra, xs, as, rs, c, rfl, _⟩ := h; rfl
  · obtain ⟨α, s, z, va, ra, xs, as, rs, c, rfl, R, G, D, ho, hc, k⟩ := h
    refine ⟨_, (pss_cons (ps_if (pt_cmpR op_eq (pv 1) (V6.pe_k (by rfl) T.k_BEGIN) (nomark _)) (pss_one (ps_ret (V6.qe_call (ok_answer_begin T) (hr.mono (by decide)) (by rfl) T.mg_answer_begin (V6.kp_of T.fn_answer_begin) (pa_cons (pv 0) (pa_cons (pe_ix ix_list (pv 3) pe_int (fun _ _ => rfl)) (pa_cons (pe_ix ix_list (pv 3) pe_int (fun _ _ => rfl)) (pa_cons (pe_ix ix_list (pv 3) pe_int (fun _ _ => rfl)) (pa_cons (pe_ix ix_list (pv 3) pe_int (fun _ _ => rfl)) pa_nil)))))))) pss_nil) (pss_cons (ps_if (pt_cmpR op_eq (pv 1) (V6.pe_k (by rfl) T.k_LINEUP) (nomark _)) (pss_one (ps_ret (V6.qe_call (ok_answer_lineup T) (hr.mono (by decide)) (by rfl) T.mg_answer_lineup (V6.kp_of T.fn_answer_lineup) (pa_cons (pe_fld (pv 0) rfl) (pa_cons (pe_ix ix_list (pv 2) pe_int (fun _ _ => rfl)) (pa_cons (pe_ix ix_list (pv 3) pe_int (fun _ _ => rfl)) pa_nil)))))) pss_nil) (pss_one (ps_ret (V6.qe_call (ok_answer_start T) (hr.mono (by decide)) (by rfl) T.mg_answer_start (V6.kp_of T.fn_answer_start) (pa_cons (pe_fld (pv 0) rfl) (pa_cons (pe_ix ix_list (pv 2) pe_int (fun _ _ => rfl)) pa_nil))))))), ?_⟩
    rcases hc with ⟨rfl, rfl, a, b, la, lb, rfl, rfl⟩ | ⟨rfl, t, l, rfl, rfl, rfl⟩ | ⟨rfl, t, rfl, rfl, rfl⟩
    · have hlen := D.len
      match as, D, ho, k, hlen with
      | [p0, p1, l0, l1], D, ho, k, _ =>
        obtain ⟨h0, b0⟩ := D.at_ 0 p0 a rfl rfl
        obtain ⟨h1, b1⟩ := D.at_ 1 p1 b rfl rfl
        obtain ⟨h2, b2⟩ := D.at_ 2 l0 la rfl rfl
        obtain ⟨h3, b3⟩ := D.at_ 3 l1 lb rfl rfl
        refine ⟨_, rfl, rfl, _, rfl, iteT ?_⟩
        exact ⟨_, rfl, _, rfl, _, _, _, _, rfl, rfl, SqL.of D.r, atI_nat (j := 0) rfl, _, rfl, _, _, _, _, rfl, rfl, SqL.of D.r, atI_nat (j := 1) rfl, _, rfl, _, _, _, _, rfl, rfl, SqL.of D.r, atI_nat (j := 2) rfl, _, rfl, _, _, _, _, rfl, rfl, SqL.of D.r, atI_nat (j := 3) rfl,
          α, s, p0, p1, l0, l1, a, b, la, lb, rfl, R, D.nd, h0, h1, h2, h3, Nat.le_trans b0 (by decide), Nat.le_trans b1 (by decide), Nat.le_trans b2 (by decide), Nat.le_trans b3 (by decide), ho, k⟩
    · have hlen := D.len
      match as, D, ho, k, hlen with
      | [p0], D, ho, k, _ =>
        obtain ⟨h0, b0⟩ := D.at_ 0 p0 l rfl rfl
        refine ⟨_, rfl, rfl, _, rfl, iteF ?_⟩
        refine ⟨_, rfl, rfl, _, rfl, iteT ?_⟩
        exact ⟨_, rfl, rBook T R ⟨_, rfl, _, _, _, _, rfl, rfl, SqL.of D.v, atI_nat (j := 0) rfl, _, rfl, _, _, _, _, rfl, rfl, SqL.of D.r, atI_nat (j := 0) rfl, α, s, t, p0, l, rfl, R, G, SqL.of h0, Nat.le_trans b0 (by decide), k.plain⟩⟩
    · refine ⟨_, rfl, rfl, _, rfl, iteF ?_⟩
      refine ⟨_, rfl, rfl, _, rfl, iteF ?_⟩
      exact ⟨_, rfl, rBook T R ⟨_, rfl, _, _, _, _, rfl, rfl, SqL.of D.v, atI_nat (j := 0) rfl, α, s, t, rfl, R, G, k.plain⟩⟩
theorem ok_answer_play (T : Txt K mg d) : GF P w K mg base 8 d.f_answer_play ["game", "call", "values"] (spPlayC d) := by
  obtain ⟨fd, F⟩ := T.fn_answer_play
  refine ⟨fd, F.ok sc_answer_play (fun vs H Q E h => ?_) (fun cdv A outer sh H vs Q E hr h => ?_), F.binds (fun _ _ _ _ _ _ us hl => match us, hl with | [_, _, _], _ => rfl)⟩
  · obtain ⟨α, s, z, va, xs, rs, c, rfl, _⟩ := h; rfl
  · obtain ⟨α, s, z, va, xs, rs, c, rfl, R, G, hv, hc, k⟩ := h
    refine ⟨_, (pss_cons (ps_if (pt_cmpR op_eq (pv 1) (V6.pe_k (by rfl) T.k_RALLY) (nomark _)) (pss_one (ps_ret (V6.qe_call (ok_answer_rally T) (hr.mono (by decide)) (by rfl) T.mg_answer_rally (V6.kp_of T.fn_answer_rally) (pa_cons (pv 0) (pa_cons (pe_ix ix_list (pv 2) pe_int (fun _ _ => rfl)) pa_nil))))) pss_nil) (pss_cons (ps_if (pt_cmpR op_eq (pv 1) (V6.pe_k (by rfl) T.k_SERVE) (nomark _)) (pss_one (ps_ret (V6.qe_call (ok_answer_serve T) (hr.mono (by decide)) (by rfl) T.mg_answer_serve (V6.kp_of T.fn_answer_serve) (pa_cons (pv 0) (pa_cons (pe_ix ix_list (pv 2) pe_int (fun _ _ => rfl)) (pa_cons (pe_ix ix_list (pv 2) pe_int (fun _ _ => rfl)) pa_nil)))))) pss_nil) (pss_cons (ps_if (pt_cmpR op_eq (pv 1) (V6.pe_k (by rfl) T.k_SUB) (nomark _)) (pss_one (ps_ret (V6.qe_call (ok_answer_sub T) (hr.mono (by decide)) (by rfl) T.mg_answer_sub (V6.kp_of T.fn_answer_sub) (pa_cons (pv 0) (pa_cons (pe_ix ix_list (pv 2) pe_int (fun _ _ => rfl)) (pa_cons (pe_ix ix_list (pv 2) pe_int (fun _ _ => rfl)) (pa_cons (pe_ix ix_list (pv 2) pe_int (fun _ _ => rfl)) pa_nil))))))) pss_nil) (pss_cons (ps_if (pt_cmpR op_eq (pv 1) (V6.pe_k (by rfl) T.k_LIBERO) (nomark _)) (pss_one (ps_ret (V6.qe_call (ok_answer_libero T) (hr.mono (by decide)) (by rfl) T.mg_answer_libero (V6.kp_of T.fn_answer_libero) (pa_cons (pv 0) (pa_cons (pe_ix ix_list (pv 2) pe_int (fun _ _ => rfl)) (pa_cons (pe_ix ix_list (pv 2) pe_int (fun _ _ => rfl)) (pa_cons (pe_ix ix_list (pv 2) pe_int (fun _ _ => rfl)) pa_nil))))))) pss_nil) (pss_cons (ps_if (pt_cmpR op_eq (pv 1) (V6.pe_k (by rfl) T.k_TIMEOUT) (nomark _)) (pss_one (ps_ret (V6.qe_call (ok_answer_timeout T) (hr.mono (by decide)) (by rfl) T.mg_answer_timeout (V6.kp_of T.fn_answer_timeout) (pa_cons (pv 0) (pa_cons (pe_ix ix_list (pv 2) pe_int (fun _ _ => rfl)) pa_nil))))) pss_nil) (pss_one (ps_ret (V6.qe_call (ok_answer_card T) (hr.mono (by decide)) (by rfl) T.mg_answer_card (V6.kp_of T.fn_answer_card) (pa_cons (pv 0) (pa_cons (pe_ix ix_list (pv 2) pe_int (fun _ _ => rfl)) (pa_cons (pe_ix ix_list (pv 2) pe_int (fun _ _ => rfl)) (pa_cons (pe_ix ix_list (pv 2) pe_int (fun _ _ => rfl)) (pa_cons (pe_ix ix_list (pv 2) pe_int (fun _ _ => rfl)) pa_nil))))))))))))), ?_⟩
    rcases hc with ⟨rfl, t, rfl, rfl, rfl⟩ | ⟨rfl, t, p, rfl, rfl, rfl⟩ | ⟨rfl, t, o, i, rfl, rfl, rfl⟩ | ⟨rfl, t, o, i, rfl, rfl, rfl⟩ | ⟨rfl, t, rfl, rfl, rfl⟩ | ⟨rfl, t, p, kk, i, rfl, rfl, rfl⟩
    · refine ⟨_, rfl, rfl, _, rfl, iteT ?_⟩
      exact ⟨_, rfl, _, rfl, _, _, _, _, rfl, rfl, SqL.of hv, atI_nat (j := 0) rfl, α, s, t, rfl, R, G, k⟩
    · refine ⟨_, rfl, rfl, _, rfl, iteF ?_⟩
      refine ⟨_, rfl, rfl, _, rfl, iteT ?_⟩
      exact ⟨_, rfl, _, rfl, _, _, _, _, rfl, rfl, SqL.of hv, atI_nat (j := 0) rfl, _, rfl, _, _, _, _, rfl, rfl, SqL.of hv, atI_nat (j := 1) rfl, α, s, t, p, rfl, R, G, k⟩
    · refine ⟨_, rfl, rfl, _, rfl, iteF ?_⟩
      refine ⟨_, rfl, rfl, _, rfl, iteF ?_⟩
      refine ⟨_, rfl, rfl, _, rfl, iteT ?_⟩
      exact ⟨_, rfl, _, rfl, _, _, _, _, rfl, rfl, SqL.of hv, atI_nat (j := 0) rfl, _, rfl, _, _, _, _, rfl, rfl, SqL.of hv, atI_nat (j := 1) rfl, _, rfl, _, _, _, _, rfl, rfl, SqL.of hv, atI_nat (j := 2) rfl, α, s, t, o, i, rfl, R, G, k⟩
    · refine ⟨_, rfl, rfl, _, rfl, iteF ?_⟩
      refine ⟨_, rfl, rfl, _, rfl, iteF ?_⟩
      refine ⟨_, rfl, rfl, _, rfl, iteF ?_⟩
      refine ⟨_, rfl, rfl, _, rfl, iteT ?_⟩
      exact ⟨_, rfl, _, rfl, _, _, _, _, rfl, rfl, SqL.of hv, atI_nat (j := 0) rfl, _, rfl, _, _, _, _, rfl, rfl, SqL.of hv, atI_nat (j := 1) rfl, _, rfl, _, _, _, _, rfl, rfl, SqL.of hv, atI_nat (j := 2) rfl, α, s, t, o, i, rfl, R, G, k⟩
    · refine ⟨_, rfl, rfl, _, rfl, iteF ?_⟩
      refine ⟨_, rfl, rfl, _, rfl, iteF ?_⟩
      refine ⟨_, rfl, rfl, _, rfl, iteF ?_⟩
      refine ⟨_, rfl, rfl, _, rfl, iteF ?_⟩
      refine ⟨_, rfl, rfl, _, rfl, iteT ?_⟩
      exact ⟨_, rfl, _, rfl, _, _, _, _, rfl, rfl, SqL.of hv, atI_nat (j := 0) rfl, α, s, t, rfl, R, G, k⟩
    · refine ⟨_, rfl, rfl, _, rfl, iteF ?_⟩
      refine ⟨_, rfl, rfl, _, rfl, iteF ?_⟩
      refine ⟨_, rfl, rfl, _, rfl, iteF ?_⟩
      refine ⟨_, rfl, rfl, _, rfl, iteF ?_⟩
      refine ⟨_, rfl, rfl, _, rfl, iteF ?_⟩
      exact ⟨_, rfl, _, rfl, _, _, _, _, rfl, rfl, SqL.of hv, atI_nat (j := 0) rfl, _, rfl, _, _, _, _, rfl, rfl, SqL.of hv, atI_nat (j := 1) rfl, _, rfl, _, _, _, _, rfl, rfl, SqL.of hv, atI_nat (j := 2) rfl, _, rfl, _, _, _, _, rfl, rfl, SqL.of hv, atI_nat (j := 3) rfl, α, s, t, p, kk, i, rfl, R, G, k⟩
theorem ok_answer_view (T : Txt K mg d) : GF P w K mg base 5 d.f_answer_view ["game", "call", "values"] (spViewC d) := by
  obtain ⟨fd, F⟩ := T.fn_answer_view
  refine ⟨fd, F.ok sc_answer_view (fun vs H Q E h => ?_) (fun cdv A outer sh H vs Q E hr h => ?_), F.binds (fun _ _ _ _ _ _ us hl => match us, hl with | [_, _, _], _ => rfl)⟩
  · obtain ⟨α, s, z, va, xs, rs, c, rfl, _⟩ := h; rfl
  · obtain ⟨α, s, z, va, xs, rs, c, rfl, R, G, hv, hc, k⟩ := h
    refine ⟨_, (pss_cons (ps_if (pt_cmpR op_eq (pv 1) (V6.pe_k (by rfl) T.k_NOW) (nomark _)) (pss_one (ps_ret (V6.qe_call (ok_answer_now T) (hr.mono (by decide)) (by rfl) T.mg_answer_now (V6.kp_of T.fn_answer_now) (pa_cons (pv 0) pa_nil)))) pss_nil) (pss_cons (ps_if (pt_cmpR op_eq (pv 1) (V6.pe_k (by rfl) T.k_COURT) (nomark _)) (pss_one (ps_ret (V6.qe_call (ok_answer_court T) (hr.mono (by decide)) (by rfl) T.mg_answer_court (V6.kp_of T.fn_answer_court) (pa_cons (pv 0) (pa_cons (pe_ix ix_list (pv 2) pe_int (fun _ _ => rfl)) pa_nil))))) pss_nil) (pss_cons (ps_if (pt_cmpR op_eq (pv 1) (V6.pe_k (by rfl) T.k_SHEET) (nomark _)) (pss_one (ps_ret (V6.qe_call (ok_answer_sheet T) (hr.mono (by decide)) (by rfl) T.mg_answer_sheet (V6.kp_of T.fn_answer_sheet) (pa_cons (pv 0) (pa_cons (pe_ix ix_list (pv 2) pe_int (fun _ _ => rfl)) pa_nil))))) pss_nil) (pss_one (ps_ret (V6.qe_call (ok_answer_sets T) (hr.mono (by decide)) (by rfl) T.mg_answer_sets (V6.kp_of T.fn_answer_sets) (pa_cons (pv 0) pa_nil))))))), ?_⟩
    rcases hc with ⟨rfl, rfl, rfl, rfl⟩ | ⟨rfl, t, rfl, rfl, rfl⟩ | ⟨rfl, t, rfl, rfl, rfl⟩ | ⟨rfl, rfl, rfl, rfl⟩
    · refine ⟨_, rfl, rfl, _, rfl, iteT ?_⟩
      exact ⟨_, rfl, α, s, rfl, R, G, k⟩
    · refine ⟨_, rfl, rfl, _, rfl, iteF ?_⟩
      refine ⟨_, rfl, rfl, _, rfl, iteT ?_⟩
      exact ⟨_, rfl, _, rfl, _, _, _, _, rfl, rfl, SqL.of hv, atI_nat (j := 0) rfl, α, s, t, rfl, R, G, k⟩
    · refine ⟨_, rfl, rfl, _, rfl, iteF ?_⟩
      refine ⟨_, rfl, rfl, _, rfl, iteF ?_⟩
      refine ⟨_, rfl, rfl, _, rfl, iteT ?_⟩
      exact ⟨_, rfl, _, rfl, _, _, _, _, rfl, rfl, SqL.of hv, atI_nat (j := 0) rfl, α, s, t, rfl, R, G, k⟩
    · refine ⟨_, rfl, rfl, _, rfl, iteF ?_⟩
      refine ⟨_, rfl, rfl, _, rfl, iteF ?_⟩
      refine ⟨_, rfl, rfl, _, rfl, iteF ?_⟩
      exact ⟨_, rfl, α, s, rfl, R, G, k⟩
theorem ok_answer_call (T : Txt K mg d) : GF P w K mg base 9 d.f_answer_call ["book", "call", "values", "rows"] (spCallC d) := by
  obtain ⟨fd, F⟩ := T.fn_answer_call
  refine ⟨fd, F.ok sc_answer_call (fun vs H Q E h => ?_) (fun cdv A outer sh H vs Q E hr h => ?_), F.binds (fun _ _ _ _ _ _ us hl => match us, hl with | [_, _, _, _], _ => rfl)⟩
  · obtain ⟨α, s, z, va, ra, xs, as, rs, c, rfl, _⟩ := h; rfl
  · obtain ⟨α, s, z, va, ra, xs, as, rs, c, rfl, R, G, D, ho, hc, k⟩ := h
    refine ⟨_, (pss_cons (ps_if (pt_cmpR op_le (pv 1) (V6.pe_k (by rfl) T.k_START) (nomark _)) (pss_one (ps_ret (V6.qe_call (ok_answer_opening T) (hr.mono (by decide)) (by rfl) T.mg_answer_opening (V6.kp_of T.fn_answer_opening) (pa_cons (pv 0) (pa_cons (pv 1) (pa_cons (pv 2) (pa_cons (pv 3) pa_nil))))))) pss_nil) (pss_cons (ps_if (pt_cmpR op_le (pv 1) (V6.pe_k (by rfl) T.k_CARD) (nomark _)) (pss_one (ps_ret (V6.qe_call (ok_answer_play T) (hr.mono (by decide)) (by rfl) T.mg_answer_play (V6.kp_of T.fn_answer_play) (pa_cons (pe_fld (pv 0) rfl) (pa_cons (pv 1) (pa_cons (pv 2) pa_nil)))))) pss_nil) (pss_one (ps_ret (V6.qe_call (ok_answer_view T) (hr.mono (by decide)) (by rfl) T.mg_answer_view (V6.kp_of T.fn_answer_view) (pa_cons (pe_fld (pv 0) rfl) (pa_cons (pv 1) (pa_cons (pv 2) pa_nil)))))))), ?_⟩
    rcases hc with hc | hc | hc
    · have hz : z ≤ 3 := by rcases hc with ⟨h, _⟩ | ⟨h, _⟩ | ⟨h, _⟩ <;> omega
      refine ⟨_, rfl, _, _, rfl, rfl, _, rfl, ?_⟩
      rw [decide_eq_true hz]
      exact iteT ⟨_, rfl, _, rfl, _, rfl, _, rfl, α, s, z, va, ra, xs, as, rs, c, rfl, R, G, D, ho, hc, k⟩
    · have hz : ¬ z ≤ 3 ∧ z ≤ 9 := by rcases hc with ⟨h, _⟩ | ⟨h, _⟩ | ⟨h, _⟩ | ⟨h, _⟩ | ⟨h, _⟩ | ⟨h, _⟩ <;> omega
      refine ⟨_, rfl, _, _, rfl, rfl, _, rfl, ?_⟩
      rw [decide_eq_false hz.1]
      refine iteF ⟨_, rfl, _, _, rfl, rfl, _, rfl, ?_⟩
      rw [decide_eq_true hz.2]
      exact iteT ⟨_, rfl, rBook T R ⟨_, rfl, _, rfl, α, s, z, va, xs, rs, c, rfl, R, G, D.v, hc, k.plain⟩⟩
    · have hz : ¬ z ≤ 3 ∧ ¬ z ≤ 9 := by rcases hc with ⟨h, _⟩ | ⟨h, _⟩ | ⟨h, _⟩ | ⟨h, _⟩ <;> omega
      refine ⟨_, rfl, _, _, rfl, rfl, _, rfl, ?_⟩
      rw [decide_eq_false hz.1]
      refine iteF ⟨_, rfl, _, _, rfl, rfl, _, rfl, ?_⟩
      rw [decide_eq_false hz.2]
      exact iteF ⟨_, rfl, rBook T R ⟨_, rfl, _, rfl, α, s, z, va, xs, rs, c, rfl, R, G, D.v, hc, k.plain⟩⟩
end
end Vs
end
section
set_option Elab.async false
set_option maxRecDepth 100000
set_option maxHeartbeats 2000000
namespace Vs
open PySem PySem.Spec PyProof.Rows L2 V6
open Kg60 (Slot Team State within)
section
variable {P : Program} {w : World} {K : PySem.W.Frag} {mg : Str → Option Value} {base : Heap} {d : Ad}
/-! ### the loop -/
theorem Rep.fr {H H' : Hp} {α : Role → Addr} {s : State} {r : Addr} (R : Rep d H α s) (fr : ∀ b o, H b = some o → b ≠ r → H' b = some o) (ho : Out α s r) : Rep d H' α s :=
  ⟨R.inj, fun q hq => let ⟨o, h1, h2⟩ := R.at_ q hq; ⟨o, fr _ _ h1 (ho q hq), h2⟩⟩
structure Lp (d : Ad) (H0 : Hp) (a rd bk tp : Addr) (ns : List Int) (H : Hp) (α : Role → Addr) (s : State) (told : List Int) (n i k : Nat) : Prop where
  sm : Same H0 H
  ob : ∀ b o, H0 b = some o → Out α s b
  rd_ : ReadAt d H rd a i
  ord : Out α s rd
  tp_ : H tp = some (.lst (told.map V.int))
  otp : Out α s tp
  rep : Rep d H α s
  bk_ : α .book = bk
  todo : Todo ns (ns.drop i) s told n
  gs : GS s
  go : GO s
  gl : GL k s
  kn : k + n ≤ 250
  tl : told.length + 50 * n ≤ 12500
theorem GL.le {k m : Nat} {s : State} (g : GL k s) (h : k ≤ m) : GL m s := ⟨⟨Nat.le_trans g.a.1 h, Nat.le_trans g.a.2 h⟩, ⟨Nat.le_trans g.b.1 h, Nat.le_trans g.b.2 h⟩⟩
/-- how many whole numbers, how many rows: the two tuples tell what the specification's table tells -/
theorem shape_tup {z : Int} {a b : Nat} (h : PyKg60.shape z = some (a, b)) : ∃ j : Nat, z = (j : Int) ∧ ([.int 0, .int 0, .int 1, .int 1, .int 1, .int 2, .int 3, .int 3, .int 1, .int 4, .int 0, .int 1, .int 1, .int 0] : List V)[j]? = some (nV a) ∧
    ([.int 0, .int 4, .int 1, .int 0, .int 0, .int 0, .int 0, .int 0, .int 0, .int 0, .int 0, .int 0, .int 0, .int 0] : List V)[j]? = some (nV b) ∧ b ≤ 4 := by
  unfold PyKg60.shape at h
  by_cases h1 : z = 1
  · rw [if_pos h1] at h
    obtain ⟨rfl, rfl⟩ := Prod.mk.inj (Option.some.inj h)
    exact ⟨1, h1, rfl, rfl, by decide⟩
  rw [if_neg h1] at h
  by_cases h2 : z = 2
  · rw [if_pos h2] at h
    obtain ⟨rfl, rfl⟩ := Prod.mk.inj (Option.some.inj h)
    exact ⟨2, h2, rfl, rfl, by decide⟩
  rw [if_neg h2] at h
  by_cases h3 : z = 3
  · rw [if_pos h3] at h
    obtain ⟨rfl, rfl⟩ := Prod.mk.inj (Option.some.inj h)
    exact ⟨3, h3, rfl, rfl, by decide⟩
  rw [if_neg h3] at h
  by_cases h4 : z = 4
  · rw [if_pos h4] at h
    obtain ⟨rfl, rfl⟩ := Prod.mk.inj (Option.some.inj h)
    exact ⟨4, h4, rfl, rfl, by decide⟩
  rw [if_neg h4] at h
  by_cases h5 : z = 5
  · rw [if_pos h5] at h
    obtain ⟨rfl, rfl⟩ := Prod.mk.inj (Option.some.inj h)
    exact ⟨5, h5, rfl, rfl, by decide⟩
  rw [if_neg h5] at h
  by_cases h6 : z = 6
  · rw [if_pos h6] at h
    obtain ⟨rfl, rfl⟩ := Prod.mk.inj (Option.some.inj h)
    exact ⟨6, h6, rfl, rfl, by decide⟩
  rw [if_neg h6] at h
  by_cases h7 : z = 7
  · rw [if_pos h7] at h
    obtain ⟨rfl, rfl⟩ := Prod.mk.inj (Option.some.inj h)
    exact ⟨7, h7, rfl, rfl, by decide⟩
  rw [if_neg h7] at h
  by_cases h8 : z = 8
  · rw [if_pos h8] at h
    obtain ⟨rfl, rfl⟩ := Prod.mk.inj (Option.some.inj h)
    exact ⟨8, h8, rfl, rfl, by decide⟩
  rw [if_neg h8] at h
  by_cases h9 : z = 9
  · rw [if_pos h9] at h
    obtain ⟨rfl, rfl⟩ := Prod.mk.inj (Option.some.inj h)
    exact ⟨9, h9, rfl, rfl, by decide⟩
  rw [if_neg h9] at h
  by_cases h10 : z = 10
  · rw [if_pos h10] at h
    obtain ⟨rfl, rfl⟩ := Prod.mk.inj (Option.some.inj h)
    exact ⟨10, h10, rfl, rfl, by decide⟩
  rw [if_neg h10] at h
  by_cases h11 : z = 11
  · rw [if_pos h11] at h
    obtain ⟨rfl, rfl⟩ := Prod.mk.inj (Option.some.inj h)
    exact ⟨11, h11, rfl, rfl, by decide⟩
  rw [if_neg h11] at h
  by_cases h12 : z = 12
  · rw [if_pos h12] at h
    obtain ⟨rfl, rfl⟩ := Prod.mk.inj (Option.some.inj h)
    exact ⟨12, h12, rfl, rfl, by decide⟩
  rw [if_neg h12] at h
  by_cases h13 : z = 13
  · rw [if_pos h13] at h
    obtain ⟨rfl, rfl⟩ := Prod.mk.inj (Option.some.inj h)
    exact ⟨13, h13, rfl, rfl, by decide⟩
  rw [if_neg h13] at h
  cases h
/-- the rows read so far -/
structure Rows (d : Ad) (H2 : Hp) (rd a D : Addr) (ns : List Int) (b : Nat) (xs : List (List Int)) (l' : List Int) (j : Nat) (H : Hp) (as : List Addr) (i : Nat) : Prop where
  fr : ∀ c o, H2 c = some o → c ≠ rd → H c = some o
  rd_ : ReadAt d H rd a i
  dl : H D = some (.lst (as.map V.ref))
  len : as.length = j
  nd : as.Nodup
  new : ∀ c ∈ as, H2 c = none
  nD : D ∉ as
  at_ : ∀ (q : Nat) (c : Addr) (x : List Int), as[q]? = some c → xs[q]? = some x → H c = some (.lst (x.map V.int))
  more : PyFlat.rows (b - j) (ns.drop i) = some (xs.drop j, l')
  le : j ≤ b
  xl : xs.length = b
  gr : ∀ c, H c = none → H2 c = none
theorem rows_len : ∀ {b : Nat} {l l' : List Int} {xs : List (List Int)}, PyFlat.rows b l = some (xs, l') → xs.length = b
  | 0, l, l', xs, h => by obtain ⟨rfl, _⟩ := rows_zero h; rfl
  | b + 1, l, l', xs, h => by
    obtain ⟨m, r, x, ys, l2, rfl, h1, h2, rfl⟩ := rows_succ h
    rw [List.length_cons, rows_len h2]
def spAnswers (K : PySem.W.Frag) : Sp := fun vs H Q _ => ∃ (a : Addr) (ns : List Int), vs = [.ref a] ∧ SqL K H a (ns.map V.int) ∧ PyKg60.answers_asked ns = true ∧ ∀ H' p, H' p = some (.lst ((PyKg60.answers ns).map V.int)) → Q (.ref p) H'
theorem ok_answers (T : Txt K mg d) {fd : FuncData} (F : Fun K "answers" "answers" s_answers d.f_answers fd) : FnOk P w K mg base CX0 10 d.f_answers fd ["calls"] (spAnswers K) := by
  refine F.ok sc_answers (fun vs H Q E h => ?_) (fun cdv A outer sh H vs Q E hr h => ?_)
  · obtain ⟨a, ns, rfl, _⟩ := h; rfl
  · obtain ⟨a, ns, rfl, hS, hask, k⟩ := h
    refine ⟨_, (pss_cons (ps_set (i := 1) sc_answers.nd rfl (Or.inr rfl) (V6.qe_make T.mk_Reader (ok_Reader_init T) (hr.mono (by decide)) (by rfl) T.mg_Reader (pa_cons (pv 0) pa_nil))) (pss_cons (ps_set (i := 2) sc_answers.nd rfl (Or.inl rfl) (V6.qe_make0 T.mk_Book (ok_Book_init T) (hr.mono (by decide)) (by rfl) T.mg_Book)) (pss_cons (ps_set (i := 3) sc_answers.nd rfl (Or.inl rfl) (pe_lst pa_nil)) (pss_cons (ps_while PassesOwn.never (pt_not (pt_val (V6.qe_meth0 (pv 1) T.cl_Reader T.me_Reader_at_end (ok_Reader_at_end T) (hr.mono (by decide))))) (pss_cons (ps_set (i := 4) sc_answers.nd rfl (Or.inl rfl) (V6.qe_meth0 (pv 1) T.cl_Reader T.me_Reader_take_one (ok_Reader_take_one T) (hr.mono (by decide)))) (pss_cons (ps_set (i := 5) sc_answers.nd rfl (Or.inl rfl) (V6.qe_meth (pv 1) T.cl_Reader T.me_Reader_take (ok_Reader_take T) (hr.mono (by decide)) (pa_cons (pe_ix ix_tup (V6.pe_kt (by rfl) T.mg_WHOLE_NUMBERS) (pv 4) (fun _ _ => rfl)) pa_nil))) (pss_cons (ps_setLc (i := 6) rfl sc_answers.nd rfl rfl (sw_true rfl rfl rfl rfl) (pi_range1 rfl T.no_range (pa_cons (pe_ix ix_tup (V6.pe_kt (by rfl) T.mg_ROWS) (pv 4) (fun _ _ => rfl)) pa_nil)) (blkOk_by (N := ["calls", "reader", "book", "told", "call", "values", "rows", "row", "answer"]) (sc := defScope s_answers) (own := [("row", 7)]) (by decide +kernel)) (fun _ _ _ _ _ => pg_name (i := 7) sc_answers.nd rfl (Or.inl rfl)) (fun _ _ _ _ _ => pts_nil) (fun _ _ _ _ _ => (V6.qe_meth0 (pv 1) T.cl_Reader T.me_Reader_take_row (ok_Reader_take_row T) (hr.mono (by decide))))) (pss_cons (ps_set (i := 8) sc_answers.nd rfl (Or.inl rfl) (V6.qe_call (ok_answer_call T) (hr.mono (by decide)) (by rfl) T.mg_answer_call (V6.kp_of T.fn_answer_call) (pa_cons (pv 2) (pa_cons (pv 4) (pa_cons (pv 5) (pa_cons (pv 6) pa_nil)))))) (pss_cons (ps_expr (pe_bm PySem.F.plainAttrs_list PySem.F.slot_list_append PySem.F.type_list_append mt_append (pv 3) (pa_cons (pe_callB call_len_seq (by rfl) T.no_len PySem.boot_len (pa_cons (pv 8) pa_nil)) pa_nil))) (pss_one (ps_expr (pe_bm PySem.F.plainAttrs_list PySem.F.slot_list_extend PySem.F.type_list_extend mt_extend (pv 3) (pa_cons (pv 8) pa_nil)))))))))) (pss_one (ps_ret (pv 3))))))), ?_⟩
    -- reader = Reader(calls); book = Book(); told = []
    refine ⟨_, rfl, fun rd dr frd fdr ner => ⟨rd, dr, a, rfl, upd_same, rfl, ?_⟩⟩
    rw [upd_upd]
    have sm1 : Same H (upd (upd H dr (.own rd)) rd (.ins d.c_Reader dr (readF a 0))) := fun b o e => by rw [upd_ne (ne_of_none e frd), upd_ne (ne_of_none e fdr)]; exact e
    have hr1 : (upd (upd H dr (.own rd)) rd (.ins d.c_Reader dr (readF a 0))) rd = some (.ins d.c_Reader dr (readF a 0)) := upd_same
    revert sm1 hr1
    generalize upd (upd H dr (.own rd)) rd (.ins d.c_Reader dr (readF a 0)) = H1
    intro sm1 hr1
    refine fun bk db fbk fdb neb => ⟨bk, db, rfl, upd_same, fun H2 α R hbk fr2 => ⟨rfl, ?_⟩⟩
    have fr3 : ∀ b o, H1 b = some o → H2 b = some o ∧ Out α Kg60.init b := fun b o e => fr2 b o (by rw [upd_ne (ne_of_none e fbk), upd_ne (ne_of_none e fdb)]; exact e) (ne_of_none e fbk)
    refine ⟨Nat.zero_le _, fun tp ftp => ?_⟩
    obtain ⟨n0, hn0, todo0⟩ := Todo.start hask
    have L0 : Lp d H a rd bk tp ns (upd H2 tp (.lst [])) α Kg60.init [] n0 0 0 := by
      have st := Same.new (o := .lst []) ftp
      exact ⟨fun b o e => st b o (fr3 b o (sm1 b o e)).1, fun b o e => (fr3 b o (sm1 b o e)).2, ⟨dr, st _ _ (fr3 _ _ hr1).1⟩, (fr3 _ _ hr1).2, upd_same, R.fresh ftp, R.same st, hbk, todo0, GS.init, GO.init, GL.init, by omega, by show 0 + 50 * n0 ≤ 12500; omega⟩
    -- while not reader.at_end()
    refine ⟨fun m σ H' => ∃ (v4 v5 v6 v7 v8 : Option V) (α : Role → Addr) (s : State) (told : List Int) (n i kk : Nat), σ = [some (.ref a), some (.ref rd), some (.ref bk), some (.ref tp), v4, v5, v6, v7, v8] ∧ Lp d H a rd bk tp ns H' α s told n i kk ∧ m = n,
      ⟨n0, _, _, _, _, _, α, _, _, n0, 0, 0, rfl, L0, rfl⟩, ?_⟩
    rintro m σ H' ⟨v4, v5, v6, v7, v8, α, s, told, n, i, kk, rfl, L, rfl⟩
    obtain ⟨dxr, hrd⟩ := L.rd_
    have hS' := L.sm.seq hS
    refine ⟨_, rfl, _, dxr, _, rfl, hrd, rfl, rd, a, i, ns, rfl, L.rd_, hS', _, rfl, ?_⟩
    refine ite2 (fun hc => ?_) (fun hc => ?_)
    · have hi : i < ns.length := by
        have : decide (ns.length ≤ i) = false := bnotT hc
        exact Nat.not_le.mp (of_decide_eq_false this)
      have hz : ns[i]? = some ns[i] := List.getElem?_eq_getElem hi
      generalize ns[i] = z at hz
      have hdrop : ns.drop i = z :: ns.drop (i + 1) := by
        rw [List.drop_eq_getElem_cons hi]
        congr 1
        exact Option.some.inj ((List.getElem?_eq_getElem hi).symm.trans hz)
      have todo := L.todo
      rw [hdrop] at todo
      obtain ⟨na, nb, xs, l', hsh, hlen, hrows, hask1, m', hm', todo'⟩ := todo.next
      obtain ⟨j, hj, w1, w2, hb4⟩ := shape_tup hsh
      obtain ⟨c, hcall⟩ := asked_call hask1
      have hst : Kg60Neutral.step s ((z :: (ns.drop (i + 1)).take na) :: xs) = ((Kg60.spec s c).1, (Kg60.spec s c).2.value :: (Kg60.spec s c).2.out) := by
        unfold Kg60Neutral.step
        rw [hcall]
      rw [hst] at todo'
      refine ⟨fun σ' H'' => ∃ (v4 v5 v6 v7 v8 : Option V) (α : Role → Addr) (s : State) (told : List Int) (i kk : Nat), σ' = [some (.ref a), some (.ref rd), some (.ref bk), some (.ref tp), v4, v5, v6, v7, v8] ∧ Lp d H a rd bk tp ns H'' α s told m' i kk,
        fun σ' H'' ⟨v4, v5, v6, v7, v8, α, s, told, i, kk, e, L⟩ => ⟨m', by omega, v4, v5, v6, v7, v8, α, s, told, m', i, kk, e, L, rfl⟩, ?_⟩
      -- call = reader.take_one()
      refine ⟨_, rfl, _, dxr, _, rfl, hrd, rfl, rd, a, i, ns, z, rfl, L.rd_, hS', hz, fun H1' fr1 rd1 gr1 => ?_⟩
      obtain ⟨dx1, hrd1⟩ := rd1
      have hS1 := seq_fr fr1 L.rd_ hS'
      -- values = reader.take(WHOLE_NUMBERS[call])
      refine ⟨_, rfl, _, dx1, _, rfl, hrd1, rfl, _, rfl, _, _, _, _, rfl, rfl, T.tp_WHOLE_NUMBERS.sq, at_of hj w1, rd, a, i + 1, na, ns, rfl, ⟨dx1, hrd1⟩, hS1, fun H2' va fr2 rd2 fva hva gr2 => ?_⟩
      obtain ⟨dx2, hrd2⟩ := rd2
      have hS2 := seq_fr fr2 ⟨dx1, hrd1⟩ hS1
      -- rows = [reader.take_row() for row in range(ROWS[call])]
      refine ⟨_, rfl, _, _, _, _, rfl, rfl, T.tp_ROWS.sq, at_of hj w2, (nb : Int), rfl, by omega, by omega, fun D hD => ?_⟩
      have nDrd : D ≠ rd := fun e => by rw [e, hrd2] at hD; cases hD
      refine lc_range (lo := 0) (n := nb) (fun q H'' => ∃ as i', Rows d H2' rd a D ns nb xs l' q H'' as i') ?_ ?_ ?_
      · refine ⟨[], i + 1 + na, fun c o e _ => Same.new hD c o e, ⟨dx2, Same.new hD _ _ hrd2⟩, upd_same, rfl, List.nodup_nil, fun c h => (nomatch h), List.not_mem_nil, fun q c x h => (by simp at h), ?_, Nat.zero_le _, rows_len hrows, fun c h => upd_none h⟩
        rw [Nat.sub_zero, List.drop_zero, ← List.drop_drop]
        exact hrows
      · rintro q H'' hq ⟨as, i', W⟩
        have more := W.more
        obtain ⟨e, he⟩ : ∃ e, nb - q = e + 1 := ⟨nb - q - 1, by omega⟩
        rw [he] at more
        obtain ⟨m0, r0, x, ys, l2, e1, e2, e3, e4⟩ := rows_succ more
        obtain ⟨hm0, hml, hx, hl2⟩ := row_cons e2
        have hi' : ns[i']? = some m0 := by
          have : (ns.drop i')[0]? = some m0 := by rw [e1]; rfl
          rwa [List.getElem?_drop, Nat.add_zero] at this
        have hr0 : r0 = ns.drop (i' + 1) := by
          have : (ns.drop i').tail = r0 := by rw [e1]; rfl
          rw [← this, List.tail_drop]
        have em0 : m0 = ((m0.toNat : Nat) : Int) := by omega
        have hxq : xs[q]? = some x := by
          have : (xs.drop q)[0]? = some x := by rw [e4]; rfl
          rwa [List.getElem?_drop, Nat.add_zero] at this
        obtain ⟨dx3, hrd3⟩ := W.rd_
        have hS3 := seq_fr W.fr ⟨dx2, hrd2⟩ hS2
        refine ⟨rfl, _, rfl, _, dx3, _, rfl, hrd3, rfl, rd, a, i', m0.toNat, ns, rfl, W.rd_, hS3, by rw [hi', ← em0], fun H3 p fr3 rd3 fp hp gr3 => ?_⟩
        obtain ⟨dx4, hrd4⟩ := rd3
        have nDp : D ≠ p := ne_of_none W.dl fp
        have hD3 : H3 D = some (.lst (as.map V.ref)) := fr3 _ _ W.dl nDrd
        have npr : p ≠ rd := fun e => by rw [e, hrd3] at fp; cases fp
        refine ⟨_, hD3, by rw [List.length_map, W.len]; exact Nat.lt_of_lt_of_le hq (Nat.le_trans hb4 (by decide)), as ++ [p], i' + 1 + m0.toNat, ⟨?_, ⟨dx4, by rw [upd_ne nDrd.symm]; exact hrd4⟩, ?_, ?_, ?_, ?_, ?_, ?_, ?_, hq, W.xl, ?_⟩⟩
        · intro c o hc hne
          rw [upd_ne (ne_of_none hc hD)]
          exact fr3 _ _ (W.fr c o hc hne) hne
        · rw [upd_same, List.map_append]; rfl
        · rw [List.length_append, W.len]; rfl
        · refine List.nodup_append.mpr ⟨W.nd, List.nodup_cons.mpr ⟨List.not_mem_nil, List.nodup_nil⟩, fun b hb c hc e => ?_⟩
          rw [List.mem_singleton.mp hc] at e
          obtain ⟨u, hu⟩ := List.getElem?_of_mem hb
          have hul : u < xs.length := by
            have := (List.getElem?_eq_some_iff.mp hu).1
            rw [W.len] at this; rw [W.xl]; omega
          have := W.at_ u b _ hu (List.getElem?_eq_getElem hul)
          rw [e, fp] at this; cases this
        · intro c hc
          rcases List.mem_append.mp hc with h | h
          · exact W.new c h
          · rw [List.mem_singleton.mp h]; exact W.gr p fp
        · intro hc
          rcases List.mem_append.mp hc with h | h
          · exact W.nD h
          · exact nDp (List.mem_singleton.mp h)
        · intro u c y hu hy
          by_cases eu : u = q
          · subst eu
            rw [List.getElem?_append_right (by rw [W.len]; exact Nat.le_refl _), W.len, Nat.sub_self] at hu
            have : p = c := Option.some.inj hu
            subst this
            rw [hxq] at hy
            have : x = y := Option.some.inj hy
            subst this
            rw [upd_ne nDp.symm, hp, hx, hr0]
          · have hu1 : u < q := by
              have := (List.getElem?_eq_some_iff.mp hu).1
              rw [List.length_append, W.len, List.length_singleton] at this
              omega
            rw [List.getElem?_append_left (by rw [W.len]; exact hu1)] at hu
            have h := W.at_ u c y hu hy
            have hc := List.mem_of_getElem? hu
            rw [upd_ne (fun e => W.nD (by rw [← e]; exact hc))]
            exact fr3 _ _ h (fun e => by rw [e, hrd3] at h; cases h)
        · have e5 : nb - (q + 1) = e := by omega
          have e6 : xs.drop (q + 1) = ys := by
            rw [← List.tail_drop, e4]; rfl
          rw [e5, e6, ← List.drop_drop, ← hr0, ← hl2]
          exact e3
        · intro c hc
          exact W.gr c (gr3 c (upd_none hc))
      · rintro H3 ⟨as, i', W⟩
        obtain ⟨dx3, hrd3⟩ := W.rd_
        have hfin : ns.drop i' = l' := by
          have := W.more
          rw [Nat.sub_self] at this
          exact (rows_zero this).2.symm
        have frT : ∀ b o, H' b = some o → b ≠ rd → H3 b = some o := fun b o e hb => W.fr b o (fr2 b o (fr1 b o e hb) hb) hb
        have R3 := L.rep.fr frT L.ord
        have asnew : ∀ x ∈ as, H' x = none := fun x hx => gr1 x (gr2 x (W.new x hx))
        have ntr : tp ≠ rd := ne_of L.tp_ hrd (by intro z; cases z)
        have htp := frT _ _ L.tp_ ntr
        have nva : va ≠ rd := fun e => by rw [e, hrd1] at fva; cases fva
        -- answer = answer_call(book, call, values, rows)
        have bkα : α .book = bk := L.bk_
        subst bkα
        refine ⟨_, rfl, _, rfl, _, rfl, _, rfl, α, s, z, va, D, (ns.drop (i + 1)).take na, as, xs, c, rfl, R3, ⟨L.gs, L.go, L.gl.le (by have := L.kn; omega)⟩, ⟨W.fr _ _ hva nva, W.dl, W.nd, by rw [W.len, W.xl], fun u b x hu hx => ⟨W.at_ u b x hu hx, asked_rows hask1 x (List.mem_of_getElem? hx)⟩⟩, fun x hx => L.rep.fresh (asnew x hx), call_cases hcall, ?_⟩
        intro H4 α4 p S hp hl
        have fr4 : ∀ b o, H' b = some o → b ≠ rd → Out α s b → H4 b = some o ∧ Out α4 (Kg60.spec s c).1 b := fun b o e hb ho => S.fr b o (frT b o e hb) ho (fun hm => by rw [asnew b hm] at e; cases e)
        have hrd4 := S.fr rd _ hrd3 L.ord (fun hm => by rw [asnew rd hm] at hrd; cases hrd)
        have htp4 := fr4 tp _ L.tp_ ntr L.otp
        have hle : (Kg60.spec s c).2.out.length ≤ 40 := spec_len L.gs c
        have ntp : tp ≠ p := ne_of_none htp hp
        have tl := L.tl
        have big : (20000 : Nat) ≤ sizeLine := by decide
        -- told.append(len(answer))
        refine ⟨_, rfl, .inl ⟨rfl, _, SqL.of htp4.1⟩, _, rfl, _, _, rfl, .inl (SqL.of hl), _, _, _, rfl, rfl, htp4.1, by rw [List.length_map]; omega, ?_⟩
        -- told.extend(answer)
        refine ⟨_, rfl, .inl ⟨rfl, _, SqL.of upd_same⟩, _, rfl, _, _, _, _, rfl, rfl, upd_same, by rw [upd_ne ntp.symm]; exact hl, ?_, ?_⟩
        · simp only [List.length_append, List.length_map, List.length_cons, List.length_nil]
          omega
        refine ⟨_, _, _, _, _, α4, (Kg60.spec s c).1, told ++ ((((Kg60.spec s c).2.value :: (Kg60.spec s c).2.out).length : Nat) : Int) :: ((Kg60.spec s c).2.value :: (Kg60.spec s c).2.out), i', kk + 1, rfl, ?_⟩
        rw [upd_upd]
        have sm4 : ∀ b o, H b = some o → H4 b = some o ∧ Out α4 (Kg60.spec s c).1 b ∧ b ≠ tp ∧ b ≠ rd := fun b o e => by
          have h1 := L.sm b o e
          have n1 : b ≠ rd := fun q => by
            rw [q] at e
            rw [e] at frd; cases frd
          have h2 := fr4 b o h1 n1 (L.ob b o e)
          refine ⟨h2.1, h2.2, fun q => ?_, n1⟩
          rw [q] at e
          rw [(fr3 _ _ (sm1 _ _ e)).1] at ftp; cases ftp
        refine ⟨fun b o e => ?_, fun b o e => (sm4 b o e).2.1, ⟨dx3, ?_⟩, hrd4.2, ?_, htp4.2, S.rep.outw htp4.2, S.ad .book trivial, ?_, L.gs.step c, GO.step L.gs L.go c, GL.step L.gs L.go L.gl c, ?_, ?_⟩
        · rw [upd_ne (sm4 b o e).2.2.1]; exact (sm4 b o e).1
        · rw [upd_ne ntr.symm]; exact hrd4.1
        · rw [upd_same]
          simp only [List.map_append, List.map_cons, List.append_assoc, List.cons_append, List.nil_append, List.length_map, List.length_cons]
        · rw [hfin]; exact todo'
        · have := L.kn; omega
        · rw [List.length_append, List.length_cons, List.length_cons]
          omega
    · -- return told
      have hi : ns.length ≤ i := of_decide_eq_true (by
        cases q : decide (ns.length ≤ i) with
        | true => rfl
        | false => rw [q] at hc; exact absurd rfl hc)
      have todo := L.todo
      rw [List.drop_of_length_le hi] at todo
      have := todo.done
      refine ⟨_, rfl, k H' tp ?_⟩
      rw [L.tp_, this]
end
end Vs
end
set_option Elab.async false
open PySem PySem.W PyProof.Rows
set_option maxRecDepth 100000 in
set_option maxHeartbeats 0 in
theorem PySem.Challenge.cw_volleysheet_s01_answers_holds : PySem.Challenge.rw_volleysheet_s01_answers.Holds := by
  refine holds_os (q := Vs.Hd.qv) (loose := []) (Xt := Vs.Hd.Xt0) (XP := XL Vs.Hd.qv []) (Yf := Hook.obs Vs.Hd.hook) (Ya := Hook.val Vs.Hd.hook) (YP := Hook.says Vs.Hd.hook) (N := 7532) Vs.Hd.left (Hook.of Vs.Hd.hook) (Hook.keeps Vs.Hd.hook) (fun s e => xl_of s (Bool.and_eq_true_iff.mp e).1) XL.keeps (by rfl) (by rfl) (by rfl) (fun s e => recFacts_of (Bool.and_eq_true_iff.mp e).2) os_shapes (by decide +kernel) (by decide +kernel) ⟨rfl, rfl, rfl, rfl, rfl, by decide +kernel⟩ ⟨[.list [.int 10]], by decide +kernel, by decide +kernel⟩ ?hc
  refine L2.walk_specK (r := PySem.Challenge.rw_volleysheet_s01_answers) (k := 10) (K := Vs.Hd.Kf) (CX := L2.CX0) (ps := ["calls"]) (sp := Vs.spAnswers) (by decide +kernel) rfl rfl ⟨rfl, by decide, by decide⟩ (fun w h Y => PySem.W.kIn_of Y) ?F ?S (fun _ _ _ _ z => z)
  case F =>
    intro w mg fa h Y KX G hmg
    have T := Vs.Hd.txt KX G
    have e := hmg.symm.trans T.mg_answers
    cases e
    exact ⟨Vs.Hd.fdA, fun s us hu => match us, hu with | [_], _ => .of_eq rfl, fun base _ _ => Vs.ok_answers T (Vs.Hd.fnA _)⟩
  case S =>
    intro K H xs a hO hwi hask hx
    cases hx with
    | cons h1 h2 =>
      cases h2
      cases h1 with
      | lst hs ha =>
        have e := L2.ints_dw a.1 _ ha
        subst e
        exact ⟨_, a.1, rfl, hs, hask, fun H' p hp => .lst (L2.SqL.of hp) (L2.dw_ints _)⟩
