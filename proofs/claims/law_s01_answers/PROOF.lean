import PyProof.Rows.All
import Wide.All
import OpenK.AllK
import Wide.FinOn
import PyProof.EqAt
import PyProof.EqKinds
import PyProof.TupleCall
import KE.BitLaws
import Open.SpecLaws
import KE.OsHead
import KE.OsGo
import KE.KSortTupG
import PySem.Challenge.RW_slipshelf_s01_answers
section
set_option Elab.async false
set_option linter.all false
set_option maxRecDepth 100000
/-! THE HAND LAYER, for ints, bools, texts, own classes, lists, tuples, dicts, comprehensions, walks over dicts, enumerate, zip, reversed, texts, calls, loops. Paste it whole ahead of your own text; what your proof does not reach may be deleted. -/
namespace L2
open PySem PySem.Spec PyProof.Rows
/-- a key: an int or a str -/
abbrev Key := Sum Int Str
def keyIs : Key → Value → Bool
  | .inl k, v => Value.isInt k v
  | .inr x, v => Value.isStrOf x v
def keyH (w : World) : Key → Int
  | .inl k => hashInt k
  | .inr x => hashStr w x
theorem keyIs_shape : ∀ {k : Key} {v : Value}, keyIs k v = true → (∃ i t, k = Sum.inl i ∧ v = Value.int i t) ∨ (∃ x t, k = Sum.inr x ∧ v = Value.str x t)
  | .inl i, v, h => by
    obtain ⟨t, e⟩ := Value.isInt_shape (k := i) (v := v) h
    exact .inl ⟨i, t, rfl, e⟩
  | .inr x, v, h => by
    obtain ⟨t, e⟩ := Value.isStrOf_shape (x := x) (v := v) h
    exact .inr ⟨x, t, rfl, e⟩
theorem keyIs_int (i : Int) (t : Tok) : keyIs (.inl i) (.int i t) = true := by simp [keyIs, Value.isInt]
theorem keyIs_str (x : Str) (t : Tok) : keyIs (.inr x) (.str x t) = true := by simp [keyIs, Value.isStrOf]
theorem key_ll (a b : Int) : decide ((Sum.inl a : Key) = Sum.inl b) = (a == b) := by
  by_cases e : a = b
  · subst e; simp
  · have h : ¬ (Sum.inl a : Key) = Sum.inl b := fun q => e (Sum.inl.inj q)
    rw [decide_eq_false h]
    exact (beq_eq_false_iff_ne.mpr e).symm
theorem key_rr (a b : Str) : decide ((Sum.inr a : Key) = Sum.inr b) = decide (a = b) := by
  by_cases e : a = b
  · subst e; simp
  · have h : ¬ (Sum.inr a : Key) = Sum.inr b := fun q => e (Sum.inr.inj q)
    rw [decide_eq_false h, decide_eq_false e]
theorem key_lr (a : Int) (b : Str) : decide ((Sum.inl a : Key) = Sum.inr b) = false := decide_eq_false (fun q => nomatch q)
theorem key_rl (a : Str) (b : Int) : decide ((Sum.inr a : Key) = Sum.inl b) = false := decide_eq_false (fun q => nomatch q)
def mixKind (prog : Program) (w : World) : PySem.KeyKind prog w Key where
  is := keyIs
  hash := keyH w
  inj := fun v a b ha hb => by
    rcases keyIs_shape ha with ⟨i, t, rfl, rfl⟩ | ⟨x, t, rfl, rfl⟩
    · rcases keyIs_shape hb with ⟨j, u, rfl, e⟩ | ⟨y, u, rfl, e⟩
      · injection e with e1 _; rw [e1]
      · exact nomatch e
    · rcases keyIs_shape hb with ⟨j, u, rfl, e⟩ | ⟨y, u, rfl, e⟩
      · exact nomatch e
      · injection e with e1 _; rw [e1]
  byValue := fun k v h => by
    rcases keyIs_shape h with ⟨i, t, rfl, rfl⟩ | ⟨x, t, rfl, rfl⟩ <;> rfl
  pyHash := fun hv h => by
    rcases keyIs_shape hv with ⟨i, t, rfl, rfl⟩ | ⟨x, t, rfl, rfl⟩
    · exact wpAny_pyHash_int h
    · exact wpAny_pyHash_str h
  eqBool := fun hu hv h => by
    rcases keyIs_shape hu with ⟨i, t, rfl, rfl⟩ | ⟨x, t, rfl, rfl⟩
    · rcases keyIs_shape hv with ⟨j, u, rfl, rfl⟩ | ⟨y, u, rfl, rfl⟩
      · rw [key_ll] at h; exact wpAny_eqBool_int h
      · rw [key_lr] at h; exact SeqAt.EqAt.int_str i t y u _ _ _ _ h
    · rcases keyIs_shape hv with ⟨j, u, rfl, rfl⟩ | ⟨y, u, rfl, rfl⟩
      · rw [key_rl] at h; exact SeqAt.EqAt.str_int x t j u _ _ _ _ h
      · rw [key_rr] at h; exact wpAny_eqBool_str h
  «strs» := fun k x t v h => by
    rcases keyIs_shape h with ⟨i, u, rfl, e⟩ | ⟨y, u, rfl, e⟩
    · exact nomatch e
    · injection e with e1 _
      subst e1
      cases v <;> rfl
theorem mixKind_int (prog : Program) (w : World) (i : Int) (t : Tok) : (mixKind prog w).is (.inl i) (.int i t) = true := keyIs_int i t
theorem mixKind_str (prog : Program) (w : World) (x : Str) (t : Tok) : (mixKind prog w).is (.inr x) (.str x t) = true := keyIs_str x t
end L2
namespace L2
open PySem PySem.Spec PyProof.Rows
/-- a value, without the heap -/
inductive V where
  | non | bl (b : Bool) | int (i : Int) | str (x : Str) | byt (b : Array UInt8) | flt (b : UInt64) | ref (a : Addr) | ty (n : String)
  deriving DecidableEq
def RelV : V → Value → Prop
  | .non, u => u = Value.none
  | .bl b, u => u = Value.bool b
  | .int i, u => ∃ t, u = Value.int i t
  | .str x, u => ∃ t, u = Value.str x t
  | .byt b, u => ∃ t, u = Value.bytes b t
  | .flt b, u => ∃ t, u = Value.float b t
  | .ref a, u => u = Value.ref a
  | .ty n, u => u = Value.type n
abbrev Vals : List V → List Value → Prop := Paired RelV
theorem Vals.length {xs : List V} {us : List Value} (r : Vals xs us) : xs.length = us.length := Paired.length r
theorem Vals.get : ∀ {xs : List V} {us : List Value} {i : Nat} {x : V}, Vals xs us → xs[i]? = some x → ∃ u, us[i]? = some u ∧ RelV x u
  | _, _, _, _, .nil, e => by simp at e
  | _, _, 0, _, .cons r _, e => by simp at e; subst e; exact ⟨_, rfl, r⟩
  | _, _, i + 1, x, .cons _ t, e => by
    obtain ⟨u, h1, h2⟩ := Vals.get (i := i) (x := x) t (by simpa using e)
    exact ⟨u, by simpa using h1, h2⟩
theorem Vals.append : ∀ {xs ys : List V} {us ws : List Value}, Vals xs us → Vals ys ws → Vals (xs ++ ys) (us ++ ws)
  | _, _, _, _, .nil, s => s
  | _, _, _, _, .cons r t, s => .cons r (Vals.append t s)
theorem Vals.take : ∀ {xs : List V} {us : List Value} (n : Nat), Vals xs us → Vals (xs.take n) (us.take n)
  | _, _, 0, _ => .nil
  | _, _, _ + 1, .nil => .nil
  | _, _, n + 1, .cons r t => .cons r (Vals.take n t)
theorem Vals.drop : ∀ {xs : List V} {us : List Value} (n : Nat), Vals xs us → Vals (xs.drop n) (us.drop n)
  | _, _, 0, r => r
  | _, _, _ + 1, .nil => .nil
  | _, _, n + 1, .cons _ t => Vals.drop n t
def RelO : Option V → Option Value → Prop
  | some v, some u => RelV v u
  | none, none => True
  | _, _ => False
def KV {κ : Type} : List (κ × V) → List (κ × Value) → Prop := Paired fun (p : κ × V) (q : κ × Value) => p.1 = q.1 ∧ RelV p.2 q.2
/-- a key of a dict (00_mix): an int or a text -/
def kV : Key → V
  | .inl i => .int i
  | .inr x => .str x
/-- what stands at a tracked address -/
inductive HO where
  /-- a list -/
  | lst (xs : List V)
  /-- a tuple (never changes) -/
  | tup (xs : List V)
  /-- a dict whose keys are ints and texts; one whose keys are tuples of ints and texts (the empty one is both) -/
  | dK (kvs : List (Key × V)) | dT (kvs : List (List Key × V))
  /-- a set of ints: its members, its size -/
  | set (S : Int → Bool) (n : Nat)
  /-- an instance of the class at C, its dict at dx, its attributes -/
  | ins (C dx : Addr) (fs : List (Str × V))
  /-- the dict of the instance at x -/
  | own (x : Addr)
  /-- the dict of an exception -/
  | xd (fs : List (Str × V))
  /-- a bound method, f of x -/
  | met (f x : Addr)
  /-- a range object lo, lo + 1, .. below hi -/
  | rng (lo hi : Int)
  /-- a thing that is known to the object (the script; a dict while a loop walks it): read, never written while it is so -/
  | frz (o : Obj) (u : HO)
  /-- a code object's table -/
  | tbl (ps : Array Value)
  /-- any other thing, by what is true of its one object (a def of one's own: SetO a S n := HO.ext fun h => ..) -/
  | ext (φ : Heap → Prop)
abbrev Hp := Addr → Option HO
def upd (H : Hp) (a : Addr) (o : HO) : Hp := fun b => if b = a then some o else H b
theorem upd_same {H : Hp} {a : Addr} {o : HO} : upd H a o a = some o := by unfold upd; rw [if_pos rfl]
theorem upd_ne {H : Hp} {a b : Addr} {o : HO} (h : b ≠ a) : upd H a o b = H b := by unfold upd; rw [if_neg h]
theorem upd_upd {H : Hp} {a : Addr} {o u : HO} : upd (upd H a o) a u = upd H a u := by
  funext b; unfold upd; split <;> rfl
/-- two objects of different content stand apart -/
theorem ne_of {H : Hp} {a b : Addr} {o u : HO} (h : H a = some o) (h' : H b = some u) (d : o ≠ u) : a ≠ b := by
  intro e; subst e; rw [h] at h'; exact d (Option.some.inj h')
theorem ne_of_none {H : Hp} {a b : Addr} {o : HO} (h : H a = some o) (h' : H b = none) : a ≠ b := by
  intro e; subst e; rw [h] at h'; cases h'
section
variable (P : Program) (w : World)
def ObjOk (H : Hp) (h : Heap) (a : Addr) : HO → Prop
  | .lst xs => xs.length ≤ sizeLine ∧ ∃ (its : List Value) (n : Nat), Vals xs its ∧ h.get? a = some { cls := .type "list", data := .seq its.toArray n }
  | .tup xs => xs.length ≤ sizeLine ∧ ∃ its : List Value, Vals xs its ∧ IsTup h a its.toArray
  | .dK kvs => kvs.length ≤ sizeLine ∧ (a == sysModules) = false ∧ ∃ vs, KV kvs vs ∧ h.DictOf (mixKind P w) a vs
  | .dT kvs => kvs.length ≤ sizeLine ∧ (a == sysModules) = false ∧ ∃ xs : List (List Key × Addr × Value),
      Paired (fun (p : List Key × V) (q : List Key × Addr × Value) => p.1 = q.1 ∧ H q.2.1 = some (.tup (p.1.map kV)) ∧ RelV p.2 q.2.2) kvs xs ∧
      ∃ o es ep, h.get? a = some o ∧ o.ExactDict ∧ o.data = .dict es ep ∧ es.toList = xs.map (entryOfKey (tupleKind (mixKind P w))) ∧ (xs.map (·.1)).Nodup
  | .set S n => h.SetOf (intKind P w) a S n
  | .ins C dx fs => H dx = some (.own a) ∧ fs.length ≤ 1000 ∧ dx ≠ a ∧ h.get? a = some (PySem.W.instObj C dx) ∧
      ∃ mA, h.Ns1 dx mA ∧ (∀ f, RelO (fs.lookup f) (mA f)) ∧ PySem.Within mA (fs.map (·.1))
  | .own _ => ∃ o, h.get? a = some o
  | .xd fs => ∃ mA, h.Ns1 a mA ∧ ∀ f, RelO (fs.lookup f) (mA f)
  | .rng lo hi => ∃ t u v, h.get? a = some { cls := .type "range", data := .fields #[.int lo t, .int hi u, .int 1 v] }
  | .frz o u => h.get? a = some o ∧ ObjOk H h a u
  | .tbl ps => h.get? a = some { cls := .none, data := .fields ps }
  | .met f x => h.get? a = some (PySem.W.methodObj (.ref f) (.ref x))
  | .ext φ => φ h ∧ (∃ o, h.get? a = some o) ∧ ∀ h1 h2 : Heap, φ h1 → (∀ o, h1.get? a = some o → h2.get? a = some o) → φ h2
/-- the abstract heap is held -/
def HOk (H : Hp) (h : Heap) : Prop := ∀ a o, H a = some o → ObjOk P w H h a o
end
section
variable {P : Program} {w : World} {H H' : Hp} {h h' : Heap} {a : Addr} {o : HO}
theorem ObjOk.lt (x : ObjOk P w H h a o) : a < h.objs.size := by
  cases o with
  | lst xs => obtain ⟨_, _, _, _, e⟩ := x; exact Heap.lt_size e
  | tup xs => obtain ⟨_, _, _, p⟩ := x; exact p.lt
  | dK kvs => obtain ⟨_, _, _, _, o, _, _, e, _⟩ := x; exact Heap.lt_size e
  | dT kvs => obtain ⟨_, _, _, _, o, _, _, e, _⟩ := x; exact Heap.lt_size e
  | set S n => obtain ⟨o, _, _, _, e, _⟩ := x; exact Heap.lt_size e
  | ins C dx fs => obtain ⟨_, _, _, e, _⟩ := x; exact Heap.lt_size e
  | own y => obtain ⟨_, e⟩ := x; exact Heap.lt_size e
  | xd fs => obtain ⟨_, ⟨_, _, _, e, _⟩, _⟩ := x; exact Heap.lt_size e
  | rng lo hi => obtain ⟨_, _, _, e⟩ := x; exact Heap.lt_size e
  | frz ob u => obtain ⟨e, _⟩ := x; exact Heap.lt_size e
  | tbl ps => exact Heap.lt_size (show h.get? a = some _ from x)
  | met f y => exact Heap.lt_size (show h.get? a = some _ from x)
  | ext φ => obtain ⟨_, ⟨_, e⟩, _⟩ := x; exact Heap.lt_size e
theorem Paired.mapP {α β : Type} {F G : α → β → Prop} : ∀ {l₁ : List α} {l₂ : List β}, Paired F l₁ l₂ → (∀ a b, F a b → G a b) → Paired G l₁ l₂
  | _, _, .nil, _ => .nil
  | _, _, .cons r t, f => .cons (f _ _ r) (Paired.mapP t f)
/-- what an object's description leans on: its own object, its own dict, the tuples -/
theorem ObjOk.stay (x : ObjOk P w H h a o) (k : ∀ b u, (b = a ∨ H b = some (.own a)) → h.get? b = some u → h'.get? b = some u)
    (ho : ∀ b, H b = some (.own a) → H' b = some (.own a)) (ht : ∀ b xs, H b = some (.tup xs) → H' b = some (.tup xs)) : ObjOk P w H' h' a o := by
  induction o with
  | lst xs => obtain ⟨z, its, n, r, e⟩ := x; exact ⟨z, its, n, r, k _ _ (.inl rfl) e⟩
  | tup xs => obtain ⟨z, its, r, ob, e, c⟩ := x; exact ⟨z, its, r, ob, k _ _ (.inl rfl) e, c⟩
  | dK kvs => obtain ⟨z, y, vs, r, ob, es, ep, e, c⟩ := x; exact ⟨z, y, vs, r, ob, es, ep, k _ _ (.inl rfl) e, c⟩
  | dT kvs =>
    obtain ⟨z, y, xs, r, ob, es, ep, e, c⟩ := x
    exact ⟨z, y, xs, Paired.mapP r fun p q z => ⟨z.1, ht _ _ z.2.1, z.2.2⟩, ob, es, ep, k _ _ (.inl rfl) e, c⟩
  | set S n => obtain ⟨ob, es, ep, t, e, c⟩ := x; exact ⟨ob, es, ep, t, k _ _ (.inl rfl) e, c⟩
  | ins C dx fs =>
    obtain ⟨d, z, ne, e, mA, ⟨od, es, ep, e2, c⟩, r⟩ := x
    exact ⟨ho _ d, z, ne, k _ _ (.inl rfl) e, mA, ⟨od, es, ep, k _ _ (.inr d) e2, c⟩, r⟩
  | own y => obtain ⟨ob, e⟩ := x; exact ⟨ob, k _ _ (.inl rfl) e⟩
  | xd fs => obtain ⟨mA, ⟨od, es, ep, e, c⟩, r⟩ := x; exact ⟨mA, ⟨od, es, ep, k _ _ (.inl rfl) e, c⟩, r⟩
  | rng lo hi => obtain ⟨t, u, v, e⟩ := x; exact ⟨t, u, v, k _ _ (.inl rfl) e⟩
  | frz ob u ih => obtain ⟨e, q⟩ := x; exact ⟨k _ _ (.inl rfl) e, ih q⟩
  | tbl ps =>
    have e : h.get? a = some { cls := .none, data := .fields ps } := x
    show h'.get? a = some { cls := .none, data := .fields ps }
    exact k a _ (.inl rfl) e
  | met f y =>
    have e : h.get? a = some (PySem.W.methodObj (.ref f) (.ref y)) := x
    show h'.get? a = some (PySem.W.methodObj (.ref f) (.ref y))
    exact k a _ (.inl rfl) e
  | ext φ => obtain ⟨p, ⟨o, e⟩, st⟩ := x; exact ⟨st _ _ p fun o q => k _ _ (.inl rfl) q, ⟨o, k _ _ (.inl rfl) e⟩, st⟩
theorem HOk.lt (x : HOk P w H h) (e : H a = some o) : a < h.objs.size := (x a o e).lt
theorem HOk.fresh (x : HOk P w H h) (e : h.objs.size ≤ a) : H a = none := by
  cases q : H a with
  | none => rfl
  | some u => exact absurd (Nat.lt_of_lt_of_le (x.lt q) e) (Nat.lt_irrefl _)
/-- every object of the heap is kept -/
theorem HOk.kept (x : HOk P w H h) (k : ∀ b u, h.get? b = some u → h'.get? b = some u) : HOk P w H h' := fun a o e =>
  (x a o e).stay (fun b u _ q => k b u q) (fun _ q => q) fun _ _ q => q
/-- a new object is laid and tracked -/
theorem HOk.laid (x : HOk P w H h) (k : ∀ b u, h.get? b = some u → h'.get? b = some u) (hp : h.objs.size ≤ a) (new : ObjOk P w (upd H a o) h' a o) : HOk P w (upd H a o) h' := fun b u e => by
  have hn := x.fresh hp
  by_cases hb : b = a
  · subst hb; rw [upd_same] at e; cases e; exact new
  · rw [upd_ne hb] at e
    exact (x b u e).stay (fun c v _ q => k c v q) (fun c q => by rw [upd_ne (ne_of_none q hn)]; exact q) fun c xs q => by rw [upd_ne (ne_of_none q hn)]; exact q
end
/-- what may be read as u: it is u, or a known u -/
def Rd (H : Hp) (a : Addr) (u : HO) : Prop := H a = some u ∨ ∃ o, H a = some (.frz o u)
theorem Rd.ok {P : Program} {w : World} {H : Hp} {h : Heap} {a : Addr} {u : HO} (r : Rd H a u) (x : HOk P w H h) : ObjOk P w H h a u := by
  rcases r with r | ⟨o, r⟩
  · exact x a u r
  · obtain ⟨_, q⟩ := x a _ r
    exact q
/-- what may be written -/
def Mut : Option HO → Prop
  | some (.lst _) => True
  | some (.dK _) => True
  | some (.dT _) => True
  | some (.set _ _) => True
  | some (.ins _ _ _) => True
  | some (.ext _) => True
  | _ => False
section
variable {P : Program} {w : World} {H : Hp} {h h' : Heap} {x e : Addr} {o' : HO}
/-- the object at e is changed: x itself, or the dict of the instance x -/
theorem HOk.write (ok : HOk P w H h) (mu : Mut (H x)) (he : e = x ∨ H e = some (.own x)) (k : ∀ b u, b ≠ e → h.get? b = some u → h'.get? b = some u) (heo : ∃ u, h'.get? e = some u)
    (new : ObjOk P w (upd H x o') h' x o') : HOk P w (upd H x o') h' := fun b u q => by
  have nown : ∀ c y, H c = some (.own y) → c ≠ x := fun c y r z => by subst z; rw [r] at mu; exact mu
  have ntup : ∀ c xs, H c = some (.tup xs) → c ≠ x := fun c xs r z => by subst z; rw [r] at mu; exact mu
  by_cases hb : b = x
  · subst hb; rw [upd_same] at q; cases q; exact new
  · rw [upd_ne hb] at q
    by_cases hbe : b = e
    · have q' : H b = some (.own x) := by
        rcases he with z | z
        · exact absurd (hbe.trans z) hb
        · rw [hbe]; exact z
      rw [q] at q'; cases q'
      obtain ⟨v, hv⟩ := heo
      exact ⟨v, by rw [hbe]; exact hv⟩
    · refine (ok b u q).stay (fun c v hc r => k c v ?_ r) (fun c r => by rw [upd_ne (nown c b r)]; exact r) fun c xs r => by rw [upd_ne (ntup c xs r)]; exact r
      rcases hc with rfl | hc
      · exact hbe
      · rintro rfl
        rcases he with z | z
        · exact nown c b hc z
        · rw [hc] at z; cases z; exact hb rfl
end
/-! ### kept unless tracked; of the frames at fs (the callers') the slots may change (an exception that passes writes there); of the records at ex (iterators) nothing is said -/
structure Un (fs ex : List Addr) (H H' : Hp) (h h' : Heap) : Prop where
  keep : ∀ b o, h.get? b = some o → H b = none → b ∉ fs → b ∉ ex → h'.get? b = some o
  slot : ∀ b o, h.get? b = some o → H b = none → b ∈ fs → b ∉ ex → ∃ sl, h'.get? b = some { o with slots := sl }
  free : ∀ b o, h.get? b = some o → H b = none → b ∉ ex → H' b = none
  there : ∀ b o, h.get? b = some o → b ∉ ex → ∃ o', h'.get? b = some o'
  tups : ∀ b xs, H b = some (.tup xs) → H' b = some (.tup xs)
  frzs : ∀ b o u, H b = some (.frz o u) → H' b = some (.frz o u)
  tbls : ∀ b ps, H b = some (.tbl ps) → ∃ more, H' b = some (.tbl (ps ++ more))
section
variable {fs fs' ex ex' : List Addr} {H H1 H2 : Hp} {h h1 h2 h' : Heap} {a x e : Addr} {o : HO}
theorem Un.any (u : Un fs ex H H1 h h1) {b : Addr} {ob : Obj} (q : h.get? b = some ob) (n : H b = none) (hx : b ∉ ex) : ∃ sl, h1.get? b = some { ob with slots := sl } := by
  by_cases hb : b ∈ fs
  · exact u.slot b ob q n hb hx
  · exact ⟨ob.slots, u.keep b ob q n hb hx⟩
theorem Un.kept (k : ∀ b u, h.get? b = some u → h'.get? b = some u) : Un fs ex H H h h' :=
  ⟨fun b ob q _ _ _ => k b ob q, fun b ob q _ _ _ => ⟨ob.slots, k b ob q⟩, fun _ _ _ n _ => n, fun b ob q _ => ⟨ob, k b ob q⟩, fun _ _ q => q, fun _ _ _ q => q, fun _ ps q => ⟨#[], by rw [q]; simp⟩⟩
theorem Un.refl : Un fs ex H H h h := Un.kept fun _ _ q => q
theorem Un.laid (k : ∀ b u, h.get? b = some u → h'.get? b = some u) (hp : h.objs.size ≤ a) (hn : H a = none) : Un fs ex H (upd H a o) h h' where
  keep := fun b u q _ _ _ => k b u q
  slot := fun b u q _ _ _ => ⟨u.slots, k b u q⟩
  free := fun b u q n _ => by rw [upd_ne (Nat.ne_of_lt (Nat.lt_of_lt_of_le (Heap.lt_size q) hp))]; exact n
  there := fun b u q _ => ⟨u, k b u q⟩
  tups := fun b xs q => by rw [upd_ne (ne_of_none q hn)]; exact q
  frzs := fun b u xs q => by rw [upd_ne (ne_of_none q hn)]; exact q
  tbls := fun b ps q => ⟨#[], by rw [upd_ne (ne_of_none q hn), q]; simp⟩
theorem Un.write (mu : Mut (H x)) (he : e = x ∨ H e = some (.own x)) (k : ∀ b u, b ≠ e → h.get? b = some u → h'.get? b = some u) (heo : ∃ u, h'.get? e = some u) : Un fs ex H (upd H x o) h h' := by
  have hx : ∀ b, H b = none → b ≠ x := fun b n z => by subst z; rw [n] at mu; exact mu
  have hb : ∀ b, H b = none → b ≠ e := fun b n z => by
    subst z
    rcases he with r | r
    · exact hx b n r
    · rw [n] at r; cases r
  have hm : ∀ b u, H b = some u → ¬ Mut (some u) → b ≠ x := fun b u q nm z => by subst z; rw [q] at mu; exact nm mu
  refine ⟨fun b u q n _ _ => k b u (hb b n) q, fun b u q n _ _ => ⟨u.slots, k b u (hb b n) q⟩, fun b u q n _ => by rw [upd_ne (hx b n)]; exact n, fun b u q _ => ?_,
    fun b xs q => by rw [upd_ne (hm b _ q fun z => z)]; exact q, fun b u xs q => by rw [upd_ne (hm b _ q fun z => z)]; exact q, fun b ps q => ⟨#[], by rw [upd_ne (hm b _ q fun z => z), q]; simp⟩⟩
  by_cases hbe : b = e
  · subst hbe; exact heo
  · exact ⟨u, k b u hbe q⟩
end
/-! ### the heap without what is tracked -/
def trk (h : Heap) (H : Hp) : List Addr := (List.range h.objs.size).filter fun a => (H a).isSome
def hidT (h : Heap) (H : Hp) : Heap := PySem.W.hideAll h (trk h H)
theorem hidT_size (h : Heap) (H : Hp) : (hidT h H).objs.size = h.objs.size := PySem.W.hideAll_size _ _
theorem hidT_get {h : Heap} {H : Hp} {b : Addr} {o : Obj} (e : h.get? b = some o) (n : H b = none) : (hidT h H).get? b = some o :=
  PySem.W.hideAll_get _ e fun hm => by
    have q : (H b).isSome = true := (List.mem_filter.mp hm).2
    rw [n] at q; simp at q
theorem of_hidT {h : Heap} {H : Hp} {b : Addr} {o : Obj} (e : (hidT h H).get? b = some o) : h.get? b = some o ∧ H b = none := by
  have e' : h.get? b = some o := PySem.W.of_hideAll (trk h H) e
  refine ⟨e', ?_⟩
  cases q : H b with
  | none => rfl
  | some x =>
    have hm : b ∈ trk h H := List.mem_filter.mpr ⟨List.mem_range.mpr (Heap.lt_size e'), by simp [q]⟩
    have z : (hidT h H).get? b = none := PySem.W.hideAll_none (trk h H) hm
    rw [z] at e; cases e
/-! ### OpenK's ledger, filled with every new object but one -/
end L2
namespace L2
open PySem PySem.Spec PyProof.Rows
/-- the module's facts, over the base: the heap at the law's entry without what is tracked there -/
structure Mod (K : PySem.W.Frag) (mg : Str → Option Value) (base : Heap) : Prop where
  kin : K.In base
  glob : base.Ns mainGlobals mg
  blt : ∃ mb, base.Ns builtinsNs mb ∧ ∀ x : Str, x ≠ "__name__" → mb x = bootBuiltins x
  nolimit : base.NoLimit
/-- the context: a def's body (or a comprehension's block) running. base: fixed through the whole law; s₀, H₀: the entry; outer: the frames whose slots others may change (a def's callers); stack: all frames that run;
   ex: iterators that were made ahead of the entry and are walked here (a comprehension's); fn: the names whose cells were made at the entry (a def: all; a comprehension's block: its own); calm: not within an except suite; pn: pins that every state bears; xe: what is wanted of an exception that leaves the code -/
structure Cx where
  prog : Program
  w : World
  K : PySem.W.Frag
  mg : Str → Option Value
  base : Heap
  A : Around
  N : List Str
  s_0 : Shared
  H_0 : Hp
  env : Env
  outer : List Env
  stack : List Env
  ex : List Addr
  fn : Str → Bool
  calm : Bool
  pn : List (Addr × Obj)
  xe : Value → Shared → Prop
/-- the callers' frames -/
def frs (l : List Env) : List Addr := l.filterMap (·.frame)
abbrev Cx.fs (X : Cx) : List Addr := frs X.outer
def Vis (sc : Scope) (x : Str) : Prop := sc.names.lookup x = some .local ∨ sc.names.lookup x = some .cell ∨ sc.names.lookup x = some .free
def Loc (sc : Scope) (x : Str) : Prop := sc.names.lookup x = some .local ∨ sc.names.lookup x = some .cell
def Look (env : Env) (h : Heap) (m : Str → Option Value) (x : Str) (u : Value) : Prop :=
  (env.kindOf x = some .local ∧ m x = some u) ∨ ((env.kindOf x = some .cell ∨ env.kindOf x = some .free) ∧ ∃ c, env.cells.lookup x = some c ∧ h.IsCell c (some u))
structure Cx.Ok (X : Cx) : Prop where
  mod : Mod X.K X.mg X.base
  kind : X.env.scope.kind = .function
  glob : X.env.globals = mainGlobals
  blt : X.env.builtins = builtinsNs
  above : X.s_0.heap.objs.size ≤ X.env.locals
  inj : ∀ x y c, X.env.cells.lookup x = some c → X.env.cells.lookup y = some c → x = y
  has : ∀ x, (X.env.kindOf x = some .cell ∨ X.env.kindOf x = some .free) → ∃ c, X.env.cells.lookup x = some c
  cab : ∀ x c, X.fn x = true → X.env.cells.lookup x = some c → X.s_0.heap.objs.size ≤ c
  hd : X.calm = true → X.A.handled = none
  frames : X.A.frames = some X.stack
  stk : X.stack = X.outer ∨ (X.stack = X.env :: X.outer ∧ X.env.frame = some X.env.locals)
  exf : ∀ b ∈ X.ex, b ≠ X.env.locals ∧ ∀ x c, X.env.cells.lookup x = some c → c ≠ b
  bs : ∀ b o, X.base.get? b = some o → X.s_0.heap.get? b = some o ∧ X.H_0 b = none
  bsz : X.base.objs.size ≤ X.s_0.heap.objs.size
  noex : ∀ b o, X.base.get? b = some o → b ∉ X.ex
  exfs : ∀ b ∈ X.ex, b ∉ X.fs
  funs : X.s_0.heap.FunFrames X.base X.outer
  frf : ∀ b ∈ X.fs, X.H_0 b = none
structure Inv (X : Cx) (pins : List (Addr × Obj)) (σ : List (Option V)) (H : Hp) (s : Shared) : Prop where
  ok : X.Ok
  os : s.os = X.s_0.os
  bare : AllBare s.gens
  base : Un X.fs X.ex X.H_0 H X.s_0.heap s.heap
  loc : ∃ m, s.heap.Ns X.env.locals m ∧ ∀ (i : Nat) (x : Str) (v : V), X.N[i]? = some x → σ[i]? = some (some v) → Vis X.env.scope x → ∃ u, RelV v u ∧ Look X.env s.heap m x u
  cell : ∀ x c, X.env.cells.lookup x = some c → ∃ v, s.heap.IsCell c v
  free : H X.env.locals = none
  freeC : ∀ x c, X.env.cells.lookup x = some c → H c = none
  pin : ∀ p ∈ X.pn ++ pins, s.heap.get? p.1 = some p.2 ∧ H p.1 = none ∧ p.1 ≠ X.env.locals ∧ p.1 ∉ X.fs ∧ ∀ v, p.2.data ≠ .cell v
  hok : HOk X.prog X.w H s.heap
  len : σ.length = X.N.length
section
variable {X : Cx} {pins : List (Addr × Obj)} {σ : List (Option V)} {H H' : Hp} {s : Shared} {h' : Heap}
theorem Cx.Ok.nofr (ok : X.Ok) {b : Addr} {o : Obj} (e : X.base.get? b = some o) : b ∉ X.fs := fun hb => by
  have := (ok.funs.mem hb).1
  rw [e] at this; cases this
theorem Inv.bs (I : Inv X pins σ H s) : ∀ b o, X.base.get? b = some o → s.heap.get? b = some o ∧ H b = none := fun b o e =>
  ⟨I.base.keep b o (I.ok.bs b o e).1 (I.ok.bs b o e).2 (I.ok.nofr e) (I.ok.noex b o e), I.base.free b o (I.ok.bs b o e).1 (I.ok.bs b o e).2 (I.ok.noex b o e)⟩
theorem Inv.bk (I : Inv X pins σ H s) : ∀ b o, X.base.get? b = some o → s.heap.get? b = some o := fun b o e => (I.bs b o e).1
theorem Inv.mod (I : Inv X pins σ H s) : Mod X.K X.mg X.base := I.ok.mod
theorem Inv.kIn (I : Inv X pins σ H s) : X.K.In s.heap := I.ok.mod.kin.keeps I.bk
theorem Inv.lt (I : Inv X pins σ H s) : X.env.locals < s.heap.objs.size := let ⟨_, hn, _⟩ := I.loc; hn.lt
theorem Inv.sz (I : Inv X pins σ H s) : X.s_0.heap.objs.size ≤ s.heap.objs.size := Nat.le_trans I.ok.above (Nat.le_of_lt I.lt)
theorem Inv.nofs (I : Inv X pins σ H s) {a : Addr} (h : s.heap.objs.size ≤ a) : a ∉ X.fs := fun hb => by
  obtain ⟨_, o, ho, _⟩ := I.ok.funs.mem hb
  exact absurd (Nat.lt_of_lt_of_le (Heap.lt_size ho) (Nat.le_trans I.sz h)) (Nat.lt_irrefl _)
theorem Inv.cne (I : Inv X pins σ H s) : ∀ x c, X.env.cells.lookup x = some c → c ≠ X.env.locals := fun x c e z => by
  obtain ⟨v, o, ho, hd⟩ := I.cell x c e
  obtain ⟨m, ⟨o', es, ep, ho', hd', _⟩, _⟩ := I.loc
  rw [z, ho'] at ho; cases ho; rw [hd'] at hd; cases hd
theorem Inv.funs (I : Inv X pins σ H s) : s.heap.FunFrames X.base X.outer := by
  have all : ∀ (l : List Env), (∀ b ∈ frs l, b ∈ X.fs) → X.s_0.heap.FunFrames X.base l → s.heap.FunFrames X.base l := by
    intro l
    induction l with
    | nil => intro _ _; trivial
    | cons env r ih =>
      intro hs hl
      obtain ⟨hk, ⟨L, o, hf, hn, ho, hd⟩, hr⟩ := hl
      have hL : L ∈ X.fs := hs L (by unfold frs; rw [List.filterMap_cons, hf]; exact List.mem_cons_self)
      obtain ⟨sl, e⟩ := I.base.slot L o ho (I.ok.frf L hL) hL fun z => I.ok.exfs L z hL
      exact ⟨hk, ⟨L, _, hf, hn, e, hd⟩, ih (fun b hb => hs b (by unfold frs; rw [List.filterMap_cons, hf]; exact List.mem_cons_of_mem _ hb)) hr⟩
  exact all X.outer (fun _ hb => hb) I.ok.funs
/-- the frames that run, for a call -/
theorem Inv.stack (I : Inv X pins σ H s) : s.heap.FunFrames X.base X.stack := by
  rcases I.ok.stk with e | ⟨e, hf⟩
  · rw [e]; exact I.funs
  · rw [e]
    obtain ⟨m, hn, _⟩ := I.loc
    refine .cons (by rw [I.ok.kind]; decide) hf hn ?_ I.funs
    exact Heap.get?_none_of_le (Nat.le_trans I.ok.bsz I.ok.above)
theorem Inv.stkSub (I : Inv X pins σ H s) : ∀ b ∈ frs X.stack, b ∈ X.env.locals :: X.fs := fun b hb => by
  rcases I.ok.stk with e | ⟨e, hf⟩
  · rw [e] at hb; exact List.mem_cons_of_mem _ hb
  · rw [e] at hb
    unfold frs at hb
    rw [List.filterMap_cons, hf] at hb
    exact hb
theorem Inv.stkFree (I : Inv X pins σ H s) : ∀ b ∈ frs X.stack, H b = none := fun b hb => by
  rcases List.mem_cons.mp (I.stkSub b hb) with e | hb
  · rw [e]; exact I.free
  · obtain ⟨_, o, ho, _⟩ := I.ok.funs.mem hb
    exact I.base.free b o ho (I.ok.frf b hb) fun z => I.ok.exfs b z hb
/-- THE STEP: the untracked objects but the frame and the records at ch are kept (the callers' frames up to slots), the frame's map is kept, the new abstract heap is held -/
theorem Inv.step {g' : Array GenState} {t' : Nat} {d' : Drawn} {ch : List Addr} (I : Inv X pins σ H s)
    (hch : ∀ b ∈ ch, (b ∈ X.ex ∨ X.s_0.heap.objs.size ≤ b) ∧ b ≠ X.env.locals ∧ (∀ x c, X.env.cells.lookup x = some c → c ≠ b) ∧ ∀ p ∈ X.pn ++ pins, p.1 ≠ b)
    (keep : ∀ b o, b ≠ X.env.locals → b ∉ X.fs → b ∉ ch → s.heap.get? b = some o → H b = none → h'.get? b = some o)
    (slot : ∀ b o, b ≠ X.env.locals → b ∈ X.fs → b ∉ ch → s.heap.get? b = some o → H b = none → ∃ sl, h'.get? b = some { o with slots := sl }) (free : ∀ b o, b ∉ ch → s.heap.get? b = some o → H b = none → H' b = none)
    (there : ∀ b o, b ∉ ch → s.heap.get? b = some o → ∃ o', h'.get? b = some o')
    (tups : ∀ b xs, H b = some (.tup xs) → H' b = some (.tup xs)) (frzs : ∀ b o u, H b = some (.frz o u) → H' b = some (.frz o u)) (tbls : ∀ b ps, H b = some (.tbl ps) → ∃ more, H' b = some (.tbl (ps ++ more)))
    (ns : ∀ m, s.heap.Ns X.env.locals m → h'.Ns X.env.locals m) (hok : HOk X.prog X.w H' h') (hg : AllBare g') :
    Inv X pins σ H' { s with heap := h', gens := g', drawn := d', toks := t' } := by
  have neL : ∀ b o, X.s_0.heap.get? b = some o → b ≠ X.env.locals := fun b o e => Nat.ne_of_lt (Nat.lt_of_lt_of_le (Heap.lt_size e) I.ok.above)
  have neC : ∀ b o, X.s_0.heap.get? b = some o → b ∉ X.ex → b ∉ ch := fun b o e hx hb => by
    rcases (hch b hb).1 with z | z
    · exact hx z
    · exact absurd (Nat.lt_of_lt_of_le (Heap.lt_size e) z) (Nat.lt_irrefl _)
  have cellK : ∀ x c, X.env.cells.lookup x = some c → ∀ v, s.heap.IsCell c v → h'.IsCell c v := fun x c e v ⟨o, ho, hd⟩ => by
    have nch : c ∉ ch := fun z => (hch c z).2.2.1 x c e rfl
    by_cases hc : c ∈ X.fs
    · obtain ⟨sl, q⟩ := slot c o (I.cne x c e) hc nch ho (I.freeC x c e)
      exact ⟨_, q, hd⟩
    · exact ⟨o, keep c o (I.cne x c e) hc nch ho (I.freeC x c e), hd⟩
  refine ⟨I.ok, I.os, hg, ⟨fun b o e n hb hx => ?_, fun b o e n hb hx => ?_, fun b o e n hx => ?_, fun b o e hx => ?_, fun b xs e => tups b xs (I.base.tups b xs e), fun b o xs e => frzs b o xs (I.base.frzs b o xs e), fun b ps e => ?_⟩, ?_, fun x c e => ?_, ?_, fun x c e => ?_, fun p hp => ?_, hok, I.len⟩
  · exact keep b o (neL b o e) hb (neC b o e hx) (I.base.keep b o e n hb hx) (I.base.free b o e n hx)
  · obtain ⟨sl, e1⟩ := I.base.slot b o e n hb hx
    obtain ⟨sl', e2⟩ := slot b _ (neL b o e) hb (neC b o e hx) e1 (I.base.free b o e n hx)
    exact ⟨sl', e2⟩
  · obtain ⟨o', e1⟩ := I.base.there b o e hx
    exact free b o' (neC b o e hx) e1 (I.base.free b o e n hx)
  · obtain ⟨o', e1⟩ := I.base.there b o e hx
    exact there b o' (neC b o e hx) e1
  · obtain ⟨m1, e1⟩ := I.base.tbls b ps e
    obtain ⟨m2, e2⟩ := tbls b _ e1
    exact ⟨m1 ++ m2, by rw [e2, Array.append_assoc]⟩
  · obtain ⟨m, hn, hl⟩ := I.loc
    refine ⟨m, ns m hn, fun i x v e1 e2 e3 => ?_⟩
    obtain ⟨u, r, l⟩ := hl i x v e1 e2 e3
    refine ⟨u, r, ?_⟩
    rcases l with l | ⟨k, c, e, z⟩
    · exact .inl l
    · exact .inr ⟨k, c, e, cellK x c e _ z⟩
  · obtain ⟨v, z⟩ := I.cell x c e
    exact ⟨v, cellK x c e v z⟩
  · obtain ⟨m, ⟨o, _, _, ho, _⟩, _⟩ := I.loc
    exact free _ o (fun z => (hch _ z).2.1 rfl) ho I.free
  · obtain ⟨v, o, ho, hd⟩ := I.cell x c e
    exact free c o (fun z => (hch c z).2.2.1 x c e rfl) ho (I.freeC x c e)
  · obtain ⟨e, n, ne, nf, d⟩ := I.pin p hp
    have nch : p.1 ∉ ch := fun z => (hch p.1 z).2.2.2 p hp rfl
    exact ⟨keep p.1 p.2 ne nf nch e n, free p.1 p.2 nch e n, ne, nf, d⟩
/-- .. where the frame's own object is kept too -/
theorem Inv.un {t' : Nat} (I : Inv X pins σ H s) (u : Un X.fs [] H H' s.heap h') (hok : HOk X.prog X.w H' h') : Inv X pins σ H' { s with heap := h', toks := t' } := by
  obtain ⟨m, ⟨o, es, ep, ho, r⟩, _⟩ := id I.loc
  obtain ⟨sl, hL⟩ := u.any ho I.free (by simp)
  exact I.step (g' := s.gens) (d' := s.drawn) (ch := []) (fun _ z => nomatch z) (fun b o _ hb _ e n => u.keep b o e n hb (by simp)) (fun b o _ hb _ e n => u.slot b o e n hb (by simp)) (fun b o _ e n => u.free b o e n (by simp)) (fun b o _ e => u.there b o e (by simp)) u.tups u.frzs u.tbls (fun m' hm => by
    obtain ⟨o', es', ep', ho', r'⟩ := hm
    rw [ho] at ho'; cases ho'
    exact ⟨_, es', ep', hL, r'⟩) hok I.bare
/-- behind a call (or a comprehension's block): the slots of this frame may have changed too, the records at ch may have turned -/
theorem Inv.call {g' : Array GenState} {t' : Nat} {d' : Drawn} {ch : List Addr} (I : Inv X pins σ H s) (u : Un (frs X.stack) ch H H' s.heap h') (hok : HOk X.prog X.w H' h') (hg : AllBare g')
    (hch : ∀ b ∈ ch, (b ∈ X.ex ∨ X.s_0.heap.objs.size ≤ b) ∧ b ≠ X.env.locals ∧ (∀ x c, X.env.cells.lookup x = some c → c ≠ b) ∧ ∀ p ∈ X.pn ++ pins, p.1 ≠ b) :
    Inv X pins σ H' { s with heap := h', gens := g', drawn := d', toks := t' } := by
  obtain ⟨m, ⟨o, es, ep, ho, r⟩, _⟩ := id I.loc
  obtain ⟨sl, hL⟩ := u.any ho I.free fun z => (hch _ z).2.1 rfl
  exact I.step (ch := ch) hch (fun b o hL hb hc e n => u.keep b o e n (fun z => (List.mem_cons.mp (I.stkSub b z)).elim hL hb) hc) (fun b o _ _ hc e n => u.any e n hc) (fun b o hc e n => u.free b o e n hc) (fun b o hc e => u.there b o e hc) u.tups u.frzs u.tbls (fun m' hm => by
    obtain ⟨o', es', ep', ho', r'⟩ := hm
    rw [ho] at ho'; cases ho'
    exact ⟨_, es', ep', hL, r'⟩) hok hg
/-- an untracked record of ours (an iterator) has turned -/
theorem Inv.turned {t' : Nat} {it : Addr} (I : Inv X pins σ H s) (k : ∀ b o, b ≠ it → s.heap.get? b = some o → h'.get? b = some o) (hn : H it = none) (hL : it ≠ X.env.locals)
    (h1 : it ∈ X.ex ∨ X.s_0.heap.objs.size ≤ it) (h2 : ∀ x c, X.env.cells.lookup x = some c → c ≠ it) (h3 : ∀ p ∈ X.pn ++ pins, p.1 ≠ it) : Inv X pins σ H { s with heap := h', toks := t' } := by
  have nit : ∀ b u, H b = some u → b ≠ it := fun b u e z => by rw [z, hn] at e; cases e
  refine I.step (g' := s.gens) (d' := s.drawn) (ch := [it]) (fun b hb => ?_) (fun b o _ _ hc e _ => k b o (fun z => hc (by simp [z])) e) (fun b o _ _ hc e _ => ⟨o.slots, k b o (fun z => hc (by simp [z])) e⟩) (fun _ _ _ _ n => n)
    (fun b o hc e => ⟨o, k b o (fun z => hc (by simp [z])) e⟩) (fun _ _ e => e) (fun _ _ _ e => e) (fun b ps e => ⟨#[], by rw [e]; simp⟩) (fun m hm => ?_) (fun b u e => ?_) I.bare
  · have e : b = it := by simpa using hb
    subst e
    exact ⟨h1, hL, h2, h3⟩
  · obtain ⟨o, es, ep, ho, r⟩ := hm
    exact ⟨o, es, ep, k _ o (Ne.symm hL) ho, r⟩
  · refine (I.hok b u e).stay (fun c v hc q => k c v ?_ q) (fun _ q => q) fun _ _ q => q
    rcases hc with z | z
    · rw [z]; exact nit b u e
    · exact nit c _ z
theorem Inv.tok (I : Inv X pins σ H s) (t : Nat) : Inv X pins σ H { s with toks := t } := I.un (h' := s.heap) (t' := t) Un.refl I.hok
/-- all objects kept -/
theorem Inv.kept {t' : Nat} (I : Inv X pins σ H s) (k : ∀ b u, s.heap.get? b = some u → h'.get? b = some u) : Inv X pins σ H { s with heap := h', toks := t' } := I.un (Un.kept k) (I.hok.kept k)
/-- a new object laid and tracked -/
theorem Inv.laid {a : Addr} {o : HO} {t' : Nat} (I : Inv X pins σ H s) (k : ∀ b u, s.heap.get? b = some u → h'.get? b = some u) (hp : s.heap.objs.size ≤ a) (new : ObjOk X.prog X.w (upd H a o) h' a o) :
    Inv X pins σ (upd H a o) { s with heap := h', toks := t' } := I.un (Un.laid k hp (I.hok.fresh hp)) (I.hok.laid k hp new)
/-- an object written -/
theorem Inv.write {x e : Addr} {o : HO} {t' : Nat} (I : Inv X pins σ H s) (mu : Mut (H x)) (he : e = x ∨ H e = some (.own x)) (k : ∀ b u, b ≠ e → s.heap.get? b = some u → h'.get? b = some u) (heo : ∃ u, h'.get? e = some u)
    (new : ObjOk X.prog X.w (upd H x o) h' x o) : Inv X pins σ (upd H x o) { s with heap := h', toks := t' } := I.un (Un.write mu he k heo) (I.hok.write mu he k heo new)
/-- forgetting slots, pins -/
theorem Inv.weak {σ' : List (Option V)} (I : Inv X pins σ H s) (hl : σ'.length = σ.length) (w : ∀ (i : Nat) v, σ'[i]? = some (some v) → σ[i]? = some (some v)) : Inv X pins σ' H s :=
  ⟨I.ok, I.os, I.bare, I.base, let ⟨m, hn, hl'⟩ := I.loc; ⟨m, hn, fun i x v e1 e2 e3 => hl' i x v e1 (w i v e2) e3⟩, I.cell, I.free, I.freeC, I.pin, I.hok, hl.trans I.len⟩
theorem Inv.pins_of {pins' : List (Addr × Obj)} (I : Inv X pins σ H s) (h : ∀ p ∈ pins', s.heap.get? p.1 = some p.2 ∧ H p.1 = none ∧ p.1 ≠ X.env.locals ∧ p.1 ∉ X.fs ∧ ∀ v, p.2.data ≠ .cell v) : Inv X pins' σ H s :=
  ⟨I.ok, I.os, I.bare, I.base, I.loc, I.cell, I.free, I.freeC, fun p hp => (List.mem_append.mp hp).elim (fun z => I.pin p (List.mem_append_left _ z)) (h p), I.hok, I.len⟩
theorem nodup_ix {N : List Str} (hN : N.Nodup) {i j : Nat} {x : Str} (a : N[i]? = some x) (b : N[j]? = some x) : i = j := by
  obtain ⟨h1, e1⟩ := List.getElem?_eq_some_iff.mp a
  obtain ⟨h2, e2⟩ := List.getElem?_eq_some_iff.mp b
  exact (List.getElem_inj hN).mp (e1.trans e2.symm)
/-- a name is stored; what changed -/
theorem store_ok2 {M : Model} {A : Around} {E : Value → Shared → Prop} {i : Nat} {x : Str} {v : V} {u : Value} {Q : Unit → Shared → Prop} (I : Inv X pins σ H s) (hN : X.N.Nodup) (hi : X.N[i]? = some x) (hx : Loc X.env.scope x) (r : RelV v u)
    (h : ∀ s', Inv X pins (σ.set i (some v)) H s' → (∃ a, Heap.SameBut a s.heap s'.heap ∧ (a = X.env.locals ∨ X.env.cells.lookup x = some a)) → Q () s') (hf : X.fn x = true ∨ X.env.scope.names.lookup x = some .local := by first | exact .inl rfl | exact .inr rfl | assumption) : wpAny M A (storeName X.env x u) Q E s := by
  obtain ⟨m, hn, hl⟩ := id I.loc
  have hcls : (X.env.scope.kind == .class || (X.env.scope.kind == .module && X.env.locals != X.env.globals)) = false := by rw [I.ok.kind]; rfl
  have hiσ : i < σ.length := by rw [I.len]; exact (List.getElem?_eq_some_iff.mp hi).1
  have cne := I.cne
  have tracked : ∀ {a : Addr} {h' : Heap}, (∃ o, s.heap.get? a = some o ∧ H a = none) → Heap.SameBut a s.heap h' → HOk X.prog X.w H h' := fun {a h'} ha hs b ob e => by
    obtain ⟨_, _, hfree⟩ := ha
    refine (I.hok b ob e).stay (fun c w' hc q => (hs.2 c ?_).trans q) (fun _ q => q) fun _ _ q => q
    rintro rfl
    rcases hc with rfl | hc
    · rw [hfree] at e; cases e
    · rw [hfree] at hc; cases hc
  rcases hx with hk | hk
  · refine wpAny_storeName_local hk hn (fun h' hn' hs => ?_) hcls
    obtain ⟨oL, _, _, hoL, _⟩ := id hn
    refine h _ ⟨I.ok, I.os, I.bare, ⟨fun b o e n hb hx => ?_, fun b o e n hb hx => ?_, I.base.free, fun b o e hx => ?_, I.base.tups, I.base.frzs, I.base.tbls⟩, ⟨_, hn', fun j y v' e1 e2 e3 => ?_⟩, fun y c e => ?_, I.free, I.freeC, fun p hp => ?_, tracked ⟨oL, hoL, I.free⟩ hs, by simpa using I.len⟩ ⟨_, hs, .inl rfl⟩
    · exact (hs.2 b (Nat.ne_of_lt (Nat.lt_of_lt_of_le (Heap.lt_size e) I.ok.above))).trans (I.base.keep b o e n hb hx)
    · obtain ⟨sl, e1⟩ := I.base.slot b o e n hb hx
      exact ⟨sl, (hs.2 b (Nat.ne_of_lt (Nat.lt_of_lt_of_le (Heap.lt_size e) I.ok.above))).trans e1⟩
    · obtain ⟨o', e1⟩ := I.base.there b o e hx
      exact ⟨o', (hs.2 b (Nat.ne_of_lt (Nat.lt_of_lt_of_le (Heap.lt_size e) I.ok.above))).trans e1⟩
    · by_cases hj : j = i
      · subst hj
        rw [hi] at e1; cases e1
        rw [List.getElem?_set_self hiσ] at e2
        cases e2
        exact ⟨u, r, .inl ⟨hk, by simp⟩⟩
      · rw [List.getElem?_set_ne (Ne.symm hj)] at e2
        obtain ⟨u', r', q⟩ := hl j y v' e1 e2 e3
        refine ⟨u', r', ?_⟩
        rcases q with ⟨k, e⟩ | ⟨k, c, e, z⟩
        · refine .inl ⟨k, ?_⟩
          have : y ≠ x := fun e => hj (nodup_ix hN e1 (e ▸ hi))
          simp [this, e]
        · exact .inr ⟨k, c, e, z.sameBut hs (cne y c e)⟩
    · obtain ⟨w', z⟩ := I.cell y c e
      exact ⟨w', z.sameBut hs (cne y c e)⟩
    · obtain ⟨e, n, ne, nf, d⟩ := I.pin p hp
      exact ⟨(hs.2 p.1 ne).trans e, n, ne, nf, d⟩
  · have hfn : X.fn x = true := by
      rcases hf with z | z
      · exact z
      · rw [z] at hk; cases hk
    obtain ⟨c, hc⟩ := I.ok.has x (.inl hk)
    obtain ⟨w', z⟩ := I.cell x c hc
    refine wpAny_storeName_cell I.ok.kind hk hc z (fun h' hc' hs => ?_)
    obtain ⟨oc, hoc, hocd⟩ := id z
    refine h { s with heap := h' } ⟨I.ok, I.os, I.bare, ⟨fun b o e n hb hx => ?_, fun b o e n hb hx => ?_, I.base.free, fun b o e hx => ?_, I.base.tups, I.base.frzs, I.base.tbls⟩, ⟨m, hn.sameBut hs (Ne.symm (cne x c hc)), fun j y v' e1 e2 e3 => ?_⟩, fun y c' e => ?_, I.free, I.freeC, fun p hp => ?_, tracked ⟨oc, hoc, I.freeC x c hc⟩ hs, by simpa using I.len⟩ ⟨c, hs, .inr hc⟩
    · exact (hs.2 b (Nat.ne_of_lt (Nat.lt_of_lt_of_le (Heap.lt_size e) (I.ok.cab x c hfn hc)))).trans (I.base.keep b o e n hb hx)
    · obtain ⟨sl, e1⟩ := I.base.slot b o e n hb hx
      exact ⟨sl, (hs.2 b (Nat.ne_of_lt (Nat.lt_of_lt_of_le (Heap.lt_size e) (I.ok.cab x c hfn hc)))).trans e1⟩
    · obtain ⟨o', e1⟩ := I.base.there b o e hx
      exact ⟨o', (hs.2 b (Nat.ne_of_lt (Nat.lt_of_lt_of_le (Heap.lt_size e) (I.ok.cab x c hfn hc)))).trans e1⟩
    · by_cases hj : j = i
      · subst hj
        rw [hi] at e1; cases e1
        rw [List.getElem?_set_self hiσ] at e2
        cases e2
        exact ⟨u, r, .inr ⟨.inl hk, c, hc, hc'⟩⟩
      · rw [List.getElem?_set_ne (Ne.symm hj)] at e2
        obtain ⟨u', r', q⟩ := hl j y v' e1 e2 e3
        refine ⟨u', r', ?_⟩
        rcases q with q | ⟨k, c', e, z'⟩
        · exact .inl q
        · refine .inr ⟨k, c', e, z'.sameBut hs ?_⟩
          rintro rfl
          exact hj (nodup_ix hN e1 (I.ok.inj _ _ _ e hc ▸ hi))
    · by_cases hcc : c' = c
      · subst hcc; exact ⟨_, hc'⟩
      · obtain ⟨w2, z2⟩ := I.cell y c' e
        exact ⟨w2, z2.sameBut hs hcc⟩
    · obtain ⟨e, n, ne, nf, d⟩ := I.pin p hp
      refine ⟨(hs.2 p.1 ?_).trans e, n, ne, nf, d⟩
      intro q
      rw [q, hoc] at e
      have q' : oc = p.2 := Option.some.inj e
      exact d w' (by rw [← q']; exact hocd)
theorem store_ok {M : Model} {A : Around} {E : Value → Shared → Prop} {i : Nat} {x : Str} {v : V} {u : Value} {Q : Unit → Shared → Prop} (I : Inv X pins σ H s) (hN : X.N.Nodup) (hi : X.N[i]? = some x) (hx : Loc X.env.scope x) (r : RelV v u)
    (h : ∀ s', Inv X pins (σ.set i (some v)) H s' → Q () s') (hf : X.fn x = true ∨ X.env.scope.names.lookup x = some .local := by first | exact .inl rfl | exact .inr rfl | assumption) : wpAny M A (storeName X.env x u) Q E s :=
  store_ok2 I hN hi hx r (fun s' I' _ => h s' I') hf
/-- behind a call or a block, the state as it is -/
theorem Inv.call' {s' : Shared} {ch : List Addr} (I : Inv X pins σ H s) (ho : s'.os = s.os) (u : Un (frs X.stack) ch H H' s.heap s'.heap) (hok : HOk X.prog X.w H' s'.heap) (hg : AllBare s'.gens)
    (hch : ∀ b ∈ ch, (b ∈ X.ex ∨ X.s_0.heap.objs.size ≤ b) ∧ b ≠ X.env.locals ∧ (∀ x c, X.env.cells.lookup x = some c → c ≠ b) ∧ ∀ p ∈ X.pn ++ pins, p.1 ≠ b) : Inv X pins σ H' s' := by
  obtain ⟨h', g', d', t', o'⟩ := s'
  have e : o' = s.os := ho
  subst e
  exact I.call (g' := g') (t' := t') (d' := d') u hok hg hch
end
/-! ### the judgements -/
/-- an exception: its class, its own dict's address (where it has one), the abstract heap behind it -/
abbrev XK := Value → Option Addr → Hp → Prop
abbrev St := List (Option V)
abbrev VK := V → Hp → Prop
/-- an expression's reading; a test's; an argument list's -/
abbrev TE := St → Hp → VK → Prop
abbrev TT := St → Hp → (Bool → Hp → Prop) → Prop
abbrev TA := St → Hp → (List V → Hp → Prop) → Prop
/-- what is wanted behind a statement -/
structure Ends where
  nx : St → Hp → Prop
  rt : VK
  bk : St → Hp → Prop := fun _ _ => False
  ct : St → Hp → Prop := fun _ _ => False
abbrev TS := Ends → St → Hp → Prop
def EP (X : Cx) (pins : List (Addr × Obj)) (σ : St) (Q : VK) (u : Value) (s' : Shared) : Prop := ∃ v H', Inv X pins σ H' s' ∧ RelV v u ∧ Q v H'
def TP (X : Cx) (pins : List (Addr × Obj)) (σ : St) (Q : Bool → Hp → Prop) (b : Bool) (s' : Shared) : Prop := ∃ H', Inv X pins σ H' s' ∧ Q b H'
def AP (X : Cx) (pins : List (Addr × Obj)) (σ : St) (Q : List V → Hp → Prop) (us : List Value) (s' : Shared) : Prop := ∃ vs H', Inv X pins σ H' s' ∧ Vals vs us ∧ Q vs H'
def SP (X : Cx) (pins : List (Addr × Obj)) (D : Ends) (f : Flow) (s' : Shared) : Prop :=
  match f with
  | .next => ∃ σ' H', Inv X pins σ' H' s' ∧ D.nx σ' H'
  | .brk => ∃ σ' H', Inv X pins σ' H' s' ∧ D.bk σ' H'
  | .cont => ∃ σ' H', Inv X pins σ' H' s' ∧ D.ct σ' H'
  | .ret u => ∃ v σ' H', Inv X pins σ' H' s' ∧ RelV v u ∧ D.rt v H'
def PE (X : Cx) (e : Expr) (t : TE) : Prop :=
  ∀ (pins : List (Addr × Obj)) (s : Shared) (σ : St) (H : Hp) (Q : VK), Inv X pins σ H s → t σ H Q → wpAny (model X.prog X.w) X.A (eval e X.env) (EP X pins σ Q) X.xe s
def PT (X : Cx) (e : Expr) (t : TT) : Prop :=
  ∀ (pins : List (Addr × Obj)) (s : Shared) (σ : St) (H : Hp) (Q : Bool → Hp → Prop), Inv X pins σ H s → t σ H Q → wpAny (model X.prog X.w) X.A (isTrue e X.env (eval e X.env)) (TP X pins σ Q) X.xe s
/-- a test whatever its 'whole' is (and, or) -/
def PW (X : Cx) (e : Expr) (t : TT) : Prop :=
  ∀ (whole : Sem Value) (pins : List (Addr × Obj)) (s : Shared) (σ : St) (H : Hp) (Q : Bool → Hp → Prop), Inv X pins σ H s → t σ H Q → wpAny (model X.prog X.w) X.A (isTrue e X.env whole) (TP X pins σ Q) X.xe s
theorem PW.pt {X : Cx} {e : Expr} {t : TT} (h : PW X e t) : PT X e t := h _
/-- an argument list (no star), from the left -/
def PA (X : Cx) (es : List Expr) (t : TA) : Prop :=
  ∀ (pos : Pos) (pins : List (Addr × Obj)) (s : Shared) (σ : St) (H : Hp) (Q : List V → Hp → Prop), Inv X pins σ H s → t σ H Q → wpAny (model X.prog X.w) X.A (spliced (backTo pos (starEach es X.env))) (AP X pins σ Q) X.xe s
def PS (X : Cx) (st : Stmt) (t : TS) : Prop :=
  ∀ (pins : List (Addr × Obj)) (s : Shared) (σ : St) (H : Hp) (D : Ends), Inv X pins σ H s → t D σ H → wpAny (model X.prog X.w) X.A (exec st X.env) (SP X pins D) X.xe s
def PSs (X : Cx) (st : List Stmt) (t : TS) : Prop :=
  ∀ (pins : List (Addr × Obj)) (s : Shared) (σ : St) (H : Hp) (D : Ends), Inv X pins σ H s → t D σ H → wpAny (model X.prog X.w) X.A (execs st X.env) (SP X pins D) X.xe s
/-- weaken the end -/
theorem thn {α : Type} {t : Sem α} {Q Q' : α → Shared → Prop} {M : Model} {A : Around} {E : Value → Shared → Prop} {s : Shared} (h : wpAny M A t Q E s) (hQ : ∀ a s, Q a s → Q' a s) : wpAny M A t Q' E s := wpAny_mono h hQ fun _ _ x => x
end L2
namespace L2
open PySem PySem.Spec PyProof.Rows
section
variable {X : Cx}
/-! ### names and constants -/
def tVar (i : Nat) : TE := fun σ H Q => ∃ v, σ[i]? = some (some v) ∧ Q v H
def tC (v : V) : TE := fun _ H Q => Q v H
theorem pe_var {i : Nat} {x : Str} {pos : Pos} (hN : X.N[i]? = some x) (hv : Vis X.env.scope x) (hd : (x == ("__debug__" : Str)) = false := by decide) (hcd : (x == ("__classdict__" : Str)) = false := by decide) : PE X (.Name x pos) (tVar i) := by
  intro pins s σ H Q I h
  obtain ⟨v, e, h⟩ := h
  obtain ⟨m, hn, hl⟩ := I.loc
  obtain ⟨u, r, l⟩ := hl i x v hN e hv
  have fin : EP X pins σ Q u s := ⟨v, H, I, r, h⟩
  rcases l with ⟨hk, hm⟩ | ⟨hk, c, hc, hcell⟩
  · exact wpAny_Name (wpAny_loadName_local I.ok.kind hk hn hm fin) hd
  · rcases hk with hk | hk
    · exact wpAny_Name (wpAny_loadName_cell I.ok.kind hk hc hcell fin) hd
    · exact wpAny_Name (wpAny_loadName_free I.ok.kind hk hc hcell fin hcd) hd
theorem pe_int {i j pos} : PE X (.Constant (.int i) j pos) (tC (.int i)) := fun _ _ _ H _ I h => wpAny_Constant_int ⟨.int i, H, I.tok _, ⟨_, rfl⟩, h⟩
theorem pe_bl {b j pos} : PE X (.Constant (.bool b) j pos) (tC (.bl b)) := fun _ _ _ H _ I h => Constant_bool ⟨.bl b, H, I, rfl, h⟩
theorem pe_non {j pos} : PE X (.Constant .none j pos) (tC .non) := fun _ _ _ H _ I h => Constant_none ⟨.non, H, I, rfl, h⟩
/-- a global name of the def -/
def Gl (X : Cx) (x : Str) : Prop := X.env.kindOf x = some .globalImplicit
theorem ld_glob {E : Value → Shared → Prop} {pins : List (Addr × Obj)} {s : Shared} {σ : St} {H : Hp} {x : Str} {u : Value} {pos : Pos} {Q : Value → Shared → Prop} (I : Inv X pins σ H s) (hg : Gl X x) (hm : X.mg x = some u) (h : Q u s)
    (hd : (x == ("__debug__" : Str)) = false := by decide) : wpAny (model X.prog X.w) X.A (eval (.Name x pos) X.env) Q E s :=
  Calls.Name_function_global I.ok.kind hg (Calls.loadGlobal_global (by rw [I.ok.glob]; exact I.mod.glob.keeps I.bk) hm h) hd
theorem ld_blt {E : Value → Shared → Prop} {pins : List (Addr × Obj)} {s : Shared} {σ : St} {H : Hp} {x : Str} {u : Value} {pos : Pos} {Q : Value → Shared → Prop} (I : Inv X pins σ H s) (hg : Gl X x) (hm : X.mg x = none) (hv : bootBuiltins x = some u) (h : Q u s)
    (hn : x ≠ "__name__" := by decide) (hd : (x == ("__debug__" : Str)) = false := by decide) : wpAny (model X.prog X.w) X.A (eval (.Name x pos) X.env) Q E s := by
  obtain ⟨mb, h1, h2⟩ := I.mod.blt
  exact Calls.Name_function_global I.ok.kind hg (Calls.loadGlobal_builtin (by rw [I.ok.glob]; exact I.mod.glob.keeps I.bk) hm (by rw [I.ok.blt]; exact h1.keeps I.bk) ((h2 x hn).trans hv) h) hd
/-- a module's constant, a class, a function, as a value -/
theorem pe_glob {x : Str} {v : V} {u : Value} {pos : Pos} (hg : Gl X x) (hm : X.mg x = some u) (r : RelV v u) (hd : (x == ("__debug__" : Str)) = false := by decide) : PE X (.Name x pos) (tC v) :=
  fun _ _ _ H _ I h => ld_glob I hg hm ⟨v, H, I, r, h⟩ hd
/-! ### arithmetic -/
variable {a b : Expr} {ta tb : TE} {pos : Pos}
/-! ### comparisons -/
def PC (X : Cx) (op : CmpOp) (a b : Expr) (t : TE) : Prop :=
  ∀ (pins : List (Addr × Obj)) (s : Shared) (σ : St) (H : Hp) (Q : VK), Inv X pins σ H s → t σ H Q →
    wpAny (model X.prog X.w) X.A (eval a X.env) (fun v s₁ => wpAny (model X.prog X.w) X.A (eval b X.env) (fun u s₂ => wpAny (model X.prog X.w) X.A (compareOp op v u) (EP X pins σ Q) X.xe s₂) X.xe s₁) X.xe s
theorem nobehind (b : Expr) {op : CmpOp} (h : op ≠ .In) (h2 : op ≠ .NotIn) : behindInMarks op b = false := by
  have e1 : (op == CmpOp.In) = false := by cases op <;> first | rfl | exact absurd rfl h
  have e2 : (op == CmpOp.NotIn) = false := by cases op <;> first | rfl | exact absurd rfl h2
  cases b <;> simp [behindInMarks, e1, e2]
/-- is None -/
def tIsN (ta : TE) : TE := fun σ H Q => ta σ H fun x H1 => Q (.bl (decide (x = .non))) H1
theorem RelV.none_iff {x : V} {v : Value} (r : RelV x v) : (v == Value.none) = decide (x = .non) := by
  cases x with
  | non => cases r; rfl
  | bl _ => cases r; rfl
  | int _ => obtain ⟨t, rfl⟩ := r; rfl
  | str _ => obtain ⟨t, rfl⟩ := r; rfl
  | byt _ => obtain ⟨t, rfl⟩ := r; rfl
  | flt _ => obtain ⟨t, rfl⟩ := r; rfl
  | ref _ => cases r; rfl
  | ty _ => cases r; rfl
theorem pc_isN {j pos'} (ha : PE X a ta) : PC X .Is a (.Constant .none j pos') (tIsN ta) := by
  intro pins s σ H Q I h
  refine thn (ha pins s σ H _ I h) fun v s1 ⟨x, H1, I1, r1, q1⟩ => ?_
  exact Constant_none (is_none_gen ⟨.bl _, H1, I1, by rw [r1.none_iff]; rfl, q1⟩)
/-- a comparison as a value, as a test -/
def tB (t : TE) : TT := fun σ H Q => t σ H fun x H1 => ∃ c, x = .bl c ∧ Q c H1
theorem pt_cmp {op : CmpOp} {t : TE} (h : PC X op a b t) (h1 : behindInMarks op b = false := by first | exact nobehind _ (by decide) (by decide) | rfl) : PT X (.Compare a [op] [b] pos) (tB t) := by
  intro pins s σ H Q I hw
  refine wpAny_isTrue_Compare1 (thn (h pins s σ H _ I hw) fun v s1 h1 => thn h1 fun u s2 h2 => thn h2 fun c s3 ⟨x, H1, I1, r1, q1⟩ => ?_) h1
  obtain ⟨d, rfl, q⟩ := q1
  cases r1
  exact wpAny_truthy_bool ⟨H1, I1, q⟩
/-- an expression whose value is a bool, as a test -/
theorem pt_val {e : Expr} {t : TE} (h : PE X e t) (he : ∀ whole, isTrue e X.env whole = (do let v ← whole; standAt e.pos; holding [v] (truthy v)) := by intro _; rfl) : PT X e (tB t) := by
  intro pins s σ H Q I hw
  refine isTrue_plain (thn (h pins s σ H _ I hw) fun v s1 ⟨x, H1, I1, r1, q1⟩ => ?_) (he _)
  obtain ⟨d, rfl, q⟩ := q1
  cases r1
  exact wpAny_truthy_bool ⟨H1, I1, q⟩
/-! ### and, or, not -/
variable {tA tB' : TT} {rest : List Expr}
def tAnd (t u : TT) : TT := fun σ H Q => t σ H fun c H1 => if c = true then u σ H1 Q else Q false H1
def tOr (t u : TT) : TT := fun σ H Q => t σ H fun c H1 => if c = true then Q true H1 else u σ H1 Q
def tNot (t : TT) : TT := fun σ H Q => t σ H fun c H1 => Q (!c) H1
theorem pw_and1 (ha : PT X a tA) : PW X (.BoolOp .And [a] pos) tA := by
  intro wh pins s σ H Q I h
  refine isTrue_and (thn (ha pins s σ H Q I h) fun c s1 e => ?_)
  cases c with
  | true => exact isTrue_and_nil e
  | false => exact e
theorem pw_or1 (ha : PT X a tA) : PW X (.BoolOp .Or [a] pos) tA := by
  intro wh pins s σ H Q I h
  refine isTrue_or (thn (ha pins s σ H Q I h) fun c s1 e => ?_)
  cases c with
  | false => exact isTrue_or_nil e
  | true => exact e
theorem pw_and (ha : PT X a tA) (hb : PW X (.BoolOp .And (b :: rest) pos) tB') : PW X (.BoolOp .And (a :: b :: rest) pos) (tAnd tA tB') := by
  intro wh pins s σ H Q I h
  refine isTrue_and (thn (ha pins s σ H _ I h) fun c s1 ⟨H1, I1, q1⟩ => ?_)
  cases c with
  | true => exact hb wh pins s1 σ H1 Q I1 q1
  | false => exact ⟨H1, I1, q1⟩
theorem pw_or (ha : PT X a tA) (hb : PW X (.BoolOp .Or (b :: rest) pos) tB') : PW X (.BoolOp .Or (a :: b :: rest) pos) (tOr tA tB') := by
  intro wh pins s σ H Q I h
  refine isTrue_or (thn (ha pins s σ H _ I h) fun c s1 ⟨H1, I1, q1⟩ => ?_)
  cases c with
  | true => exact ⟨H1, I1, q1⟩
  | false => exact hb wh pins s1 σ H1 Q I1 q1
theorem pt_not (ha : PT X a tA) : PT X (.UnaryOp .Not a pos) (tNot tA) := by
  intro pins s σ H Q I h
  exact isTrue_not (ha pins s σ H (fun c H1 => Q (!c) H1) I h)
/-- .. as values (bools) -/
def tAndV (ta tb : TE) : TE := fun σ H Q => ta σ H fun x H1 => ∃ c, x = .bl c ∧ if c = true then tb σ H1 Q else Q (.bl false) H1
def tNotV (ta : TE) : TE := fun σ H Q => ta σ H fun x H1 => ∃ c, x = .bl c ∧ Q (.bl (!c)) H1
theorem pe_one {op} {t : TE} (h : PE X a t) : PE X (.BoolOp op [a] pos) t := fun pins s σ H Q I hw => BoolOp_one (h pins s σ H Q I hw)
theorem pe_and (ha : PE X a ta) (hb : PE X (.BoolOp .And (b :: rest) pos) tb) : PE X (.BoolOp .And (a :: b :: rest) pos) (tAndV ta tb) := by
  intro pins s σ H Q I h
  refine BoolOp_and (thn (ha pins s σ H _ I h) fun v s1 ⟨x, H1, I1, r1, q1⟩ => ?_)
  obtain ⟨c, rfl, q1⟩ := q1
  cases r1
  refine wpAny_truthy_bool ?_
  cases c with
  | true => exact hb pins s1 σ H1 Q I1 q1
  | false => exact ⟨.bl false, H1, I1, rfl, q1⟩
theorem pe_not (ha : PE X a ta) : PE X (.UnaryOp .Not a pos) (tNotV ta) := by
  intro pins s σ H Q I h
  refine UnaryOp_ (thn (ha pins s σ H _ I h) fun v s1 ⟨x, H1, I1, r1, q1⟩ => ?_)
  obtain ⟨c, rfl, q1⟩ := q1
  cases r1
  exact not_of (wpAny_truthy_bool ⟨.bl (!c), H1, I1, rfl, q1⟩)
/-- a if t else b -/
def tIf (t : TT) (ta tb : TE) : TE := fun σ H Q => t σ H fun c H1 => if c = true then ta σ H1 Q else tb σ H1 Q
theorem pe_ifExp {c : Expr} (hc : PT X c tA) (ha : PE X a ta) (hb : PE X b tb) : PE X (.IfExp c a b pos) (tIf tA ta tb) := by
  intro pins s σ H Q I h
  refine wpAny_IfExp (thn (hc pins s σ H _ I h) fun d s1 ⟨H1, I1, q1⟩ => ?_)
  cases d with
  | true => exact ha pins s1 σ H1 Q I1 q1
  | false => exact hb pins s1 σ H1 Q I1 q1
end
end L2
namespace L2
open PySem PySem.Spec PyProof.Rows
/-! ### a list, a tuple that is read: tracked, frozen, or an object of the module -/
def SqL (K : PySem.W.Frag) (H : Hp) (a : Addr) (xs : List V) : Prop :=
  Rd H a (.lst xs) ∨
    ∃ (o : Obj) (its : Array Value) (n : Nat), K.lookup a = some o ∧ o.cls = .type "list" ∧ o.dict = none ∧ o.data = .seq its n ∧ its.size ≤ sizeLine ∧ Vals xs its.toList
def SqT (K : PySem.W.Frag) (H : Hp) (a : Addr) (xs : List V) : Prop :=
  Rd H a (.tup xs) ∨
    ∃ (o : Obj) (its : Array Value) (n : Nat), K.lookup a = some o ∧ o.cls = .type "tuple" ∧ o.data = .seq its n ∧ its.size ≤ sizeLine ∧ Vals xs its.toList
def absV : Value → Option V
  | .none => some .non
  | .bool b => some (.bl b)
  | .int i _ => some (.int i)
  | .str x _ => some (.str x)
  | .bytes b _ => some (.byt b)
  | .float b _ => some (.flt b)
  | .ref a => some (.ref a)
  | .type n => some (.ty n)
  | _ => none
theorem RelV.abs {x : V} {u : Value} (r : RelV x u) : absV u = some x := by
  cases x with
  | non => cases r; rfl
  | bl _ => cases r; rfl
  | int _ => obtain ⟨t, rfl⟩ := r; rfl
  | str _ => obtain ⟨t, rfl⟩ := r; rfl
  | byt _ => obtain ⟨t, rfl⟩ := r; rfl
  | flt _ => obtain ⟨t, rfl⟩ := r; rfl
  | ref _ => cases r; rfl
  | ty _ => cases r; rfl
theorem RelV.inj {x y : V} {u : Value} (r : RelV x u) (q : RelV y u) : x = y := Option.some.inj (r.abs.symm.trans q.abs)
theorem Vals.inj : ∀ {xs ys : List V} {us : List Value}, Vals xs us → Vals ys us → xs = ys
  | _, _, _, .nil, .nil => rfl
  | _, _, _, .cons r t, .cons r' t' => by rw [r.inj r', Vals.inj t t']
section
variable {X : Cx} {pins : List (Addr × Obj)} {σ : St} {H : Hp} {s : Shared} {a : Addr} {xs ys : List V}
theorem SqL.of {K : PySem.W.Frag} (h : H a = some (.lst xs)) : SqL K H a xs := .inl (.inl h)
theorem SqT.of {K : PySem.W.Frag} (h : H a = some (.tup xs)) : SqT K H a xs := .inl (.inl h)
theorem Inv.list (I : Inv X pins σ H s) (h : SqL X.K H a xs) : ∃ its : List Value, Vals xs its ∧ PlainL s.heap a its.toArray ∧ xs.length ≤ sizeLine := by
  rcases h with h | ⟨o, its, n, hk, hc, hd, hs, hz, r⟩
  · obtain ⟨z, its, n, r, e⟩ := h.ok I.hok
    exact ⟨its, r, ⟨_, n, e, rfl, rfl, rfl⟩, z⟩
  · refine ⟨its.toList, r, ⟨o, n, I.kIn a o hk, hc, hd, by simpa using hs⟩, ?_⟩
    have e := r.length
    simp only [Array.length_toList] at e
    omega
theorem Inv.tuple (I : Inv X pins σ H s) (h : SqT X.K H a xs) : ∃ its : List Value, Vals xs its ∧ IsTup s.heap a its.toArray ∧ xs.length ≤ sizeLine := by
  rcases h with h | ⟨o, its, n, hk, hc, hs, hz, r⟩
  · obtain ⟨z, its, r, p⟩ := h.ok I.hok
    exact ⟨its, r, p, z⟩
  · refine ⟨its.toList, r, ⟨o, I.kIn a o hk, hc, n, by simpa using hs⟩, ?_⟩
    have e := r.length
    simp only [Array.length_toList] at e
    omega
theorem Inv.list_inj (I : Inv X pins σ H s) (h : SqL X.K H a xs) (h' : SqL X.K H a ys) : xs = ys := by
  obtain ⟨its, r, ⟨o, n, e, _, _, d⟩, _⟩ := I.list h
  obtain ⟨its', r', ⟨o', n', e', _, _, d'⟩, _⟩ := I.list h'
  rw [e] at e'; cases e'
  rw [d] at d'
  injection d' with d1 _
  have : its = its' := by simpa using congrArg Array.toList d1
  subst this
  exact r.inj r'
end
/-! ### another wish about exceptions -/
abbrev Cx.wish (X : Cx) (E : Value → Shared → Prop) : Cx := { X with xe := E }
/-- no exception leaves -/
abbrev Cx.nox (X : Cx) : Cx := X.wish fun _ _ => False
theorem Cx.Ok.wish {X : Cx} (ok : X.Ok) (E : Value → Shared → Prop) : (X.wish E).Ok :=
  ⟨ok.mod, ok.kind, ok.glob, ok.blt, ok.above, ok.inj, ok.has, ok.cab, ok.hd, ok.frames, ok.stk, ok.exf, ok.bs, ok.bsz, ok.noex, ok.exfs, ok.funs, ok.frf⟩
theorem Cx.Ok.unwish {X : Cx} {E : Value → Shared → Prop} (ok : (X.wish E).Ok) : X.Ok :=
  ⟨ok.mod, ok.kind, ok.glob, ok.blt, ok.above, ok.inj, ok.has, ok.cab, ok.hd, ok.frames, ok.stk, ok.exf, ok.bs, ok.bsz, ok.noex, ok.exfs, ok.funs, ok.frf⟩
section
variable {X : Cx} {pins : List (Addr × Obj)} {σ : St} {H : Hp} {s : Shared} {E : Value → Shared → Prop}
theorem Inv.wish (I : Inv X pins σ H s) (E : Value → Shared → Prop) : Inv (X.wish E) pins σ H s := ⟨I.ok.wish E, I.os, I.bare, I.base, I.loc, I.cell, I.free, I.freeC, I.pin, I.hok, I.len⟩
theorem Inv.unwish (I : Inv (X.wish E) pins σ H s) : Inv X pins σ H s := ⟨I.ok.unwish, I.os, I.bare, I.base, I.loc, I.cell, I.free, I.freeC, I.pin, I.hok, I.len⟩
theorem SP.unwish {D : Ends} {f : Flow} {s' : Shared} (h : SP (X.wish E) pins D f s') : SP X pins D f s' := by
  cases f with
  | next => obtain ⟨σ', H', I, q⟩ := h; exact ⟨σ', H', I.unwish, q⟩
  | brk => obtain ⟨σ', H', I, q⟩ := h; exact ⟨σ', H', I.unwish, q⟩
  | cont => obtain ⟨σ', H', I, q⟩ := h; exact ⟨σ', H', I.unwish, q⟩
  | ret u => obtain ⟨v, σ', H', I, r, q⟩ := h; exact ⟨v, σ', H', I.unwish, r, q⟩
theorem PSs.nox {st : List Stmt} {t : TS} (h : PSs X.nox st t) : PSs X st t := fun pins s σ H D I hw =>
  wpAny_mono (h pins s σ H D (I.wish _) hw) (fun _ _ q => q.unwish) fun _ _ z => False.elim z
end
/-! ### blocks and small statements -/
section
variable {X : Cx} {st : Stmt} {rest : List Stmt} {t u : TS} {e : Expr} {te : TE} {pos : Pos}
def tNext : TS := fun D σ H => D.nx σ H
def tSeq (t u : TS) : TS := fun D σ H => t { D with nx := u D } σ H
theorem pss_nil : PSs X [] tNext := fun _ _ σ H _ I h => wpAny_execs_nil ⟨σ, H, I, h⟩
theorem pss_cons (h1 : PS X st t) (h2 : PSs X rest u) : PSs X (st :: rest) (tSeq t u) := by
  intro pins s σ H D I h
  refine wpAny_execs_cons (thn (h1 pins s σ H { D with nx := u D } I h) fun f s1 q => ?_)
  cases f with
  | next =>
    obtain ⟨σ', H', I', q⟩ := q
    exact h2 pins s1 σ' H' D I' q
  | ret v => exact q
  | brk => exact q
  | cont => exact q
theorem pss_one (h1 : PS X st t) : PSs X [st] t := by
  intro pins s σ H D I h
  refine wpAny_execs_cons (thn (h1 pins s σ H D I h) fun f s1 q => ?_)
  cases f with
  | next => exact wpAny_execs_nil q
  | ret v => exact q
  | brk => exact q
  | cont => exact q
/-- in a def's body nothing is shown -/
theorem Inv.quiet {pins : List (Addr × Obj)} {σ : St} {H : Hp} {s : Shared} (I : Inv X pins σ H s) : interactive X.env = false := by simp [interactive, I.ok.kind]
/-- an expression whose value is dropped -/
def tDrop (te : TE) : TS := fun D σ H => te σ H fun _ H1 => D.nx σ H1
theorem ps_expr (he : PE X e te) (hs : swapsWith e none pos.line X.env = pure false := by rfl) : PS X (.Expr e pos) (tDrop te) := by
  intro pins s σ H D I h
  exact wpAny_Expr_any (thn (he pins s σ H _ I h) fun v s1 ⟨x, H1, I1, r1, q1⟩ => ⟨σ, H1, I1, q1⟩) I.quiet hs
def tRet (te : TE) : TS := fun D σ H => te σ H D.rt
theorem ps_ret (he : PE X e te) : PS X (.Return (some e) pos) (tRet te) := by
  intro pins s σ H D I h
  exact wpAny_Return_some (thn (he pins s σ H _ I h) fun v s1 ⟨x, H1, I1, r1, q1⟩ => ⟨x, σ, H1, I1, r1, q1⟩)
def tIfS (c : TT) (t u : TS) : TS := fun D σ H => c σ H fun b H1 => if b = true then t D σ H1 else u D σ H1
theorem ps_if {c : Expr} {a b : List Stmt} {tc : TT} (hc : PT X c tc) (ha : PSs X a t) (hb : PSs X b u) : PS X (.If c a b pos) (tIfS tc t u) := by
  intro pins s σ H D I h
  refine wpAny_If (thn (hc pins s σ H _ I h) fun d s1 ⟨H1, I1, q1⟩ => ?_)
  cases d with
  | true => exact ha pins s1 σ H1 D I1 q1
  | false => exact hb pins s1 σ H1 D I1 q1
end
/-! ### targets -/
abbrev TG := V → St → Hp → (St → Hp → Prop) → Prop
abbrev TGs := List V → St → Hp → (St → Hp → Prop) → Prop
def PG (X : Cx) (target : Expr) (t : TG) : Prop :=
  ∀ (pins : List (Addr × Obj)) (s : Shared) (σ : St) (H : Hp) (v : V) (u : Value) (Q : St → Hp → Prop), Inv X pins σ H s → RelV v u → t v σ H Q →
    wpAny (model X.prog X.w) X.A (assign target X.env u) (fun _ s' => ∃ σ' H', Inv X pins σ' H' s' ∧ Q σ' H') X.xe s
/-- several targets, one after another -/
def PGs (X : Cx) (ts : List Expr) (t : TGs) : Prop :=
  ∀ (pins : List (Addr × Obj)) (s : Shared) (σ : St) (H : Hp) (vs : List V) (us : List Value) (Q : St → Hp → Prop), Inv X pins σ H s → Vals vs us → t vs σ H Q →
    wpAny (model X.prog X.w) X.A (assignInOrder ((assignEach ts X.env).map (·.2)) us) (fun _ s' => ∃ σ' H', Inv X pins σ' H' s' ∧ Q σ' H') X.xe s
/-- a op= b, by values -/
abbrev TIp := V → V → Hp → VK → Prop
def PIp (X : Cx) (op : Operator) (t : TIp) : Prop :=
  ∀ (pins : List (Addr × Obj)) (s : Shared) (σ : St) (H : Hp) (x y : V) (v u : Value) (Q : VK), Inv X pins σ H s → RelV x v → RelV y u → t x y H Q →
    wpAny (model X.prog X.w) X.A (inplaceOp op v u) (EP X pins σ Q) X.xe s
section
variable {X : Cx} {pos : Pos}
def gName (i : Nat) : TG := fun v σ H Q => Q (σ.set i (some v)) H
theorem pg_name {i : Nat} {x : Str} (hN : X.N.Nodup) (hi : X.N[i]? = some x) (hx : Loc X.env.scope x) (hf : X.fn x = true ∨ X.env.scope.names.lookup x = some .local := by first | exact .inl rfl | exact .inr rfl | assumption) : PG X (.Name x pos) (gName i) := by
  intro pins s σ H v u Q I r h
  exact wpAny_assign_Name (store_ok I hN hi hx r (fun s' I' => ⟨_, H, I', h⟩) hf)
def gNil : TGs := fun vs σ H Q => vs = [] ∧ Q σ H
def gCons (t : TG) (u : TGs) : TGs := fun vs σ H Q => ∃ v r, vs = v :: r ∧ t v σ H fun σ' H' => u r σ' H' Q
theorem pgs_nil : PGs X [] gNil := by
  intro pins s σ H vs us Q I r h
  obtain ⟨e, h⟩ := h
  subst e
  cases r
  exact assignInOrder_nil ⟨σ, H, I, h⟩
theorem pgs_cons {e : Expr} {es : List Expr} {t : TG} {u : TGs} (h1 : PG X e t) (h2 : PGs X es u)
    (hs : (assignEach (e :: es) X.env).map (·.2) = assign e X.env :: (assignEach es X.env).map (·.2) := by rfl) : PGs X (e :: es) (gCons t u) := by
  intro pins s σ H vs us Q I r h
  obtain ⟨v, vr, e1, h⟩ := h
  subst e1
  cases r with
  | cons r rr =>
    rw [hs]
    refine assignInOrder_cons (thn (h1 pins s σ H _ _ _ I r h) fun _ s1 ⟨σ1, H1, I1, q1⟩ => ?_)
    exact h2 pins s1 σ1 H1 _ _ Q I1 rr q1
/-- (a, b, ..) = a tuple of that length -/
def gTup (K : PySem.W.Frag) (n : Nat) (t : TGs) : TG := fun v σ H Q => ∃ a xs, v = .ref a ∧ SqT K H a xs ∧ xs.length = n ∧ t xs σ H Q
theorem pg_tup {es : List Expr} {k : Nat} {t : TGs} {n : Nat} (hc : X.calm = true) (h : PGs X es t)
    (hn : (assignEach es X.env).length = n := by rfl) (hst : (assignEach es X.env).findIdx? (·.1) = none := by rfl) : PG X (.Tuple es k pos) (gTup X.K n t) := by
  intro pins s σ H v u Q I r hw
  obtain ⟨a, xs, e1, hq, hl, hw⟩ := hw
  subst e1
  cases r
  obtain ⟨its, rv, ht, hz⟩ := I.tuple hq
  refine assign_Tuple_tuple (I.ok.hd hc) ht (by simp [hn, ← hl, rv.length]) hst fun h' hx => ?_
  have I1 : Inv X pins σ H { s with heap := h' } := I.kept (t' := s.toks) fun b o e => hx b o (Nat.ne_of_lt (Heap.lt_size e)) e
  exact h pins _ σ H xs _ Q I1 (by simpa using rv) hw
/-- target = value -/
def tAsg (te : TE) (g : TG) : TS := fun D σ H => te σ H fun x H1 => g x σ H1 D.nx
/-- name = value -/
theorem ps_set {i : Nat} {x : Str} {e : Expr} {te : TE} {pos' : Pos} (hN : X.N.Nodup) (hi : X.N[i]? = some x) (hx : Loc X.env.scope x) (he : PE X e te) (hs : swapsWith e (some (.Name x pos')) pos.line X.env = pure false := by rfl) (hf : X.fn x = true ∨ X.env.scope.names.lookup x = some .local := by first | exact .inl rfl | exact .inr rfl | assumption) :
    PS X (.Assign [.Name x pos'] e pos) (tAsg te (gName i)) := by
  intro pins s σ H D I h
  refine wpAny_Assign_Name (thn (he pins s σ H _ I h) fun v s1 ⟨y, H1, I1, r1, q1⟩ => ?_) hs
  exact store_ok I1 hN hi hx r1 (fun s2 I2 => ⟨_, H1, I2, q1⟩) hf
/-- name op= e -/
def tAug (i : Nat) (te : TE) (ti : TIp) : TS := fun D σ H => ∃ x, σ[i]? = some (some x) ∧ te σ H fun y H1 => ti x y H1 fun z H2 => D.nx (σ.set i (some z)) H2
theorem ps_aug {i : Nat} {x : Str} {e : Expr} {te : TE} {op : Operator} {ti : TIp} {pos' : Pos} (hN : X.N.Nodup) (hi : X.N[i]? = some x) (hx : Loc X.env.scope x) (he : PE X e te) (ho : PIp X op ti) (hf : X.fn x = true ∨ X.env.scope.names.lookup x = some .local := by first | exact .inl rfl | exact .inr rfl | assumption) :
    PS X (.AugAssign (.Name x pos') op e pos) (tAug i te ti) := by
  intro pins s σ H D I h
  obtain ⟨v, e1, h⟩ := h
  obtain ⟨m, hn, hl⟩ := I.loc
  have vis : Vis X.env.scope x := by rcases hx with k | k; exact .inl k; exact .inr (.inl k)
  obtain ⟨u, r, l⟩ := hl i x v hi e1 vis
  refine wpAny_AugAssign_Name ?_
  have go : wpAny (model X.prog X.w) X.A (eval e X.env) (fun w s₂ => wpAny (model X.prog X.w) X.A (inplaceOp op u w) (fun r s₃ => wpAny (model X.prog X.w) X.A (storeName X.env x r) (fun _ => SP X pins D .next) X.xe s₃) X.xe s₂) X.xe s := by
    refine thn (he pins s σ H _ I h) fun w s1 ⟨y, H1, I1, r1, q1⟩ => ?_
    refine thn (ho pins s1 σ H1 v y u w _ I1 r r1 q1) fun z s2 ⟨zv, H2, I2, r2, q2⟩ => ?_
    exact store_ok I2 hN hi hx r2 (fun s3 I3 => ⟨_, H2, I3, q2⟩) hf
  rcases l with ⟨hk, hm⟩ | ⟨hk, c, hc, hcell⟩
  · exact wpAny_loadName_local I.ok.kind hk hn hm go
  · rcases hk with hk | hk
    · exact wpAny_loadName_cell I.ok.kind hk hc hcell go
    · rcases hx with k | k
      · have : X.env.scope.names.lookup x = some .free := hk
        rw [k] at this; cases this
      · have : X.env.scope.names.lookup x = some .free := hk
        rw [k] at this; cases this
/-- ints -/
def ipI (f : Int → Int → Int) : TIp := fun x y H Q => ∃ i j, x = .int i ∧ y = .int j ∧ Q (.int (f i j)) H
theorem ip_add : PIp X .Add (ipI fun i j => i + j) := by
  intro pins s σ H x y v u Q I r1 r2 h
  obtain ⟨i, j, e1, e2, q⟩ := h
  subst e1; subst e2
  obtain ⟨t, rfl⟩ := r1
  obtain ⟨t', rfl⟩ := r2
  exact iadd_int ⟨.int _, H, I.tok _, ⟨_, rfl⟩, q⟩
end
/-! ### while -/
section
variable {X : Cx} {pos : Pos}
/-- the invariant W with its measure -/
def tWhile (c : TT) (tb : TS) : TS := fun D σ H => ∃ W : Nat → St → Hp → Prop, (∃ m, W m σ H) ∧ ∀ m σ H, W m σ H →
  c σ H fun b H1 => if b = true then ∃ N : St → Hp → Prop, (∀ σ' H', N σ' H' → ∃ m', m' < m ∧ W m' σ' H') ∧ tb { D with nx := N, ct := N, bk := D.nx } σ H1 else D.nx σ H1
theorem ps_while {c : Expr} {body : List Stmt} {tc : TT} {tb : TS} (hp : PassesOwn (model X.prog X.w) X.A X.env X.xe) (hc : PT X c tc) (hb : PSs X body tb) : PS X (.While c body [] pos) (tWhile tc tb) := by
  intro pins s σ H D I h
  obtain ⟨W, ⟨m0, w0⟩, turn⟩ := h
  refine wpAny_While (codeAny_whileLoop (fun n s' => ∃ σ' H', Inv X pins σ' H' s' ∧ W n σ' H') ?_ m0 ⟨σ, H, I, w0⟩)
  rintro n s1 ⟨σ1, H1, I1, w1⟩
  refine wpAny_passesOwn hp (thn (hc pins s1 σ1 H1 _ I1 (turn n σ1 H1 w1)) fun b s2 ⟨H2, I2, q2⟩ => ?_)
  cases b with
  | true =>
    obtain ⟨N, hN, q2⟩ := q2
    rw [if_pos rfl]
    refine wpAny_passesOwn hp (thn (hb pins s2 σ1 H2 _ I2 q2) fun f s3 q3 => ?_)
    cases f with
    | next =>
      obtain ⟨σ3, H3, I3, n3⟩ := q3
      obtain ⟨m', hm, w3⟩ := hN σ3 H3 n3
      exact ⟨m', hm, σ3, H3, I3, w3⟩
    | cont =>
      obtain ⟨σ3, H3, I3, n3⟩ := q3
      obtain ⟨m', hm, w3⟩ := hN σ3 H3 n3
      exact ⟨m', hm, σ3, H3, I3, w3⟩
    | brk => exact q3
    | ret v => exact q3
  | false =>
    rw [if_neg Bool.false_ne_true]
    exact wpAny_execs_nil ⟨σ1, H2, I2, q2⟩
end
/-! ### what a loop or a comprehension walks -/
/-- at turn i: it yields x (the heap may grow), or it stops -/
structure It where
  go : Nat → Hp → Prop
  yld : Nat → Hp → V → Hp → Prop
  stop : Nat → Hp → Prop
/-- the iterator's own objects may turn: they are not the frame's, not pinned, younger than the entry (or a comprehension's own) -/
def FpOk (X : Cx) (pins : List (Addr × Obj)) (H : Hp) (b : Addr) : Prop :=
  H b = none ∧ b ≠ X.env.locals ∧ b ∉ X.fs ∧ (b ∈ X.ex ∨ X.s_0.heap.objs.size ≤ b) ∧ (∀ x c, X.env.cells.lookup x = some c → c ≠ b) ∧ ∀ p ∈ X.pn ++ pins, p.1 ≠ b
theorem Inv.fpOk {X : Cx} {pins : List (Addr × Obj)} {σ : St} {H H' : Hp} {s : Shared} {b : Addr} (I : Inv X pins σ H s) (hb : s.heap.objs.size ≤ b) (hn : H' b = none) : FpOk X pins H' b := by
  refine ⟨hn, Nat.ne_of_gt (Nat.lt_of_lt_of_le I.lt hb), I.nofs hb, .inr (Nat.le_trans I.sz hb), fun x c e z => ?_, fun p hp z => ?_⟩
  · obtain ⟨v, q⟩ := I.cell x c e
    exact absurd (Nat.lt_of_lt_of_le q.lt (by rw [z]; exact hb)) (Nat.lt_irrefl _)
  · exact absurd (Nat.lt_of_lt_of_le (Heap.lt_size (I.pin p hp).1) (by rw [z]; exact hb)) (Nat.lt_irrefl _)
structure Turn (P : Program) (w : World) (K : PySem.W.Frag) (tg : Expr) (J : It) (fp : List Addr) (it : Addr) (tn : Nat → Heap → Prop) : Prop where
  mem : it ∈ fp
  obj : ∀ i h, tn i h → ∀ b ∈ fp, ∃ o, h.get? b = some o ∧ ∀ v, o.data ≠ .cell v
  keep : ∀ i h h', tn i h → (∀ b ∈ fp, ∀ o, h.get? b = some o → h'.get? b = some o) → tn i h'
  item : ∀ (X : Cx), X.prog = P → X.w = w → X.K = K → X.calm = true → ∀ (i : Nat) (pins : List (Addr × Obj)) (s : Shared) (σ : St) (H : Hp) (E : Value → Shared → Prop), Inv X pins σ H s → (∀ b ∈ fp, FpOk X pins H b) → tn i s.heap → J.go i H →
    wpAny (model P w) X.A (pyNext (.ref it)) (fun r s1 => ∃ u, r = some u ∧
      wpAny (model P w) X.A (letOwnedTupleGo tg (.ref it) u) (fun _ s2 => ∃ x H', Inv X pins σ H' s2 ∧ RelV x u ∧ J.yld i H x H' ∧ tn (i + 1) s2.heap ∧ ∀ b ∈ fp, H' b = none) E s1) E s
  done : ∀ (X : Cx), X.prog = P → X.w = w → X.K = K → X.calm = true → ∀ (i : Nat) (pins : List (Addr × Obj)) (s : Shared) (σ : St) (H : Hp) (E : Value → Shared → Prop), Inv X pins σ H s → (∀ b ∈ fp, FpOk X pins H b) → tn i s.heap → J.stop i H →
    wpAny (model P w) X.A (pyNext (.ref it)) (fun r s1 => r = none ∧ Inv X pins σ H s1) E s
  self : ∀ (A : Around) (i : Nat) (s : Shared) (Q : Value → Shared → Prop) (E : Value → Shared → Prop), tn i s.heap → Q (.ref it) s → wpAny (model P w) A (pyIter (.ref it)) Q E s
abbrev TI := St → Hp → (It → Hp → Prop) → Prop
/-- an iterator has come -/
def PIE (X : Cx) (pins : List (Addr × Obj)) (σ : St) (tg : Expr) (R : It → Hp → Prop) (itv : Value) (s2 : Shared) : Prop :=
  ∃ (it : Addr) (fp : List Addr) (tn : Nat → Heap → Prop) (J : It) (H' : Hp), itv = .ref it ∧ Inv X pins σ H' s2 ∧ Turn X.prog X.w X.K tg J fp it tn ∧ tn 0 s2.heap ∧ (∀ b ∈ fp, FpOk X pins H' b) ∧ R J H'
def PI (X : Cx) (tg iter : Expr) (wi : TI) : Prop :=
  ∀ (pins : List (Addr × Obj)) (s : Shared) (σ : St) (H : Hp) (R : It → Hp → Prop), Inv X pins σ H s → wi σ H R →
    wpAny (model X.prog X.w) X.A (eval iter X.env) (fun v s1 => wpAny (model X.prog X.w) X.A (pyIter v) (PIE X pins σ tg R) X.xe s1) X.xe s
/-- the step ahead of the store is nothing for an iterator that keeps no tuple -/
theorem go_of {M : Model} {A : Around} {E : Value → Shared → Prop} {s : Shared} {tg : Expr} {it : Addr} {u : Value} {o : Obj} {n : String} {vs : Array Value} {Q : Unit → Shared → Prop} (ho : s.heap.get? it = some o) (hc : o.cls = .type n) (hd : o.data = .fields vs)
    (hn : ["enumerate", "zip", "dict_itemiterator", "dict_reverseitemiterator", "odict_iterator", "itertools.zip_longest", "itertools.pairwise"].contains n = false) (hQ : Q () s) : wpAny M A (letOwnedTupleGo tg (.ref it) u) Q E s := by
  unfold letOwnedTupleGo
  cases tg <;> first
    | exact wpAny_pure hQ
    | (cases u <;> first
        | exact wpAny_pure hQ
        | (refine wpAny_bind (wpAny_load ho ?_)
           rw [hc, hd]
           show wpAny M A (if (["enumerate", "zip", "dict_itemiterator", "dict_reverseitemiterator", "odict_iterator", "itertools.zip_longest", "itertools.pairwise"].contains n && vs[0]? == some (rawInt _)) = true then _ else _) Q E s
           rw [if_neg (by intro h; rw [hn, Bool.false_and] at h; cases h)]
           exact wpAny_pure hQ))
/-- the list at a, as it stands at each turn (a loop may append to it) -/
def Itl (K : PySem.W.Frag) (a : Addr) : It :=
  ⟨fun i H => ∃ xs x, SqL K H a xs ∧ xs[i]? = some x, fun i H x H' => H' = H ∧ ∀ xs, SqL K H a xs → xs[i]? = some x, fun i H => ∃ xs, SqL K H a xs ∧ xs.length ≤ i⟩
theorem turn_list {P : Program} {w : World} {K : PySem.W.Frag} {tg : Expr} (a it : Addr) : Turn P w K tg (Itl K a) [it] it (fun i h => h.IsListIter it a i) where
  mem := by simp
  obj := fun i h st b hb => by
    have e : b = it := by simpa using hb
    subst e
    obtain ⟨o, e, c, d⟩ := st
    exact ⟨o, e, fun v z => by rw [d] at z; cases z⟩
  keep := fun i h h' st k => st.at fun o e => k it (by simp) o e
  item := by
    intro X hP hw hK hc i pins s σ H E I hf st hg
    subst hP hw hK
    obtain ⟨xs, x, hq, hx⟩ := hg
    obtain ⟨its, rv, p, hz⟩ := I.list hq
    obtain ⟨u, hu, ru⟩ := rv.get hx
    obtain ⟨f0, f1, f2, f3, f4, f5⟩ := hf it (by simp)
    refine wpAny_pyNext_list_item st p.isList (x := u) (by simpa using hu) fun h' st' sb => ?_
    have I1 : Inv X pins σ H { s with heap := h' } := I.turned (t' := s.toks) (fun b o hb e => (sb.2 b hb).trans e) f0 f1 f3 f4 f5
    obtain ⟨o, e, c, d⟩ := id st'
    exact ⟨u, rfl, go_of (s := { s with heap := h' }) e c d (by decide) ⟨x, H, I1, ru, ⟨rfl, fun ys hy => by rw [I.list_inj hy hq]; exact hx⟩, st', fun b hb => (hf b hb).1⟩⟩
  done := by
    intro X hP hw hK hc i pins s σ H E I hf st hg
    subst hP hw hK
    obtain ⟨xs, hq, hx⟩ := hg
    obtain ⟨its, rv, p, hz⟩ := I.list hq
    obtain ⟨f0, f1, f2, f3, f4, f5⟩ := hf it (by simp)
    have hl := rv.length
    exact wpAny_pyNext_list_end (I.ok.hd hc) st p.isList (by simp; omega) fun h' eb => ⟨rfl, I.turned (t' := s.toks) (fun b o hb e => eb b o hb e) f0 f1 f3 f4 f5⟩
  self := fun _ _ _ _ _ st h => wpAny_pyIter_listiter st h
end L2
namespace L2
open PySem PySem.Spec PyProof.Rows
section
variable {X : Cx} {tg : Expr}
def iList (K : PySem.W.Frag) (tl : TE) : TI := fun σ H R => tl σ H fun x H1 => ∃ a, x = .ref a ∧ (∃ xs, SqL K H1 a xs) ∧ R (Itl K a) H1
theorem pi_list {l : Expr} {tl : TE} (hl : PE X l tl) : PI X tg l (iList X.K tl) := by
  intro pins s σ H R I h
  refine thn (hl pins s σ H _ I h) fun v s1 ⟨x, H1, I1, r1, q1⟩ => ?_
  obtain ⟨a, e, ⟨xs, hq⟩, q⟩ := q1
  subst e
  cases r1
  obtain ⟨its, rv, p, hz⟩ := I1.list hq
  refine wpAny_pyIter_list p.isList ?_
  refine ⟨s1.heap.objs.size, [s1.heap.objs.size], _, _, H1, rfl, I1.kept (t' := s1.toks) fun b o e => Heap.get?_push_of_some _ e, turn_list a _, ⟨_, Heap.get?_push_size _ rfl, rfl, rfl⟩, fun b hb => ?_, q⟩
  have e : b = s1.heap.objs.size := by simpa using hb
  subst e
  exact I1.fpOk (Nat.le_refl _) (I1.hok.fresh (Nat.le_refl _))
/-! ### for -/
/-- W: the invariant by the turn and a measure; N: what the body is to reach -/
def tFor (wi : TI) (g : TG) (tb : TS) : TS := fun D σ H => wi σ H fun J H1 => ∃ W : Nat → Nat → St → Hp → Prop, (∃ m, W 0 m σ H1) ∧ ∀ i m σ H, W i m σ H →
  (J.stop i H ∧ D.nx σ H) ∨ (J.go i H ∧ ∃ N : St → Hp → Prop, (∀ σ' H', N σ' H' → ∃ m', m' < m ∧ W (i + 1) m' σ' H') ∧ ∀ x H', J.yld i H x H' → g x σ H' fun σ2 H2 => tb { D with nx := N, ct := N, bk := D.nx } σ2 H2)
/-- the records at fp as they stand -/
def pinsAt (fp : List Addr) (h : Heap) : List (Addr × Obj) := fp.filterMap fun b => (h.get? b).map fun o => (b, o)
theorem mem_pinsAt {fp : List Addr} {h : Heap} {b : Addr} {o : Obj} (hb : b ∈ fp) (e : h.get? b = some o) : (b, o) ∈ pinsAt fp h := List.mem_filterMap.mpr ⟨b, hb, by rw [e]; rfl⟩
theorem of_pinsAt {fp : List Addr} {h : Heap} {p : Addr × Obj} (hp : p ∈ pinsAt fp h) : p.1 ∈ fp ∧ h.get? p.1 = some p.2 := by
  obtain ⟨b, hb, e⟩ := List.mem_filterMap.mp hp
  cases q : h.get? b with
  | none => rw [q] at e; cases e
  | some o =>
    rw [q] at e
    have e' : (b, o) = p := Option.some.inj e
    subst e'
    exact ⟨hb, q⟩
theorem Inv.pinned {pins : List (Addr × Obj)} {σ : St} {H : Hp} {s : Shared} {fp : List Addr} (I : Inv X pins σ H s) (hf : ∀ b ∈ fp, FpOk X pins H b) (ho : ∀ b ∈ fp, ∃ o, s.heap.get? b = some o ∧ ∀ v, o.data ≠ .cell v) : Inv X (pins ++ pinsAt fp s.heap) σ H s :=
  I.pins_of fun p hp => (List.mem_append.mp hp).elim (fun z => I.pin p (List.mem_append_right _ z)) fun z => by
    obtain ⟨hb, e⟩ := of_pinsAt z
    obtain ⟨f0, f1, f2, _⟩ := hf p.1 hb
    obtain ⟨o, e', d⟩ := ho p.1 hb
    rw [e] at e'; cases e'
    exact ⟨e, f0, f1, f2, d⟩
theorem Inv.unpinned {pins pl : List (Addr × Obj)} {σ : St} {H : Hp} {s : Shared} (I : Inv X (pins ++ pl) σ H s) : Inv X pins σ H s := I.pins_of fun p hp => I.pin p (List.mem_append_right _ (List.mem_append_left _ hp))
theorem ps_for {iter : Expr} {body : List Stmt} {wi : TI} {g : TG} {tb : TS} {pos : Pos} (hp : PassesOwn (model X.prog X.w) X.A X.env X.xe) (hc : X.calm = true) (hi : PI X tg iter wi) (hg : PG X tg g) (hb : PSs X body tb)
    (hs : ∀ x, foldedSetIterable iter X.env x = pure x := by intro _; rfl) : PS X (.For tg iter body [] pos) (tFor wi g tb) := by
  intro pins s σ H D I h
  refine wpAny_For (thn (hi pins s σ H _ I h) fun v s1 h1 => thn h1 fun itv s2 h2 => ?_) hs
  obtain ⟨it, fp, tn, J, H2, e, I2, T, st2, f2, W, ⟨m0, w0⟩, turn⟩ := h2
  subst e
  -- what stays true of the iterator's objects through the loop
  have stat : ∀ {H' : Hp}, (∀ b ∈ fp, H' b = none) → ∀ b ∈ fp, FpOk X pins H' b := fun hn b hb => ⟨hn b hb, (f2 b hb).2⟩
  refine codeAny_forLoop_any (fun n s' => ∃ i σ' H', Inv X pins σ' H' s' ∧ tn i s'.heap ∧ (∀ b ∈ fp, H' b = none) ∧ W i n σ' H') ?_ m0 ⟨0, σ, H2, I2, st2, fun b hb => (f2 b hb).1, w0⟩
  rintro n s3 ⟨i, σ3, H3, I3, st3, fr3, w3⟩
  rcases turn i n σ3 H3 w3 with ⟨stop, qn⟩ | ⟨go, N, hN, step⟩
  · refine wpAny_passesOwn hp (thn (T.done X rfl rfl rfl hc i pins s3 σ3 H3 X.xe I3 (stat fr3) st3 stop) fun r s4 ⟨hr, I4⟩ => ?_)
    subst hr
    exact wpAny_execs_nil ⟨σ3, H3, I4, qn⟩
  · refine wpAny_passesOwn hp (thn (T.item X rfl rfl rfl hc i pins s3 σ3 H3 X.xe I3 (stat fr3) st3 go) fun r s4 ⟨u, hr, h4⟩ => ?_)
    subst hr
    refine wpAny_passesOwn hp (thn h4 fun _ s5 ⟨x, H5, I5, r5, y5, st5, fr5⟩ => ?_)
    have I5' := I5.pinned (stat fr5) (T.obj _ _ st5)
    refine wpAny_passesOwn hp (thn (hg _ s5 σ3 H5 x u _ I5' r5 (step x H5 y5)) fun _ s6 ⟨σ6, H6, I6, q6⟩ => ?_)
    refine wpAny_passesOwn hp (thn (hb _ s6 σ6 H6 _ I6 q6) fun f s7 q7 => ?_)
    have again : ∀ {σ7 : St} {H7 : Hp}, Inv X (pins ++ pinsAt fp s5.heap) σ7 H7 s7 → N σ7 H7 → ∃ m, m < n ∧ ∃ i σ' H', Inv X pins σ' H' s7 ∧ tn i s7.heap ∧ (∀ b ∈ fp, H' b = none) ∧ W i m σ' H' := fun {σ7 H7} I7 n7 => by
      obtain ⟨m', hm, w7⟩ := hN σ7 H7 n7
      refine ⟨m', hm, i + 1, σ7, H7, I7.unpinned, T.keep _ _ _ st5 fun b hb o e => (I7.pin (b, o) (List.mem_append_right _ (List.mem_append_right _ (mem_pinsAt hb e)))).1, fun b hb => ?_, w7⟩
      obtain ⟨o, e, d⟩ := T.obj _ _ st5 b hb
      exact (I7.pin (b, o) (List.mem_append_right _ (List.mem_append_right _ (mem_pinsAt hb e)))).2.1
    cases f with
    | next => obtain ⟨σ7, H7, I7, n7⟩ := q7; exact again I7 n7
    | cont => obtain ⟨σ7, H7, I7, n7⟩ := q7; exact again I7 n7
    | brk => obtain ⟨σ7, H7, I7, q7⟩ := q7; exact ⟨σ7, H7, I7.unpinned, q7⟩
    | ret v => obtain ⟨x7, σ7, H7, I7, r7, q7⟩ := q7; exact ⟨x7, σ7, H7, I7.unpinned, r7, q7⟩
end
/-! ### the forms one uses -/
/-- over a list that the body leaves as it is -/
theorem for_list {K : PySem.W.Frag} {a : Addr} {xs : List V} {g : TG} {tb : TS} {D : Ends} {σ : St} {H : Hp} (Pv : Nat → St → Hp → Prop) (h0 : Pv 0 σ H) (hl : ∀ i σ H, i ≤ xs.length → Pv i σ H → SqL K H a xs)
    (hs : ∀ i x σ H, xs[i]? = some x → Pv i σ H → g x σ H fun σ2 H2 => tb { D with nx := Pv (i + 1), ct := Pv (i + 1), bk := D.nx } σ2 H2) (hd : ∀ σ H, Pv xs.length σ H → D.nx σ H) :
    ∃ W : Nat → Nat → St → Hp → Prop, (∃ m, W 0 m σ H) ∧ ∀ i m σ H, W i m σ H →
      ((Itl K a).stop i H ∧ D.nx σ H) ∨ ((Itl K a).go i H ∧ ∃ N : St → Hp → Prop, (∀ σ' H', N σ' H' → ∃ m', m' < m ∧ W (i + 1) m' σ' H') ∧ ∀ x H', (Itl K a).yld i H x H' → g x σ H' fun σ2 H2 => tb { D with nx := N, ct := N, bk := D.nx } σ2 H2) := by
  refine ⟨fun i m σ H => m = xs.length - i ∧ i ≤ xs.length ∧ Pv i σ H, ⟨xs.length, by simp, Nat.zero_le _, h0⟩, ?_⟩
  rintro i m σ H ⟨rfl, hi, p⟩
  have q := hl i σ H hi p
  by_cases hlt : i < xs.length
  · refine .inr ⟨⟨xs, xs[i], q, by simp [hlt]⟩, Pv (i + 1), fun σ' H' p' => ⟨xs.length - (i + 1), by omega, rfl, hlt, p'⟩, fun x H' y => ?_⟩
    obtain ⟨e, y⟩ := y
    subst e
    exact hs i x σ _ (y xs q) p
  · have e : i = xs.length := by omega
    subst e
    exact .inl ⟨⟨xs, q, Nat.le_refl _⟩, hd σ H p⟩
end L2
namespace L2
open PySem PySem.Spec PyProof.Rows
abbrev R2 := V → V → Hp → VK → Prop
/-- a two-place operation on values: f is binaryOp op, inplaceOp op or compareOp op -/
def OpR (X : Cx) (f : Value → Value → Sem Value) (r : R2) : Prop :=
  ∀ (pins : List (Addr × Obj)) (s : Shared) (σ : St) (H : Hp) (x y : V) (v u : Value) (Q : VK), Inv X pins σ H s → RelV x v → RelV y u → r x y H Q →
    wpAny (model X.prog X.w) X.A (f v u) (EP X pins σ Q) X.xe s
/-- a one-place operation -/
def UnR (X : Cx) (f : Value → Sem Value) (r : V → Hp → VK → Prop) : Prop :=
  ∀ (pins : List (Addr × Obj)) (s : Shared) (σ : St) (H : Hp) (x : V) (v : Value) (Q : VK), Inv X pins σ H s → RelV x v → r x H Q →
    wpAny (model X.prog X.w) X.A (f v) (EP X pins σ Q) X.xe s
/-- a call of a value that is known (a builtin, a type) with values -/
def CallR (X : Cx) (f : Value) (r : List V → Hp → VK → Prop) : Prop :=
  ∀ (pins : List (Addr × Obj)) (s : Shared) (σ : St) (H : Hp) (xs : List V) (us : List Value) (Q : VK), Inv X pins σ H s → Vals xs us → r xs H Q →
    wpAny (model X.prog X.w) X.A (call f us) (EP X pins σ Q) X.xe s
def tOp (r : R2) (ta tb : TE) : TE := fun σ H Q => ta σ H fun x H1 => tb σ H1 fun y H2 => r x y H2 Q
def tUn (r : V → Hp → VK → Prop) (ta : TE) : TE := fun σ H Q => ta σ H fun x H1 => r x H1 Q
def rI0 (g : Int → Int → V) : R2 := fun x y H Q => ∃ i j, x = .int i ∧ y = .int j ∧ Q (g i j) H
def rU (g : Int → V) : V → Hp → VK → Prop := fun x H Q => ∃ i, x = .int i ∧ Q (g i) H
section
variable {X : Cx} {a b c : Expr} {ta tb tc : TE} {pos : Pos}
theorem binT (ha : PE X a ta) (hb : PE X b tb) {pins : List (Addr × Obj)} {s : Shared} {σ : St} {H : Hp} {R : V → V → Hp → Prop} (I : Inv X pins σ H s)
    (h : ta σ H fun x H1 => tb σ H1 fun y H2 => R x y H2) {Q : Value → Shared → Prop} {f : Value → Value → Sem Value}
    (hf : ∀ v u s2 x y H2, Inv X pins σ H2 s2 → RelV x v → RelV y u → R x y H2 → wpAny (model X.prog X.w) X.A (f v u) Q X.xe s2) :
    wpAny (model X.prog X.w) X.A (eval a X.env) (fun v s₁ => wpAny (model X.prog X.w) X.A (eval b X.env) (fun u s₂ => wpAny (model X.prog X.w) X.A (f v u) Q X.xe s₂) X.xe s₁) X.xe s := by
  refine thn (ha pins s σ H _ I h) fun v s1 ⟨x, H1, I1, r1, q1⟩ => ?_
  refine thn (hb pins s1 σ H1 _ I1 q1) fun u s2 ⟨y, H2, I2, r2, q2⟩ => ?_
  exact hf v u s2 x y H2 I2 r1 r2 q2
theorem pe_op {op : Operator} {r : R2} (ho : OpR X (binaryOp op) r) (ha : PE X a ta) (hb : PE X b tb) : PE X (.BinOp a op b pos) (tOp r ta tb) := by
  intro pins s σ H Q I h
  exact wpAny_BinOp (binT ha hb I h fun v u s2 x y H2 I2 rx ry q => ho pins s2 σ H2 x y v u Q I2 rx ry q)
theorem pe_un {op : UnaryOp} {r : V → Hp → VK → Prop} (ho : UnR X (unaryOp op) r) (ha : PE X a ta) : PE X (.UnaryOp op a pos) (tUn r ta) := by
  intro pins s σ H Q I h
  exact UnaryOp_ (thn (ha pins s σ H _ I h) fun v s1 ⟨x, H1, I1, r1, q1⟩ => ho pins s1 σ H1 x v Q I1 r1 q1)
/-! ### ints -/
theorem opI0 {f : Value → Value → Sem Value} {g : Int → Int → Int}
    (rule : ∀ (i j : Int) (t u : Tok) (s : Shared) (Q : Value → Shared → Prop) (E : Value → Shared → Prop), Q (.int (g i j) s.toks) { s with toks := s.toks + 1 } → wpAny (model X.prog X.w) X.A (f (.int i t) (.int j u)) Q E s) :
    OpR X f (rI0 fun i j => .int (g i j)) := by
  intro pins s σ H x y v u Q I rx ry h
  obtain ⟨i, j, rfl, rfl, q⟩ := h
  obtain ⟨t, rfl⟩ := rx
  obtain ⟨t', rfl⟩ := ry
  exact rule i j t t' s _ _ ⟨.int (g i j), H, I.tok _, ⟨_, rfl⟩, q⟩
theorem opB0 {f : Value → Value → Sem Value} {g : Int → Int → Bool}
    (rule : ∀ (i j : Int) (t u : Tok) (s : Shared) (Q : Value → Shared → Prop) (E : Value → Shared → Prop), Q (.bool (g i j)) s → wpAny (model X.prog X.w) X.A (f (.int i t) (.int j u)) Q E s) :
    OpR X f (rI0 fun i j => .bl (g i j)) := by
  intro pins s σ H x y v u Q I rx ry h
  obtain ⟨i, j, rfl, rfl, q⟩ := h
  obtain ⟨t, rfl⟩ := rx
  obtain ⟨t', rfl⟩ := ry
  exact rule i j t t' s _ _ ⟨.bl (g i j), H, I, rfl, q⟩
theorem op_add : OpR X (binaryOp .Add) (rI0 fun i j => .int (i + j)) := opI0 fun _ _ _ _ _ _ _ q => add_int q
theorem op_sub : OpR X (binaryOp .Sub) (rI0 fun i j => .int (i - j)) := opI0 fun _ _ _ _ _ _ _ q => sub_int q
theorem unI {f : Value → Sem Value} {g : Int → Int}
    (rule : ∀ (i : Int) (t : Tok) (s : Shared) (Q : Value → Shared → Prop) (E : Value → Shared → Prop), Q (.int (g i) s.toks) { s with toks := s.toks + 1 } → wpAny (model X.prog X.w) X.A (f (.int i t)) Q E s) :
    UnR X f (rU fun i => .int (g i)) := by
  intro pins s σ H x v Q I rx h
  obtain ⟨i, rfl, q⟩ := h
  obtain ⟨t, rfl⟩ := rx
  exact rule i t s _ _ ⟨.int (g i), H, I.tok _, ⟨_, rfl⟩, q⟩
theorem un_neg : UnR X (unaryOp .USub) (rU fun i => .int (-i)) := unI fun _ _ _ _ _ q => neg_int q
/-! ### bools among ints: n += (a < b) -/
end
/-! ### comparisons -/
/-- the scalars that == tells apart as data does -/
def scal : V → V → Bool
  | .non, .non => true | .non, .int _ => true | .int _, .non => true | .non, .bl _ => true | .bl _, .non => true | .non, .str _ => true | .str _, .non => true
  | .int _, .int _ => true | .bl _, .bl _ => true | .str _, .str _ => true | .byt _, .byt _ => true
  | .int _, .str _ => true | .str _, .int _ => true | .bl _, .str _ => true | .str _, .bl _ => true
  | _, _ => false
def rEq : R2 := fun x y H Q => scal x y = true ∧ Q (.bl (decide (x = y))) H
def rNe : R2 := fun x y H Q => scal x y = true ∧ Q (.bl (!decide (x = y))) H
theorem dec_int {i j : Int} : decide (V.int i = V.int j) = (i == j) := by
  rw [Bool.eq_iff_iff]
  simp
theorem dec_bl {i j : Bool} : decide (V.bl i = V.bl j) = (i == j) := by
  rw [Bool.eq_iff_iff]
  simp
theorem dec_str {i j : Str} : decide (V.str i = V.str j) = (i == j) := by
  rw [Bool.eq_iff_iff]
  simp
theorem dec_byt {i j : Array UInt8} : decide (V.byt i = V.byt j) = (i.toList == j.toList) := by
  rw [Bool.eq_iff_iff]
  cases i
  cases j
  simp
section
variable {X : Cx} {a b c : Expr} {ta tb tc : TE} {pos : Pos}
theorem fin_bl {pins : List (Addr × Obj)} {σ : St} {H : Hp} {s : Shared} {Q : VK} {k k' : Bool} (I : Inv X pins σ H s) (q : Q (.bl k) H) (e : k = k') : EP X pins σ Q (.bool k') s := by
  subst e
  exact ⟨.bl k, H, I, rfl, q⟩
theorem op_eq : OpR X (compareOp .Eq) rEq := by
  intro pins s σ H x y v u Q I rx ry h
  obtain ⟨hs, q⟩ := h
  cases x with
  | non =>
    cases rx
    cases y with
    | non => cases ry; exact PySem.EqNone.eq_none_none (fin_bl I q (by simp))
    | bl j => cases ry; exact PySem.EqNone.eq_none_bool (fin_bl I q (by simp))
    | int j => obtain ⟨t', rfl⟩ := ry; exact PySem.EqNone.eq_none_int (fin_bl I q (by simp))
    | str j => obtain ⟨t', rfl⟩ := ry; exact PySem.EqNone.eq_none_str (fin_bl I q (by simp))
    | _ => exact absurd (show false = true from hs) Bool.false_ne_true
  | bl i =>
    cases rx
    cases y with
    | non => cases ry; exact PySem.EqNone.eq_bool_none (fin_bl I q (by simp))
    | bl j => cases ry; exact eq_bool (fin_bl I q dec_bl)
    | str j => obtain ⟨t', rfl⟩ := ry; exact PySem.EqMixed.eq_bool_str (fin_bl I q (by simp))
    | _ => exact absurd (show false = true from hs) Bool.false_ne_true
  | int i =>
    obtain ⟨t, rfl⟩ := rx
    cases y with
    | non => cases ry; exact PySem.EqNone.eq_int_none (fin_bl I q (by simp))
    | int j => obtain ⟨t', rfl⟩ := ry; exact eq_int (fin_bl I q dec_int)
    | str j => obtain ⟨t', rfl⟩ := ry; exact PySem.EqMixed.eq_int_str (fin_bl I q (by simp))
    | _ => exact absurd (show false = true from hs) Bool.false_ne_true
  | str i =>
    obtain ⟨t, rfl⟩ := rx
    cases y with
    | non => cases ry; exact PySem.EqNone.eq_str_none (fin_bl I q (by simp))
    | bl j => cases ry; exact PySem.EqMixed.eq_str_bool (fin_bl I q (by simp))
    | int j => obtain ⟨t', rfl⟩ := ry; exact PySem.EqMixed.eq_str_int (fin_bl I q (by simp))
    | str j => obtain ⟨t', rfl⟩ := ry; exact eq_str (fin_bl I q dec_str)
    | _ => exact absurd (show false = true from hs) Bool.false_ne_true
  | byt i =>
    obtain ⟨t, rfl⟩ := rx
    cases y with
    | byt j => obtain ⟨t', rfl⟩ := ry; exact PySem.W.eq_bytes (fin_bl I q dec_byt)
    | _ => exact absurd (show false = true from hs) Bool.false_ne_true
  | _ => cases y <;> exact absurd (show false = true from hs) Bool.false_ne_true
theorem op_ne : OpR X (compareOp .NotEq) rNe := by
  intro pins s σ H x y v u Q I rx ry h
  obtain ⟨hs, q⟩ := h
  cases x with
  | non =>
    cases rx
    cases y with
    | non => cases ry; exact PySem.EqNone.ne_none_none (fin_bl I q (by simp))
    | bl j => cases ry; exact PySem.EqNone.ne_none_bool (fin_bl I q (by simp))
    | int j => obtain ⟨t', rfl⟩ := ry; exact PySem.EqNone.ne_none_int (fin_bl I q (by simp))
    | str j => obtain ⟨t', rfl⟩ := ry; exact PySem.EqNone.ne_none_str (fin_bl I q (by simp))
    | _ => exact absurd (show false = true from hs) Bool.false_ne_true
  | bl i =>
    cases rx
    cases y with
    | non => cases ry; exact PySem.EqNone.ne_bool_none (fin_bl I q (by simp))
    | bl j => cases ry; exact ne_bool (fin_bl I q (congrArg not dec_bl))
    | str j => obtain ⟨t', rfl⟩ := ry; exact PySem.EqMixed.ne_bool_str (fin_bl I q (by simp))
    | _ => exact absurd (show false = true from hs) Bool.false_ne_true
  | int i =>
    obtain ⟨t, rfl⟩ := rx
    cases y with
    | non => cases ry; exact PySem.EqNone.ne_int_none (fin_bl I q (by simp))
    | int j => obtain ⟨t', rfl⟩ := ry; exact ne_int (fin_bl I q (congrArg not dec_int))
    | str j => obtain ⟨t', rfl⟩ := ry; exact PySem.EqMixed.ne_int_str (fin_bl I q (by simp))
    | _ => exact absurd (show false = true from hs) Bool.false_ne_true
  | str i =>
    obtain ⟨t, rfl⟩ := rx
    cases y with
    | non => cases ry; exact PySem.EqNone.ne_str_none (fin_bl I q (by simp))
    | bl j => cases ry; exact PySem.EqMixed.ne_str_bool (fin_bl I q (by simp))
    | int j => obtain ⟨t', rfl⟩ := ry; exact PySem.EqMixed.ne_str_int (fin_bl I q (by simp))
    | str j => obtain ⟨t', rfl⟩ := ry; exact ne_str (fin_bl I q (congrArg not dec_str))
    | _ => exact absurd (show false = true from hs) Bool.false_ne_true
  | byt i =>
    obtain ⟨t, rfl⟩ := rx
    cases y with
    | byt j => obtain ⟨t', rfl⟩ := ry; exact PySem.W.ne_bytes (fin_bl I q (congrArg not dec_byt))
    | _ => exact absurd (show false = true from hs) Bool.false_ne_true
  | _ => cases y <;> exact absurd (show false = true from hs) Bool.false_ne_true
theorem op_lt : OpR X (compareOp .Lt) (rI0 fun i j => .bl (decide (i < j))) := opB0 fun _ _ _ _ _ _ _ q => lt_int q
theorem op_le : OpR X (compareOp .LtE) (rI0 fun i j => .bl (decide (i ≤ j))) := opB0 fun _ _ _ _ _ _ _ q => le_int q
theorem op_gt : OpR X (compareOp .Gt) (rI0 fun i j => .bl (decide (j < i))) := opB0 fun _ _ _ _ _ _ _ q => gt_int q
theorem op_ge : OpR X (compareOp .GtE) (rI0 fun i j => .bl (decide (j ≤ i))) := opB0 fun _ _ _ _ _ _ _ q => ge_int q
/-- two rules for one operation: by cases -/
theorem OpR.or {f : Value → Value → Sem Value} {r r' : R2} (h : OpR X f r) (h' : OpR X f r') : OpR X f (fun x y H Q => r x y H Q ∨ r' x y H Q) := by
  intro pins s σ H x y v u Q I rx ry q
  rcases q with q | q
  · exact h pins s σ H x y v u Q I rx ry q
  · exact h' pins s σ H x y v u Q I rx ry q
theorem nomark (b : Expr) {op : CmpOp} (h : op ≠ .In := by decide) (h2 : op ≠ .NotIn := by decide) : behindInMarks op b = false := by
  have e1 : (op == CmpOp.In) = false := by cases op <;> first | rfl | exact absurd rfl h
  have e2 : (op == CmpOp.NotIn) = false := by cases op <;> first | rfl | exact absurd rfl h2
  cases b <;> simp [behindInMarks, e1, e2]
/-- a comparison as a value; hm: nomark b, or (for in, not in) by with_unfolding_all rfl -/
theorem pe_cmpR {op : CmpOp} {r : R2} (ho : OpR X (compareOp op) r) (ha : PE X a ta) (hb : PE X b tb) (hm : behindInMarks op b = false) : PE X (.Compare a [op] [b] pos) (tOp r ta tb) := by
  intro pins s σ H Q I h
  exact wpAny_Compare1 (binT ha hb I h fun v u s2 x y H2 I2 rx ry q => ho pins s2 σ H2 x y v u Q I2 rx ry q) hm
/-- a reading of a value as a test -/
def tTest (t : TE) : TT := fun σ H Q => t σ H fun x H' => ∃ k, x = .bl k ∧ Q k H'
theorem pt_cmpR {op : CmpOp} {r : R2} (ho : OpR X (compareOp op) r) (ha : PE X a ta) (hb : PE X b tb) (hm : behindInMarks op b = false) : PT X (.Compare a [op] [b] pos) (tTest (tOp r ta tb)) := by
  intro pins s σ H Q I h
  refine wpAny_isTrue_Compare1 (thn (ha pins s σ H _ I h) fun v s1 ⟨x, H1, I1, r1, q1⟩ => thn (hb pins s1 σ H1 _ I1 q1) fun u s2 ⟨y, H2, I2, r2, q2⟩ =>
    thn (ho pins s2 σ H2 x y v u _ I2 r1 r2 q2) fun c s3 ⟨z, H3, I3, r3, k, e, q3⟩ => ?_) hm
  subst e
  cases r3
  exact wpAny_truthy_bool ⟨H3, I3, q3⟩
/-! ### truth -/
theorem line63 : (sizeLine : Nat) < 2 ^ 63 := by rw [sizeLine_eq]; decide
/-! ### strs and bytes -/
/-! ### scalar builtins, by CallR -/
theorem vals1 {x : V} {us : List Value} (r : Vals [x] us) : ∃ u, us = [u] ∧ RelV x u := by
  cases r with
  | cons r1 r2 => cases r2; exact ⟨_, rfl, r1⟩
theorem vals2 {x y : V} {us : List Value} (r : Vals [x, y] us) : ∃ u w', us = [u, w'] ∧ RelV x u ∧ RelV y w' := by
  cases r with
  | cons r1 r2 =>
    cases r2 with
    | cons r3 r4 => cases r4; exact ⟨_, _, rfl, r1, r3⟩
theorem call_max2 (hc : X.calm = true) : CallR X (.builtin "max") (fun xs H Q => ∃ i j, xs = [.int i, .int j] ∧ Q (.int (if j > i then j else i)) H) := by
  intro pins s σ H xs us Q I r h
  obtain ⟨i, j, rfl, q⟩ := h
  obtain ⟨u, w', rfl, ⟨t, rfl⟩, ⟨t', rfl⟩⟩ := vals2 r
  refine max_two_ints (I.ok.hd hc) fun h' tk k => ⟨_, H, I.kept k, ?_, q⟩
  by_cases hj : j > i
  · rw [if_pos hj, if_pos hj]; exact ⟨_, rfl⟩
  · rw [if_neg hj, if_neg hj]; exact ⟨_, rfl⟩
end
end L2
namespace L2
open PySem PySem.Spec PyProof.Rows
/-! ### an instance, its attributes a map -/
structure ObjM (h : Heap) (x dx C : Addr) (mA : Str → Option Value) : Prop where
  obj : h.get? x = some (PySem.W.instObj C dx)
  ns : h.Ns1 dx mA
  ne : dx ≠ x
theorem lookIn_ns {h : Heap} {dx : Addr} {mA : Str → Option Value} (n : h.Ns1 dx mA) : ∃ od, h.get? dx = some od ∧ ∀ name, PySem.W.lookIn name od = some (mA name) := by
  obtain ⟨o, es, ep, ho, hd, hk, _, hm⟩ := n
  refine ⟨o, ho, fun name => ?_⟩
  have e := hm name
  unfold nsFind findBy at e
  rw [← Array.find?_toList] at e
  unfold PySem.W.lookIn
  rw [hd]
  dsimp only
  split
  · rename_i y q
    rw [q] at e
    exact congrArg some e
  · rename_i q
    rw [q] at e
    have a : es.toList.any (·.refKey) = false := by
      rw [List.any_eq_false]
      intro y hy
      obtain ⟨z, t, hkey⟩ := hk y (Array.mem_toList_iff.mp hy)
      simp [DictEntry.refKey, hkey]
    have a' : ¬ es.toList.any (·.refKey) = true := by rw [a]; exact Bool.false_ne_true
    rw [if_neg a']
    exact congrArg some e
theorem ObjM.look {h : Heap} {x dx C : Addr} {mA : Str → Option Value} (I : ObjM h x dx C mA) : ∃ od, PySem.W.InstAt h x (PySem.W.instObj C dx) C (some od) ∧ ∀ name, PySem.W.lookIn name od = some (mA name) :=
  let ⟨od, ho, hl⟩ := lookIn_ns I.ns
  ⟨od, ⟨I.obj, rfl, rfl, ho⟩, hl⟩
section
variable {prog : Program} {w : World} {A : Around} {E : Value → Shared → Prop} {s : Shared} {K : PySem.W.Frag} {x dx C f : Addr} {mA : Str → Option Value} {name : Str} {v : Value}
theorem get_map {expr : Bool} {Q : Value → Shared → Prop} (X : K.In s.heap) (I : ObjM s.heap x dx C mA) (hg : PySem.W.plainGet K C name = true) (hh : PySem.W.hasDictIn K C = true)
    (ha : PySem.W.findIn K (.ref C) name = some none) (hv : mA name = some v) (hv' : PySem.W.handedIn v = true) (h : Q v { s with toks := s.toks + 1 }) :
    wpAny (model prog w) A (getAttr (.ref x) name expr) Q E s := by
  obtain ⟨od, J, hl⟩ := I.look
  exact PySem.W.get_value X J (PySem.W.plainGet_of hg).1 (PySem.W.findObj_own hh ha rfl (by rw [hl, hv])) hv' h
theorem get_meth {pl : Sem Bool} {Q : Value × List Value → Shared → Prop} (X : K.In s.heap) (I : ObjM s.heap x dx C mA) (hg : PySem.W.plainGet K C name = true)
    (hf : PySem.W.findIn K (.ref C) name = some (some (.ref f))) (ht : PySem.W.isFn K (.ref f) = true) (hv : mA name = none) (h : Q (.ref f, [.ref x]) s) :
    wpAny (model prog w) A (getMethod (.ref x) name pl) Q E s := by
  obtain ⟨od, J, hl⟩ := I.look
  exact PySem.W.method_fn X J (PySem.W.plainGet_of hg).1 (PySem.W.plainGet_of hg).2 hf (beq_iff_eq.mp ht) (by show (PySem.W.lookIn name od).map (·.isSome) = some false; rw [hl, hv]; rfl) h
theorem set_map {ns : List Str} {Q : Unit → Shared → Prop} (X : K.In s.heap) (I : ObjM s.heap x dx C mA)
    (hs : PySem.W.findIn K (.ref C) "__setattr__" = some (some (.builtin "object.__setattr__"))) (hp : PySem.W.plainOver K C = true) (ht : PySem.W.takerIn K C name = some none) (hh : PySem.W.hasDictIn K C = true)
    (hw : PySem.Within mA ns) (hsz : ns.length ≤ sizeLine)
    (h : ∀ h', ObjM h' x dx C (fun y => if y = name then some v else mA y) → Heap.SameBut dx s.heap h' → Q () { s with heap := h', toks := s.toks + 2 }) :
    wpAny (model prog w) A (setAttr (.ref x) name v) Q E s := by
  obtain ⟨od, J, hl⟩ := I.look
  refine PySem.W.set_plain X J hs (PySem.W.osa_open (s := { s with toks := s.toks + 1 }) (r := none) X J hp ht fun b => ?_)
  obtain ⟨cd, hc, hd'⟩ := PySem.W.any_some hh
  have hx : s.heap.get? x = some ⟨.ref C, some dx, .plain, #[]⟩ := I.obj
  refine wpAny_bind (wpAny_pure (wpAny_bind (wpAny_bind (wpAny_loadPart hx (wpAny_bind (PySem.W.Looks.here (s := { s with toks := s.toks + 1 }) (PySem.W.looks_clsIn X hc) ?_))))))
  rw [hd']
  refine wpAny_pure (a := some dx) (wpAny_bind (wpAny_pure (wpAny_bind ?_)))
  refine wpAny_nsSet1 (s := { s with toks := s.toks + 1 }) I.ns fun h' hn2 hs2 => ?_
  obtain ⟨oD, esD, epD, hoD, hdD, hcD⟩ := hn2.count (PySem.Within.cons name v hw)
  refine wpAny_bind (wpAny_lookBehind hoD (by rw [hdD]; exact pastItsLine_dict (Nat.le_trans hcD (by rw [List.length_cons]; omega))) ?_)
  exact wpAny_pure (h _ ⟨(hs2.2 _ (Ne.symm I.ne)).trans I.obj, hn2, I.ne⟩ hs2)
/-- C(..): the dict at the heap's end, the instance behind it; then its __init__ -/
theorem make_map {R : Result → Shared → Prop} {vs : List Value} {kw : List (Str × Value)} (X : K.In s.heap) (hm : PySem.W.makesIn K C = true)
    (hi : PySem.W.findIn K (.ref C) "__init__" = some (some (.ref f))) (hf : PySem.W.typeIn K (.ref f) = some (.type "function"))
    (h : codeAny (model prog w) (A.under (.builtin "type.__call__" ⟨.ref C :: vs, kw⟩)) (.call (.ref f) ⟨.ref (s.heap.objs.size + 1) :: vs, kw⟩) (PySem.W.InitBack (s.heap.objs.size + 1) R)
      { s with heap := (s.heap.push PySem.W.emptyDict).push (PySem.W.instObj C s.heap.objs.size) }) :
    codeAny (model prog w) A (.call (.ref C) ⟨vs, kw⟩) R s := by
  obtain ⟨hh, g, d, t, os⟩ := s
  exact PySem.W.make_core (PySem.W.makes_of X hm) (PySem.W.looks_findIn X hi) (fun self => PySem.W.bind_fn X self hf) (.inl rfl) h
end
/-! ### the attributes as a list of pairs -/
def putF (f : Str) (v : V) : List (Str × V) → List (Str × V)
  | [] => [(f, v)]
  | (g, x) :: r => if g = f then (g, v) :: r else (g, x) :: putF f v r
theorem lookup_putF (f g : Str) (v : V) : ∀ fs : List (Str × V), (putF f v fs).lookup g = if g = f then some v else fs.lookup g
  | [] => by
    show List.lookup g [(f, v)] = _
    by_cases h : g = f
    · have hb : (g == f) = true := beq_iff_eq.mpr h
      simp only [List.lookup, hb, if_pos h]
    · have hb : (g == f) = false := beq_eq_false_iff_ne.mpr h
      simp only [List.lookup, hb, if_neg h]
  | (k, x) :: r => by
    have ih := lookup_putF f g v r
    rw [show putF f v ((k, x) :: r) = (if k = f then (k, v) :: r else (k, x) :: putF f v r) from rfl]
    by_cases hk : k = f
    · rw [if_pos hk]
      by_cases h : g = k
      · have hb : (g == k) = true := beq_iff_eq.mpr h
        simp only [List.lookup, hb, if_pos (h.trans hk)]
      · have hb : (g == k) = false := beq_eq_false_iff_ne.mpr h
        simp only [List.lookup, hb, if_neg (fun e : g = f => h (e.trans hk.symm))]
    · rw [if_neg hk]
      by_cases h : g = k
      · have hb : (g == k) = true := beq_iff_eq.mpr h
        simp only [List.lookup, hb, if_neg (fun e : g = f => hk (h.symm.trans e))]
      · have hb : (g == k) = false := beq_eq_false_iff_ne.mpr h
        simp only [List.lookup, hb]
        exact ih
theorem keys_putF (f : Str) (v : V) : ∀ fs : List (Str × V), f ∈ (putF f v fs).map (·.1) ∧ ∀ g, g ∈ fs.map (·.1) → g ∈ (putF f v fs).map (·.1)
  | [] => ⟨by simp [putF], fun g h => by simp at h⟩
  | (k, x) :: r => by
    obtain ⟨i1, i2⟩ := keys_putF f v r
    rw [show putF f v ((k, x) :: r) = (if k = f then (k, v) :: r else (k, x) :: putF f v r) from rfl]
    by_cases hk : k = f
    · rw [if_pos hk]
      subst hk
      exact ⟨by simp, fun g h => by simpa using h⟩
    · rw [if_neg hk]
      refine ⟨?_, fun g h => ?_⟩
      · rw [List.map_cons]
        exact List.mem_cons_of_mem _ i1
      · rw [List.map_cons] at h ⊢
        rcases List.mem_cons.mp h with e | e
        · exact List.mem_cons.mpr (.inl e)
        · exact List.mem_cons_of_mem _ (i2 g e)
theorem length_putF (f : Str) (v : V) : ∀ fs : List (Str × V), (putF f v fs).length ≤ fs.length + 1
  | [] => by simp [putF]
  | (k, x) :: r => by
    have ih := length_putF f v r
    rw [show putF f v ((k, x) :: r) = (if k = f then (k, v) :: r else (k, x) :: putF f v r) from rfl]
    by_cases hk : k = f
    · rw [if_pos hk, List.length_cons, List.length_cons]; omega
    · rw [if_neg hk, List.length_cons, List.length_cons]; omega
theorem RelO.some_of {v : V} {o : Option Value} (r : RelO (some v) o) : ∃ u, o = some u ∧ RelV v u := by
  cases o with
  | none => exact (show False from r).elim
  | some u => exact ⟨u, rfl, r⟩
theorem RelO.none_of {o : Option Value} (r : RelO none o) : o = none := by
  cases o with
  | none => rfl
  | some u => exact (show False from r).elim
theorem handed_of {v : V} {u : Value} (r : RelV v u) : PySem.W.handedIn u = true := by
  cases v with
  | non => cases (show u = Value.none from r); rfl
  | bl b => cases (show u = Value.bool b from r); rfl
  | int i => obtain ⟨t, e⟩ := (show ∃ t, u = Value.int i t from r); cases e; rfl
  | str x => obtain ⟨t, e⟩ := (show ∃ t, u = Value.str x t from r); cases e; rfl
  | byt b => obtain ⟨t, e⟩ := (show ∃ t, u = Value.bytes b t from r); cases e; rfl
  | flt b => obtain ⟨t, e⟩ := (show ∃ t, u = Value.float b t from r); cases e; rfl
  | ref a => cases (show u = Value.ref a from r); rfl
  | ty n => cases (show u = Value.type n from r); rfl
section
variable {P : Program} {w : World} {H H' : Hp} {h h' : Heap} {a C dx : Addr} {fs fs' : List (Str × V)}
theorem ins_get (hok : HOk P w H h) (e : H a = some (.ins C dx fs)) : ∃ mA, ObjM h a dx C mA ∧ (∀ f, RelO (fs.lookup f) (mA f)) ∧ PySem.Within mA (fs.map (·.1)) ∧ fs.length ≤ 1000 ∧ H dx = some (.own a) := by
  obtain ⟨d, z, ne, ob, mA, n, r, q⟩ := (show ObjOk P w H h a (.ins C dx fs) from hok a _ e)
  exact ⟨mA, ⟨ob, n, ne⟩, r, q, z, d⟩
end
/-! ### what of the text a class must have -/
structure Cls (K : PySem.W.Frag) (C : Addr) : Prop where
  pg : PySem.W.plainGet K C Str.empty = true
  hd : PySem.W.hasDictIn K C = true
  po : PySem.W.plainOver K C = true
  sa : PySem.W.findIn K (.ref C) "__setattr__" = some (some (.builtin "object.__setattr__"))
theorem Cls.get {K : PySem.W.Frag} {C : Addr} (c : Cls K C) (f : Str) : PySem.W.plainGet K C f = true := c.pg
/-- no class of it has the name -/
def NoAttr (K : PySem.W.Frag) (C : Addr) (f : Str) : Prop := PySem.W.findIn K (.ref C) f = some none
theorem NoAttr.taker {K : PySem.W.Frag} {C : Addr} {f : Str} (n : NoAttr K C f) : PySem.W.takerIn K C f = some none := by
  unfold PySem.W.takerIn
  rw [show PySem.W.findIn K (.ref C) f = some none from n]
  rfl
/-- a method: a plain def of the class or of one above it -/
structure Meth (K : PySem.W.Frag) (C : Addr) (m : Str) (f : Addr) : Prop where
  at_ : PySem.W.findIn K (.ref C) m = some (some (.ref f))
  fn : PySem.W.isFn K (.ref f) = true
  kp : PySem.W.keepIn K (.ref f) = true
section
variable {X : Cx} {pins : List (Addr × Obj)} {σ : St} {H : Hp} {s : Shared} {a C dx : Addr} {fs : List (Str × V)} {f : Str} {v : V} {A : Around} {E : Value → Shared → Prop}
theorem getattr_ok {b : Bool} {Q : Value → Shared → Prop} (I : Inv X pins σ H s) (e : H a = some (.ins C dx fs)) (c : Cls X.K C) (n : NoAttr X.K C f) (l : fs.lookup f = some v)
    (h : ∀ u s', Inv X pins σ H s' → RelV v u → Q u s') : wpAny (model X.prog X.w) A (getAttr (.ref a) f b) Q E s := by
  obtain ⟨mA, O, r, _, _, _⟩ := ins_get I.hok e
  obtain ⟨u, hu, ru⟩ := RelO.some_of (v := v) (o := mA f) (by rw [← l]; exact r f)
  exact get_map I.kIn O (c.get f) c.hd n hu (handed_of ru) (h u _ (I.tok _) ru)
theorem getmeth_ok {m : Str} {g : Addr} {pl : Sem Bool} {Q : Value × List Value → Shared → Prop} (I : Inv X pins σ H s) (e : H a = some (.ins C dx fs)) (c : Cls X.K C) (k : Meth X.K C m g) (l : fs.lookup m = none)
    (h : Q (.ref g, [.ref a]) s) : wpAny (model X.prog X.w) A (getMethod (.ref a) m pl) Q E s := by
  obtain ⟨mA, O, r, _, _, _⟩ := ins_get I.hok e
  have hn : mA m = none := RelO.none_of (by rw [← l]; exact r m)
  exact get_meth I.kIn O (c.get m) k.at_ k.fn hn h
theorem setattr_ok {y : V} {u : Value} {Q : Unit → Shared → Prop} (I : Inv X pins σ H s) (e : H a = some (.ins C dx fs)) (c : Cls X.K C) (n : NoAttr X.K C f) (hl : fs.length < 1000) (ry : RelV y u)
    (h : ∀ s', Inv X pins σ (upd H a (.ins C dx (putF f y fs))) s' → Q () s') : wpAny (model X.prog X.w) A (setAttr (.ref a) f u) Q E s := by
  obtain ⟨mA, O, r, wi, _, ho⟩ := ins_get I.hok e
  have hz : (fs.map (·.1)).length ≤ sizeLine := by rw [List.length_map, sizeLine_eq]; omega
  refine set_map I.kIn O c.sa c.po n.taker c.hd wi hz fun h' O' sb => h _ ?_
  have hd : ∃ o, h'.get? dx = some o := let ⟨o, _, _, e', _⟩ := O'.ns; ⟨o, e'⟩
  refine I.write (x := a) (e := dx) (by rw [e]; exact True.intro) (.inr ho) (fun b q hb z => (sb.2 b hb).trans z) hd ?_
  refine ⟨by rw [upd_ne O.ne]; exact ho, ?_, O.ne, O'.obj, _, O'.ns, fun g => ?_, fun g hg => ?_⟩
  · have := length_putF f y fs; omega
  · show RelO ((putF f y fs).lookup g) (if g = f then some u else mA g)
    rw [lookup_putF]
    by_cases q : g = f
    · rw [if_pos q, if_pos q]; exact ry
    · rw [if_neg q, if_neg q]; exact r g
  · by_cases q : g = f
    · rw [q]; exact (keys_putF f y fs).1
    · refine (keys_putF f y fs).2 g (wi g fun z => hg ?_)
      show (if g = f then some u else mA g) = none
      rw [if_neg q]; exact z
/-- a new instance, tracked, without attributes -/
theorem Inv.made (I : Inv X pins σ H s) : Inv X pins σ (upd (upd H s.heap.objs.size (.own (s.heap.objs.size + 1))) (s.heap.objs.size + 1) (.ins C s.heap.objs.size []))
    { s with heap := (s.heap.push PySem.W.emptyDict).push (PySem.W.instObj C s.heap.objs.size) } := by
  have e1 : (s.heap.push PySem.W.emptyDict).get? s.heap.objs.size = some PySem.W.emptyDict := Heap.get?_push_size s.heap rfl
  have e2 : ((s.heap.push PySem.W.emptyDict).push (PySem.W.instObj C s.heap.objs.size)).get? (s.heap.objs.size + 1) = some (PySem.W.instObj C s.heap.objs.size) := by
    have := Heap.get?_push_size (s.heap.push PySem.W.emptyDict) (o := PySem.W.instObj C s.heap.objs.size) rfl
    rwa [Heap.size_push] at this
  have e3 : (s.heap.push PySem.W.emptyDict).Ns s.heap.objs.size (fun _ => none) := ⟨PySem.W.emptyDict, #[], _, e1, rfl, (fun e he => absurd he (by simp)), fun _ => rfl⟩
  have I1 := I.laid (a := s.heap.objs.size) (o := .own (s.heap.objs.size + 1)) (h' := s.heap.push PySem.W.emptyDict) (t' := s.toks) (fun b u q => Heap.get?_push_of_some _ q) (Nat.le_refl _) ⟨_, e1⟩
  refine I1.laid (a := s.heap.objs.size + 1) (o := .ins C s.heap.objs.size []) (t' := s.toks) (fun b u q => Heap.get?_push_of_some _ q) (Nat.le_of_eq (Heap.size_push _ _)) ?_
  have ne : s.heap.objs.size ≠ s.heap.objs.size + 1 := Nat.ne_of_lt (Nat.lt_succ_self _)
  refine ⟨by rw [upd_ne ne, upd_same], Nat.zero_le _, ne, e2, fun _ => none, (Heap.Ns1.of_empty e3).at fun o q => Heap.get?_push_of_some _ q, fun _ => True.intro, fun y hy => absurd rfl hy⟩
/-- e.f where nothing but the object is asked: through attributeBase (super) and the last hold -/
theorem attr_of {prog : Program} {w : World} {env : Env} {e : Expr} {f : Str} {pos : Pos} {s : Shared} {Q : Value → Shared → Prop} (hb : attributeBase e f env (eval e env) = eval e env)
    (h : wpAny (model prog w) A (eval e env) (fun o s₁ => wpAny (model prog w) A (getAttr o f true) Q E s₁) E s) : wpAny (model prog w) A (eval (.Attribute e f pos) env) Q E s :=
  Attribute_any_ h (by rw [arm_eval_Attribute, hb])
end
/-! ### readings and rules -/
/-- e.f, an attribute of the instance -/
def tFld (K : PySem.W.Frag) (ta : TE) (f : Str) : TE := fun σ H Q => ta σ H fun x H1 => ∃ a C dx fs v, x = .ref a ∧ H1 a = some (.ins C dx fs) ∧ Cls K C ∧ NoAttr K C f ∧ fs.lookup f = some v ∧ Q v H1
/-- e.f = value -/
def sFld (K : PySem.W.Frag) (ta tv : TE) (f : Str) : TS := fun D σ H => tv σ H fun y H1 => ta σ H1 fun x H2 => ∃ a C dx fs, x = .ref a ∧ H2 a = some (.ins C dx fs) ∧ Cls K C ∧ NoAttr K C f ∧ fs.length < 1000 ∧
  D.nx σ (upd H2 a (.ins C dx (putF f y fs)))
/-- an augmented operator on two values -/
def InOp (X : Cx) (op : Operator) (rd : V → V → Hp → VK → Prop) : Prop :=
  ∀ (pins : List (Addr × Obj)) (s : Shared) (σ : St) (H : Hp) (x y : V) (u v : Value) (Q : VK), Inv X pins σ H s → RelV x u → RelV y v → rd x y H Q → wpAny (model X.prog X.w) X.A (inplaceOp op u v) (EP X pins σ Q) X.xe s
/-- e.f op= value -/
def sFldAug (K : PySem.W.Frag) (ta tv : TE) (rd : V → V → Hp → VK → Prop) (f : Str) : TS := fun D σ H => ta σ H fun x H1 => ∃ a C dx fs v, x = .ref a ∧ H1 a = some (.ins C dx fs) ∧ Cls K C ∧ NoAttr K C f ∧ fs.lookup f = some v ∧
  tv σ H1 fun y H2 => rd v y H2 fun z H3 => ∃ dx' fs', H3 a = some (.ins C dx' fs') ∧ fs'.length < 1000 ∧ D.nx σ (upd H3 a (.ins C dx' (putF f z fs')))
section
variable {X : Cx} {o e value : Expr} {f : Str} {pos pos' tpos : Pos} {ta tv : TE}
theorem pe_fld (he : PE X e ta) (hb : attributeBase e f X.env (eval e X.env) = eval e X.env) : PE X (.Attribute e f pos) (tFld X.K ta f) := by
  intro pins s σ H Q I h
  refine attr_of hb (thn (he pins s σ H _ I h) fun u s1 ⟨x, H1, I1, rx, a, C, dx, fs, v, ex, ea, c, n, l, q⟩ => ?_)
  subst ex
  obtain rfl : u = Value.ref a := rx
  exact getattr_ok I1 ea c n l fun u' s2 I2 ru => ⟨v, H1, I2, ru, q⟩
theorem ps_fld (ha : PE X o ta) (hv : PE X value tv) (hs : swapsWith value (some (.Attribute o f pos')) pos.line X.env = pure false) : PS X (.Assign [.Attribute o f pos'] value pos) (sFld X.K ta tv f) := by
  intro pins s σ H D I h
  refine plainObj_wpAny_Assign_Attribute (thn (hv pins s σ H _ I h) fun u s1 ⟨y, H1, I1, ry, q⟩ => thn (ha pins s1 σ H1 _ I1 q) fun ov s2 ⟨x, H2, I2, rx, a, C, dx, fs, ex, ea, c, n, l, q2⟩ => ?_) hs
  subst ex
  obtain rfl : ov = Value.ref a := rx
  exact setattr_ok I2 ea c n l ry fun s3 I3 => ⟨σ, _, I3, q2⟩
theorem ps_fldaug {op : Operator} {rd : V → V → Hp → VK → Prop} (ha : PE X o ta) (hv : PE X value tv) (hop : InOp X op rd) : PS X (.AugAssign (.Attribute o f tpos) op value pos) (sFldAug X.K ta tv rd f) := by
  intro pins s σ H D I h
  refine wpAny_AugAssign_AttributeAny (thn (ha pins s σ H _ I h) fun ov s1 ⟨x, H1, I1, rx, a, C, dx, fs, v, ex, ea, c, n, l, q⟩ => ?_)
  subst ex
  obtain rfl : ov = Value.ref a := rx
  refine getattr_ok I1 ea c n l fun u s2 I2 ru => thn (hv pins s2 σ H1 _ I2 q) fun w3 s3 ⟨y, H2, I3, ry, q3⟩ => thn (hop pins s3 σ H2 v y u w3 _ I3 ru ry q3) fun w4 s4 ⟨z, H3, I4, rz, dx', fs', ea', l', q4⟩ => ?_
  exact setattr_ok I4 ea' c n l' rz fun s5 I5 => ⟨σ, _, I5, q4⟩
def rAdd : V → V → Hp → VK → Prop := fun x y H Q => ∃ i j, x = .int i ∧ y = .int j ∧ Q (.int (i + j)) H
theorem in_add : InOp X .Add rAdd := by
  rintro pins s σ H x y u v Q I rx ry ⟨i, j, rfl, rfl, q⟩
  obtain ⟨t, rfl⟩ := (show ∃ t, u = Value.int i t from rx)
  obtain ⟨t', rfl⟩ := (show ∃ t', v = Value.int j t' from ry)
  exact PyProof.Rows.iadd_int ⟨.int (i + j), H, I.tok _, ⟨_, rfl⟩, q⟩
end
/-! ### isinstance -/
section
variable {X : Cx} {pins : List (Addr × Obj)} {σ : St} {H : Hp} {s : Shared} {A : Around} {E : Value → Shared → Prop} {Q : Value → Shared → Prop} {c : Value} {b : Bool}
end
end L2
namespace L2
open PySem PySem.Spec PyProof.Rows
/-! ### room -/
structure Room (k : Nat) (A : Around) : Prop where
  hd : A.handled = none
  dp : A.depth + 3 * k + 5 < recursionLimit
  un : A.units + 16 * k + 200 < cLine
theorem Room.mono {j k : Nat} {A : Around} (r : Room k A) (h : j ≤ k) : Room j A := ⟨r.hd, by have := r.dp; omega, by have := r.un; omega⟩
theorem Room.deeper {k : Nat} {A : Around} (r : Room (k + 1) A) (env : Env) : Room k (A.deeper env) :=
  ⟨r.hd, by have := r.dp; show A.depth + 1 + 3 * k + 5 < _; omega, by have := r.un; show A.units + 3 + 16 * k + 200 < _; omega⟩
theorem make_depth {A : Around} {C : Addr} {us : List Value} {kw : List (Str × Value)} : (A.under (.builtin "type.__call__" ⟨.ref C :: us, kw⟩)).depth = A.depth + 1 := by
  first | rfl | simp [Around.under, Code.weight, Code.isCreation, Code.isGuard, Code.isCaller, Code.frames, Code.isFrame, guardIds]
theorem make_units {A : Around} {C : Addr} {us : List Value} {kw : List (Str × Value)} : (A.under (.builtin "type.__call__" ⟨.ref C :: us, kw⟩)).units = A.units + 1 := by
  first | rfl | simp [Around.under, Code.cUnits, Code.frames, Code.isFrame]
theorem Room.make {k : Nat} {A : Around} (r : Room (k + 1) A) (C : Addr) (us : List Value) (kw : List (Str × Value)) : Room k (A.under (.builtin "type.__call__" ⟨.ref C :: us, kw⟩)) :=
  ⟨r.hd, by have := r.dp; rw [make_depth]; omega, by have := r.un; rw [make_units]; omega⟩
theorem Room.depth {k : Nat} {A : Around} (r : Room k A) : A.depth < recursionLimit := by have := r.dp; omega
theorem Room.units {k : Nat} {A : Around} (r : Room k A) : A.units + 64 < cLine := by have := r.un; omega
/-! ### argument lists and displays -/
def tNil : TA := fun _ H Q => Q [] H
def tCons (ta : TE) (tr : TA) : TA := fun σ H Q => ta σ H fun x H1 => tr σ H1 fun xs H2 => Q (x :: xs) H2
section
variable {X : Cx} {e : Expr} {es : List Expr} {te : TE} {t : TA} {pos : Pos}
theorem pa_nil : PA X [] tNil := fun _ _ _ _ H Q I h => Calls.spliced_nil ⟨[], H, I, .nil, h⟩
theorem pa_cons (ha : PE X e te) (hr : PA X es t) (hs : starEach (e :: es) X.env = (false, eval e X.env) :: starEach es X.env := by rfl) : PA X (e :: es) (tCons te t) := by
  intro pos pins s σ H Q I h
  rw [hs]
  show wpAny _ _ (spliced ((false, eval e X.env) :: backTo pos (starEach es X.env))) _ _ s
  refine Calls.spliced_cons (thn (ha pins s σ H _ I h) fun u s1 ⟨x, H1, I1, r1, q1⟩ => ?_)
  exact thn (hr pos pins s1 σ H1 _ I1 q1) fun us s2 ⟨xs, H2, I2, r2, q2⟩ => ⟨x :: xs, H2, I2, .cons r1 r2, q2⟩
/-- a tuple, a list of written items -/
def tTup (t : TA) : TE := fun σ H Q => t σ H fun xs H1 => xs.length ≤ sizeLine ∧ ∀ p, H1 p = none → Q (.ref p) (upd H1 p (.tup xs))
def tLst (t : TA) : TE := fun σ H Q => t σ H fun xs H1 => xs.length ≤ sizeLine ∧ ∀ p, H1 p = none → Q (.ref p) (upd H1 p (.lst xs))
theorem pe_tup {x1} (h : PA X es t) : PE X (.Tuple es x1 pos) (tTup t) := by
  intro pins s σ H Q I hq
  refine wpAny_Tuple_spliced (thn (h pos pins s σ H _ I hq) fun us s1 ⟨xs, H1, I1, r, z, q⟩ => ⟨by rw [← r.length]; exact z, ?_⟩)
  have hf : H1 s1.heap.objs.size = none := I1.hok.fresh (Nat.le_refl _)
  refine ⟨.ref s1.heap.objs.size, upd H1 s1.heap.objs.size (.tup xs), I1.laid (t' := s1.toks) (fun b u e => Heap.get?_push_of_some _ e) (Nat.le_refl _) ?_, rfl, q _ hf⟩
  exact ⟨z, us, r, ⟨_, Heap.get?_push_size _ rfl, rfl, _, rfl⟩⟩
theorem pe_lst (h : PA X es t) : PE X (.List es pos) (tLst t) := by
  intro pins s σ H Q I hq
  refine wpAny_List_spliced (thn (h pos pins s σ H _ I hq) fun us s1 ⟨xs, H1, I1, r, z, q⟩ => ⟨by rw [← r.length]; exact z, ?_⟩)
  have hf : H1 s1.heap.objs.size = none := I1.hok.fresh (Nat.le_refl _)
  refine ⟨.ref s1.heap.objs.size, upd H1 s1.heap.objs.size (.lst xs), I1.laid (t' := s1.toks) (fun b u e => Heap.get?_push_of_some _ e) (Nat.le_refl _) ?_, rfl, q _ hf⟩
  exact ⟨z, us, 0, r, Heap.get?_push_size _ rfl⟩
end
/-! ### what a def promises -/
/-- a def's promise: the bound arguments in the parameters' order, the heap, the wanted end, the wanted exception -/
abbrev Sp := List V → Hp → VK → XK → Prop
/-- how an exception lies behind a call (file 08 gives it): the callers' frames, abstract heap and state ahead of the call, the wish, the exception, the state -/
abbrev CXT := List Env → Hp → Shared → XK → Value → Shared → Prop
/-- the state at a call -/
structure Env0 (P : Program) (w : World) (K : PySem.W.Frag) (mg : Str → Option Value) (base : Heap) (A : Around) (outer : List Env) (s : Shared) (H : Hp) : Prop where
  frames : A.frames = some outer
  mod : Mod K mg base
  bs : ∀ b o, base.get? b = some o → s.heap.get? b = some o ∧ H b = none
  bsz : base.objs.size ≤ s.heap.objs.size
  funs : s.heap.FunFrames base outer
  frf : ∀ b ∈ frs outer, H b = none
  hok : HOk P w H s.heap
  bare : AllBare s.gens
/-- a call's end -/
def CE (outer : List Env) (P : Program) (w : World) (H : Hp) (s : Shared) (Q : VK) (u : Value) (s' : Shared) : Prop :=
  ∃ v H', s'.os = s.os ∧ AllBare s'.gens ∧ Un (frs outer) [] H H' s.heap s'.heap ∧ HOk P w H' s'.heap ∧ RelV v u ∧ Q v H'
def CR (CX : CXT) (outer : List Env) (P : Program) (w : World) (H : Hp) (s : Shared) (Q : VK) (E : XK) (r : Result) (s' : Shared) : Prop :=
  match r with
  | .ok (.ret u) => CE outer P w H s Q u s'
  | .ok _ => False
  | .error e => CX outer H s E e s'
structure FnOk (P : Program) (w : World) (K : PySem.W.Frag) (mg : Str → Option Value) (base : Heap) (CX : CXT) (k : Nat) (f : Addr) (fd : FuncData) (ps : List Str) (sp : Sp) : Prop where
  len : ∀ vs H Q E, sp vs H Q E → vs.length = ps.length
  run : ∀ (A : Around) (outer : List Env) (s : Shared) (H : Hp) (args : Args) (us : List Value) (vs : List V) (Q : VK) (E : XK), Room k A → Env0 P w K mg base A outer s H → BindsTo s fd args (ps.zip us) → Vals vs us → sp vs H Q E →
    codeAny (model P w) A (.call (.ref f) args) (CR CX outer P w H s Q E) s
theorem Env0.make {P : Program} {w : World} {K : PySem.W.Frag} {mg : Str → Option Value} {base : Heap} {A : Around} {outer : List Env} {s : Shared} {H : Hp} (e : Env0 P w K mg base A outer s H) (C : Addr) (us : List Value) (kw : List (Str × Value)) :
    Env0 P w K mg base (A.under (.builtin "type.__call__" ⟨.ref C :: us, kw⟩)) outer s H := ⟨by first | exact e.frames | (simpa [Around.under, Code.envs, Code.isFrame, pushEnvs] using e.frames), e.mod, e.bs, e.bsz, e.funs, e.frf, e.hok, e.bare⟩
section
variable {X : Cx} {pins : List (Addr × Obj)} {σ : St} {H : Hp} {s s' : Shared}
/-- from a body: what a callee wants -/
theorem Inv.env0 (I : Inv X pins σ H s) : Env0 X.prog X.w X.K X.mg X.base X.A X.stack s H :=
  ⟨I.ok.frames, I.ok.mod, I.bs, Nat.le_trans I.ok.bsz I.sz, I.stack, I.stkFree, I.hok, I.bare⟩
/-- behind a call -/
theorem Inv.after {Q : VK} {u : Value} (I : Inv X pins σ H s) (h : CE X.stack X.prog X.w H s Q u s') : EP X pins σ Q u s' := by
  obtain ⟨v, H', os, bare, un, hok, r, q⟩ := h
  obtain ⟨hh, g, d, t, os'⟩ := s'
  obtain rfl : os' = s.os := os
  exact ⟨v, H', I.call (h' := hh) (g' := g) (d' := d) (t' := t) (ch := []) un hok bare (fun b z => absurd z (by simp)), r, q⟩
end
/-! ### calls -/
/-- f(..): the written arguments, then the defaults dvs; E: what is wanted of an exception -/
def tCall (sp : Sp) (dvs : List V) (E : XK) (t : TA) : TE := fun σ H Q => t σ H fun vs H1 => sp (vs ++ dvs) H1 Q E
/-- o.m(..) of an instance of the class at C -/
def tMeth (C : Addr) (m : Str) (sp : Sp) (dvs : List V) (E : XK) (ta : TE) (t : TA) : TE := fun σ H Q => ta σ H fun x H1 => ∃ a dx fs, x = .ref a ∧ H1 a = some (.ins C dx fs) ∧ fs.lookup m = none ∧
  t σ H1 fun vs H2 => sp (x :: (vs ++ dvs)) H2 Q E
/-- C(..): a new instance and its dict, then __init__ -/
def tMake (C : Addr) (sp : Sp) (dvs : List V) (E : XK) (t : TA) : TE := fun σ H Q => t σ H fun vs H1 => ∀ x dx, H1 x = none → H1 dx = none → dx ≠ x →
  sp (.ref x :: (vs ++ dvs)) (upd (upd H1 dx (.own x)) x (.ins C dx [])) (fun v H2 => v = .non ∧ Q (.ref x) H2) E
/-- how the parameters are bound: us the positional arguments, kw the keywords' values by name, ds the defaults that fill up -/
def Binds (K : PySem.W.Frag) (fd : FuncData) (ps : List Str) (ds : List Value) : Prop :=
  ∀ (s : Shared) (us : List Value), K.In s.heap → (us ++ ds).length = ps.length → BindsTo s fd ⟨us, []⟩ (ps.zip (us ++ ds))
/-- every parameter is given -/
theorem Binds.all {K : PySem.W.Frag} {fd : FuncData} {ps : List Str} (h : ∀ us : List Value, us.length = ps.length → bindArgs fd ⟨us, []⟩ = pure (ps.zip us)) : Binds K fd ps [] := fun s us _ hl => by
  rw [List.append_nil] at hl ⊢
  exact .of_eq (h us hl)
/-- an exception of a callee reaches what this body wants of exceptions -/
def Passes (CX : CXT) (X : Cx) (E : XK) : Prop := ∀ (pins : List (Addr × Obj)) (σ : St) (H : Hp) (s : Shared) (e : Value) (s' : Shared), Inv X pins σ H s → CX X.stack H s E e s' → X.xe e s'
section
variable {X : Cx} {CX : CXT} {k : Nat} {f C : Addr} {fd : FuncData} {ps : List Str} {sp : Sp} {dvs : List V} {ds : List Value} {E : XK} {x m : Str} {p pos apos : Pos} {e o : Expr} {es : List Expr} {ta : TE} {t : TA}
/-- the callee runs -/
theorem run_fn {pins : List (Addr × Obj)} {σ : St} {H : Hp} {s : Shared} {Q : VK} {us : List Value} {vs : List V} (F : FnOk X.prog X.w X.K X.mg X.base CX k f fd ps sp) (hr : Room k X.A) (hb : Binds X.K fd ps ds) (hd : Vals dvs ds) (hx : Passes CX X E)
    (I : Inv X pins σ H s) (r : Vals vs us) (h : sp (vs ++ dvs) H Q E) : wpAny (model X.prog X.w) X.A (call (.ref f) us) (EP X pins σ Q) X.xe s := by
  have r2 : Vals (vs ++ dvs) (us ++ ds) := r.append hd
  have hl : (us ++ ds).length = ps.length := by rw [← r2.length]; exact F.len _ _ _ _ h
  refine wpAny_call (codeAny_mono (F.run X.A X.stack s H ⟨us, []⟩ (us ++ ds) (vs ++ dvs) Q E hr I.env0 (hb s us I.kIn hl) r2 h) fun r s' hq => ?_)
  cases r with
  | error e => exact hx pins σ H s e s' I hq
  | ok fl =>
    cases fl with
    | ret u => exact I.after hq
    | next => exact False.elim hq
    | brk => exact False.elim hq
    | cont => exact False.elim hq
theorem pe_call (F : FnOk X.prog X.w X.K X.mg X.base CX k f fd ps sp) (hr : Room k X.A) (hg : Gl X x) (hm : X.mg x = some (.ref f)) (hk : PySem.W.keepIn X.K (.ref f) = true) (hb : Binds X.K fd ps ds) (hd : Vals dvs ds) (hx : Passes CX X E)
    (ha : PA X (e :: es) t) (hdb : (x == ("__debug__" : Str)) = false := by decide) (he : starEach (e :: es) X.env = (false, eval e X.env) :: starEach es X.env := by rfl) (hpl : (backTo pos (starEach es X.env)).any (·.1) = false := by rfl) :
    PE X (.Call (.Name x p) (e :: es) [] pos) (tCall sp dvs E t) := by
  intro pins s σ H Q I h
  refine wpAny_Call_Name_kw (ld_glob I hg hm ?_ hdb)
  refine PySem.W.callWith_K (h₀ := X.base) I.ok.mod.kin hk (thn (ha pos pins s σ H _ I h) fun us s1 ⟨vs, H1, I1, r, q⟩ => ⟨I1.kIn, ?_⟩) he hpl
  exact run_fn F hr hb hd hx I1 r q
/-- o.m(e, ..) -/
theorem pe_meth {pl : Sem Bool} (he : PE X o ta) (c : Cls X.K C) (hm : Meth X.K C m f) (F : FnOk X.prog X.w X.K X.mg X.base CX k f fd ps sp) (hr : Room k X.A) (hb : Binds X.K fd ps ds) (hd : Vals dvs ds) (hx : Passes CX X E) (ha : PA X (e :: es) t)
    (hst : starEach (e :: es) X.env = (false, eval e X.env) :: starEach es X.env := by rfl) (hpl : (backTo pos (starEach es X.env)).any (·.1) = false := by rfl)
    (ht : eval (.Call (.Attribute o m apos) (e :: es) [] pos) X.env = (do
      let ov ← eval o X.env
      standAt apos.atName
      let (f, first) ← holding [ov] (getMethod ov m pl)
      callWith pos f first (backTo pos (starEach (e :: es) X.env)) (backToKw pos (keywordEach [] X.env))) := by rfl) :
    PE X (.Call (.Attribute o m apos) (e :: es) [] pos) (tMeth C m sp dvs E ta t) := by
  intro pins s σ H Q I h
  refine PySem.W.methodCall_KW (pl := pl) (thn (he pins s σ H _ I h) fun u s1 ⟨x, H1, I1, rx, a, dx, fs, ex, ea, l, q⟩ => ?_) ht
  subst ex
  obtain rfl : u = Value.ref a := rx
  refine getmeth_ok I1 ea c hm l ?_
  refine PySem.W.callWith_K (first := [.ref a]) (h₀ := X.base) I.ok.mod.kin hm.kp (thn (ha pos pins s1 σ H1 _ I1 q) fun us s2 ⟨vs, H2, I2, r, q2⟩ => ⟨I2.kIn, ?_⟩) hst hpl
  exact run_fn (us := .ref a :: us) (vs := .ref a :: vs) F hr hb hd hx I2 (.cons rfl r) q2
/-- o.m() -/
theorem pe_meth0 {pl : Sem Bool} (he : PE X o ta) (c : Cls X.K C) (hm : Meth X.K C m f) (F : FnOk X.prog X.w X.K X.mg X.base CX k f fd ps sp) (hr : Room k X.A) (hb : Binds X.K fd ps ds) (hd : Vals dvs ds) (hx : Passes CX X E)
    (ht : eval (.Call (.Attribute o m apos) [] [] pos) X.env = (do
      let ov ← eval o X.env
      standAt apos.atName
      let (f, first) ← holding [ov] (getMethod ov m pl)
      callWith pos f first (backTo pos (starEach [] X.env)) (backToKw pos (keywordEach [] X.env))) := by rfl) :
    PE X (.Call (.Attribute o m apos) [] [] pos) (tMeth C m sp dvs E ta tNil) := by
  intro pins s σ H Q I h
  refine PySem.W.methodCall_KW (pl := pl) (thn (he pins s σ H _ I h) fun u s1 ⟨x, H1, I1, rx, a, dx, fs, ex, ea, l, q⟩ => ?_) ht
  subst ex
  obtain rfl : u = Value.ref a := rx
  refine getmeth_ok I1 ea c hm l ?_
  exact PySem.W.callWith_K0 (first := [.ref a]) I1.kIn hm.kp (run_fn (us := [.ref a]) (vs := [.ref a]) F hr hb hd hx I1 (.cons rfl .nil) q)
/-- what a class must have to be made -/
structure Mk (K : PySem.W.Frag) (C f : Addr) : Prop where
  makes : PySem.W.makesIn K C = true
  init : PySem.W.findIn K (.ref C) "__init__" = some (some (.ref f))
  fn : PySem.W.isFn K (.ref f) = true
  kp : PySem.W.keepIn K (.ref C) = true
theorem run_make {pins : List (Addr × Obj)} {σ : St} {H : Hp} {s : Shared} {Q : VK} {us : List Value} {vs : List V} (M : Mk X.K C f) (F : FnOk X.prog X.w X.K X.mg X.base CX k f fd ps sp) (hr : Room (k + 1) X.A) (hb : Binds X.K fd ps ds) (hd : Vals dvs ds)
    (hx : Passes CX X E) (I : Inv X pins σ H s) (r : Vals vs us)
    (h : ∀ x dx, H x = none → H dx = none → dx ≠ x → sp (.ref x :: (vs ++ dvs)) (upd (upd H dx (.own x)) x (.ins C dx [])) (fun v H2 => v = .non ∧ Q (.ref x) H2) E) :
    wpAny (model X.prog X.w) X.A (call (.ref C) us) (EP X pins σ Q) X.xe s := by
  have hq := h (s.heap.objs.size + 1) s.heap.objs.size (I.hok.fresh (Nat.le_succ _)) (I.hok.fresh (Nat.le_refl _)) (Nat.ne_of_lt (Nat.lt_succ_self _))
  have I2 := Inv.made (C := C) I
  have r2 : Vals (V.ref (s.heap.objs.size + 1) :: (vs ++ dvs)) (Value.ref (s.heap.objs.size + 1) :: (us ++ ds)) := .cons rfl (r.append hd)
  have hl : (Value.ref (s.heap.objs.size + 1) :: us ++ ds).length = ps.length := by
    have e := r2.length
    rw [F.len _ _ _ _ hq] at e
    exact e.symm
  refine wpAny_call (make_map (f := f) I.kIn M.makes M.init (beq_iff_eq.mp M.fn) (codeAny_mono (F.run _ X.stack _ _ ⟨Value.ref (s.heap.objs.size + 1) :: us, []⟩ (Value.ref (s.heap.objs.size + 1) :: (us ++ ds)) _ _ E (hr.make C us [])
    (I2.env0.make C us []) (hb _ (Value.ref (s.heap.objs.size + 1) :: us) I2.kIn hl) r2 hq) fun r s' hq' => ?_))
  cases r with
  | error e => exact hx pins σ _ _ e s' I2 hq'
  | ok fl =>
    cases fl with
    | ret u =>
      obtain ⟨v, H', I3, rv, ev, q3⟩ := I2.after hq'
      subst ev
      exact ⟨rv, ⟨V.ref (s.heap.objs.size + 1), H', I3, rfl, q3⟩⟩
    | next => exact False.elim hq'
    | brk => exact False.elim hq'
    | cont => exact False.elim hq'
theorem pe_make (M : Mk X.K C f) (F : FnOk X.prog X.w X.K X.mg X.base CX k f fd ps sp) (hr : Room (k + 1) X.A) (hg : Gl X x) (hm : X.mg x = some (.ref C)) (hb : Binds X.K fd ps ds) (hd : Vals dvs ds) (hx : Passes CX X E)
    (ha : PA X (e :: es) t) (hdb : (x == ("__debug__" : Str)) = false := by decide) (he : starEach (e :: es) X.env = (false, eval e X.env) :: starEach es X.env := by rfl) (hpl : (backTo pos (starEach es X.env)).any (·.1) = false := by rfl) :
    PE X (.Call (.Name x p) (e :: es) [] pos) (tMake C sp dvs E t) := by
  intro pins s σ H Q I h
  refine wpAny_Call_Name_kw (ld_glob I hg hm ?_ hdb)
  refine PySem.W.callWith_K (h₀ := X.base) I.ok.mod.kin M.kp (thn (ha pos pins s σ H _ I h) fun us s1 ⟨vs, H1, I1, r, q⟩ => ⟨I1.kIn, ?_⟩) he hpl
  exact run_make M F hr hb hd hx I1 r q
theorem pe_make0 (M : Mk X.K C f) (F : FnOk X.prog X.w X.K X.mg X.base CX k f fd ps sp) (hr : Room (k + 1) X.A) (hg : Gl X x) (hm : X.mg x = some (.ref C)) (hb : Binds X.K fd ps ds) (hd : Vals dvs ds) (hx : Passes CX X E)
    (hdb : (x == ("__debug__" : Str)) = false := by decide) : PE X (.Call (.Name x p) [] [] pos) (tMake C sp dvs E tNil) := by
  intro pins s σ H Q I h
  refine wpAny_Call_Name_kw (ld_glob I hg hm ?_ hdb)
  exact PySem.W.callWith_K0 I.kIn M.kp (run_make (us := []) M F hr hb hd hx I .nil h)
end
/-! ### keywords -/
section
variable {X : Cx} {CX : CXT} {k : Nat} {f C : Addr} {fd : FuncData} {ps ks : List Str} {sp : Sp} {E : XK} {x m : Str} {p pos apos kpos : Pos} {e o : Expr} {es : List Expr} {kws : List Keyword} {te ta : TE} {t tk : TA} {nm : Option Str}
variable {g : List Value → List Value → List Value} {gV : List V → List V → List V}
end
/-! ### a def's body keeps its promise -/
/-- names: the parameters first -/
structure FnScope (N P : List Str) (sc : Scope) : Prop where
  kind : sc.kind = .function
  co : sc.isCoroutine = false
  gen : sc.isGenerator = false
  nd : N.Nodup
  pre : N.take P.length = P
  par : ∀ x ∈ P, sc.names.lookup x = some .local ∨ sc.names.lookup x = some .cell
  nofree : ∀ y ∈ sc.names, y.2 ≠ .free
theorem bindL_out {kindOf : Str → Option NameKind} {x : Str} : ∀ {binds : List (Str × Value)} {m : Str → Option Value}, (∀ v, (x, v) ∉ binds) → bindL kindOf binds m x = m x
  | [], _, _ => rfl
  | (n, v) :: r, m, h => by
    unfold bindL
    rw [bindL_out fun w hw => h w (List.mem_cons_of_mem _ hw)]
    split
    · have : x ≠ n := by rintro rfl; exact h v List.mem_cons_self
      simp [this]
    · rfl
theorem bindC_out {kindOf : Str → Option NameKind} {x : Str} : ∀ {binds : List (Str × Value)} {m : Str → Option Value}, (∀ v, (x, v) ∉ binds) → bindC kindOf binds m x = m x
  | [], _, _ => rfl
  | (n, v) :: r, m, h => by
    unfold bindC
    rw [bindC_out fun w hw => h w (List.mem_cons_of_mem _ hw)]
    split
    · rfl
    · have : x ≠ n := by rintro rfl; exact h v List.mem_cons_self
      simp [this]
theorem bindL_get {kindOf : Str → Option NameKind} {x : Str} {v : Value} : ∀ {P : List Str} {vs : List Value} {i : Nat} {m : Str → Option Value}, P.Nodup → P[i]? = some x → vs[i]? = some v → kindOf x = some .local →
    bindL kindOf (P.zip vs) m x = some v
  | [], _, _, _, _, h, _, _ => by simp at h
  | _ :: _, [], _, _, _, _, h, _ => by simp at h
  | p :: P, w :: vs, 0, m, nd, h1, h2, hk => by
    simp at h1 h2; subst h1; subst h2
    show bindL kindOf ((p, w) :: P.zip vs) m p = _
    unfold bindL
    rw [bindL_out fun v hv => (List.nodup_cons.mp nd).1 (List.of_mem_zip hv).1, if_pos hk]
    simp
  | p :: P, w :: vs, i + 1, m, nd, h1, h2, hk => by
    show bindL kindOf ((p, w) :: P.zip vs) m x = _
    unfold bindL
    exact bindL_get (i := i) (List.nodup_cons.mp nd).2 (by simpa using h1) (by simpa using h2) hk
theorem bindC_get {kindOf : Str → Option NameKind} {x : Str} {v : Value} : ∀ {P : List Str} {vs : List Value} {i : Nat} {m : Str → Option Value}, P.Nodup → P[i]? = some x → vs[i]? = some v → kindOf x ≠ some .local →
    bindC kindOf (P.zip vs) m x = some v
  | [], _, _, _, _, h, _, _ => by simp at h
  | _ :: _, [], _, _, _, _, h, _ => by simp at h
  | p :: P, w :: vs, 0, m, nd, h1, h2, hk => by
    simp at h1 h2; subst h1; subst h2
    show bindC kindOf ((p, w) :: P.zip vs) m p = _
    unfold bindC
    rw [bindC_out fun v hv => (List.nodup_cons.mp nd).1 (List.of_mem_zip hv).1, if_neg hk]
    simp
  | p :: P, w :: vs, i + 1, m, nd, h1, h2, hk => by
    show bindC kindOf ((p, w) :: P.zip vs) m x = _
    unfold bindC
    exact bindC_get (i := i) (List.nodup_cons.mp nd).2 (by simpa using h1) (by simpa using h2) hk
/-- the names' values at the entry -/
def start (N : List Str) (vs : List V) : St := vs.map some ++ List.replicate (N.length - vs.length) none
/-- the context of a def's body, at its entry; an exception leaves the frame, then lies as CX says -/
def cxOf (CX : CXT) (P : Program) (w : World) (K : PySem.W.Frag) (mg : Str → Option Value) (base : Heap) (N : List Str) (qual : Str) (scope : Scope) (f : Addr) (cd : Value) (A : Around) (outer : List Env) (s : Shared) (H : Hp) (E : XK) : Cx where
  prog := P
  w := w
  K := K
  mg := mg
  base := base
  A := A.deeper (envOfC qual scope s.heap.objs.size f cd)
  N := N
  s_0 := s
  H_0 := H
  env := envOfC qual scope s.heap.objs.size f cd
  outer := outer
  stack := envOfC qual scope s.heap.objs.size f cd :: outer
  ex := []
  calm := true
  fn := fun _ => true
  pn := []
  xe := fun e s' => wpAny (model P w) (A.deeper (envOfC qual scope s.heap.objs.size f cd)) (leaving (envOfC qual scope s.heap.objs.size f cd) e) (fun _ s'' => CX outer H s E e s'') (fun e' s'' => CX outer H s E e' s'') s'
theorem cell_has {sc : Scope} {n : Nat} {x : Str} (h : sc.names.lookup x = some .cell) : ∃ c, (cellsFrom n sc.names []).lookup x = some c := by
  have q := PySem.W.cellsFrom_some sc.names n [] (.inl h)
  exact Option.isSome_iff_exists.mp q
theorem inv_start {CX : CXT} {P : Program} {w : World} {K : PySem.W.Frag} {mg : Str → Option Value} {base : Heap} {N ps : List Str} {qual : Str} {scope : Scope} {f : Addr} {cd : Value} {A : Around} {outer : List Env} {s s1 : Shared} {H : Hp} {E : XK} {us : List Value} {vs : List V}
    (S : FnScope N ps scope) (hd : A.handled = none) (e0 : Env0 P w K mg base A outer s H) (hl : vs.length = ps.length) (r : Vals vs us)
    (x : InCallC s s.heap.objs.size (bindL (envOfC qual scope s.heap.objs.size f cd).kindOf (ps.zip us) fun _ => none) (cellsFrom (s.heap.objs.size + 1) scope.names []) (bindC (envOfC qual scope s.heap.objs.size f cd).kindOf (ps.zip us) fun _ => none) s1) :
    Inv (cxOf CX P w K mg base N qual scope f cd A outer s H E) [] (start N vs) H s1 := by
  have hpl : ps.length ≤ N.length := by have := congrArg List.length S.pre; rw [List.length_take] at this; omega
  obtain ⟨h1, tk, rfl, hk⟩ := x.done
  have noA : ∀ b : Addr, b ∉ (cxOf CX P w K mg base N qual scope f cd A outer s H E).ex := fun b z => absurd (show b ∈ ([] : List Addr) from z) (by simp)
  refine ⟨⟨e0.mod, S.kind, rfl, rfl, Nat.le_refl _, fun y z c h1 h2 => ?_, fun y hy => ?_, fun y c _ h => ?_, fun _ => hd, Around.frames_deeper e0.frames, .inr ⟨rfl, rfl⟩, fun b z => absurd z (noA b), e0.bs, e0.bsz, fun b _ _ => noA b, fun b z => absurd z (noA b), e0.funs, e0.frf⟩,
    rfl, e0.bare, Un.kept hk, ⟨_, x.toInCall.ns, fun i y v h1 h2 h3 => ?_⟩, fun y c h => ⟨_, x.cell y c h⟩, e0.hok.fresh (Nat.le_refl _), fun y c h => ?_, fun p hp => absurd (show p ∈ ([] : List (Addr × Obj)) from hp) (by simp), e0.hok.kept hk, ?_⟩
  · exact name_of_addr x.apart (PySem.mem_of_lookup h1) (PySem.mem_of_lookup h2)
  · have hy : scope.names.lookup y = some .cell ∨ scope.names.lookup y = some .free := hy
    rcases hy with hy | hy
    · exact cell_has hy
    · exact absurd rfl (S.nofree _ (PySem.mem_of_lookup hy))
  · exact Nat.le_of_lt (x.above y c (PySem.mem_of_lookup h))
  · have hi : i < vs.length := by
      unfold start at h2
      by_cases hi : i < vs.length
      · exact hi
      · rw [List.getElem?_append_right (by simpa using hi)] at h2
        rw [List.getElem?_replicate] at h2
        split at h2 <;> cases h2
    have ha : vs[i]? = some v := by
      unfold start at h2
      rw [List.getElem?_append_left (by simpa using hi), List.getElem?_map] at h2
      cases e : vs[i]? with
      | none => rw [e] at h2; cases h2
      | some a => rw [e] at h2; cases h2; rfl
    obtain ⟨u, hu, rv⟩ := r.get ha
    have hp : ps[i]? = some y := by
      rw [← S.pre, List.getElem?_take_of_lt (by omega)]; exact h1
    have ndP : ps.Nodup := by rw [← S.pre]; exact S.nd.sublist (List.take_sublist _ _)
    refine ⟨u, rv, ?_⟩
    rcases S.par y (List.mem_of_getElem? hp) with k | k
    · exact .inl ⟨k, bindL_get ndP hp hu k⟩
    · obtain ⟨c, e⟩ := cell_has (n := s.heap.objs.size + 1) k
      refine .inr ⟨.inl k, c, e, ?_⟩
      have q := x.cell y c e
      rw [bindC_get ndP hp hu (by show scope.names.lookup y ≠ _; rw [k]; decide)] at q
      exact q
  · exact e0.hok.fresh (Nat.le_of_lt (x.above y c (PySem.mem_of_lookup h)))
  · unfold start
    show _ = N.length
    rw [List.length_append, List.length_map, List.length_replicate]
    omega
/-- THE RULE: a def (or a method) of the text, by its body. The body's reading t is chosen for each entry; it is run at the parameters' values -/
theorem fn_of {CX : CXT} {P : Program} {w : World} {K : PySem.W.Frag} {mg : Str → Option Value} {base : Heap} {k : Nat} {f : Addr} {name qual : Str} {params : Arguments} {body : List Stmt} {scope : Scope} {dV kV doc pm cdv ct oc : Value} {an od : Option Addr}
    {osl : Array (Option Value)} {N ps : List Str} {sp : Sp} (lk : K.lookup f = some ⟨oc, od, .func (PySem.W.fnOf name qual params body scope dV kV doc pm an cdv ct), osl⟩) (hcd : PySem.W.codeIn K cdv qual = true) (S : FnScope N ps scope)
    (len : ∀ vs H Q E, sp vs H Q E → vs.length = ps.length)
    (hbody : ∀ (A : Around) (outer : List Env) (s : Shared) (H : Hp) (vs : List V) (Q : VK) (E : XK), Room k (A.deeper (envOfC qual scope s.heap.objs.size f cdv)) → sp vs H Q E →
      ∃ t, PSs (cxOf CX P w K mg base N qual scope f cdv A outer s H E) body t ∧ t { nx := fun _ H' => Q .non H', rt := Q } (start N vs) H) :
    FnOk P w K mg base CX (k + 1) f (PySem.W.fnOf name qual params body scope dV kV doc pm an cdv ct) ps sp := by
  refine ⟨len, fun A outer s H args us vs Q E hr e0 hb r hsp => ?_⟩
  have hl := len _ _ _ _ hsp
  have KX : K.In s.heap := e0.mod.kin.keeps fun b o e => (e0.bs b o e).1
  have lim : s.heap.NoLimit := e0.mod.nolimit.keeps fun b o e => (e0.bs b o e).1
  have hkind : ∀ y ∈ ps.zip us, scope.names.lookup y.1 = some .local ∨ (scope.names.lookup y.1 = some .cell ∧ ((cellsFrom (s.heap.objs.size + 1) scope.names []).lookup y.1).isSome = true) := fun ⟨n, v⟩ hy => by
    rcases S.par n (List.of_mem_zip hy).1 with q | q
    · exact .inl q
    · exact .inr ⟨q, PySem.W.cellsFrom_some _ _ _ (.inl q)⟩
  refine codeAny_call_function hr.depth (KX _ _ lk) rfl S.co S.gen rfl (PySem.W.codeRec_of KX hcd) (hb _ _ _ _ ?_)
  refine wpAny_newFunctionEnv_cells S.kind hkind fun env he s1 x => ?_
  subst he
  refine ⟨lim.keeps x.toInCall.keep, codeAny_func ?_⟩
  obtain ⟨t, ht, hq⟩ := hbody A outer s H vs Q E (hr.deeper _) hsp
  have I : Inv (cxOf CX P w K mg base N qual scope f cdv A outer s H E) [] (start N vs) H s1 := inv_start S hr.hd e0 hl r x
  refine wpAny_mono (ht [] s1 (start N vs) H _ I hq) (fun fl s' hs => ?_) fun e s' hs => hs
  have fin : ∀ {σ' : St} {H' : Hp} {v : V} {u : Value}, Inv (cxOf CX P w K mg base N qual scope f cdv A outer s H E) [] σ' H' s' → RelV v u → Q v H' → CE outer P w H s Q u s' :=
    fun {σ' H' v u} J rv q => ⟨v, H', J.os, J.bare, J.base, J.hok, rv, q⟩
  cases fl with
  | ret u =>
    obtain ⟨v, σ', H', J, rv, q⟩ := hs
    exact fin J rv q
  | next =>
    obtain ⟨σ', H', J, q⟩ := hs
    exact fin (v := V.non) (u := Value.none) J rfl q
  | brk =>
    obtain ⟨_, _, _, q⟩ := hs
    exact False.elim q
  | cont =>
    obtain ⟨_, _, _, q⟩ := hs
    exact False.elim q
end L2
namespace L2
open PySem PySem.Spec PyProof.Rows
section
variable {X : Cx} {x : Str} {p pos : Pos} {e : Expr} {es : List Expr} {t : TA} {id T : String} {r : List V → Hp → VK → Prop}
def tCB (r : List V → Hp → VK → Prop) (t : TA) : TE := fun σ H Q => t σ H fun vs H1 => r vs H1 Q
/-- f(e, ..), f a built-in function -/
theorem pe_callB (hc : CallR X (.builtin id) r) (hg : Gl X x) (hm : X.mg x = none) (hv : bootBuiltins x = some (.builtin id)) (ha : PA X (e :: es) t) (hn : x ≠ "__name__" := by decide) (hdb : (x == ("__debug__" : Str)) = false := by decide)
    (he : starEach (e :: es) X.env = (false, eval e X.env) :: starEach es X.env := by rfl) (hpl : (backTo pos (starEach es X.env)).any (·.1) = false := by rfl) : PE X (.Call (.Name x p) (e :: es) [] pos) (tCB r t) := by
  intro pins s σ H Q I h
  refine wpAny_Call_Name_kw (ld_blt I hg hm hv ?_ hn hdb)
  exact PyProof.Rows.callWith_builtin1 (thn (ha pos pins s σ H _ I h) fun us s1 ⟨vs, H1, I1, r1, q1⟩ => hc pins s1 σ H1 vs us Q I1 r1 q1) he hpl
end
end L2
namespace HT
open PySem PyProof.Rows
section
open PySem.SeqAt
open PySem.AutoSeq1 (wpAny_loadPart')
open PySem.MeetsSeq PySem.MeetsSeq2 PySem.MeetsSeq3
end
section
variable {prog : Program} {w : World} {A : Around} {E : Value → Shared → Prop} {s : Shared}
/-! ### t[a:b], not the whole -/
/-- a slice's bound as a place among n (d where it is left out) -/
def sIx (n d : Nat) : Option Int → Nat
  | none => d
  | some v => if v < 0 then (v + (n : Int)).toNat else min v.toNat n
theorem sIx_none (n d : Nat) : sIx n d none = d := rfl
theorem sIx_nat (n d k : Nat) : sIx n d (some (k : Int)) = min k n := by
  show (if (k : Int) < 0 then ((k : Int) + (n : Int)).toNat else min (k : Int).toNat n) = min k n
  rw [if_neg (by omega), Int.toNat_natCast]
end
end HT
namespace L2
open PySem PySem.Spec PyProof.Rows
/-! ### the parts of a slice -/
abbrev TO := St → Hp → (Option Int → Hp → Prop) → Prop
/-- a slice's part (left out, or an int) -/
def PO (X : Cx) (e : Option Expr) (t : TO) : Prop :=
  ∀ (pins : List (Addr × Obj)) (s : Shared) (σ : St) (H : Hp) (Q : Option Int → Hp → Prop), Inv X pins σ H s → t σ H Q →
    wpAny (model X.prog X.w) X.A (evalPart e X.env) (fun u s' => ∃ o H', Inv X pins σ H' s' ∧ IsPart u o ∧ Q o H') X.xe s
def tNoPart : TO := fun _ H Q => Q none H
def tPart (t : TE) : TO := fun σ H Q => t σ H fun x H1 => ∃ i, x = .int i ∧ Q (some i) H1
section
variable {X : Cx} {e : Expr} {te : TE} {lo hi : Option Expr} {tl th : TO} {pos p2 : Pos}
theorem po_none : PO X none tNoPart := by
  intro pins s σ H Q I h
  rw [evalPart_none]
  exact wpAny_pure ⟨none, H, I, .none, h⟩
theorem po_some (h : PE X e te) : PO X (some e) (tPart te) := by
  intro pins s σ H Q I hw
  rw [evalPart_some]
  refine thn (h pins s σ H _ I hw) fun u s1 ⟨x, H1, I1, r1, q1⟩ => ?_
  obtain ⟨i, rfl, q⟩ := q1
  obtain ⟨t, rfl⟩ := r1
  exact ⟨some i, H1, I1, .int i t, q⟩
/-- what a slice of a value is, by values: the slice object stands at sl -/
def SlR (X : Cx) (r : V → Option Int → Option Int → Hp → VK → Prop) : Prop :=
  ∀ (pins : List (Addr × Obj)) (s : Shared) (σ : St) (H : Hp) (x : V) (v vl vu : Value) (lo hi : Option Int) (sl : Addr) (Q : VK), Inv X pins σ H s → RelV x v → s.heap.IsSliceOf sl vl vu .none → IsPart vl lo → IsPart vu hi → r x lo hi H Q →
    ∃ T id, typeLookup (.type T) "__getitem__" = pure (some (.builtin id)) ∧ s.TypeIs v T ∧ wpAny (model X.prog X.w) X.A (getItem v (.ref sl)) (EP X pins σ Q) X.xe s
def tSl (r : V → Option Int → Option Int → Hp → VK → Prop) (te : TE) (tl th : TO) : TE := fun σ H Q => te σ H fun x H1 => tl σ H1 fun l H2 => th σ H2 fun u H3 => r x l u H3 Q
/-- a[lo:hi], any a -/
theorem pe_slice {r : V → Option Int → Option Int → Hp → VK → Prop} (hr : SlR X r) (he : PE X e te) (hl : PO X lo tl) (hu : PO X hi th) : PE X (.Subscript e (.Slice lo hi none p2) pos) (tSl r te tl th) := by
  intro pins s σ H Q I h
  refine Subscript_ (thn (he pins s σ H _ I h) fun v s1 ⟨x, H1, I1, r1, q1⟩ => ?_)
  refine wpAny_Slice (thn (hl pins s1 σ H1 _ I1 q1) fun vl s2 ⟨l, H2, I2, pl, q2⟩ => thn (hu pins s2 σ H2 _ I2 q2) fun vu s3 ⟨u, H3, I3, pu, q3⟩ => ?_)
  rw [evalPart_none]
  refine wpAny_pure ?_
  have I4 : Inv X pins σ H3 { s3 with heap := s3.heap.push { cls := .type "slice", data := .fields #[vl, vu, .none] } } := I3.kept (t' := s3.toks) fun b ob q => Heap.get?_push_of_some _ q
  obtain ⟨T, id, hT, ht, hg⟩ := hr pins { s3 with heap := s3.heap.push { cls := .type "slice", data := .fields #[vl, vu, .none] } } σ H3 x v vl vu l u s3.heap.objs.size Q I4 r1 (Heap.IsSliceOf.new ..) pl pu q3
  show wpAny (model X.prog X.w) X.A (subscriptTail e (.Slice lo hi none p2) v (.ref s3.heap.objs.size)) (EP X pins σ Q) X.xe { s3 with heap := s3.heap.push { cls := .type "slice", data := .fields #[vl, vu, .none] } }
  exact tail_any (ops := [.ref s3.heap.objs.size, v]) ht hT hg (by with_unfolding_all rfl)
/-- the items of xs[lo:hi] -/
def cutV (xs : List V) (lo hi : Option Int) : List V := (xs.drop (HT.sIx xs.length 0 lo)).take (HT.sIx xs.length xs.length hi - HT.sIx xs.length 0 lo)
theorem cutV_length (xs : List V) (lo hi : Option Int) : (cutV xs lo hi).length ≤ xs.length := by
  unfold cutV
  rw [List.length_take, List.length_drop]
  omega
/-! ### t < u, t + u -/
end
end L2
namespace L2
open PySem PySem.Spec PyProof.Rows
/-! ### places -/
/-- the place that an index of any sign means -/
def ixN (n : Nat) (i : Int) : Option Nat := if 0 ≤ i then (if i < n then some i.toNat else none) else if -(n : Int) ≤ i then some (i + n).toNat else none
def atI {α : Type} (xs : List α) (i : Int) : Option α := (ixN xs.length i).bind fun j => xs[j]?
theorem ixN_seq {n : Nat} {i : Int} {j : Nat} (h : ixN n i = some j) : seqIndex? i n = some j ∧ j < n ∧ -(n : Int) ≤ i ∧ i < n := by
  unfold ixN at h
  by_cases h0 : 0 ≤ i
  · rw [if_pos h0] at h
    by_cases h1 : i < n
    · rw [if_pos h1] at h
      have e : i.toNat = j := Option.some.inj h
      exact ⟨by rw [seqIndex_of h0 h1, e], by omega, by omega, h1⟩
    · rw [if_neg h1] at h; cases h
  · rw [if_neg h0] at h
    by_cases h1 : -(n : Int) ≤ i
    · rw [if_pos h1] at h
      have e : (i + n).toNat = j := Option.some.inj h
      exact ⟨by rw [seqIndex_neg (by omega) h1, e], by omega, h1, by omega⟩
    · rw [if_neg h1] at h; cases h
theorem atI_get {α : Type} {xs : List α} {i : Int} {v : α} (h : atI xs i = some v) : ∃ j, seqIndex? i xs.length = some j ∧ xs[j]? = some v ∧ j < xs.length ∧ -(xs.length : Int) ≤ i ∧ i < xs.length := by
  unfold atI at h
  cases e : ixN xs.length i with
  | none => rw [e] at h; cases h
  | some j =>
    rw [e] at h
    obtain ⟨h1, h2, h3, h4⟩ := ixN_seq e
    exact ⟨j, h1, h, h2, h3, h4⟩
theorem atI_nat {α : Type} {xs : List α} {j : Nat} {v : α} (h : xs[j]? = some v) : atI xs (j : Int) = some v := by
  have hj : j < xs.length := (List.getElem?_eq_some_iff.mp h).1
  have e : ixN xs.length (j : Int) = some j := by
    unfold ixN
    rw [if_pos (by omega), if_pos (by omega)]; simp
  unfold atI; rw [e]; exact h
/-! ### what may be subscripted -/
/-- what stands as an index of a plain subscript -/
def PlainIx (b : Expr) : Prop := ∀ o i, subscripted b false o i = operate [o, i] (getItem o i)
/-- a subscript by values -/
def IxR (X : Cx) (r : R2) : Prop :=
  ∀ (value slice : Expr) (pins : List (Addr × Obj)) (s : Shared) (σ : St) (H : Hp) (x y : V) (v u : Value) (Q : VK), Inv X pins σ H s → RelV x v → RelV y u → r x y H Q →
    subscripted slice false v u = operate [v, u] (getItem v u) → wpAny (model X.prog X.w) X.A (subscriptTail value slice v u) (EP X pins σ Q) X.xe s
/-- a call of a builtin's method by values: the receiver, the arguments -/
def MtR (X : Cx) (id : String) (r : V → List V → Hp → VK → Prop) : Prop :=
  ∀ (pins : List (Addr × Obj)) (s : Shared) (σ : St) (H : Hp) (x : V) (xs : List V) (v : Value) (us : List Value) (Q : VK), Inv X pins σ H s → RelV x v → Vals xs us → r x xs H Q →
    wpAny (model X.prog X.w) X.A (call (.builtin id) (v :: us)) (EP X pins σ Q) X.xe s
section
variable {X : Cx} {a b : Expr} {ta tb : TE} {pos : Pos}
/-- a[b] -/
theorem pe_ix {r : R2} (hr : IxR X r) (ha : PE X a ta) (hb : PE X b tb) (hs : PlainIx b) : PE X (.Subscript a b pos) (tOp r ta tb) := by
  intro pins s σ H Q I h
  exact Subscript_ (binT ha hb I h fun v u s2 x y H2 I2 rx ry q => hr a b pins s2 σ H2 x y v u Q I2 rx ry q (hs _ _))
def rIxL (K : PySem.W.Frag) : R2 := fun x y H Q => ∃ p xs i v, x = .ref p ∧ y = .int i ∧ SqL K H p xs ∧ atI xs i = some v ∧ Q v H
def rIxT (K : PySem.W.Frag) : R2 := fun x y H Q => ∃ p xs i v, x = .ref p ∧ y = .int i ∧ SqT K H p xs ∧ atI xs i = some v ∧ Q v H
theorem ix_list : IxR X (rIxL X.K) := by
  intro value slice pins s σ H x y v u Q I rx ry h hs
  obtain ⟨p, xs, i, z, rfl, rfl, hq, he, q⟩ := h
  cases rx
  obtain ⟨t, rfl⟩ := ry
  obtain ⟨its, r, pl, hz⟩ := I.list hq
  obtain ⟨j, h1, h2, h3, h4, h5⟩ := atI_get he
  obtain ⟨w, ew, rw'⟩ := r.get h2
  have hl := r.length
  have hn := line63
  have fin : EP X pins σ Q w s := ⟨z, H, I, rw', q⟩
  by_cases h0 : 0 ≤ i
  · have hj : i.toNat = j := by
      rw [seqIndex_of h0 h5] at h1
      exact Option.some.inj h1
    exact item_listR pl.isList h0 (by omega) (by rw [hj]; simpa using ew) fin hs
  · have hj : (i + (its.toArray.size : Int)).toNat = j := by
      rw [seqIndex_neg (by omega) h4] at h1
      rw [List.size_toArray, ← hl]
      exact Option.some.inj h1
    exact subscriptTail_builtinR (x := w) pl.isList.typeIs slot_list_getitem.lookup
      (wpAny_getItem_list_neg (Q := fun r s' => r = w ∧ EP X pins σ Q r s') pl.isList (by omega) (by rw [List.size_toArray] <;> omega) (by omega) (by rw [hj]; simpa using ew) ⟨rfl, fin⟩) hs
theorem ix_tup : IxR X (rIxT X.K) := by
  intro value slice pins s σ H x y v u Q I rx ry h hs
  obtain ⟨p, xs, i, z, rfl, rfl, hq, he, q⟩ := h
  cases rx
  obtain ⟨t, rfl⟩ := ry
  obtain ⟨its, r, pl, hz⟩ := I.tuple hq
  obtain ⟨j, h1, h2, h3, h4, h5⟩ := atI_get he
  obtain ⟨w, ew, rw'⟩ := r.get h2
  have hl := r.length
  have hn := line63
  have fin : EP X pins σ Q w s := ⟨z, H, I, rw', q⟩
  exact subscriptTail_builtinR (x := w) pl.typeIs slot_tuple_getitem.lookup
    (getItem_tuple (j := j) (Q := fun r s' => r = w ∧ EP X pins σ Q r s') pl (by omega) (by omega) (by rw [List.size_toArray, ← hl]; exact h1) (by simpa using ew) ⟨rfl, fin⟩) hs
/-! ### xs[i] = v, any sign -/
/-! ### slices -/
theorem slice_bounds (lo hi : Option Int) (n : Nat) : (sliceBounds lo hi none n).1 = ((HT.sIx n 0 lo : Nat) : Int) ∧ (sliceBounds lo hi none n).2.1 = ((HT.sIx n n hi : Nat) : Int) ∧ (sliceBounds lo hi none n).2.2 = 1 := by
  refine ⟨?_, ?_, rfl⟩
  · cases lo with
    | none => simp [sliceBounds, HT.sIx]
    | some i =>
      simp only [sliceBounds, HT.sIx, Option.getD_none, show (1 : Int) > 0 by decide, if_true]
      by_cases h : i < 0
      · simp only [h, if_true] <;> omega
      · simp only [h, if_false] <;> omega
  · cases hi with
    | none => simp [sliceBounds, HT.sIx]
    | some i =>
      simp only [sliceBounds, HT.sIx, Option.getD_none, show (1 : Int) > 0 by decide, if_true]
      by_cases h : i < 0
      · simp only [h, if_true] <;> omega
      · simp only [h, if_false] <;> omega
theorem slicePick_cut (its : List Value) (lo hi : Option Int) : slicePick its.toArray lo hi none = ((its.drop (HT.sIx its.length 0 lo)).take (HT.sIx its.length its.length hi - HT.sIx its.length 0 lo)).toArray := by
  obtain ⟨h1, h2, h3⟩ := slice_bounds lo hi its.toArray.size
  unfold slicePick
  rw [h1, h2, h3]
  simp only [sliceRange_one, pick_run, List.size_toArray] <;> rfl
/-- xs[lo:hi] of a list: a new list -/
def rSlL (K : PySem.W.Frag) : V → Option Int → Option Int → Hp → VK → Prop := fun x lo hi H Q => ∃ a xs, x = .ref a ∧ SqL K H a xs ∧ ∀ p, H p = none → Q (.ref p) (upd H p (.lst (cutV xs lo hi)))
theorem sl_list : SlR X (rSlL X.K) := by
  intro pins s σ H x v vl vu lo hi sl Q I rx hs pl pu h
  obtain ⟨a, xs, rfl, hx, q⟩ := h
  cases rx
  obtain ⟨its, r, ht, hz⟩ := I.list hx
  have hlen := r.length
  refine ⟨"list", _, slot_list_getitem.lookup, ht.isList.typeIs, ?_⟩
  refine wpAny_getItem_list_slice ht.isList hs pl pu .none (by simp) ?_ (by rw [List.size_toArray] <;> omega)
  rw [slicePick_cut, ← hlen]
  refine ⟨.ref s.heap.objs.size, _, I.laid (t' := s.toks) (o := .lst (cutV xs lo hi)) (fun b ob q => Heap.get?_push_of_some _ q) (Nat.le_refl _) ?_, rfl, q _ (I.hok.fresh (Nat.le_refl _))⟩
  exact ⟨Nat.le_trans (cutV_length xs lo hi) hz, _, 0, (r.drop (HT.sIx xs.length 0 lo)).take (HT.sIx xs.length xs.length hi - HT.sIx xs.length 0 lo), Heap.get?_push_size _ rfl⟩
/-! ### in, not in: flat items -/
def flatV : V → Bool
  | .non => true
  | .bl _ => true
  | .int _ => true
  | .str _ => true
  | _ => false
/-- == of flat values -/
def eqV : V → V → Bool
  | .non, .non => true
  | .bl a, .bl b => a == b
  | .bl a, .int b => (if a then 1 else 0) == b
  | .int a, .bl b => a == (if b then 1 else 0)
  | .int a, .int b => a == b
  | .str a, .str b => a == b
  | _, _ => false
theorem eqAt_V {A : Around} {s : Shared} {y x : V} {u v : Value} (ry : RelV y u) (rx : RelV x v) (fy : flatV y = true) (fx : flatV x = true) : SeqAt.EqAt A s u v (eqV y x) := by
  cases y with
  | non =>
    cases ry
    cases x with
    | non => cases rx; exact SeqAt.EqAt.same _
    | bl b => cases rx; exact SeqAt.EqAt.none_bool b
    | int b => obtain ⟨t, rfl⟩ := rx; exact SeqAt.EqAt.none_int b t
    | str b => obtain ⟨t, rfl⟩ := rx; exact SeqAt.EqAt.none_str b t
    | _ => exact absurd (show false = true from fx) Bool.false_ne_true
  | bl a =>
    cases ry
    cases x with
    | non => cases rx; exact SeqAt.EqAt.bool_none a
    | bl b => cases rx; exact SeqAt.EqAt.bool_bool a b
    | int b => obtain ⟨t, rfl⟩ := rx; exact SeqAt.EqAt.bool_int a b t
    | str b => obtain ⟨t, rfl⟩ := rx; exact SeqAt.EqAt.bool_str a b t
    | _ => exact absurd (show false = true from fx) Bool.false_ne_true
  | int a =>
    obtain ⟨t', rfl⟩ := ry
    cases x with
    | non => cases rx; exact SeqAt.EqAt.int_none a t'
    | bl b => cases rx; exact SeqAt.EqAt.int_bool a t' b
    | int b => obtain ⟨t, rfl⟩ := rx; exact SeqAt.EqAt.int_int a t' b t
    | str b => obtain ⟨t, rfl⟩ := rx; exact SeqAt.EqAt.int_str a t' b t
    | _ => exact absurd (show false = true from fx) Bool.false_ne_true
  | str a =>
    obtain ⟨t', rfl⟩ := ry
    cases x with
    | non => cases rx; exact SeqAt.EqAt.str_none a t'
    | bl b => cases rx; exact SeqAt.EqAt.str_bool a t' b
    | int b => obtain ⟨t, rfl⟩ := rx; exact SeqAt.EqAt.str_int a t' b t
    | str b => obtain ⟨t, rfl⟩ := rx; exact SeqAt.EqAt.str_str a t' b t
    | _ => exact absurd (show false = true from fx) Bool.false_ne_true
  | _ => exact absurd (show false = true from fy) Bool.false_ne_true
/-- the items' answers, read off the values (a value's own answer does not lean on its token) -/
def eqU (x : V) (u : Value) : Bool := match u with
  | .none => eqV .non x
  | .bool b => eqV (.bl b) x
  | .int i _ => eqV (.int i) x
  | .str z _ => eqV (.str z) x
  | _ => false
theorem eqU_of {x y : V} {u : Value} (r : RelV y u) (f : flatV y = true) : eqU x u = eqV y x := by
  cases y with
  | non => cases r; rfl
  | bl b => cases r; rfl
  | int i => obtain ⟨t, rfl⟩ := r; rfl
  | str z => obtain ⟨t, rfl⟩ := r; rfl
  | _ => exact absurd (show false = true from f) Bool.false_ne_true
theorem any_eqU {x : V} : ∀ {xs : List V} {us : List Value}, Vals xs us → xs.all flatV = true → us.any (eqU x) = xs.any fun y => eqV y x
  | _, _, .nil, _ => rfl
  | y :: xs, u :: us, .cons r t, f => by
    rw [List.all_cons, Bool.and_eq_true] at f
    rw [List.any_cons, List.any_cons, eqU_of r f.1, any_eqU t f.2]
theorem mem_eqAt {A : Around} {s : Shared} {x : V} {v : Value} (rx : RelV x v) (fx : flatV x = true) : ∀ {xs : List V} {us : List Value}, Vals xs us → xs.all flatV = true → ∀ u ∈ us, SeqAt.EqAt A s u v (eqU x u)
  | _, _, .nil, _ => fun u hu => by cases hu
  | y :: xs, u :: us, .cons r t, f => fun u' hu => by
    rw [List.all_cons, Bool.and_eq_true] at f
    rcases List.mem_cons.mp hu with rfl | hu
    · rw [eqU_of r f.1]; exact eqAt_V r rx f.1 fx
    · exact mem_eqAt rx fx t f.2 u' hu
def inV (x : V) (xs : List V) : Bool := xs.any fun y => eqV y x
/-- x in a list or tuple of flat items -/
def rIn (K : PySem.W.Frag) (neg : Bool) : R2 := fun x y H Q => ∃ p xs, y = .ref p ∧ (SqL K H p xs ∨ SqT K H p xs) ∧ flatV x = true ∧ xs.all flatV = true ∧ Q (.bl (if neg then !inV x xs else inV x xs)) H
theorem op_in_seq : OpR X (compareOp .In) (rIn X.K false) := by
  intro pins s σ H x y v u Q I rx ry h
  obtain ⟨p, xs, rfl, hq, fx, fs, q⟩ := h
  cases ry
  rcases hq with hq | hq
  · obtain ⟨its, r, pl, hz⟩ := I.list hq
    refine SeqAt.in_listAt (eqU x) pl.isList (fun w hw => mem_eqAt rx fx r fs w (by simpa using hw)) ⟨.bl _, H, I, rfl, ?_⟩
    rw [show its.toArray.any (eqU x) = its.any (eqU x) by simp, any_eqU r fs]
    exact q
  · obtain ⟨its, r, pl, hz⟩ := I.tuple hq
    refine SeqAt.in_tupleAt (eqU x) pl (fun w hw => mem_eqAt rx fx r fs w (by simpa using hw)) ⟨.bl _, H, I, rfl, ?_⟩
    rw [show its.toArray.any (eqU x) = its.any (eqU x) by simp, any_eqU r fs]
    exact q
/-! ### len, list(x), tuple(x) of any list or tuple that is read -/
theorem call_len_seq : CallR X (.builtin "len") (fun xs H Q => ∃ p ys, xs = [.ref p] ∧ (SqL X.K H p ys ∨ SqT X.K H p ys) ∧ Q (.int ys.length) H) := by
  intro pins s σ H xs us Q I r h
  obtain ⟨p, ys, rfl, hq, q⟩ := h
  obtain ⟨u, rfl, rx⟩ := vals1 r
  cases rx
  have hn := line63
  rcases hq with hq | hq
  · obtain ⟨its, r', pl, hz⟩ := I.list hq
    have hlen := r'.length
    exact Calls.call_len_list pl.isList (by simp only [List.size_toArray] <;> omega) ⟨.int ys.length, H, I.tok _, ⟨s.toks + 1, by rw [List.size_toArray, hlen]⟩, q⟩
  · obtain ⟨its, r', pl, hz⟩ := I.tuple hq
    have hlen := r'.length
    exact len_tuple pl (by simp only [List.size_toArray] <;> omega) ⟨.int ys.length, H, I.tok _, ⟨s.toks + 1, by rw [List.size_toArray, hlen]⟩, q⟩
/-! ### the call of a builtin's method: o.m(..) -/
/-- the value is of that builtin type -/
def tyV (K : PySem.W.Frag) (T : String) (x : V) (H : Hp) : Prop := match x with
  | .str _ => T = "str"
  | .int _ => T = "int"
  | .ref p => (T = "list" ∧ ∃ xs, SqL K H p xs) ∨ (T = "tuple" ∧ ∃ o, K.lookup p = some o ∧ o.cls = .type "tuple" ∧ o.dict = none) ∨
      (T = "dict" ∧ ((∃ kvs, H p = some (.dK kvs)) ∨ ∃ kvs, H p = some (.dT kvs))) ∨ (T = "set" ∧ ∃ S n, H p = some (.set S n))
  | _ => False
theorem tyV_is {pins : List (Addr × Obj)} {σ : St} {H : Hp} {s : Shared} {T : String} {x : V} {v : Value} (I : Inv X pins σ H s) (r : RelV x v) (ty : tyV X.K T x H) :
    s.TypeIs v T ∧ ∀ a, v = .ref a → ∃ ob, s.heap.get? a = some ob ∧ ob.dict = none := by
  cases x with
  | str z =>
    obtain ⟨t, rfl⟩ := r
    cases (show T = "str" from ty)
    exact ⟨typeIs_str s z t, fun _ e => nomatch e⟩
  | int i =>
    obtain ⟨t, rfl⟩ := r
    cases (show T = "int" from ty)
    exact ⟨typeIs_int s i t, fun _ e => nomatch e⟩
  | ref p =>
    cases r
    rcases ty with ⟨rfl, xs, hq⟩ | ⟨rfl, o, hk, hc, hd⟩ | ⟨rfl, hk⟩ | ⟨rfl, S, n, hk⟩
    · obtain ⟨its, _, pl, _⟩ := I.list hq
      refine ⟨pl.isList.typeIs, fun a e => ?_⟩
      cases e
      obtain ⟨o, n, e, c, hd, _⟩ := pl
      exact ⟨o, e, hd⟩
    · refine ⟨⟨o, I.kIn p o hk, hc⟩, fun a e => ?_⟩
      cases e
      exact ⟨o, I.kIn _ o hk, hd⟩
    · have z : ∃ o, s.heap.get? p = some o ∧ o.ExactDict := by
        rcases hk with ⟨kvs, hk⟩ | ⟨kvs, hk⟩
        · obtain ⟨_, _, _, _, o, _, _, e, ex, _⟩ := I.hok p _ hk
          exact ⟨o, e, ex⟩
        · obtain ⟨_, _, _, _, o, _, _, e, ex, _⟩ := I.hok p _ hk
          exact ⟨o, e, ex⟩
      obtain ⟨o, e, ex⟩ := z
      refine ⟨⟨o, e, ex.1⟩, fun a e2 => ?_⟩
      cases e2
      exact ⟨o, e, ex.2.1⟩
    · obtain ⟨o, _, _, _, e, ex, _⟩ := I.hok p _ hk
      refine ⟨⟨o, e, ex.1⟩, fun a e2 => ?_⟩
      cases e2
      exact ⟨o, e, ex.2.1⟩
  | _ => exact False.elim ty
def tBM (K : PySem.W.Frag) (T : String) (r : V → List V → Hp → VK → Prop) (to : TE) (t : TA) : TE := fun σ H Q => to σ H fun x H1 => tyV K T x H1 ∧ t σ H1 fun xs H2 => r x xs H2 Q
variable {o e : Expr} {es : List Expr} {to : TE} {t : TA} {name : Str} {apos cpos : Pos} {T id : String} {r : V → List V → Hp → VK → Prop}
theorem pe_bm (pa : PlainAttrs T) (slot : Slot T name id) (hty : typeOf (.builtin id) = pure (.type "method_descriptor")) (hm : MtR X id r) (ho : PE X o to) (ha : PA X (e :: es) t)
    (hbase : attributeBase o name X.env (eval o X.env) = eval o X.env := by rfl)
    (hfew : ((backTo cpos (starEach (e :: es) X.env)).all (fun x => !x.1) && (backToKw cpos (keywordEach [] X.env)).all (fun x => x.1.isSome)
      && decide ((e :: es).length + ([] : List Keyword).length + (if ([] : List Keyword).isEmpty then 0 else 1) < 30)) = true := by rfl)
    (hline : (apos.endLine == cpos.line) = true := by rfl) (hs : starEach (e :: es) X.env = (false, eval e X.env) :: starEach es X.env := by rfl) (hplain : (backTo cpos (starEach es X.env)).any (·.1) = false := by rfl) :
    PE X (.Call (.Attribute o name apos) (e :: es) [] cpos) (tBM X.K T r to t) := by
  intro pins s σ H Q I h
  refine wpAny_Call_method_late hbase hfew hline rfl (thn (ho pins s σ H _ I h) fun v s1 ⟨x, H1, I1, r1, ty, q1⟩ => ?_)
  obtain ⟨h1, h2⟩ := tyV_is I1 r1 ty
  refine ⟨T, id, pa, slot, hty, h1, h2, ?_⟩
  have hA := ha cpos pins s1 σ H1 _ I1 q1
  rw [hs] at hA ⊢
  refine Calls.callWith_builtin (by show (false || (backTo cpos (starEach es X.env)).any (·.1)) = false; rw [hplain] <;> rfl) (Calls.evalArgs_plain ?_)
  exact thn hA fun us s2 ⟨vs, H2, I2, r2, q2⟩ => hm pins s2 σ H2 x vs v us Q I2 r1 r2 q2
/- xs.append(e), list.index on a module's tuple .. are MtR facts of 06m -/
end
end L2
namespace L2
open PySem PySem.Spec PyProof.Rows
def MtM (X : Cx) (id : String) (r : V → List V → Hp → VK → Prop) : Prop :=
  ∀ (pins : List (Addr × Obj)) (s : Shared) (σ : St) (H : Hp) (x : V) (xs : List V) (v : Value) (us : List Value) (Q : VK), Inv X pins σ H s → RelV x v → Vals xs us → r x xs H Q →
    wpAny (model X.prog X.w) X.A (call (.builtin id) (v :: us)) (EP X pins σ Q) X.xe s
/-! ### lists of values -/
theorem Vals.one : ∀ {x : V} {us : List Value}, Vals [x] us → ∃ u, us = [u] ∧ RelV x u
  | _, _, .cons r .nil => ⟨_, rfl, r⟩
section
variable {X : Cx} {pins : List (Addr × Obj)} {σ : St} {H : Hp} {s : Shared} {l b : Addr} {xs ys zs : List V}
/-! ### the two steps: a tracked list is rewritten, a new list is laid -/
theorem Inv.lset {its its' : List Value} {n : Nat} {f : Array Value → Array Value} {t' : Nat} (I : Inv X pins σ H s) (hH : H l = some (.lst xs))
    (e : s.heap.get? l = some { cls := .type "list", data := .seq its.toArray n }) (hf : f its.toArray = its'.toArray) (hv : Vals ys its') (hz : ys.length ≤ sizeLine) :
    Inv X pins σ (upd H l (.lst ys)) { s with heap := s.heap.update l (Obj.mapSeq f), toks := t' } := by
  have q := PySem.IsL.update e f
  rw [hf] at q
  refine I.write (x := l) (e := l) (by rw [hH]; exact trivial) (.inl rfl) (fun b' u hb hu => (Heap.get?_update_other s.heap (Obj.mapSeq f) (Ne.symm hb)).trans hu) ⟨_, q⟩ ?_
  exact ⟨hz, its', _, hv, q⟩
theorem Inv.lnew {its : List Value} {t' : Nat} (I : Inv X pins σ H s) (hv : Vals ys its) (hz : ys.length ≤ sizeLine) :
    Inv X pins σ (upd H s.heap.objs.size (.lst ys)) { s with heap := s.heap.push { cls := .type "list", data := .seq its.toArray }, toks := t' } :=
  I.laid (fun _ _ q => Heap.get?_push_of_some _ q) (Nat.le_refl _) ⟨hz, its, 0, hv, Heap.get?_push_size _ rfl⟩
theorem Inv.fresh (I : Inv X pins σ H s) : H s.heap.objs.size = none := I.hok.fresh (Nat.le_refl _)
theorem Inv.lstM (I : Inv X pins σ H s) (hH : H l = some (.lst xs)) : xs.length ≤ sizeLine ∧ ∃ (its : List Value) (n : Nat), Vals xs its ∧ xs.length = its.length ∧ s.heap.get? l = some { cls := .type "list", data := .seq its.toArray n } := by
  obtain ⟨z, its, n, r, e⟩ := I.hok l _ hH
  exact ⟨z, its, n, r, r.length, e⟩
theorem notLongL {n : Nat} (h : n ≤ sizeLine) : Builtin.List.listTooLong n = false := by
  unfold Builtin.List.listTooLong
  exact decide_eq_false (by omega)
end
section
variable {X : Cx}
/-! ### methods -/
def rAppend : V → List V → Hp → VK → Prop := fun x vs H Q => ∃ l xs y, x = .ref l ∧ vs = [y] ∧ H l = some (.lst xs) ∧ xs.length < sizeLine ∧ Q .non (upd H l (.lst (xs ++ [y])))
theorem mt_append : MtM X "list.append" rAppend := by
  intro pins s σ H x vs v us Q I rx rv h
  obtain ⟨l, xs, y, rfl, rfl, hH, hz, q⟩ := h
  cases rx
  obtain ⟨u, rfl, ru⟩ := rv.one
  obtain ⟨z, its, n, r, hl, e⟩ := I.lstM hH
  refine call_meets F.slot_list_append ⟨_, e, rfl⟩ F.entry_list_append (F.args_list_append_2 _ _) (PySem.list_append l its.toArray n u (by rw [List.size_toArray]; omega)) ⟨e, ?_⟩
  refine ⟨.non, _, I.lset (its' := its ++ [u]) hH e (by simp) (r.append (.cons ru .nil)) ?_, rfl, q⟩
  rw [List.length_append, List.length_singleton]
  omega
def rExtend : V → List V → Hp → VK → Prop := fun x vs H Q => ∃ l b xs zs, x = .ref l ∧ vs = [.ref b] ∧ H l = some (.lst xs) ∧ H b = some (.lst zs) ∧ xs.length + zs.length ≤ sizeLine ∧ Q .non (upd H l (.lst (xs ++ zs)))
theorem mt_extend : MtM X "list.extend" rExtend := by
  intro pins s σ H x vs v us Q I rx rv h
  obtain ⟨l, b, xs, zs, rfl, rfl, hH, hB, hz, q⟩ := h
  cases rx
  obtain ⟨u, rfl, ru⟩ := rv.one
  cases ru
  obtain ⟨z, its, n, r, hl, e⟩ := I.lstM hH
  obtain ⟨z2, its2, n2, r2, hl2, e2⟩ := I.lstM hB
  have hsz : its.toArray.size + its2.toArray.size ≤ sizeLine := by rw [List.size_toArray, List.size_toArray]; omega
  have hlong : ¬ (!its.toArray.isEmpty && Builtin.List.listTooLong (its.toArray.size + its2.toArray.size)) = true := by
    rw [notLongL hsz, Bool.and_false]
    exact Bool.false_ne_true
  refine call_meets F.slot_list_extend ⟨_, e, rfl⟩ F.entry_list_extend (F.args_list_extend_2 _ _)
    (AutoSeq1.list_extend_list_list_0 l its.toArray n b its2.toArray n2 hlong (by rw [List.size_toArray]; omega) (by omega)) ⟨e, e2, ?_⟩
  refine ⟨.non, _, I.lset (its' := its ++ its2) hH e (by simp) (r.append r2) ?_, rfl, q⟩
  rw [List.length_append]
  omega
/-! ### list + list, list += list, list * int -/
def rCat : R2 := fun x y H Q => ∃ l b xs zs, x = .ref l ∧ y = .ref b ∧ H l = some (.lst xs) ∧ H b = some (.lst zs) ∧ xs.length + zs.length ≤ sizeLine ∧ ∀ p, H p = none → Q (.ref p) (upd H p (.lst (xs ++ zs)))
theorem op_cat : OpR X (binaryOp .Add) rCat := by
  intro pins s σ H x y v u Q I rx ry h
  obtain ⟨l, b, xs, zs, rfl, rfl, hH, hB, hz, q⟩ := h
  cases rx
  cases ry
  obtain ⟨z, its, n, r, hl, e⟩ := I.lstM hH
  obtain ⟨z2, its2, n2, r2, hl2, e2⟩ := I.lstM hB
  refine PySem.P.add_list e e2 ?_ (by rw [List.size_toArray, List.size_toArray]; omega)
  have ea : its.toArray ++ its2.toArray = (its ++ its2).toArray := by simp
  rw [ea]
  exact ⟨.ref _, _, I.lnew (t' := s.toks) (r.append r2) (by rw [List.length_append]; omega), rfl, q _ I.fresh⟩
/-! ### del xs[i] -/
end
/-! ### xs[a:b] = ys -/
section
variable {prog : Program} {w : World} {A : Around} {E : Value → Shared → Prop} {s : Shared}
set_option maxRecDepth 100000 in
end
section
variable {X : Cx}
end
end L2
namespace L2
open PySem PySem.Spec PyProof.Rows
theorem Vals.ints : ∀ {ns : List Int} {us : List Value}, Vals (ns.map V.int) us → IntsAre us ns
  | [], us, h => by
    rw [List.map_nil] at h
    cases h
    exact IntsAre.nil
  | n :: ns, us, h => by
    rw [List.map_cons] at h
    cases h with
    | cons r t =>
      obtain ⟨k, rfl⟩ := r
      exact IntsAre.cons n k (Vals.ints t)
theorem Vals.bls : ∀ {bs : List Bool} {us : List Value}, Vals (bs.map V.bl) us → us = bs.map Value.bool
  | [], us, h => by
    rw [List.map_nil] at h
    cases h
    rfl
  | b :: bs, us, h => by
    rw [List.map_cons] at h
    cases h with
    | cons r t =>
      cases r
      rw [Vals.bls t, List.map_cons]
theorem Vals.ref1 {a : Addr} {us : List Value} (r : Vals [V.ref a] us) : us = [Value.ref a] := by
  cases r with
  | cons r t =>
    cases t
    cases r
    rfl
theorem Vals.int2 {i j : Int} {us : List Value} (r : Vals [V.int i, V.int j] us) : ∃ t u, us = [Value.int i t, Value.int j u] := by
  cases r with
  | cons r t =>
    cases t with
    | cons r2 t2 =>
      cases t2
      obtain ⟨t, rfl⟩ := r
      obtain ⟨u, rfl⟩ := r2
      exact ⟨t, u, rfl⟩
/-! ### the library's walks over a list of ints, kept objects alone -/
section
variable {prog : Program} {w : World} {A : Around} {E : Value → Shared → Prop} {s : Shared} {l : Addr} {its : List Value} {ns : List Int} {Q : Value → Shared → Prop}
theorem max_raw (hh : A.handled = none) (hl : s.heap.IsList l its.toArray) (hi : IntsAre its ns) (hne : 0 < ns.length)
    (h : ∀ h' tk M t', (∀ b o, s.heap.get? b = some o → h'.get? b = some o) → M ∈ ns → (∀ a, a ∈ ns → a ≤ M) → Q (.int M t') { s with heap := h', toks := tk }) : wpAny (model prog w) A (call (.builtin "max") [.ref l]) Q E s := by
  obtain ⟨xs, e⟩ := hi.allInts.items
  have hn : numsOf (intItems xs).toList = ns := by rw [← e]; exact hi.numsOf
  rw [nums_intItems] at hn
  subst hn
  rw [e] at hl
  have hsz : 0 < xs.size := by simpa using hne
  refine PySem.max_intList hh hl hsz fun v h' tk hv hk => ?_
  obtain ⟨t, rfl⟩ := intItems_at hv
  obtain ⟨h1, h2⟩ := argBest_gt (numAt xs) (xs.size - 1)
  refine h h' tk _ t hk ?_ fun a ha => ?_
  · rw [numAt_eq]; exact PySem.getD_mem (by rw [List.length_map, Array.length_toList]; omega)
  · obtain ⟨j, hj, rfl⟩ := mem_getD ha
    rw [List.length_map, Array.length_toList] at hj
    rw [← numAt_eq]; exact h2 j (by omega)
end
/-! ### the calls, by values (CallR of 03t; MtR of 06l) -/
section
variable {X : Cx}
/-- max(xs), min(xs) of a list of ints -/
def rMax (K : PySem.W.Frag) : List V → Hp → VK → Prop := fun vs H Q => ∃ (a : Addr) (ns : List Int), vs = [V.ref a] ∧ SqL K H a (ns.map V.int) ∧ 0 < ns.length ∧ ∀ m, m ∈ ns → (∀ y, y ∈ ns → y ≤ m) → Q (.int m) H
theorem cr_max (hc : X.calm = true) : CallR X (.builtin "max") (rMax X.K) := by
  intro pins s σ H vs us Q I r h
  obtain ⟨a, ns, rfl, hs, hne, q⟩ := h
  obtain ⟨its, rv, hl, _⟩ := I.list hs
  rw [Vals.ref1 r]
  exact max_raw (I.ok.hd hc) hl.isList rv.ints hne fun h' tk m t' hk h1 h2 => ⟨.int _, H, I.kept hk, ⟨_, rfl⟩, q m h1 h2⟩
/-! sorted, sort (fewer than 64 items: the library's own bound) -/
end
/-! ### list.index, flat items -/
section
variable {X : Cx}
end
/-! ### type(x) of an own instance; is, is not of a module's class -/
section
variable {X : Cx}
end
/-! ### any(xs), all(xs) of a list of bools -/
theorem iter_any {prog : Program} {w : World} {A : Around} {E : Value → Shared → Prop} {s : Shared} {l : Addr} {items : Array Value} {Q : Value → Shared → Prop} (hl : s.heap.IsList l items)
    (h : ∀ s₂ : Shared, s₂ = { s with heap := s.heap.push { cls := .type "list_iterator", data := .fields #[.ref l, .int 0 0] } } →
      (s₂.heap.IsListIter s.heap.objs.size l 0 ∧ s₂.heap.IsList l items) → l ≠ s.heap.objs.size → Q (.ref s.heap.objs.size) s₂) : wpAny (model prog w) A (pyIter (.ref l)) Q E s := by
  have hlt : l < s.heap.objs.size := by obtain ⟨_, e, _⟩ := hl; exact Heap.lt_size e
  exact wpAny_pyIter_list hl (h _ rfl ⟨⟨_, Heap.get?_push_size _ rfl, rfl, rfl⟩, hl.push _⟩ (Nat.ne_of_lt hlt))
theorem truth_bools {prog : Program} {w : World} {A : Around} {bs : List Bool} {its : List Value} (e : its = bs.map Value.bool) :
    TruthOf prog w A (fun i v => its.toArray[i]? = some v) (fun i => bs.getD i false) := fun i v s Q E hv hq => by
  have hv' : its[i]? = some v := by simpa using hv
  rw [e, List.getElem?_map] at hv'
  obtain ⟨b, hb, rfl⟩ := Option.map_eq_some_iff.mp hv'
  have hg : bs.getD i false = b := by rw [List.getD_eq_getElem?_getD, hb] <;> rfl
  have hq' : Q (bs.getD i false) s := hq
  rw [hg] at hq'
  exact wpAny_truthy_bool hq'
theorem any_range : ∀ bs : List Bool, (List.range bs.length).any (fun i => bs.getD i false) = bs.any id
  | [] => rfl
  | b :: bs => by
    rw [List.length_cons, List.range_succ_eq_map, List.any_cons, List.any_map, List.any_cons, ← any_range bs]
    all_goals rfl
section
variable {X : Cx}
def rAny (K : PySem.W.Frag) : List V → Hp → VK → Prop := fun vs H Q => ∃ (a : Addr) (bs : List Bool), vs = [V.ref a] ∧ SqL K H a (bs.map V.bl) ∧ Q (.bl (bs.any id)) H
theorem cr_any (hc : X.calm = true) : CallR X (.builtin "any") (rAny X.K) := by
  intro pins s σ H vs us Q I r h
  obtain ⟨a, bs, rfl, hs, q⟩ := h
  obtain ⟨its, rv, hl, _⟩ := I.list hs
  rw [Vals.ref1 r]
  have hb := rv.bls
  refine call_any_walk (iter_any hl.isList fun s₂ e2 st hne => ?_)
  subst e2
  refine ⟨_, _, _, _, _, _, _, rfl, Walks.list (A := X.A.in1) (I.ok.hd hc) _ a hne its.toArray, st, truth_bools hb, fun h' tk hk => ?_⟩
  refine ⟨.bl _, H, I.kept fun b o eo => hk b o (fun hmem => ?_) (Heap.get?_push_of_some _ eo), ?_, q⟩
  · rcases List.mem_cons.mp hmem with e1 | hmem
    · exact absurd (e1 ▸ Heap.lt_size eo) (Nat.lt_irrefl _)
    · cases hmem
  · show Value.bool _ = Value.bool _
    rw [← any_range, hb, List.size_toArray, List.length_map]
end
/-! ### == and != of data at any depth: none, bools, ints, texts, lists, tuples -/
section
variable {X : Cx} {pins : List (Addr × Obj)} {σ : St} {H : Hp} {s : Shared}
end
section
variable {X : Cx}
end
end L2
namespace L2
open PySem PySem.Spec PyProof.Rows
abbrev CellAt (h : Heap) (c : Addr) (v : Option Value) : Prop := h.IsCell c v
def relS (scope sc : Scope) : Scope :=
  { scope with names := scope.names.map fun (n, k) => if (k == .free && sc.kind == .function && sc.names.lookup n == some .cell) then (n, .cell) else (n, k) }
def cloFrom (cells : List (Str × Addr)) : List (Str × NameKind) → List (Str × Addr) → List (Str × Addr)
  | [], acc => acc
  | (n, k) :: r, acc => if k == .free then cloFrom cells r ((n, (cells.lookup n).getD 0) :: acc) else cloFrom cells r acc
theorem closure_loop (env : Env) (f : Str × NameKind → List (Str × Addr) → Sem (ForInStep (List (Str × Addr))))
    (hf : ∀ n k c, f (n, k) c = if k == .free then (do let a ← cellOf env n; pure (.yield ((n, a) :: c))) else pure (.yield c)) :
    ∀ (names : List (Str × NameKind)) (acc : List (Str × Addr)), (∀ y ∈ names, y.2 = .free → ∃ c, env.cells.lookup y.1 = some c) → forIn names acc f = pure (cloFrom env.cells names acc)
  | [], acc, _ => by rw [List.forIn_nil]; rfl
  | (n, k) :: r, acc, h => by
    rw [List.forIn_cons, hf]
    have ih := fun acc => closure_loop env f hf r acc fun y hy => h y (List.mem_cons_of_mem _ hy)
    unfold cloFrom
    by_cases hk : (k == NameKind.free) = true
    · rw [if_pos hk, if_pos hk]
      obtain ⟨c, hc⟩ := h (n, k) List.mem_cons_self (by simpa using hk)
      have e : cellOf env n = pure c := by unfold cellOf; rw [hc]
      rw [e]
      have e2 : (env.cells.lookup n).getD 0 = c := by rw [hc]; rfl
      rw [e2]
      exact ih _
    · rw [if_neg hk, if_neg hk]
      exact ih _
theorem closure_ok {scope : Scope} {env : Env} (h : ∀ y ∈ scope.names, y.2 = .free → ∃ c, env.cells.lookup y.1 = some c) : closureFor scope env = pure (cloFrom env.cells scope.names []) := by
  simp only [closureFor]
  rw [closure_loop env _ (fun n k c => rfl) scope.names [] h]
  rfl
theorem mem_lookup {α : Type} : ∀ {l : List (Str × α)} {n : Str} {c : α}, (n, c) ∈ l → ∃ c', l.lookup n = some c'
  | (k, v) :: r, n, c, h => by
    rw [List.lookup_cons]
    cases hb : n == k with
    | true => exact ⟨_, rfl⟩
    | false =>
      rcases List.mem_cons.mp h with e | h
      · cases e; simp at hb
      · exact mem_lookup h
theorem cloFrom_mem {cells : List (Str × Addr)} : ∀ {names : List (Str × NameKind)} {acc : List (Str × Addr)} {n : Str} {c : Addr}, (n, c) ∈ cloFrom cells names acc → (n, c) ∈ acc ∨ ((n, .free) ∈ names ∧ c = (cells.lookup n).getD 0)
  | [], _, _, _, h => .inl h
  | (m, k) :: r, acc, n, c, h => by
    unfold cloFrom at h
    split at h
    · rename_i hk
      have hk : k = .free := by simpa using hk
      rcases cloFrom_mem h with h | ⟨h1, h2⟩
      · rcases List.mem_cons.mp h with e | h
        · cases e; exact .inr ⟨hk ▸ List.mem_cons_self, rfl⟩
        · exact .inl h
      · exact .inr ⟨List.mem_cons_of_mem _ h1, h2⟩
    · rcases cloFrom_mem h with h | ⟨h1, h2⟩
      · exact .inl h
      · exact .inr ⟨List.mem_cons_of_mem _ h1, h2⟩
theorem cloFrom_acc {cells : List (Str × Addr)} : ∀ {names : List (Str × NameKind)} {acc : List (Str × Addr)} {p : Str × Addr}, p ∈ acc → p ∈ cloFrom cells names acc
  | [], _, _, h => h
  | (m, k) :: r, acc, p, h => by
    unfold cloFrom
    split
    · exact cloFrom_acc (List.mem_cons_of_mem _ h)
    · exact cloFrom_acc h
theorem cloFrom_has {cells : List (Str × Addr)} : ∀ {names : List (Str × NameKind)} {acc : List (Str × Addr)} {n : Str}, (n, .free) ∈ names → (n, (cells.lookup n).getD 0) ∈ cloFrom cells names acc
  | (m, k) :: r, acc, n, h => by
    unfold cloFrom
    rcases List.mem_cons.mp h with e | h
    · cases e
      exact cloFrom_acc List.mem_cons_self
    · split
      · exact cloFrom_has h
      · exact cloFrom_has h
theorem cells_mem : ∀ {names : List (Str × NameKind)} {h : Heap} {acc : List (Str × Addr)} {x : Str} {c : Addr}, (x, c) ∈ cellsFrom h.objs.size names acc →
    (x, c) ∈ acc ∨ ((x, .cell) ∈ names ∧ h.objs.size ≤ c ∧ CellAt (pushCells h names) c none)
  | [], _, _, _, _, h => .inl h
  | (n, k) :: r, h, acc, x, c, hm => by
    unfold cellsFrom at hm
    unfold pushCells
    split at hm
    · rename_i hk
      rw [if_pos hk]
      have hk : k = .cell := by simpa using hk
      rw [← Heap.size_push h { cls := .type "cell", data := .cell none }] at hm
      rcases cells_mem hm with hm | ⟨h1, h2, h3⟩
      · rcases List.mem_cons.mp hm with e | hm
        · cases e
          exact .inr ⟨hk ▸ List.mem_cons_self, Nat.le_refl _, _, pushCells_keeps r _ _ _ (Heap.get?_push_size _ rfl), rfl⟩
        · exact .inl hm
      · rw [Heap.size_push] at h2
        exact .inr ⟨List.mem_cons_of_mem _ h1, Nat.le_of_succ_le h2, h3⟩
    · rename_i hk
      rw [if_neg hk]
      rcases cells_mem hm with hm | ⟨h1, h2, h3⟩
      · exact .inl hm
      · exact .inr ⟨List.mem_cons_of_mem _ h1, h2, h3⟩
theorem cells_acc : ∀ {names : List (Str × NameKind)} {n : Nat} {acc : List (Str × Addr)} {p : Str × Addr}, p ∈ acc → p ∈ cellsFrom n names acc
  | [], _, _, _, h => h
  | (m, k) :: r, n, acc, p, h => by
    unfold cellsFrom
    split
    · exact cells_acc (List.mem_cons_of_mem _ h)
    · exact cells_acc h
theorem cells_has : ∀ {names : List (Str × NameKind)} {n : Nat} {acc : List (Str × Addr)} {x : Str}, (x, .cell) ∈ names → ∃ c, (x, c) ∈ cellsFrom n names acc
  | (m, k) :: r, n, acc, x, h => by
    unfold cellsFrom
    rcases List.mem_cons.mp h with e | h
    · cases e
      exact ⟨n, cells_acc List.mem_cons_self⟩
    · split
      · exact cells_has h
      · exact cells_has h
theorem cells_inj : ∀ {names : List (Str × NameKind)} {h : Heap} {acc : List (Str × Addr)} {x y : Str} {c : Addr}, (∀ p ∈ acc, p.2 < h.objs.size) → (∀ x y c, (x, c) ∈ acc → (y, c) ∈ acc → x = y) →
    (x, c) ∈ cellsFrom h.objs.size names acc → (y, c) ∈ cellsFrom h.objs.size names acc → x = y
  | [], _, _, _, _, _, _, hi, h1, h2 => hi _ _ _ h1 h2
  | (n, k) :: r, h, acc, x, y, c, hl, hi, h1, h2 => by
    unfold cellsFrom at h1 h2
    split at h1
    · rename_i hk
      rw [if_pos hk] at h2
      rw [← Heap.size_push h { cls := .type "cell", data := .cell none }] at h1 h2
      refine cells_inj (h := h.push _) (fun p hp => ?_) (fun x y c a b => ?_) h1 h2
      · rw [Heap.size_push]
        rcases List.mem_cons.mp hp with rfl | hp
        · exact Nat.lt_succ_self _
        · exact Nat.lt_succ_of_lt (hl p hp)
      · rcases List.mem_cons.mp a with e | a <;> rcases List.mem_cons.mp b with e' | b
        · cases e; cases e'; rfl
        · cases e; exact absurd (hl _ b) (Nat.lt_irrefl _)
        · cases e'; exact absurd (hl _ a) (Nat.lt_irrefl _)
        · exact hi _ _ _ a b
    · rename_i hk
      rw [if_neg hk] at h2
      exact cells_inj hl hi h1 h2
theorem newEnv_comp {M : Model} {A : Around} {E : Value → Shared → Prop} {s : Shared} {scope : Scope} {globals : Addr} {closure : List (Str × Addr)} {qual : Str} {func : Option Addr} {code : Value} {around : Env} {builtins : Addr} {Q : Env → Shared → Prop}
    (h : Q (newEnv scope s.heap.objs.size globals (cellsFrom (s.heap.objs.size + 1) scope.names closure) qual func code (some around) builtins)
      { s with heap := pushCells (s.heap.push { cls := .type "dict", data := .dict #[] }) scope.names }) :
    wpAny M A (newFunctionEnv scope globals closure [] qual func code (some around) builtins) Q E s := by
  simp only [newFunctionEnv, Option.isSome_some, if_true]
  refine wpAny_bind (wpAny_alloc ?_)
  refine wpAny_bind (wpAny_layCells _ (fun n k c => rfl) scope.names closure _ _ ?_)
  rw [show ({ s with heap := s.heap.push { cls := .type "dict", data := .dict #[] } } : Shared).heap.objs.size = s.heap.objs.size + 1 from Heap.size_push ..]
  rw [List.forIn_nil]
  exact wpAny_bind (wpAny_pure (wpAny_pure h))
/-- every name of the written scope, in the scope that runs -/
theorem lookup_relS {sc : Scope} : ∀ {names : List (Str × NameKind)} {x : Str} {k : NameKind},
    (names.map fun (n, k) => if (k == NameKind.free && sc.kind == .function && sc.names.lookup n == some .cell) then (n, NameKind.cell) else (n, k)).lookup x = some k →
    ∃ k', names.lookup x = some k' ∧ (k = k' ∨ (k' = .free ∧ k = .cell))
  | [], _, _, h => by simp at h
  | (n, k₀) :: r, x, k, h => by
    have ih := @lookup_relS sc r x k
    have h' : List.lookup x ((if (k₀ == NameKind.free && sc.kind == .function && sc.names.lookup n == some .cell) = true then (n, NameKind.cell) else (n, k₀)) :: (r.map _)) = some k := h
    cases hx : x == n with
    | true =>
      simp only [List.lookup_cons, hx]
      by_cases hc : (k₀ == NameKind.free && sc.kind == .function && sc.names.lookup n == some .cell) = true
      · rw [if_pos hc] at h'
        simp only [List.lookup_cons, hx] at h'
        cases h'
        simp only [Bool.and_eq_true, beq_iff_eq] at hc
        exact ⟨k₀, rfl, .inr ⟨hc.1.1, rfl⟩⟩
      · rw [if_neg hc] at h'
        simp only [List.lookup_cons, hx] at h'
        cases h'
        exact ⟨_, rfl, .inl rfl⟩
    | false =>
      simp only [List.lookup_cons, hx]
      by_cases hc : (k₀ == NameKind.free && sc.kind == .function && sc.names.lookup n == some .cell) = true
      · rw [if_pos hc] at h'
        simp only [List.lookup_cons, hx] at h'
        exact ih h'
      · rw [if_neg hc] at h'
        simp only [List.lookup_cons, hx] at h'
        exact ih h'
/-- the names of a comprehension's block: its own (with their places in N), or captured -/
structure BlkOk (N : List Str) (sc scope : Scope) (own : List (Str × Nat)) : Prop where
  kind : scope.kind = .function
  uniq : ∀ y ∈ scope.names, scope.names.lookup y.1 = some y.2
  ix : ∀ p ∈ own, N[p.2]? = some p.1
  free : ∀ y ∈ scope.names, y.2 = .free → sc.names.lookup y.1 = some .cell ∨ sc.names.lookup y.1 = some .free
  own : ∀ y ∈ scope.names, y.2 = .local ∨ y.2 = .cell → y.1 ∈ own.map (·.1) ∨ y.1 ∉ N
/-- the slots of the block's own names forgotten -/
def wipe (σ : St) : List Nat → St
  | [] => σ
  | v :: vs => (wipe σ vs).set v none
theorem wipe_length (σ : St) : ∀ vs : List Nat, (wipe σ vs).length = σ.length
  | [] => rfl
  | v :: vs => by unfold wipe; rw [List.length_set, wipe_length σ vs]
theorem wipe_some {σ : St} {i : Nat} {x : V} : ∀ {vs : List Nat}, (wipe σ vs)[i]? = some (some x) → σ[i]? = some (some x) ∧ i ∉ vs
  | [], h => ⟨h, by simp⟩
  | v :: vs, h => by
    unfold wipe at h
    by_cases hi : v = i
    · subst hi
      by_cases hv : v < (wipe σ vs).length
      · rw [List.getElem?_set_self hv] at h; cases h
      · rw [List.getElem?_eq_none (by simpa using hv)] at h; cases h
    · rw [List.getElem?_set_ne hi] at h
      obtain ⟨h1, h2⟩ := wipe_some h
      exact ⟨h1, by simp only [List.mem_cons, not_or]; exact ⟨fun e => hi e.symm, h2⟩⟩
/-- the context of a block that starts at s, its iterator's objects at fp -/
abbrev Cx.blk (X : Cx) (s : Shared) (H : Hp) (scope : Scope) (cenv : Env) (fp : List Addr) : Cx := { X with s_0 := s, H_0 := H, env := cenv, outer := X.stack, ex := fp, fn := fun x => scope.names.lookup x == some .cell, pn := [], xe := fun _ _ => False }
section
variable {X : Cx} {pins : List (Addr × Obj)} {σ : St} {H : Hp} {s : Shared}
theorem block_start {scope : Scope} {own : List (Str × Nat)} {fp : List Addr} (I : Inv X pins σ H s) (ok : BlkOk X.N X.env.scope scope own) (hN : X.N.Nodup) (hfp : ∀ b ∈ fp, FpOk X pins H b ∧ b < s.heap.objs.size) :
    Inv (X.blk s H scope (compEnvC scope (cellsFrom (s.heap.objs.size + 1) scope.names (cloFrom X.env.cells scope.names [])) s.heap.objs.size X.env) fp) [] (wipe σ (own.map (·.2))) H { s with heap := pushCells (s.heap.push { cls := .type "dict", data := .dict #[] }) scope.names } := by
  have hfree : ∀ y ∈ scope.names, y.2 = .free → ∃ c, X.env.cells.lookup y.1 = some c := fun y hy e => by
    rcases ok.free y hy e with k | k
    · exact I.ok.has _ (.inl k)
    · exact I.ok.has _ (.inr k)
  generalize hcenv : compEnvC scope (cellsFrom (s.heap.objs.size + 1) scope.names (cloFrom X.env.cells scope.names [])) s.heap.objs.size X.env = cenv
  have kp : ∀ b o, s.heap.get? b = some o → (pushCells (s.heap.push { cls := .type "dict", data := .dict #[] }) scope.names).get? b = some o := fun b o e => pushCells_keeps _ _ _ _ (Heap.get?_push_of_some _ e)
  have hL : cenv.locals = s.heap.objs.size := by rw [← hcenv]; rfl
  have hcl : cenv.cells = cellsFrom (s.heap.objs.size + 1) scope.names (cloFrom X.env.cells scope.names []) := by rw [← hcenv]; rfl
  have hsc : cenv.scope = relS scope X.env.scope := by rw [← hcenv]; rfl
  rw [← Heap.size_push s.heap { cls := .type "dict", data := .dict #[] }] at hcl
  have cm : ∀ {y c}, (y, c) ∈ cloFrom X.env.cells scope.names [] → X.env.cells.lookup y = some c ∧ c < s.heap.objs.size := fun {y c} hm => by
    rcases cloFrom_mem hm with hm | ⟨h1, rfl⟩
    · cases hm
    · obtain ⟨c, hc⟩ := hfree _ h1 rfl
      rw [hc]
      obtain ⟨w, z⟩ := I.cell _ _ hc
      exact ⟨rfl, z.lt⟩
  have mem : ∀ {y c}, cenv.cells.lookup y = some c → (X.env.cells.lookup y = some c ∧ c < s.heap.objs.size) ∨ (s.heap.objs.size + 1 ≤ c ∧ CellAt (pushCells (s.heap.push { cls := .type "dict", data := .dict #[] }) scope.names) c none) := fun {y c} e => by
    rw [hcl] at e
    rcases cells_mem (PySem.mem_of_lookup e) with hm | ⟨_, h2, h3⟩
    · exact .inl (cm hm)
    · rw [Heap.size_push] at h2; exact .inr ⟨h2, h3⟩
  have look : ∀ {y}, scope.names.lookup y = some .free → ∃ c, cenv.cells.lookup y = some c ∧ X.env.cells.lookup y = some c := fun {y} hl => by
    have hy : (y, NameKind.free) ∈ scope.names := PySem.mem_of_lookup hl
    obtain ⟨c', e'⟩ := mem_lookup (cells_acc (names := scope.names) (n := (s.heap.push { cls := .type "dict", data := .dict #[] }).objs.size) (cloFrom_has (cells := X.env.cells) (acc := []) hy))
    rw [← hcl] at e'
    refine ⟨c', e', ?_⟩
    rw [hcl] at e'
    rcases cells_mem (PySem.mem_of_lookup e') with hm | ⟨h1, _, _⟩
    · exact (cm hm).1
    · have := ok.uniq _ h1
      rw [hl] at this; cases this
  have okB : (X.blk s H scope cenv fp).Ok := by
    refine ⟨I.ok.mod, by show cenv.scope.kind = _; rw [hsc]; exact ok.kind, by show cenv.globals = _; rw [← hcenv]; exact I.ok.glob, by show cenv.builtins = _; rw [← hcenv]; exact I.ok.blt, by show s.heap.objs.size ≤ cenv.locals; rw [hL]; exact Nat.le_refl _,
      fun y z c e1 e2 => ?_, fun y hy => ?_, fun y c z e => ?_, I.ok.hd, I.ok.frames, .inl rfl, fun b hb => ⟨?_, fun y c e z => ?_⟩, I.bs, Nat.le_trans I.ok.bsz I.sz, fun b o e hb => ?_, fun b hb z => ?_, I.stack, I.stkFree⟩
    · have e1 : cenv.cells.lookup y = some c := e1
      have e2 : cenv.cells.lookup z = some c := e2
      rw [hcl] at e1 e2
      refine cells_inj (fun p hp => ?_) (fun y z c a b => I.ok.inj y z c (cm a).1 (cm b).1) (PySem.mem_of_lookup e1) (PySem.mem_of_lookup e2)
      rw [Heap.size_push]
      exact Nat.lt_succ_of_lt (cm (y := p.1) (c := p.2) hp).2
    · show ∃ c, cenv.cells.lookup y = some c
      have key : ∀ k, cenv.kindOf y = some k → (k = .cell ∨ k = .free) → ∃ c, cenv.cells.lookup y = some c := fun k hk hk' => by
        unfold Env.kindOf at hk
        rw [hsc] at hk
        obtain ⟨k', e, r⟩ := lookup_relS hk
        have : k' = .cell ∨ k' = .free := by
          rcases r with rfl | ⟨rfl, _⟩
          · exact hk'
          · exact .inr rfl
        rcases this with rfl | rfl
        · obtain ⟨c, hm⟩ := cells_has (n := (s.heap.push { cls := .type "dict", data := .dict #[] }).objs.size) (acc := cloFrom X.env.cells scope.names []) (PySem.mem_of_lookup e)
          obtain ⟨c', e'⟩ := mem_lookup hm
          exact ⟨c', by rw [hcl]; exact e'⟩
        · obtain ⟨c, h1, _⟩ := look e
          exact ⟨c, h1⟩
      rcases hy with hy | hy
      · exact key _ hy (.inl rfl)
      · exact key _ hy (.inr rfl)
    · have z : (scope.names.lookup y == some NameKind.cell) = true := z
      have z : scope.names.lookup y = some .cell := by simpa using z
      have e : cenv.cells.lookup y = some c := e
      rw [hcl] at e
      rcases cells_mem (PySem.mem_of_lookup e) with hm | ⟨_, h2, _⟩
      · rcases cloFrom_mem hm with hm | ⟨h1, _⟩
        · cases hm
        · have q := ok.uniq _ h1
          rw [z] at q; cases q
      · rw [Heap.size_push] at h2
        exact Nat.le_of_succ_le h2
    · show b ≠ cenv.locals
      rw [hL]; exact Nat.ne_of_lt (hfp b hb).2
    · have e : cenv.cells.lookup y = some c := e
      rcases mem e with ⟨h1, _⟩ | ⟨h1, _⟩
      · exact (hfp b hb).1.2.2.2.2.1 y c h1 z
      · have h2 : s.heap.objs.size + 1 ≤ b := by rw [← z]; exact h1
        exact absurd (Nat.lt_of_lt_of_le (hfp b hb).2 (Nat.le_of_succ_le h2)) (Nat.lt_irrefl _)
    · rcases (hfp b hb).1.2.2.2.1 with z | z
      · exact I.ok.noex b o e z
      · exact absurd (Nat.lt_of_lt_of_le (Heap.lt_size e) (Nat.le_trans I.ok.bsz z)) (Nat.lt_irrefl _)
    · rcases List.mem_cons.mp (I.stkSub b z) with z | z
      · exact (hfp b hb).1.2.1 z
      · exact (hfp b hb).1.2.2.1 z
  refine ⟨okB, rfl, I.bare, Un.kept kp, ⟨fun _ => none, ?_, fun i y av e1 e2 e3 => ?_⟩, fun y c e => ?_, ?_, fun y c e => ?_, fun p hp => ?_, I.hok.kept kp, by rw [wipe_length]; exact I.len⟩
  · show Heap.Ns _ cenv.locals _
    rw [hL]
    exact Heap.Ns.keeps (Heap.Ns.new ..) fun b o e => pushCells_keeps _ _ _ _ e
  · obtain ⟨e2, hne⟩ := wipe_some e2
    have hfr : scope.names.lookup y = some .free ∧ (cenv.kindOf y = some .cell ∨ cenv.kindOf y = some .free) := by
      have key : ∀ k, cenv.scope.names.lookup y = some k → k = .local ∨ k = .cell ∨ k = .free → scope.names.lookup y = some .free ∧ (cenv.kindOf y = some .cell ∨ cenv.kindOf y = some .free) := fun k hk hk' => by
        have hk0 := hk
        rw [hsc] at hk
        obtain ⟨k', e, r⟩ := lookup_relS hk
        have no : ¬ (k' = .local ∨ k' = .cell) := fun hh => by
          rcases ok.own _ (PySem.mem_of_lookup e) hh with e' | e'
          · obtain ⟨p, hp, hpy⟩ := List.mem_map.mp e'
            have e3 := ok.ix p hp
            have : p.1 = y := hpy
            rw [this] at e3
            exact hne (List.mem_map.mpr ⟨p, hp, nodup_ix hN e3 e1⟩)
          · exact e' (List.mem_of_getElem? e1)
        rcases r with rfl | ⟨rfl, rfl⟩
        · rcases hk' with rfl | rfl | rfl
          · exact absurd (.inl rfl) no
          · exact absurd (.inr rfl) no
          · exact ⟨e, .inr hk0⟩
        · exact ⟨e, .inl hk0⟩
      have e3 : Vis cenv.scope y := e3
      rcases e3 with e3 | e3 | e3
      · exact key _ e3 (.inl rfl)
      · exact key _ e3 (.inr (.inl rfl))
      · exact key _ e3 (.inr (.inr rfl))
    obtain ⟨m, hn, hl⟩ := I.loc
    have hvis : Vis X.env.scope y := (ok.free _ (PySem.mem_of_lookup hfr.1) rfl).elim (fun k => .inr (.inl k)) (fun k => .inr (.inr k))
    obtain ⟨w, r, q⟩ := hl i y av e1 e2 hvis
    refine ⟨w, r, .inr ⟨hfr.2, ?_⟩⟩
    obtain ⟨c, h1, h2⟩ := look hfr.1
    rcases q with ⟨k, _⟩ | ⟨_, c', e', z⟩
    · have k : X.env.scope.names.lookup y = some .local := k
      rcases ok.free _ (PySem.mem_of_lookup hfr.1) rfl with k' | k' <;> rw [show X.env.scope.names.lookup y = _ from k'] at k <;> cases k
    · rw [h2] at e'; cases e'
      exact ⟨c, h1, z.keeps kp⟩
  · have e : cenv.cells.lookup y = some c := e
    rcases mem e with ⟨h1, _⟩ | ⟨_, z⟩
    · obtain ⟨w, z⟩ := I.cell y c h1
      exact ⟨w, z.keeps kp⟩
    · exact ⟨_, z⟩
  · show H cenv.locals = none
    rw [hL]; exact I.hok.fresh (Nat.le_refl _)
  · have e : cenv.cells.lookup y = some c := e
    rcases mem e with ⟨h1, _⟩ | ⟨h1, _⟩
    · exact I.freeC y c h1
    · exact I.hok.fresh (Nat.le_of_succ_le h1)
  · exact absurd (show p ∈ ([] : List (Addr × Obj)) ++ [] from hp) (by simp)
/-- an item appended to a tracked list -/
theorem app_ok {E : Value → Shared → Prop} {D : Addr} {xs : List V} {y : V} {v : Value} {Q : Value → Shared → Prop} (I : Inv X pins σ H s) (hD : H D = some (.lst xs)) (hz : xs.length < sizeLine) (r : RelV y v)
    (h : ∀ s', Inv X pins σ (upd H D (.lst (xs ++ [y]))) s' → Q .none s') : wpAny (model X.prog X.w) X.A (call (.builtin "list.append") [.ref D, v]) Q E s := by
  obtain ⟨hz', its, n, ri, e⟩ := I.hok D _ hD
  have hl := ri.length
  refine append_at (hsz := by rw [List.size_toArray]; omega) e fun h' sb ho' => ?_
  refine h { s with heap := h' } (I.write (t' := s.toks) (by rw [hD]; trivial) (.inl rfl) (fun b u hb q => (sb.2 b hb).trans q) ⟨_, ho'⟩ ⟨by rw [List.length_append]; exact hz, its ++ [v], n + 1, ri.append (.cons r .nil), ?_⟩)
  rw [ho']
  simp
/-- a clause's tests -/
def PTs (X : Cx) (ifs : List Expr) (t : TT) : Prop :=
  ∀ (pins : List (Addr × Obj)) (s : Shared) (σ : St) (H : Hp) (Q : Bool → Hp → Prop), Inv X pins σ H s → t σ H Q →
    wpAny (model X.prog X.w) X.A (forIn ifs true fun c r => if r = true then do let ok ← isTrue c X.env (eval c X.env); pure (ForInStep.yield ok) else pure (ForInStep.yield r)) (TP X pins σ Q) X.xe s
def tYes : TT := fun _ H Q => Q true H
theorem pts_nil : PTs X [] tYes := fun _ _ _ H _ I h => wpAny_tests_nil ⟨H, I, h⟩
theorem pts_one {c : Expr} {t : TT} (h : PT X c t) : PTs X [c] t := fun pins s σ H Q I hw => wpAny_tests_one (h pins s σ H Q I hw)
end
theorem thnF {α : Type} {t : Sem α} {Q Q' : α → Shared → Prop} {M : Model} {A : Around} {E : Value → Shared → Prop} {s : Shared} (h : wpAny M A t Q (fun _ _ => False) s) (hQ : ∀ a s, Q a s → Q' a s) : wpAny M A t Q' E s := wpAny_mono h hQ fun _ _ z => False.elim z
/-- the loop of a list comprehension's block, the target of any form (codeAny_compLoop_tests asks a target that no tuple goes to; statement and proof follow it, PyProof/CompMap.lean:41-61, with the step letOwnedTupleGo kept) -/
theorem compLoop_any {prog : Program} {w : World} {A : Around} {R : Result → Shared → Prop} {s : Shared} {elt target iter : Expr} {ifs : List Expr} {scope : Scope} {pos : Pos} {it acc : Value} {env : Env} (I : Nat → Shared → Prop)
    (turn : ∀ n s, I n s → wpAny (model prog w) A (pyNext it) (fun r s₁ => match r with
      | none => R (.ok .next) s₁
      | some v => wpAny (model prog w) A (letOwnedTupleGo target it v) (fun _ s₁' => wpAny (model prog w) A (assign target env v) (fun _ s₂ =>
          wpAny (model prog w) A (forIn ifs true fun c r => if r = true then do let ok ← isTrue c env (eval c env); pure (ForInStep.yield ok) else pure (ForInStep.yield r)) (fun ok s₃ =>
            if ok = true then wpAny (model prog w) A (eval elt env) (fun x s₄ =>
              wpAny (model prog w) A (call (.builtin "list.append") [acc, x]) (fun _ s₅ => ∃ m, m < n ∧ I m s₅) (notedBy (model prog w) A env fun e s' => R (.error e) s') s₄) (notedBy (model prog w) A env fun e s' => R (.error e) s') s₃
            else ∃ m, m < n ∧ I m s₃) (notedBy (model prog w) A env fun e s' => R (.error e) s') s₂) (notedBy (model prog w) A env fun e s' => R (.error e) s') s₁') (notedBy (model prog w) A env fun e s' => R (.error e) s') s₁) (notedBy (model prog w) A env fun e s' => R (.error e) s') s)
    (n : Nat) (h : I n s) :
    codeAny (model prog w) A (.compLoop (.ListComp elt [⟨target, iter, ifs, 0⟩] scope pos) 0 it acc env) R s := by
  refine codeAny_loop rfl I (fun n s hI => ?_) n h
  show wpAny _ A ((compTurn (.ListComp elt [⟨target, iter, ifs, 0⟩] scope pos) 0 it acc env).onRaise (fun x => do noteFrame x env; theTreesLotGoes x)) _ _ s
  refine wpAny_noted ?_
  rw [compTurn_list]
  refine wpAny_bind (wpAny_standAt (wpAny_bind (wpAny_mono (turn n s hI) (fun r s₁ h₁ => ?_) fun _ _ h' => h')))
  cases r with
  | none => exact wpAny_pure h₁
  | some v =>
    refine wpAny_bind (wpAny_mono h₁ (fun _ s₁' h₁' => ?_) fun _ _ h' => h')
    refine wpAny_bind (wpAny_mono h₁' (fun _ s₂ h₂ => wpAny_bind (wpAny_mono h₂ (fun ok s₃ h₃ => ?_) fun _ _ h' => h')) fun _ _ h' => h')
    cases ok with
    | false => exact wpAny_pure ⟨rfl, h₃⟩
    | true =>
      exact wpAny_bind (wpAny_bind (wpAny_mono h₃ (fun x s₄ h₄ => wpAny_bind (wpAny_mono h₄ (fun _ s₅ h₅ => wpAny_pure (wpAny_pure ⟨rfl, h₅⟩)) fun _ _ h' => h')) fun _ _ h' => h'))
section
variable {X : Cx}
/-- [elt for target in iter if ..]: D the new list; W by the turn and a measure, Nx what a turn is to reach -/
def tLc (wi : TI) (g : TG) (tt : TT) (te : TE) (vs : List Nat) : TE := fun σ H Q => wi σ H fun J H1 => ∀ D, H1 D = none → ∃ W : Nat → Nat → Hp → Prop, (∃ m, W 0 m (upd H1 D (.lst []))) ∧ ∀ i m H, W i m H →
  (J.stop i H ∧ Q (.ref D) H) ∨ (J.go i H ∧ ∃ Nx : Hp → Prop, (∀ H', Nx H' → ∃ m', m' < m ∧ W (i + 1) m' H') ∧ ∀ x H', J.yld i H x H' → g x (wipe σ vs) H' fun σ2 H2 => wipe σ2 vs = wipe σ vs ∧ tt σ2 H2 fun b H3 =>
    if b = true then te σ2 H3 fun y H4 => ∃ acc, H4 D = some (.lst acc) ∧ acc.length < sizeLine ∧ Nx (upd H4 D (.lst (acc ++ [y]))) else Nx H3)
theorem lc_core {pins : List (Addr × Obj)} {s : Shared} {σ : St} {H : Hp} {Q : VK} {elt tg iter : Expr} {ifs : List Expr} {scope : Scope} {own : List (Str × Nat)} {pos pos' : Pos} {wi : TI} {g : TG} {tt : TT} {te : TE} {use : Option (Value → Sem Unit)} {Qf : Value → Shared → Prop}
    (hc : X.calm = true) (hN : X.N.Nodup) (I : Inv X pins σ H s) (hi : PI X tg iter wi) (ok : BlkOk X.N X.env.scope scope own)
    (hg : ∀ (s : Shared) (H : Hp) (C : Addr) (cl : List (Str × Addr)) (fp : List Addr), PG (X.blk s H scope (compEnvC scope cl C X.env) fp) tg g) (ht : ∀ (s : Shared) (H : Hp) (C : Addr) (cl : List (Str × Addr)) (fp : List Addr), PTs (X.blk s H scope (compEnvC scope cl C X.env) fp) ifs tt)
    (he : ∀ (s : Shared) (H : Hp) (C : Addr) (cl : List (Str × Addr)) (fp : List Addr), PE (X.blk s H scope (compEnvC scope cl C X.env) fp) elt te) (hs : ∀ x, foldedSetIterable iter X.env x = pure x)
    (h : tLc wi g tt te (own.map (·.2)) σ H Q)
    (hRR : ∀ D C s' m H', Inv X pins σ H' s' → Q (.ref D) H' → s'.heap.Ns C m → FpOk X pins H' C → compPost (model X.prog X.w) X.A X.xe use Qf (.ref D) C (.ok .next) s') :
    wpAny (model X.prog X.w) X.A (comprehension (.ListComp elt [⟨tg, iter, ifs, 0⟩] scope pos) scope X.env pos' (newList []) false (eval iter X.env) use) Qf X.xe s := by
  have hfree : ∀ y ∈ scope.names, y.2 = .free → ∃ c, X.env.cells.lookup y.1 = some c := fun y hy e => by
    rcases ok.free y hy e with k | k
    · exact I.ok.has _ (.inl k)
    · exact I.ok.has _ (.inr k)
  refine wpAny_comprehension_free (use := use) rfl hs (closure_ok hfree) ok.kind (fun y hy e => by rw [ok.uniq y hy, e])
    (thn (hi pins s σ H _ I h) fun xv s1 hx => thn hx fun itv s2 h2 => ?_)
  obtain ⟨it, fp, tn, J, H2, e, I2, T, st2, f2, q⟩ := h2
  subst e
  refine wpAny_newObj_type (newEnv_comp ?_) (by show 0 ≤ sizeLine; decide)
  generalize hD : s2.heap.objs.size = D
  have hDn : H2 D = none := I2.hok.fresh (Nat.le_of_eq hD)
  obtain ⟨W, ⟨m0, w0⟩, turn⟩ := q D hDn
  -- the new list
  generalize hs3 : ({ s2 with heap := s2.heap.push { cls := .type "list", data := .seq ([] : List Value).toArray } } : Shared) = s3
  have I3 : Inv X pins σ (upd H2 D (.lst [])) s3 := by
    rw [← hs3]
    refine I2.laid (t' := s2.toks) (fun b o e => Heap.get?_push_of_some _ e) (Nat.le_of_eq hD) ⟨Nat.zero_le _, [], 0, .nil, ?_⟩
    rw [← hD]
    exact Heap.get?_push_size _ rfl
  have h3 : s3.heap = s2.heap.push { cls := .type "list", data := .seq ([] : List Value).toArray } := by rw [← hs3]
  have sz : ∀ b ∈ fp, b < s2.heap.objs.size := fun b hb => by
    obtain ⟨o, e, _⟩ := T.obj _ _ st2 b hb
    exact Heap.lt_size e
  have f3 : ∀ b ∈ fp, FpOk X pins (upd H2 D (.lst [])) b ∧ b < s3.heap.objs.size := fun b hb => by
    have hlt := sz b hb
    refine ⟨⟨?_, (f2 b hb).2⟩, by rw [h3, Heap.size_push]; exact Nat.lt_succ_of_lt hlt⟩
    rw [upd_ne (by rw [← hD]; exact Nat.ne_of_lt hlt)]
    exact (f2 b hb).1
  have st3 : tn 0 s3.heap := T.keep _ _ _ st2 fun b _ o e => by rw [h3]; exact Heap.get?_push_of_some _ e
  have I4 := block_start I3 ok hN f3
  have pg := hg s3 (upd H2 D (.lst [])) s3.heap.objs.size (cellsFrom (s3.heap.objs.size + 1) scope.names (cloFrom X.env.cells scope.names [])) fp
  have pt := ht s3 (upd H2 D (.lst [])) s3.heap.objs.size (cellsFrom (s3.heap.objs.size + 1) scope.names (cloFrom X.env.cells scope.names [])) fp
  have pe := he s3 (upd H2 D (.lst [])) s3.heap.objs.size (cellsFrom (s3.heap.objs.size + 1) scope.names (cloFrom X.env.cells scope.names [])) fp
  show codeAny _ _ (.compStart (.ListComp elt [⟨tg, iter, ifs, 0⟩] scope pos) 0 (.ref it) (.ref D) (compEnvC scope (cellsFrom (s3.heap.objs.size + 1) scope.names (cloFrom X.env.cells scope.names [])) s3.heap.objs.size X.env)) (compPost (model X.prog X.w) X.A X.xe use Qf (.ref D) s3.heap.objs.size) { s3 with heap := pushCells (s3.heap.push { cls := .type "dict", data := .dict #[] }) scope.names }
  have nfp : ∀ b ∈ fp, (upd H2 D (.lst [])) b = none := fun b hb => (f3 b hb).1.1
  generalize hce : compEnvC scope (cellsFrom (s3.heap.objs.size + 1) scope.names (cloFrom X.env.cells scope.names [])) s3.heap.objs.size X.env = ce at I4 pg pt pe ⊢
  have cL : ce.locals = s3.heap.objs.size := by subst hce; rfl
  generalize hH3 : upd H2 D (.lst []) = H3 at I3 I4 pg pt pe w0 nfp f3
  generalize hs4 : ({ s3 with heap := pushCells (s3.heap.push { cls := .type "dict", data := .dict #[] }) scope.names } : Shared) = s4 at I4 ⊢
  have st4 : tn 0 s4.heap := T.keep _ _ _ st3 fun b _ o e => by rw [← hs4]; exact pushCells_keeps _ _ _ _ (Heap.get?_push_of_some _ e)
  have stat : ∀ {σ' : St} {H' : Hp} {s' : Shared}, Inv (X.blk s3 H3 scope ce fp) [] σ' H' s' → (∀ b ∈ fp, H' b = none) → ∀ b ∈ fp, FpOk (X.blk s3 H3 scope ce fp) [] H' b := fun {σ' H' s'} I' hn b hb =>
    ⟨hn b hb, (I'.ok.exf b hb).1, I'.ok.exfs b hb, .inl hb, fun x c e => (I'.ok.exf b hb).2 x c e, fun p hp => absurd (show p ∈ ([] : List (Addr × Obj)) ++ [] from hp) (by simp)⟩
  have loop : codeAny (model X.prog X.w) X.A (.compLoop (.ListComp elt [⟨tg, iter, ifs, 0⟩] scope pos) 0 (.ref it) (.ref D) ce) (compPost (model X.prog X.w) X.A X.xe use Qf (.ref D) s3.heap.objs.size) s4 := by
    refine compLoop_any (fun n s' => ∃ i H', Inv (X.blk s3 H3 scope ce fp) [] (wipe σ (own.map (·.2))) H' s' ∧ tn i s'.heap ∧ (∀ b ∈ fp, H' b = none) ∧ W i n H') ?_ m0 ⟨0, H3, I4, st4, nfp, w0⟩
    rintro n s5 ⟨i, H5, I5, st5, n5, w5⟩
    rcases turn i n H5 w5 with ⟨stop, qq⟩ | ⟨go, Nx, hNx, step⟩
    · have td := T.done (X.blk s3 H3 scope ce fp) rfl rfl rfl hc i [] s5 _ H5 (fun _ _ => False) I5 (stat I5 n5) st5 stop
      refine thnF td fun r s6 ⟨hr, I6⟩ => ?_
      subst hr
      -- back in the def's context
      have I7 : Inv X pins σ H5 s6 := I3.call' (ch := fp) I6.os I6.base I6.hok I6.bare fun b hb => ⟨(f3 b hb).1.2.2.2.1, (f3 b hb).1.2.1, (f3 b hb).1.2.2.2.2.1, (f3 b hb).1.2.2.2.2.2⟩
      have nC : H5 s3.heap.objs.size = none := by
        have z : H5 ce.locals = none := I6.free
        rw [cL] at z
        exact z
      obtain ⟨m, hn, _⟩ := I6.loc
      have hn : s6.heap.Ns ce.locals m := hn
      rw [cL] at hn
      exact hRR D s3.heap.objs.size s6 m H5 I7 qq hn (I3.fpOk (Nat.le_refl _) nC)
    · have ti := T.item (X.blk s3 H3 scope ce fp) rfl rfl rfl hc i [] s5 _ H5 (fun _ _ => False) I5 (stat I5 n5) st5 go
      refine thnF ti fun r s6 ⟨u, hr, h6⟩ => ?_
      subst hr
      refine thnF h6 fun _ s7 ⟨x, H7, I7, r7, y7, st7, n7⟩ => ?_
      have I7' := I7.pinned (stat I7 n7) (T.obj _ _ st7)
      refine thnF (pg _ s7 _ H7 x u _ I7' r7 (step x H7 y7)) fun _ s8 ⟨σ8, H8, I8, hw8, q8⟩ => ?_
      refine thnF (pt _ s8 σ8 H8 _ I8 q8) fun b s9 ⟨H9, I9, q9⟩ => ?_
      -- the turn's end
      have fin : ∀ {s' : Shared} {H' : Hp}, Inv (X.blk s3 H3 scope ce fp) ([] ++ pinsAt fp s7.heap) σ8 H' s' → Nx H' → ∃ m, m < n ∧ ∃ i H', Inv (X.blk s3 H3 scope ce fp) [] (wipe σ (own.map (·.2))) H' s' ∧ tn i s'.heap ∧ (∀ b ∈ fp, H' b = none) ∧ W i m H' := fun {s' H'} I' nx => by
        obtain ⟨m', hm, w'⟩ := hNx H' nx
        have pin' : ∀ b ∈ fp, ∀ o, s7.heap.get? b = some o → s'.heap.get? b = some o ∧ H' b = none := fun b hb o e =>
          let z := I'.pin (b, o) (List.mem_append_right _ (List.mem_append_right _ (mem_pinsAt hb e)))
          ⟨z.1, z.2.1⟩
        have hl : (wipe σ (own.map (·.2))).length = σ8.length := by rw [← hw8, wipe_length]
        refine ⟨m', hm, i + 1, H', (I'.unpinned (pins := [])).weak hl (fun j v e => ?_), T.keep _ _ _ st7 fun b hb o e => (pin' b hb o e).1, fun b hb => ?_, w'⟩
        · rw [← hw8] at e
          exact (wipe_some e).1
        · obtain ⟨o, e, _⟩ := T.obj _ _ st7 b hb
          exact (pin' b hb o e).2
      cases b with
      | false =>
        simp only [Bool.false_eq_true, if_false] at q9 ⊢
        exact fin I9 q9
      | true =>
        simp only [if_true] at q9 ⊢
        refine thnF (pe _ s9 σ8 H9 _ I9 q9) fun z s10 ⟨yv, H10, I10, r10, acc, hD10, hz10, nx⟩ => ?_
        exact app_ok (X := X.blk s3 H3 scope ce fp) I10 hD10 hz10 r10 fun s11 I11 => fin I11 nx
  exact codeAny_compStart_list loop (T.self X.A 0 _ _ _ st4 loop)
/-- as a value -/
theorem pe_lc {elt tg iter : Expr} {ifs : List Expr} {scope : Scope} {own : List (Str × Nat)} {pos : Pos} {wi : TI} {g : TG} {tt : TT} {te : TE} (hc : X.calm = true) (hN : X.N.Nodup) (hi : PI X tg iter wi) (ok : BlkOk X.N X.env.scope scope own)
    (hg : ∀ (s : Shared) (H : Hp) (C : Addr) (cl : List (Str × Addr)) (fp : List Addr), PG (X.blk s H scope (compEnvC scope cl C X.env) fp) tg g) (ht : ∀ (s : Shared) (H : Hp) (C : Addr) (cl : List (Str × Addr)) (fp : List Addr), PTs (X.blk s H scope (compEnvC scope cl C X.env) fp) ifs tt)
    (he : ∀ (s : Shared) (H : Hp) (C : Addr) (cl : List (Str × Addr)) (fp : List Addr), PE (X.blk s H scope (compEnvC scope cl C X.env) fp) elt te) (hs : ∀ x, foldedSetIterable iter X.env x = pure x := by intro _; rfl) :
    PE X (.ListComp elt [⟨tg, iter, ifs, 0⟩] scope pos) (tLc wi g tt te (own.map (·.2))) := by
  intro pins s σ H Q I h
  rw [eval_ListComp]
  refine lc_core hc hN I hi ok hg ht he hs h fun D C s' m H' I' q hn f => ⟨m, hn, fun h'' sb => ?_⟩
  obtain ⟨f0, f1, f2, f3, f4, f5⟩ := f
  exact ⟨.ref D, H', I'.turned (t' := s'.toks) (fun b o hb e => (sb.2 b hb).trans e) f0 f1 f3 f4 f5, rfl, q⟩
/-- name = [..] on one line, the name a local -/
theorem ps_setLc {i : Nat} {y : Str} {py : Pos} {elt tg iter : Expr} {ifs : List Expr} {scope : Scope} {own : List (Str × Nat)} {pos spos : Pos} {wi : TI} {g : TG} {tt : TT} {te : TE} (hc : X.calm = true) (hN : X.N.Nodup) (hy : X.N[i]? = some y) (hyl : X.env.scope.names.lookup y = some .local)
    (hsw : swapsWith (.ListComp elt [⟨tg, iter, ifs, 0⟩] scope pos) (some (.Name y py)) spos.line X.env = pure true) (hi : PI X tg iter wi) (ok : BlkOk X.N X.env.scope scope own)
    (hg : ∀ (s : Shared) (H : Hp) (C : Addr) (cl : List (Str × Addr)) (fp : List Addr), PG (X.blk s H scope (compEnvC scope cl C X.env) fp) tg g) (ht : ∀ (s : Shared) (H : Hp) (C : Addr) (cl : List (Str × Addr)) (fp : List Addr), PTs (X.blk s H scope (compEnvC scope cl C X.env) fp) ifs tt)
    (he : ∀ (s : Shared) (H : Hp) (C : Addr) (cl : List (Str × Addr)) (fp : List Addr), PE (X.blk s H scope (compEnvC scope cl C X.env) fp) elt te) (hs : ∀ x, foldedSetIterable iter X.env x = pure x := by intro _; rfl) :
    PS X (.Assign [.Name y py] (.ListComp elt [⟨tg, iter, ifs, 0⟩] scope pos) spos) (tAsg (tLc wi g tt te (own.map (·.2))) (gName i)) := by
  intro pins s σ H D I h
  rw [exec_Assign_Name_used _ _ _ _ hsw]
  refine wpAny_bind (wpAny_standAt (wpAny_bind ?_))
  show wpAny _ X.A (do let _ ← comprehension (.ListComp elt [⟨tg, iter, ifs, 0⟩] scope pos) scope X.env (firstIterPos [⟨tg, iter, ifs, 0⟩] pos) (newList []) false (eval iter X.env) (some (assign (.Name y py) X.env))) _ _ s
  have h : tLc wi g tt te (own.map (·.2)) σ H (fun x H1 => gName i x σ H1 D.nx) := h
  refine wpAny_bind (thn (lc_core (Qf := fun _ s' => SP X pins D .next s') hc hN I hi ok hg ht he hs h fun L C s' m H' I' q hn f => ?_) fun _ s' hq => wpAny_pure (wpAny_pure hq))
  show wpAny _ _ (assign (.Name y py) X.env (.ref L)) _ _ _
  refine wpAny_assign_Name (store_ok2 (v := V.ref L) I' hN hy (.inl hyl) rfl (fun s2 I2 ⟨a, sb, ha⟩ => ?_) (.inr hyl))
  obtain ⟨f0, f1, f2, f3, f4, f5⟩ := f
  have haC : C ≠ a := by
    rcases ha with z | z
    · rw [z]; exact f1
    · exact fun e => f4 y a z e.symm
  refine ⟨m, hn.sameBut sb haC, fun h3 sb3 => ?_⟩
  exact ⟨_, H', I2.turned (t' := s2.toks) (fun b o hb e => (sb3.2 b hb).trans e) f0 f1 f3 f4 f5, q⟩
theorem sw_true {elt : Expr} {gs : List Comprehension} {scope : Scope} {pos py : Pos} {y : Str} {l : Nat} {env : Env} (hk : env.scope.kind = .function) (hy : env.scope.names.lookup y = some .local) (hl : (py.line == pos.line) = true)
    (ha : (scope.names.any fun (n, k) => n == y && (k == .local || k == .cell)) = false) : swapsWith (.ListComp elt gs scope pos) (some (.Name y py)) l env = pure true := by
  have ky : env.kindOf y = some .local := hy
  have hb : env.blockKind = .function := by unfold Env.blockKind; rw [hk]; rfl
  unfold swapsWith
  simp only [hb, ky, ha, Expr.pos, hl]
  rfl
end
/-! ### the forms one uses -/
/-- over a list that the block leaves as it is -/
theorem lc_list {K : PySem.W.Frag} {a : Addr} {xs : List V} {g : TG} {tt : TT} {te : TE} {vs : List Nat} {σ : St} {H1 : Hp} {D : Addr} {Qd : Hp → Prop} (Pv : Nat → Hp → Prop) (h0 : Pv 0 (upd H1 D (.lst []))) (hl : ∀ i H, i ≤ xs.length → Pv i H → SqL K H a xs)
    (hs : ∀ i x H, xs[i]? = some x → Pv i H → g x (wipe σ vs) H fun σ2 H2 => wipe σ2 vs = wipe σ vs ∧ tt σ2 H2 fun b H3 =>
      if b = true then te σ2 H3 fun y H4 => ∃ acc, H4 D = some (.lst acc) ∧ acc.length < sizeLine ∧ Pv (i + 1) (upd H4 D (.lst (acc ++ [y]))) else Pv (i + 1) H3) (hd : ∀ H, Pv xs.length H → Qd H) :
    ∃ W : Nat → Nat → Hp → Prop, (∃ m, W 0 m (upd H1 D (.lst []))) ∧ ∀ i m H, W i m H →
      ((Itl K a).stop i H ∧ Qd H) ∨ ((Itl K a).go i H ∧ ∃ Nx : Hp → Prop, (∀ H', Nx H' → ∃ m', m' < m ∧ W (i + 1) m' H') ∧ ∀ x H', (Itl K a).yld i H x H' → g x (wipe σ vs) H' fun σ2 H2 => wipe σ2 vs = wipe σ vs ∧ tt σ2 H2 fun b H3 =>
        if b = true then te σ2 H3 fun y H4 => ∃ acc, H4 D = some (.lst acc) ∧ acc.length < sizeLine ∧ Nx (upd H4 D (.lst (acc ++ [y]))) else Nx H3) := by
  refine ⟨fun i m H => m = xs.length - i ∧ i ≤ xs.length ∧ Pv i H, ⟨xs.length, by simp, Nat.zero_le _, h0⟩, ?_⟩
  rintro i m H ⟨rfl, hi, p⟩
  have q := hl i H hi p
  by_cases hlt : i < xs.length
  · refine .inr ⟨⟨xs, xs[i], q, by simp [hlt]⟩, Pv (i + 1), fun H' p' => ⟨xs.length - (i + 1), by omega, rfl, hlt, p'⟩, fun x H' y => ?_⟩
    obtain ⟨e, y⟩ := y
    subst e
    exact hs i x _ (y xs q) p
  · have e : i = xs.length := by omega
    subst e
    exact .inl ⟨⟨xs, q, Nat.le_refl _⟩, hd H p⟩
def blkC (N : List Str) (sc scope : Scope) (own : List (Str × Nat)) : Bool :=
  (match scope.kind with | .function => true | _ => false) && (scope.names.all fun y => decide (scope.names.lookup y.1 = some y.2)) && (own.all fun p => decide (N[p.2]? = some p.1)) &&
    (scope.names.all fun y => match y.2 with
      | .free => (match sc.names.lookup y.1 with | some .cell => true | some .free => true | _ => false)
      | .local => decide (y.1 ∈ own.map (·.1)) || decide (y.1 ∉ N)
      | .cell => decide (y.1 ∈ own.map (·.1)) || decide (y.1 ∉ N)
      | _ => true)
theorem blkOk_by {N : List Str} {sc scope : Scope} {own : List (Str × Nat)} (h : blkC N sc scope own = true) : BlkOk N sc scope own := by
  unfold blkC at h
  simp only [Bool.and_eq_true, List.all_eq_true, decide_eq_true_eq] at h
  obtain ⟨⟨⟨h1, h2⟩, h3⟩, h4⟩ := h
  refine ⟨?_, h2, h3, fun y hy e => ?_, fun y hy e => ?_⟩
  · split at h1
    · assumption
    · cases h1
  · have q := h4 y hy
    simp only [e] at q
    split at q <;> first | exact .inl (by assumption) | exact .inr (by assumption) | cases q
  · have q := h4 y hy
    rcases e with e | e <;> (simp only [e, Bool.or_eq_true, decide_eq_true_eq] at q; exact q)
end L2
namespace L2
open PySem PySem.Spec PyProof.Rows
section
variable {prog : Program} {w : World} {A : Around} {R : Result → Shared → Prop} {s : Shared} {elt t0 i0 t1 i1 : Expr} {ifs0 ifs1 : List Expr} {scope : Scope} {pos : Pos} {it acc : Value} {env : Env}
end
section
variable {X : Cx}
end
end L2
namespace L2
open PySem PySem.Spec PyProof.Rows
/-! ### lists of pairs as tables -/
section
variable {κ : Type} [DecidableEq κ]
def valV (kvs : List (κ × V)) (k : κ) : Option V := (kvs.find? fun kv => decide (kv.1 = k)).map (·.2)
/-- in its place, or at the end -/
def putK (kvs : List (κ × V)) (k : κ) (v : V) : List (κ × V) :=
  if (kvs.any fun kv => decide (kv.1 = k)) = true then kvs.map (fun kv => if kv.1 = k then (kv.1, v) else kv) else kvs ++ [(k, v)]
theorem valV_pos {p : κ × V} {r : List (κ × V)} {k : κ} (e : p.1 = k) : valV (p :: r) k = some p.2 := by simp [valV, List.find?_cons, e]
theorem valV_neg {p : κ × V} {r : List (κ × V)} {k : κ} (e : ¬ p.1 = k) : valV (p :: r) k = valV r k := by simp [valV, List.find?_cons, e]
theorem valV_any (k : κ) : ∀ kvs : List (κ × V), (kvs.any fun kv => decide (kv.1 = k)) = (valV kvs k).isSome
  | [] => rfl
  | p :: r => by
    rw [List.any_cons]
    by_cases e : p.1 = k
    · simp only [valV_pos e, decide_eq_true e, Bool.true_or, Option.isSome_some]
    · rw [valV_neg e, decide_eq_false e, Bool.false_or]; exact valV_any k r
theorem valV_map (k j : κ) (y : V) : ∀ kvs : List (κ × V), valV (kvs.map fun kv => if kv.1 = k then (kv.1, y) else kv) j = (valV kvs j).map fun x => if j = k then y else x
  | [] => rfl
  | p :: r => by
    have ih := valV_map k j y r
    rw [List.map_cons]
    by_cases h : p.1 = k
    · rw [if_pos h]
      by_cases e : p.1 = j
      · rw [valV_pos (p := (p.1, y)) e, valV_pos e, Option.map_some, if_pos (e.symm.trans h)]
      · rw [valV_neg (p := (p.1, y)) e, valV_neg e, ih]
    · rw [if_neg h]
      by_cases e : p.1 = j
      · rw [valV_pos (p := p) e, valV_pos e, Option.map_some, if_neg (fun z => h (e.trans z))]
      · rw [valV_neg (p := p) e, valV_neg e, ih]
theorem valV_snoc (k j : κ) (y : V) : ∀ kvs : List (κ × V), valV kvs k = none → valV (kvs ++ [(k, y)]) j = if j = k then some y else valV kvs j
  | [], _ => by
    by_cases e : k = j
    · rw [if_pos e.symm]; exact valV_pos (p := (k, y)) e
    · rw [if_neg (fun z => e z.symm)]; exact valV_neg (p := (k, y)) e
  | p :: r, hn => by
    rw [List.cons_append]
    have hk : ¬ p.1 = k := fun z => by rw [valV_pos z] at hn; cases hn
    rw [valV_neg hk] at hn
    have ih := valV_snoc k j y r hn
    by_cases e : p.1 = j
    · rw [valV_pos e, valV_pos e, if_neg (fun z => hk (e.trans z))]
    · rw [valV_neg e, valV_neg e, ih]
theorem valV_put (kvs : List (κ × V)) (k j : κ) (y : V) : valV (putK kvs k y) j = if j = k then some y else valV kvs j := by
  unfold putK
  by_cases a : (kvs.any fun kv => decide (kv.1 = k)) = true
  · rw [if_pos a, valV_map]
    rw [valV_any] at a
    by_cases e : j = k
    · obtain ⟨x, hx⟩ := Option.isSome_iff_exists.mp a
      rw [if_pos e, e, hx, Option.map_some, if_pos rfl]
    · rw [if_neg e]
      cases valV kvs j with
      | none => rfl
      | some x => rw [Option.map_some, if_neg e]
  · rw [if_neg a]
    refine valV_snoc k j y kvs ?_
    rw [valV_any] at a
    cases q : valV kvs k with
    | none => rfl
    | some x => rw [q] at a; exact (a rfl).elim
theorem length_putK (kvs : List (κ × V)) (k : κ) (v : V) : (putK kvs k v).length ≤ kvs.length + 1 := by
  unfold putK
  split
  · rw [List.length_map]; omega
  · rw [List.length_append, List.length_cons, List.length_nil]; omega
theorem putK_new {kvs : List (κ × V)} {k : κ} (v : V) (h : valV kvs k = none) : putK kvs k v = kvs ++ [(k, v)] := by
  unfold putK
  rw [valV_any, h]
  exact if_neg (by decide)
theorem RelO.isSome_eq {o : Option V} {u : Option Value} (r : RelO o u) : o.isSome = u.isSome := by
  cases o with
  | none => cases u with
    | none => rfl
    | some _ => exact (show False from r).elim
  | some _ => cases u with
    | none => exact (show False from r).elim
    | some _ => rfl
theorem RelO.getD {o : Option V} {u : Option Value} {d : V} {d' : Value} (r : RelO o u) (rd : RelV d d') : RelV (o.getD d) (u.getD d') := by
  cases o with
  | none => cases u with
    | none => exact rd
    | some _ => exact (show False from r).elim
  | some _ => cases u with
    | none => exact (show False from r).elim
    | some _ => exact r
/-- raw tables of the same keys -/
theorem KV.val {kvs : List (κ × V)} {vs : List (κ × Value)} (r : KV kvs vs) (k : κ) : RelO (valV kvs k) (valueAt vs k) := by
  unfold KV at r
  induction r with
  | nil => exact True.intro
  | @cons p q ps qs h t ih =>
    obtain ⟨h1, h2⟩ := h
    by_cases e : p.1 = k
    · have e' : q.1 = k := h1.symm.trans e
      have b : valueAt (q :: qs) k = some q.2 := by simp [valueAt, List.find?_cons, e']
      rw [valV_pos e, b]; exact h2
    · have e' : ¬ q.1 = k := fun z => e (h1.trans z)
      have b : valueAt (q :: qs) k = valueAt qs k := by simp [valueAt, List.find?_cons, e']
      rw [valV_neg e, b]; exact ih
theorem KV.any {kvs : List (κ × V)} {vs : List (κ × Value)} (r : KV kvs vs) (k : κ) : (kvs.any fun kv => decide (kv.1 = k)) = vs.any fun kv => decide (kv.1 = k) := by
  unfold KV at r
  induction r with
  | nil => rfl
  | cons h t ih => rw [List.any_cons, List.any_cons, ih, h.1]
theorem KV.repl {kvs : List (κ × V)} {vs : List (κ × Value)} (r : KV kvs vs) (k : κ) {y : V} {u : Value} (ry : RelV y u) :
    KV (kvs.map fun kv => if kv.1 = k then (kv.1, y) else kv) (vs.map fun kv => if kv.1 = k then (kv.1, u) else kv) := by
  unfold KV at r ⊢
  induction r with
  | nil => exact .nil
  | @cons p q ps qs h t ih =>
    rw [List.map_cons, List.map_cons]
    refine .cons ?_ ih
    obtain ⟨h1, h2⟩ := h
    by_cases e : p.1 = k
    · rw [if_pos e, if_pos (h1.symm.trans e)]; exact ⟨h1, ry⟩
    · rw [if_neg e, if_neg (fun z => e (h1.trans z))]; exact ⟨h1, h2⟩
theorem KV.put {kvs : List (κ × V)} {vs : List (κ × Value)} (r : KV kvs vs) (k : κ) {y : V} {u : Value} (ry : RelV y u) : KV (putK kvs k y) (stored vs k u) := by
  unfold putK stored
  rw [r.any k]
  by_cases e : (vs.any fun kv => decide (kv.1 = k)) = true
  · rw [if_pos e, if_pos e]; exact r.repl k ry
  · rw [if_neg e, if_neg e]; exact Paired.snoc r ⟨rfl, ry⟩
theorem KV.length {kvs : List (κ × V)} {vs : List (κ × Value)} (r : KV kvs vs) : kvs.length = vs.length := Paired.length r
end
/-! ### a tracked dict, its keys ints and texts or tuples of these -/
theorem kV_is {P : Program} {w : World} {k : Key} {u : Value} (r : RelV (kV k) u) : (mixKind P w).is k u = true := by
  cases k with
  | inl i => obtain ⟨t, e⟩ := (show ∃ t, u = Value.int i t from r); subst e; exact mixKind_int P w i t
  | inr x => obtain ⟨t, e⟩ := (show ∃ t, u = Value.str x t from r); subst e; exact mixKind_str P w x t
theorem items_are {P : Program} {w : World} : ∀ {ks : List Key} {us : List Value}, Vals (ks.map kV) us → ItemsAre (mixKind P w) ks us
  | [], _, r => by rw [List.map_nil] at r; cases r; exact .nil
  | k :: ks, _, r => by
    rw [List.map_cons] at r
    cases r with
    | cons h t => exact .cons (kV_is h) (items_are t)
/-- raw entries of a dict with tuple keys -/
abbrev KT (H : Hp) : List (List Key × V) → List (List Key × Addr × Value) → Prop := Paired fun p q => p.1 = q.1 ∧ H q.2.1 = some (.tup (p.1.map kV)) ∧ RelV p.2 q.2.2
theorem KT.val {H : Hp} {kvs : List (List Key × V)} {xs : List (List Key × Addr × Value)} (r : KT H kvs xs) (k : List Key) : RelO (valV kvs k) ((atKey xs k).map (·.2)) := by
  induction r with
  | nil => exact True.intro
  | @cons p q ps qs h t ih =>
    obtain ⟨h1, _, h2⟩ := h
    by_cases e : p.1 = k
    · have e' : q.1 = k := h1.symm.trans e
      have b : atKey (q :: qs) k = some q.2 := by simp [atKey, List.find?_cons, e']
      rw [valV_pos e, b]; exact h2
    · have e' : ¬ q.1 = k := fun z => e (h1.trans z)
      have b : atKey (q :: qs) k = atKey qs k := by simp [atKey, List.find?_cons, e']
      rw [valV_neg e, b]; exact ih
theorem KT.repl {H : Hp} {kvs : List (List Key × V)} {xs : List (List Key × Addr × Value)} (r : KT H kvs xs) (k : List Key) {y : V} {u : Value} (ry : RelV y u) :
    KT H (kvs.map fun kv => if kv.1 = k then (kv.1, y) else kv) (xs.map (putAt k u)) := by
  induction r with
  | nil => exact .nil
  | @cons p q ps qs h t ih =>
    rw [List.map_cons, List.map_cons]
    refine .cons ?_ ih
    obtain ⟨h1, h2, h3⟩ := h
    unfold putAt
    by_cases e : p.1 = k
    · rw [if_pos e, if_pos (h1.symm.trans e)]; exact ⟨h1, h2, ry⟩
    · rw [if_neg e, if_neg (fun z => e (h1.trans z))]; exact ⟨h1, h2, h3⟩
theorem KT.put {H : Hp} {kvs : List (List Key × V)} {xs : List (List Key × Addr × Value)} (r : KT H kvs xs) (k : List Key) {b : Addr} {y : V} {u : Value} (hb : H b = some (.tup (k.map kV))) (ry : RelV y u) :
    KT H (putK kvs k y) (storedH xs k b u) := by
  have e : (kvs.any fun kv => decide (kv.1 = k)) = (atKey xs k).isSome := by
    rw [valV_any, (r.val k).isSome_eq, Option.isSome_map]
  unfold putK storedH
  rw [e]
  by_cases q : (atKey xs k).isSome = true
  · rw [if_pos q, if_pos q]; exact r.repl k ry
  · rw [if_neg q, if_neg q]; exact Paired.snoc r ⟨rfl, hb, ry⟩
theorem KT.keeps {H H' : Hp} {kvs : List (List Key × V)} {xs : List (List Key × Addr × Value)} (r : KT H kvs xs) (ht : ∀ b ys, H b = some (.tup ys) → H' b = some (.tup ys)) : KT H' kvs xs :=
  Paired.mapP r fun _ _ z => ⟨z.1, ht _ _ z.2.1, z.2.2⟩
section
variable {P : Program} {w : World} {H : Hp} {h : Heap} {a : Addr}
theorem rd_of {u : HO} (ok : HOk P w H h) (e : Rd H a u) : ObjOk P w H h a u := e.ok ok
theorem dk_rd {kvs : List (Key × V)} (ok : HOk P w H h) (e : Rd H a (.dK kvs)) : kvs.length ≤ sizeLine ∧ (a == sysModules) = false ∧ ∃ vs, KV kvs vs ∧ h.DictOf (mixKind P w) a vs :=
  show ObjOk P w H h a (.dK kvs) from rd_of ok e
theorem dk_of {kvs : List (Key × V)} (ok : HOk P w H h) (e : H a = some (.dK kvs)) : kvs.length ≤ sizeLine ∧ (a == sysModules) = false ∧ ∃ vs, KV kvs vs ∧ h.DictOf (mixKind P w) a vs := dk_rd ok (.inl e)
/-- a tracked tuple of ints and texts is a key -/
theorem key_of {ks : List Key} (ok : HOk P w H h) (e : H a = some (.tup (ks.map kV))) : (tupleKind (mixKind P w)).is h ks a := by
  obtain ⟨_, its, r, o, h1, h2, n, h3⟩ := (show ObjOk P w H h a (.tup (ks.map kV)) from ok a _ e)
  exact ⟨o, its.toArray, n, h1, h2, h3, by simpa using items_are r⟩
theorem dt_rd {kvs : List (List Key × V)} (ok : HOk P w H h) (e : Rd H a (.dT kvs)) : kvs.length ≤ sizeLine ∧ (a == sysModules) = false ∧
    ∃ xs, KT H kvs xs ∧ h.DictOfH (tupleKind (mixKind P w)) a xs := by
  obtain ⟨z, y, xs, r, o, es, ep, h1, h2, h3, h4, h5⟩ := (show ObjOk P w H h a (.dT kvs) from rd_of ok e)
  refine ⟨z, y, xs, r, o, es, ep, h1, h2, h3, h4, fun x hx => ?_, h5⟩
  have all : ∀ {l : List (List Key × V)} {m : List (List Key × Addr × Value)}, KT H l m → ∀ x ∈ m, (tupleKind (mixKind P w)).is h x.1 x.2.1 := by
    intro l m q
    induction q with
    | nil => intro x hx; exact nomatch hx
    | @cons p q ps qs hq t ih =>
      intro x hx
      rcases List.mem_cons.mp hx with e | hx
      · subst e
        exact key_of ok (by rw [← hq.1]; exact hq.2.1)
      · exact ih x hx
  exact all r x hx
theorem dt_of {kvs : List (List Key × V)} (ok : HOk P w H h) (e : H a = some (.dT kvs)) : kvs.length ≤ sizeLine ∧ (a == sysModules) = false ∧
    ∃ xs, KT H kvs xs ∧ h.DictOfH (tupleKind (mixKind P w)) a xs := dt_rd ok (.inl e)
end
/-- what the dict at a holds at the key y -/
def DGet (H : Hp) (a : Addr) (y : V) (r : Option V) : Prop :=
  (∃ kvs k, Rd H a (.dK kvs) ∧ y = kV k ∧ r = valV kvs k) ∨ ∃ kvs k b, Rd H a (.dT kvs) ∧ y = .ref b ∧ H b = some (.tup (k.map kV)) ∧ r = valV kvs k
/-- the heap behind a[y] = v -/
def DPut (H : Hp) (a : Addr) (y v : V) (H' : Hp) : Prop :=
  (∃ kvs k, H a = some (.dK kvs) ∧ y = kV k ∧ kvs.length < sizeLine ∧ H' = upd H a (.dK (putK kvs k v))) ∨
  ∃ kvs k b, H a = some (.dT kvs) ∧ y = .ref b ∧ H b = some (.tup (k.map kV)) ∧ kvs.length < sizeLine ∧ H' = upd H a (.dT (putK kvs k v))
theorem DGet.k {H : Hp} {a : Addr} {kvs : List (Key × V)} {k : Key} (e : H a = some (.dK kvs)) : DGet H a (kV k) (valV kvs k) := .inl ⟨kvs, k, .inl e, rfl, rfl⟩
theorem DPut.k {H : Hp} {a : Addr} {kvs : List (Key × V)} {k : Key} {v : V} (e : H a = some (.dK kvs)) (hl : kvs.length < sizeLine) : DPut H a (kV k) v (upd H a (.dK (putK kvs k v))) := .inl ⟨kvs, k, e, rfl, hl, rfl⟩
section
variable {X : Cx} {pins : List (Addr × Obj)} {σ : St} {H : Hp} {s : Shared} {a : Addr} {y v : V} {u r : Value} {o : Option V} {A : Around} {E : Value → Shared → Prop}
theorem Inv.big (I : Inv X pins σ H s) : sysModules < s.heap.objs.size := by
  have h : mainGlobals < s.heap.objs.size := (I.mod.glob.keeps I.bk).lt
  exact Nat.lt_trans (by decide) h
/-- y in d -/
theorem d_in {Q : Value → Shared → Prop} (hu : A.units + 1 < cLine) (I : Inv X pins σ H s) (g : DGet H a y o) (ry : RelV y u) (h : ∀ s', Inv X pins σ H s' → Q (.bool o.isSome) s') :
    wpAny (model X.prog X.w) A (compareOp .In u (.ref a)) Q E s := by
  rcases g with ⟨kvs, k, e, ey, l⟩ | ⟨kvs, k, b, e, ey, eb, l⟩
  · subst ey
    obtain ⟨z, hd, vs, rel, dd⟩ := dk_rd I.hok e
    refine wpAny_in_of (kV_is ry) hd dd.mapOf ?_
    rw [← (rel.val k).isSome_eq, ← l]
    exact h _ (I.tok _)
  · subst ey
    cases (show u = Value.ref b from ry)
    obtain ⟨z, hd, xs, rel, dd⟩ := dt_rd I.hok e
    refine wpAny_in_heap (tupleKind_room_in1 hu) (key_of I.hok eb) hd dd ?_
    have q := (rel.val k).isSome_eq
    rw [Option.isSome_map] at q
    rw [← q, ← l]
    exact h _ (I.tok _)
/-- a dict's object is replaced -/
theorem d_write {h' : Heap} {t' : Nat} {ob : HO} (I : Inv X pins σ H s) (mu : Mut (H a)) (hs : Heap.SameBut a s.heap h') (he : ∃ q, h'.get? a = some q) (new : ObjOk X.prog X.w (upd H a ob) h' a ob) :
    Inv X pins σ (upd H a ob) { s with heap := h', toks := t' } :=
  I.write (x := a) (e := a) mu (.inl rfl) (fun b q hb z => (hs.2 b hb).trans z) he new
theorem dk_new {P : Program} {w : World} {H' : Hp} {h' : Heap} {kvs : List (Key × V)} {vs : List (Key × Value)} (z : kvs.length ≤ sizeLine) (hd : (a == sysModules) = false) (rel : KV kvs vs) (dd : h'.DictOf (mixKind P w) a vs) :
    ObjOk P w H' h' a (.dK kvs) := ⟨z, hd, vs, rel, dd⟩
/-- d[y] = v -/
theorem d_setItem {H' : Hp} {Q : Unit → Shared → Prop} (hu : A.units + 1 < cLine) (I : Inv X pins σ H s) (g : DPut H a y v H') (ry : RelV y u) (rv : RelV v r) (h : ∀ s', Inv X pins σ H' s' → Q () s') :
    wpAny (model X.prog X.w) A (setItem (.ref a) u r) Q E s := by
  rcases g with ⟨kvs, k, e, ey, l, eH⟩ | ⟨kvs, k, b, e, ey, eb, l, eH⟩
  · subst ey eH
    obtain ⟨z, hd, vs, rel, dd⟩ := dk_of I.hok e
    have hz : vs.length ≤ sizeLine := by rw [← rel.length]; exact z
    have hl : (putK kvs k v).length ≤ sizeLine := by have := length_putK kvs k v; omega
    refine wpAny_setItem_pairs (hsz := hz) (kV_is ry) dd fun h' dd' hs => h _ ?_
    have he : ∃ q, h'.get? a = some q := let ⟨q, _, _, hq, _⟩ := dd'; ⟨q, hq⟩
    exact d_write I (by rw [e]; exact True.intro) hs he (dk_new hl hd (rel.put k rv) dd')
  · subst ey eH
    cases (show u = Value.ref b from ry)
    obtain ⟨z, hd, xs, rel, dd⟩ := dt_of I.hok e
    have hz : xs.length ≤ sizeLine := by rw [← Paired.length rel]; exact z
    have hl : (putK kvs k v).length ≤ sizeLine := by have := length_putK kvs k v; omega
    refine wpAny_setItem_heap (hsz := hz) (tupleKind_room_in1 hu) (key_of I.hok eb) dd fun h' dd' hs => h _ ?_
    obtain ⟨q, es, ep, hq, h2, h3, h4, _, h5⟩ := dd'
    refine d_write I (by rw [e]; exact True.intro) hs ⟨q, hq⟩ ⟨hl, hd, _, (rel.put k eb rv).keeps fun c ys ec => ?_, q, es, ep, hq, h2, h3, h4, h5⟩
    rw [upd_ne (ne_of ec e (fun z => nomatch z))]
    exact ec
end
section
variable {X : Cx} {pins : List (Addr × Obj)} {σ : St} {H : Hp} {s : Shared} {a : Addr} {kvs : List (Key × V)} {k : Key} {u : Value} {A : Around} {E : Value → Shared → Prop}
end
/-! ### readings and rules -/
/-- the element of a subscription, not a slice -/
def NoSl (i : Expr) : Prop := ∀ ov iv, subscripted i false ov iv = operate [ov, iv] (getItem ov iv)
theorem subD_of {prog : Program} {w : World} {A : Around} {E : Value → Shared → Prop} {s : Shared} {env : Env} {value slice : Expr} {pos : Pos} {T id : String} {Q : Value → Shared → Prop}
    (hl : typeLookup (.type T) "__getitem__" = pure (some (.builtin id))) (hs : NoSl slice)
    (h : wpAny (model prog w) A (eval value env) (fun o s₁ => wpAny (model prog w) A (eval slice env) (fun i s₂ => s₂.TypeIs o T ∧ wpAny (model prog w) A (getItem o i) Q E s₂) E s₁) E s) :
    wpAny (model prog w) A (eval (.Subscript value slice pos) env) Q E s := by
  refine Subscript_ (wpAny_mono h (fun o s₁ h₁ => wpAny_mono h₁ (fun i s₂ h₂ => ?_) fun _ _ x => x) fun _ _ x => x)
  obtain ⟨hT, h₂⟩ := h₂
  unfold subscriptTail
  refine wpAny_bind ?_
  rw [getitemInPython_of_ne hT.not_modules]
  refine wpAny_bind (wpAny_specialOf hT hl ?_)
  have fin : wpAny (model prog w) A (subscripted slice false o i) (fun r s₃ => wpAny (model prog w) A (letTemporaryGo value o r >>= fun _ => pure r) Q E s₃) E s₂ := by
    rw [hs o i]
    exact wpAny_operating (wpAny_mono h₂ (fun r s₃ h₃ => wpAny_bind (wpAny_letTemporaryGo (wpAny_pure h₃))) fun _ _ x => x)
  first
    | exact wpAny_pure (wpAny_bind fin)
    | exact wpAny_bind (wpAny_pure (wpAny_bind fin))
    | exact wpAny_bind fin
/-- d[y] = v -/
def sDPut (td ty tv : TE) : TS := fun D σ H => tv σ H fun v H1 => td σ H1 fun x H2 => ty σ H2 fun y H3 => ∃ a H4, x = .ref a ∧ DPut H3 a y v H4 ∧ D.nx σ H4
section
variable {X : Cx} {o i e value : Expr} {pos pos' tpos : Pos} {td ty tv : TE}
theorem ps_dput (hu : X.A.units + 1 < cLine) (ho : PE X o td) (hi : PE X i ty) (hv : PE X value tv) (hs : swapsWith value (some (.Subscript o i pos')) pos.line X.env = pure false) :
    PS X (.Assign [.Subscript o i pos'] value pos) (sDPut td ty tv) := by
  intro pins s σ H D I h
  refine wpAny_Assign_Subscript (thn (hv pins s σ H _ I h) fun r s1 ⟨v, H1, I1, rv, q1⟩ => thn (ho pins s1 σ H1 _ I1 q1) fun u s2 ⟨x, H2, I2, rx, q2⟩ => thn (hi pins s2 σ H2 _ I2 q2) fun iv s3 ⟨y, H3, I3, ry, a, H4, ex, g, q3⟩ => ?_) hs
  subst ex
  obtain rfl : u = Value.ref a := rx
  exact d_setItem hu I3 g ry rv fun s4 I4 => ⟨σ, H4, I4, q3⟩
end
/-! ### displays -/
theorem dk_empty {P : Program} {w : World} {H : Hp} (h : Heap) (hb : sysModules < h.objs.size) : ObjOk P w H (h.push { cls := .type "dict", data := .dict #[] }) h.objs.size (.dK []) :=
  ⟨Nat.zero_le _, beq_eq_false_iff_ne.mpr (Ne.symm (Nat.ne_of_lt hb)), [], .nil, Heap.DictOf.new h⟩
/-- {}, to be a dict of the kind that is wanted -/
def tDNewK : TE := fun _ H Q => ∀ p, H p = none → Q (.ref p) (upd H p (.dK []))
section
variable {X : Cx} {pos : Pos}
theorem pe_dnewK : PE X (.Dict [] [] pos) tDNewK := fun pins s σ H Q I h =>
  wpAny_Dict_empty ⟨.ref s.heap.objs.size, _, I.laid (a := s.heap.objs.size) (o := .dK []) (t' := s.toks) (fun _ _ q => Heap.get?_push_of_some _ q) (Nat.le_refl _) (dk_empty s.heap I.big), rfl, h _ (I.hok.fresh (Nat.le_refl _))⟩
end
def mergeK (kvs more : List (Key × V)) : List (Key × V) := more.foldl (fun acc kv => putK acc kv.1 kv.2) kvs
theorem length_mergeK : ∀ (more kvs : List (Key × V)), (mergeK kvs more).length ≤ kvs.length + more.length
  | [], kvs => by show kvs.length ≤ kvs.length + 0; omega
  | p :: r, kvs => by
    have h1 := length_mergeK r (putK kvs p.1 p.2)
    have h2 := length_putK kvs p.1 p.2
    show (mergeK (putK kvs p.1 p.2) r).length ≤ _
    rw [List.length_cons]; omega
/-! ### methods -/
/-- a method call o.m(e) of a built-in, with one argument: what must be seen of the text -/
structure M1 (X : Cx) (o : Expr) (m : Str) (apos : Pos) (e : Expr) (cpos : Pos) : Prop where
  base : attributeBase o m X.env (eval o X.env) = eval o X.env
  few : ((backTo cpos (starEach [e] X.env)).all (fun x => !x.1) && (backToKw cpos (keywordEach [] X.env)).all (fun x => x.1.isSome)
    && decide (([e] : List Expr).length + ([] : List Keyword).length + (if ([] : List Keyword).isEmpty then 0 else 1) < 30)) = true
  line : (apos.endLine == cpos.line) = true
  trees : backTo cpos (starEach [e] X.env) = [(false, eval e X.env)]
structure M2 (X : Cx) (o : Expr) (m : Str) (apos : Pos) (e f : Expr) (cpos : Pos) : Prop where
  base : attributeBase o m X.env (eval o X.env) = eval o X.env
  few : ((backTo cpos (starEach [e, f] X.env)).all (fun x => !x.1) && (backToKw cpos (keywordEach [] X.env)).all (fun x => x.1.isSome)
    && decide (([e, f] : List Expr).length + ([] : List Keyword).length + (if ([] : List Keyword).isEmpty then 0 else 1) < 30)) = true
  line : (apos.endLine == cpos.line) = true
  trees : backTo cpos (starEach [e, f] X.env) = [(false, eval e X.env), (false, eval f X.env)]
/-- a is a dict, whatever its keys -/
def IsD (H : Hp) (a : Addr) : Prop := (∃ kvs, Rd H a (.dK kvs)) ∨ ∃ kvs, Rd H a (.dT kvs)
theorem isD_at {X : Cx} {pins : List (Addr × Obj)} {σ : St} {H : Hp} {s : Shared} {a : Addr} (I : Inv X pins σ H s) (d : IsD H a) :
    s.TypeIs (.ref a) "dict" ∧ (∀ b, Value.ref a = .ref b → ∃ ob, s.heap.get? b = some ob ∧ ob.dict = none) ∧ (a == sysModules) = false := by
  rcases d with ⟨kvs, e⟩ | ⟨kvs, e⟩
  · obtain ⟨_, hd, vs, _, dd⟩ := dk_rd I.hok e
    refine ⟨dd.typeIs, fun b q => ?_, hd⟩
    cases q
    obtain ⟨ob, _, _, h1, h2, _⟩ := dd
    exact ⟨ob, h1, h2.2.1⟩
  · obtain ⟨_, hd, xs, _, dd⟩ := dt_rd I.hok e
    refine ⟨dd.typeIs, fun b q => ?_, hd⟩
    cases q
    obtain ⟨ob, _, _, h1, h2, _⟩ := dd
    exact ⟨ob, h1, h2.2.1⟩
section
variable {X : Cx} {pins : List (Addr × Obj)} {σ : St} {H : Hp} {s : Shared} {a : Addr} {y d : V} {u r : Value} {o : Option V} {A : Around} {E : Value → Shared → Prop}
/-- d.get(y) -/
theorem d_get1 {Q : Value → Shared → Prop} (hu : A.units + 1 < cLine) (I : Inv X pins σ H s) (g : DGet H a y o) (ry : RelV y u) (h : ∀ w' s', Inv X pins σ H s' → RelV (o.getD .non) w' → Q w' s') :
    wpAny (model X.prog X.w) A (call (.builtin "dict.get") [.ref a, u]) Q E s := by
  rcases g with ⟨kvs, k, e, ey, l⟩ | ⟨kvs, k, b, e, ey, eb, l⟩
  · subst ey
    obtain ⟨z, hd, vs, rel, dd⟩ := dk_rd I.hok e
    refine call_meetsIn PySem.F.slot_dict_get dd.typeIs PySem.F.entry_dict_get (PySem.F.args_dict_get_2 _ _) (meets_dict_get (mixKind X.prog X.w) a (kV_is ry) hd) ⟨_, dd.mapOf, h _ _ (I.tok _) ?_⟩
    rw [l]
    exact (rel.val k).getD rfl
  · subst ey
    cases (show u = Value.ref b from ry)
    obtain ⟨z, hd, xs, rel, dd⟩ := dt_rd I.hok e
    refine call_meetsIn PySem.F.slot_dict_get dd.typeIs PySem.F.entry_dict_get (PySem.F.args_dict_get_2 _ _) (meetsH_dict_get (tupleKind (mixKind X.prog X.w)) a b hd) ⟨tupleKind_room_in1 hu, k, xs, key_of I.hok eb, dd, h _ _ (I.tok _) ?_⟩
    rw [l]
    exact (rel.val k).getD rfl
/-- d.get(y, x) -/
theorem d_get2 {Q : Value → Shared → Prop} (hu : A.units + 1 < cLine) (I : Inv X pins σ H s) (g : DGet H a y o) (ry : RelV y u) (rd : RelV d r) (h : ∀ w' s', Inv X pins σ H s' → RelV (o.getD d) w' → Q w' s') :
    wpAny (model X.prog X.w) A (call (.builtin "dict.get") [.ref a, u, r]) Q E s := by
  rcases g with ⟨kvs, k, e, ey, l⟩ | ⟨kvs, k, b, e, ey, eb, l⟩
  · subst ey
    obtain ⟨z, hd, vs, rel, dd⟩ := dk_rd I.hok e
    refine call_meetsIn PySem.F.slot_dict_get dd.typeIs PySem.F.entry_dict_get (PySem.F.args_dict_get_3 _ _ _) (meets_dict_get_default (mixKind X.prog X.w) a (kV_is ry) hd r) ⟨_, dd.mapOf, h _ _ (I.tok _) ?_⟩
    rw [l]
    exact (rel.val k).getD rd
  · subst ey
    cases (show u = Value.ref b from ry)
    obtain ⟨z, hd, xs, rel, dd⟩ := dt_rd I.hok e
    refine call_meetsIn PySem.F.slot_dict_get dd.typeIs PySem.F.entry_dict_get (PySem.F.args_dict_get_3 _ _ _) (meetsH_dict_get_default (tupleKind (mixKind X.prog X.w)) a b hd r) ⟨tupleKind_room_in1 hu, k, xs, key_of I.hok eb, dd, h _ _ (I.tok _) ?_⟩
    rw [l]
    exact (rel.val k).getD rd
end
def tDGet1 (td ty : TE) : TE := fun σ H Q => td σ H fun x H1 => ∃ a, x = .ref a ∧ IsD H1 a ∧ ty σ H1 fun y H2 => ∃ o, DGet H2 a y o ∧ Q (o.getD .non) H2
def tDGet2 (td ty tx : TE) : TE := fun σ H Q => td σ H fun x H1 => ∃ a, x = .ref a ∧ IsD H1 a ∧ ty σ H1 fun y H2 => tx σ H2 fun z H3 => ∃ o, DGet H3 a y o ∧ Q (o.getD z) H3
section
variable {X : Cx} {o e f : Expr} {apos cpos : Pos} {td ty tx : TE}
theorem pe_dget1 (hu : X.A.units + 1 < cLine) (ho : PE X o td) (he : PE X e ty) (m : M1 X o "get" apos e cpos) : PE X (.Call (.Attribute o "get" apos) [e] [] cpos) (tDGet1 td ty) := by
  intro pins s σ H Q I h
  refine wpAny_Call_method m.base m.few m.line PySem.F.plainAttrs_dict PySem.F.slot_dict_get PySem.F.type_dict_get (thn (ho pins s σ H _ I h) fun u s1 ⟨x, H1, I1, rx, a, ex, d, q1⟩ => ?_)
  subst ex
  obtain rfl : u = Value.ref a := rx
  obtain ⟨t1, t2, _⟩ := isD_at I1 d
  refine ⟨t1, t2, ?_⟩
  rw [m.trees]
  refine Calls.callWith_builtin rfl (Calls.evalArgs_plain (Calls.spliced_cons (thn (he pins s1 σ H1 _ I1 q1) fun iv s2 ⟨y, H2, I2, ry, ov, g, q2⟩ => Calls.spliced_nil ?_)))
  exact d_get1 hu I2 g ry fun w' s3 I3 rw' => ⟨_, H2, I3, rw', q2⟩
theorem pe_dget2 (hu : X.A.units + 1 < cLine) (ho : PE X o td) (he : PE X e ty) (hf : PE X f tx) (m : M2 X o "get" apos e f cpos) : PE X (.Call (.Attribute o "get" apos) [e, f] [] cpos) (tDGet2 td ty tx) := by
  intro pins s σ H Q I h
  refine wpAny_Call_method m.base m.few m.line PySem.F.plainAttrs_dict PySem.F.slot_dict_get PySem.F.type_dict_get (thn (ho pins s σ H _ I h) fun u s1 ⟨x, H1, I1, rx, a, ex, d, q1⟩ => ?_)
  subst ex
  obtain rfl : u = Value.ref a := rx
  obtain ⟨t1, t2, _⟩ := isD_at I1 d
  refine ⟨t1, t2, ?_⟩
  rw [m.trees]
  refine Calls.callWith_builtin rfl (Calls.evalArgs_plain (Calls.spliced_cons (thn (he pins s1 σ H1 _ I1 q1) fun iv s2 ⟨y, H2, I2, ry, q2⟩ =>
    Calls.spliced_cons (thn (hf pins s2 σ H2 _ I2 q2) fun fv s3 ⟨z, H3, I3, rz, ov, g, q3⟩ => Calls.spliced_nil ?_))))
  exact d_get2 hu I3 g ry rz fun w' s4 I4 rw' => ⟨_, H3, I4, rw', q3⟩
end
/-! ### dict(d): a copy -/
section
variable {X : Cx} {pins : List (Addr × Obj)} {σ : St} {H : Hp} {s : Shared} {a : Addr} {kvs : List (Key × V)} {A : Around} {E : Value → Shared → Prop}
end
section
variable {X : Cx} {pins : List (Addr × Obj)} {σ : St} {H : Hp} {s : Shared} {a : Addr} {y : V} {u : Value} {A : Around} {E : Value → Shared → Prop}
end
end L2
namespace L2
open PySem PySem.Spec PyProof.Rows
section
variable {prog : Program} {w : World} {A : Around} {E : Value → Shared → Prop}
end
section
variable {X : Cx}
theorem refs_at : ∀ {ps : List Addr} {us : List Value}, Vals (ps.map V.ref) us → us = ps.map Value.ref
  | [], us, r => by
    rw [List.map_nil] at r
    cases r
    rfl
  | p :: ps, us, r => by
    rw [List.map_cons] at r
    cases r with
    | cons h t =>
      cases h
      rw [List.map_cons, ← refs_at t]
end
end L2
namespace L2
open PySem PySem.Spec PyProof.Rows
section
variable {X : Cx} {pins : List (Addr × Obj)} {σ : St} {H : Hp} {s : Shared} {h' : Heap}
/-- .. and one new object is laid -/
theorem Inv.turnedNew {t' : Nat} {ch : List Addr} {T : Addr} {ob : HO} (I : Inv X pins σ H s) (k : ∀ b o, b ∉ ch → s.heap.get? b = some o → h'.get? b = some o) (hf : ∀ b ∈ ch, FpOk X pins H b) (hT : s.heap.objs.size ≤ T)
    (new : ObjOk X.prog X.w (upd H T ob) h' T ob) : Inv X pins σ (upd H T ob) { s with heap := h', toks := t' } := by
  have hn : H T = none := I.hok.fresh hT
  have nit : ∀ b u, H b = some u → b ∉ ch := fun b u e z => by
    have q := (hf b z).1
    rw [q] at e; cases e
  refine I.step (g' := s.gens) (d' := s.drawn) (ch := ch) (fun b hb => ⟨(hf b hb).2.2.2.1, (hf b hb).2.1, (hf b hb).2.2.2.2.1, (hf b hb).2.2.2.2.2⟩) (fun b o _ _ hc e _ => k b o hc e) (fun b o _ _ hc e _ => ⟨o.slots, k b o hc e⟩)
    (fun b o _ e n => ?_) (fun b o hc e => ⟨o, k b o hc e⟩) (fun b xs e => ?_) (fun b o u e => ?_) (fun b ps e => ⟨#[], ?_⟩) (fun m hm => ?_) (fun b u e => ?_) I.bare
  · rw [upd_ne (Nat.ne_of_lt (Nat.lt_of_lt_of_le (Heap.lt_size e) hT))]; exact n
  · rw [upd_ne (ne_of_none e hn)]; exact e
  · rw [upd_ne (ne_of_none e hn)]; exact e
  · rw [upd_ne (ne_of_none e hn), e]; simp
  · obtain ⟨o, es, ep, ho, r⟩ := hm
    exact ⟨o, es, ep, k _ o (fun z => (hf _ z).2.1 rfl) ho, r⟩
  · by_cases hb : b = T
    · subst hb
      rw [upd_same] at e
      cases e
      exact new
    · rw [upd_ne hb] at e
      refine (I.hok b u e).stay (fun c v hc q => k c v ?_ q) (fun c q => by rw [upd_ne (ne_of_none q hn)]; exact q) fun c xs q => by rw [upd_ne (ne_of_none q hn)]; exact q
      rcases hc with z | z
      · rw [z]; exact nit b u e
      · exact nit c _ z
/-! ### locking a thing while a statement runs -/
theorem Inv.lock {d : Addr} {u : HO} (I : Inv X pins σ H s) (h : H d = some u) (mu : Mut (some u)) : ∃ od, Inv X pins σ (upd H d (.frz od u)) s := by
  have x := I.hok d u h
  have ex : ∃ od, s.heap.get? d = some od := by
    cases u with
    | lst xs => obtain ⟨_, _, _, _, e⟩ := x; exact ⟨_, e⟩
    | dK kvs => obtain ⟨_, _, _, _, o, _, _, e, _⟩ := x; exact ⟨o, e⟩
    | dT kvs => obtain ⟨_, _, _, _, o, _, _, e, _⟩ := x; exact ⟨o, e⟩
    | set S n => obtain ⟨o, _, _, _, e, _⟩ := x; exact ⟨o, e⟩
    | ins C dx fs => obtain ⟨_, _, _, e, _⟩ := x; exact ⟨_, e⟩
    | ext φ => obtain ⟨_, ⟨_, e⟩, _⟩ := x; exact ⟨_, e⟩
    | _ => exact False.elim mu
  obtain ⟨od, e⟩ := ex
  have new : ObjOk X.prog X.w (upd H d (.frz od u)) s.heap d (.frz od u) := by
    refine ⟨e, x.stay (fun b v _ q => q) (fun b q => ?_) fun b xs q => ?_⟩
    · rw [upd_ne (fun z => by rw [z, h] at q; cases q; exact mu)]; exact q
    · rw [upd_ne (fun z => by rw [z, h] at q; cases q; exact mu)]; exact q
  exact ⟨od, I.write (x := d) (e := d) (t' := s.toks) (h' := s.heap) (by rw [h]; exact mu) (.inl rfl) (fun b v _ q => q) ⟨od, e⟩ new⟩
end
section
variable {X : Cx}
/-! ### one iterator just laid -/
theorem pi_one {tg : Expr} {pins : List (Addr × Obj)} {σ : St} {H : Hp} {s : Shared} {R : It → Hp → Prop} {J : It} {tn : Nat → Heap → Prop} {tk : Nat} (I : Inv X pins σ H s) (o : Obj)
    (T : Turn X.prog X.w X.K tg J [s.heap.objs.size] s.heap.objs.size tn) (st : tn 0 (s.heap.push o)) (q : R J H) : PIE X pins σ tg R (.ref s.heap.objs.size) { s with heap := s.heap.push o, toks := tk } := by
  refine ⟨s.heap.objs.size, [s.heap.objs.size], tn, J, H, rfl, I.kept fun b ob e => Heap.get?_push_of_some _ e, T, st, fun b hb => ?_, q⟩
  have e : b = s.heap.objs.size := by simpa using hb
  subst e
  exact I.fpOk (Nat.le_refl _) (I.hok.fresh (Nat.le_refl _))
end
/-! ### range with a step -/
section
variable {X : Cx} {tg : Expr}
end
/-! ### reversed(list) -/
section
variable {X : Cx} {tg : Expr}
end
/-! ### a str -/
/-! ### a dict's keys: any dict's entries -/
section
variable {prog : Program} {w : World} {A : Around} {E : Value → Shared → Prop} {s : Shared}
end
/-! ### a locked dict -/
theorem kv_get {κ : Type} {kvs : List (κ × V)} {vs : List (κ × Value)} (h : KV kvs vs) : ∀ {i : Nat} {k : κ} {v : V}, kvs[i]? = some (k, v) → ∃ u, vs[i]? = some (k, u) ∧ RelV v u := by
  unfold KV at h
  induction h with
  | nil => intro i k v e; simp at e
  | @cons a b l₁ l₂ r t ih =>
    intro i k v e
    cases i with
    | zero =>
      simp only [List.getElem?_cons_zero, Option.some.injEq] at e
      subst e
      refine ⟨b.2, ?_, r.2⟩
      simp only [List.getElem?_cons_zero]
      exact congrArg some (Prod.ext r.1.symm rfl)
    | succ j =>
      simp only [List.getElem?_cons_succ] at e ⊢
      exact ih e
theorem relV_key {k : Key} {u : Value} (h : keyIs k u = true) : RelV (kV k) u := by
  rcases keyIs_shape h with ⟨i, t, rfl, rfl⟩ | ⟨x, t, rfl, rfl⟩
  · exact ⟨t, rfl⟩
  · exact ⟨t, rfl⟩
section
variable {X : Cx} {pins : List (Addr × Obj)} {σ : St} {H : Hp} {s : Shared} {d : Addr} {o : Obj}
theorem Inv.frzK {kvs : List (Key × V)} (I : Inv X pins σ H s) (h : H d = some (.frz o (.dK kvs))) :
    (d == sysModules) = false ∧ s.heap.get? d = some o ∧ o.ExactDict ∧ ∃ (es : Array DictEntry) (ep : Nat) (vs : List (Key × Value)), o.data = .dict es ep ∧ es.size = kvs.length ∧ KV kvs vs ∧ s.heap.DictAt (mixKind X.prog X.w) d vs ep := by
  obtain ⟨hd, z, hs, vs, kv, o', es, ep, ho, hx, hdt, r⟩ := I.hok d _ h
  rw [hd] at ho
  cases ho
  refine ⟨hs, hd, hx, es, ep, vs, hdt, ?_, kv, o, es, hd, hx, hdt, r⟩
  have l1 := r.2.1.length
  have l2 : kvs.length = vs.length := Paired.length kv
  rw [Array.length_toList] at l1
  omega
end
/-- the pairs, each a new tuple -/
def Iti (d : Addr) (o : Obj) (kvs : List (Key × V)) : It :=
  ⟨fun i H => H d = some (.frz o (.dK kvs)) ∧ i < kvs.length, fun i H x H' => ∃ T k v, kvs[i]? = some (k, v) ∧ x = .ref T ∧ H T = none ∧ H' = upd H T (.tup [kV k, v]), fun i H => H d = some (.frz o (.dK kvs)) ∧ kvs.length ≤ i⟩
theorem dict_ep {o : Obj} {es es' : Array DictEntry} {ep ep' : Nat} (h : o.data = .dict es ep) (h' : o.data = .dict es' ep') : es' = es ∧ ep' = ep := by
  rw [h] at h'
  cases h'
  exact ⟨rfl, rfl⟩
section
variable {P : Program} {w : World} {K : PySem.W.Frag} {tg : Expr} {d : Addr} {o : Obj} {es : Array DictEntry} {ep : Nat}
theorem turn_items {kvs : List (Key × V)} {elts : List Expr} {kk : Nat} {tpos : Pos} (it : Addr) (hod : o.data = .dict es ep) :
    Turn P w K (.Tuple elts kk tpos) (Iti d o kvs) [it] it (fun i h => ∃ ok ov, IsItemIter h it d i kvs.length ep ok ov) where
  mem := by simp
  obj := fun i h st b hb => by
    have e : b = it := by simpa using hb
    subst e
    obtain ⟨ok, ov, e⟩ := st
    exact ⟨_, e, fun v z => nomatch z⟩
  keep := fun i h h' st k => let ⟨ok, ov, e⟩ := st; ⟨ok, ov, k it (by simp) _ e⟩
  item := by
    intro X hP hw hK hc i pins s σ H E I hf st hg
    subst hP hw hK
    obtain ⟨hd, hi⟩ := hg
    obtain ⟨hs, hgd, hx, es', ep', vs, hdt, hsz, kv, hm⟩ := I.frzK hd
    obtain ⟨rfl, rfl⟩ := dict_ep hod hdt
    obtain ⟨⟨k, v⟩, hkv⟩ : ∃ p, kvs[i]? = some p := ⟨kvs[i], List.getElem?_eq_getElem hi⟩
    obtain ⟨u, hu, ru⟩ := kv_get kv hkv
    have hl : kvs.length = vs.length := Paired.length kv
    obtain ⟨ok, ov, he⟩ := st
    rw [hl] at he
    have hlt : it < s.heap.objs.size := Heap.lt_size he
    refine wpAny_pyNext_items_item he hm hu fun key h' hkey ho hT hz hk => ?_
    refine ⟨_, rfl, wpAny_letOwnedTupleGo_items (s := { s with heap := h' }) ho fun h'' he' sb => ?_⟩
    have hT2 : h''.get? s.heap.objs.size = some { cls := .type "tuple", data := .seq #[key, u] } := (sb.2 _ (Nat.ne_of_gt hlt)).trans hT
    have new : ObjOk X.prog X.w (upd H s.heap.objs.size (.tup [kV k, v])) h'' s.heap.objs.size (.tup [kV k, v]) :=
      ⟨by show 2 ≤ sizeLine; decide, [key, u], .cons (relV_key (show keyIs k key = true from hkey)) (.cons ru .nil), ⟨_, hT2, rfl, _, rfl⟩⟩
    have I1 : Inv X pins σ (upd H s.heap.objs.size (.tup [kV k, v])) { s with heap := h'' } :=
      I.turnedNew (t' := s.toks) (ch := [it]) (fun b ob hb e => (sb.2 b (by simpa using hb)).trans (hk b ob (by simpa using hb) e)) hf (Nat.le_refl _) new
    refine ⟨.ref s.heap.objs.size, _, I1, rfl, ⟨_, k, v, hkv, rfl, I.hok.fresh (Nat.le_refl _), rfl⟩, ⟨key, u, ?_⟩, fun b hb => ?_⟩
    · rw [hl]; exact he'
    · have e : b = it := by simpa using hb
      rw [e, upd_ne (Nat.ne_of_lt hlt)]
      exact (hf it (by simp)).1
  done := by
    intro X hP hw hK hc i pins s σ H E I hf st hg
    subst hP hw hK
    obtain ⟨hd, hi⟩ := hg
    obtain ⟨f0, f1, f2, f3, f4, f5⟩ := hf it (by simp)
    obtain ⟨hs, hgd, hx, es', ep', vs, hdt, hsz, kv, hm⟩ := I.frzK hd
    obtain ⟨rfl, rfl⟩ := dict_ep hod hdt
    have hl : kvs.length = vs.length := Paired.length kv
    obtain ⟨ok, ov, he⟩ := st
    rw [hl] at he
    exact wpAny_pyNext_items_end (I.ok.hd hc) he hm (List.getElem?_eq_none (by omega)) fun h' eb => ⟨rfl, I.turned (t' := s.toks) (fun b ob hb e => eb b ob hb e) f0 f1 f3 f4 f5⟩
  self := fun A i s Q E st h => let ⟨_, _, e⟩ := st; PySem.W.kcp_self e h
end
/-! ### for k in d, d.keys(), d.values(), d.items() -/
def iItems (td : TE) : TI := fun σ H R => td σ H fun x H1 => ∃ d o kvs, x = .ref d ∧ H1 d = some (.frz o (.dK kvs)) ∧ R (Iti d o kvs) H1
section
variable {X : Cx} {tg e : Expr} {td : TE} {apos cpos : Pos}
theorem pi_items {elts : List Expr} {kk : Nat} {tpos : Pos} (he : PE X e td) (hbase : attributeBase e "items" X.env (eval e X.env) = eval e X.env := by rfl) (hline : (apos.endLine == cpos.line) = true := by rfl) :
    PI X (.Tuple elts kk tpos) (.Call (.Attribute e "items" apos) [] [] cpos) (iItems td) := by
  intro pins s σ H R I h
  refine wpAny_Call_method (T := "dict") (id := "dict.items") hbase rfl hline F.plainAttrs_dict F.slot_dict_items F.type_dict_items (thn (he pins s σ H _ I h) fun u s1 ⟨x, H1, I1, rx, d, o, kvs, ex, hd, q⟩ => ?_)
  subst ex
  obtain rfl : u = Value.ref d := rx
  obtain ⟨hs, hgd, hx, es, ep, vs, hdt, hsz, kv, hm⟩ := I1.frzK hd
  have hl : kvs.length = vs.length := Paired.length kv
  refine ⟨hm.dictOf.typeIs, hm.dictOf.mapOf.noDict, ?_⟩
  have I2 : Inv X pins σ H1 { s1 with heap := s1.heap.push { cls := .type "dict_items", data := .fields #[.ref d] } } := I1.kept (t' := s1.toks) fun b ob q => Heap.get?_push_of_some _ q
  have fin : wpAny (model X.prog X.w) X.A (pyIter (.ref s1.heap.objs.size)) (PIE X pins σ (.Tuple elts kk tpos) R) X.xe { s1 with heap := s1.heap.push { cls := .type "dict_items", data := .fields #[.ref d] } } := by
    refine wpAny_pyIter_items (d := d) (knd := mixKind X.prog X.w) ⟨_, Heap.get?_push_size _ rfl, rfl, rfl⟩ (hm.push _) (pi_one (tk := s1.toks) I2 _ (turn_items _ hdt) ⟨.none, .none, ?_⟩ q)
    rw [hl]
    exact Heap.get?_push_size _ rfl
  show wpAny _ _ (callWith cpos (.builtin "dict.items") [.ref d] [] []) _ X.xe s1
  exact method_meetsIn F.slot_dict_items F.entry_dict_items rfl (PySem.evalArgs_none ⟨rfl, hm.dictOf.typeIs, F.args_dict_items_1 _, _, meets_dict_items (mixKind X.prog X.w) d hs, ⟨vs, hm.dictOf⟩, fin⟩)
end
/-! ### enumerate(list) -/
/-! ### zip(list, list) -/
end L2
section
namespace Bits
open PySem PyProof.Rows
end Bits
end
section
namespace TL
open PySem PySem.Builtin PySem.Builtin.Str PySem.StrLaws
/-! ### the list functions -/
/-! ### the model's split and partition are these -/
/-! ### computing spl and par -/
/-! ### digits -/
/-! ### words: x.split() -/
end TL
end
namespace L2
open PySem PySem.Spec PyProof.Rows
section
variable {X : Cx} {pins : List (Addr × Obj)} {σ : St} {H : Hp} {s : Shared} {Q : VK}
end
section
variable {X : Cx}
/-! ### of a text alone -/
/-! ### of a text and a text -/
end
section
variable {X : Cx} {o e : Expr} {to te : TE}
end
end L2
namespace L2
open PySem PySem.Spec PyProof.Rows
section
variable {X : Cx}
end
/-! ### slices of a text -/
end L2
namespace Att
open PySem PySem.W PySem.Calls PyProof.Rows
/-! ### the script -/
/-! ### the attachment: holds_open's last premise (the goal 'hc' behind k_head) from a wpAny of the law's body -/
/-! ### rules over ANY heap (no ledger) from facts about the written part K: the library's own take a ledger (News) for what they write -/
section
variable {prog : Program} {w : World} {A : Around} {E : Value → Shared → Prop} {s : Shared} {K : Frag}
/-! the whole heap as the ledger: makes every rule that writes through a ledger a rule over any heap -/
end
end Att
namespace L2
open PySem PySem.Spec PyProof.Rows
end L2
namespace L2
open PySem PySem.Spec PyProof.Rows
end L2
/- THE LAST THEOREM (shape; LID, My.* are yours):
   My.Adr: a structure of the addresses that your layer names (classes, functions); My.Txt K t: a structure (Prop) of the equations over K;
   My.txt_mk : {K} {implicit addresses ..} (e1 : nsIn K mainGlobals "law" = some (some (.ref f))) (e2 : K.lookup f = some ⟨oc, od, .func (fnOf "law" "law" params body scope dV kV doc pm an cdv ct), sl⟩) (e3 : codeIn K cdv "law" = true) .. : ∃ t, My.Txt K t
set_option maxRecDepth 100000 in
set_option maxHeartbeats 0 in
theorem PySem.Challenge.cw_LID_holds : PySem.Challenge.rw_LID.Holds := by
  w_on; o_law; k_head; (case hw => w_witness2)
  k_fill
  refine L2.walk_of (l := PySem.Challenge.rw_LID) (n := 63) (k := 40) (x := "script") (CX := fun w => ..) (sp := fun _ => My.sp_law) rfl (by decide) rfl ⟨rfl, by decide, by decide⟩ (fun w h Y => PySem.W.kIn_of Y) ?F ?S ?C
  case F =>
    intro w mg fa h KX G hmg
    have T : ∃ t, My.Txt (L2.KOf KX) t := by
      dsimp only [L2.KOf]                          -- K must stand as «<heap const> w.params» for k_is
      refine' My.txt_mk ?e1 ?e2 ?e3 ..
      (case e1 => PySem.W.k_is)                    -- in the order: a name -> its address -> its object -> its parts
      (case e2 => PySem.W.k_is)
      ..
    obtain ⟨t, T⟩ := T
    have e0 := hmg.symm.trans (PySem.W.mg_of KX G T.law)
    cases e0                                       -- fa is the law's own address
    exact ⟨_, fun s u => .of_eq rfl, fun base kb nb => My.law_fn T kb nb⟩     -- if «.of_eq rfl» comes too early: refine' ⟨_, ?b, fun base kb nb => My.law_fn T kb nb⟩; exact fun s u => .of_eq rfl
  case S => exact fun w H a ns hl hO hS => ..
  case C => exact ..
(the tactic k_is has no namespace: write k_is) -/
/-! SHORT WORDS over the layer: a def of the text, its body, what a loop and a test want. -/
namespace L2
open PySem PySem.Spec PyProof.Rows
/-! ### the text by places -/
/-- the j-th statement of a class's body -/
def inClass (s : Stmt) (j : Nat) : Stmt := match s with
  | .ClassDef _ _ _ body _ _ _ _ _ _ _ => body.getD j (.Pass ⟨0, 0, 0, 0⟩)
  | _ => .Pass ⟨0, 0, 0, 0⟩
def defArgs (s : Stmt) : Arguments := match s with
  | .FunctionDef _ a _ _ _ _ _ _ _ _ => a
  | _ => { posonlyargs := [], args := [], vararg := none, kwonlyargs := [], kw_defaults := [], kwarg := none, defaults := [] }
def defBody (s : Stmt) : List Stmt := match s with
  | .FunctionDef _ _ b _ _ _ _ _ _ _ => b
  | _ => []
def defScope (s : Stmt) : Scope := match s with
  | .FunctionDef _ _ _ _ _ _ sc _ _ _ => sc
  | _ => { kind := .function, names := [], isGenerator := false, isCoroutine := false }
/-! ### no exception leaves a def -/
abbrev CX0 : CXT := fun _ _ _ _ _ _ => False
abbrev E0 : XK := fun _ _ _ => False
theorem pass0 {X : Cx} : Passes CX0 X E0 := fun _ _ _ _ _ _ _ h => h.elim
/-! ### a def (or method) of the text as it stands behind the top -/
structure Fun (K : PySem.W.Frag) (x qual : Str) (st : Stmt) (f : Addr) (fd : FuncData) : Prop where
  ex : ∃ (oc : Value) (od : Option Addr) (kV doc pm : Value) (an : Option Addr) (cdv ct : Value) (osl : Array (Option Value)),
    fd = PySem.W.fnOf x qual (defArgs st) (defBody st) (defScope st) .none kV doc pm an cdv ct ∧ K.lookup f = some ⟨oc, od, .func fd, osl⟩ ∧ PySem.W.codeIn K cdv qual = true
  kp : PySem.W.keepIn K (.ref f) = true
section
variable {P : Program} {w : World} {K : PySem.W.Frag} {mg : Str → Option Value} {base : Heap}
/-- THE RULE for a def: its body as a term of rules, and the reading of that term -/
theorem Fun.ok {x qual : Str} {st : Stmt} {f : Addr} {fd : FuncData} {N ps : List Str} {k : Nat} {sp : Sp} (F : Fun K x qual st f fd) (S : FnScope N ps (defScope st)) (len : ∀ vs H Q E, sp vs H Q E → vs.length = ps.length)
    (hbody : ∀ (cdv : Value) (A : Around) (outer : List Env) (s : Shared) (H : Hp) (vs : List V) (Q : VK) (E : XK), Room k (A.deeper (envOfC qual (defScope st) s.heap.objs.size f cdv)) → sp vs H Q E →
      ∃ t, PSs (cxOf CX0 P w K mg base N qual (defScope st) f cdv A outer s H E).nox (defBody st) t ∧ t { nx := fun _ H' => Q .non H', rt := Q } (start N vs) H) : FnOk P w K mg base CX0 (k + 1) f fd ps sp := by
  obtain ⟨oc, od, kV, doc, pm, an, cdv, ct, osl, rfl, lk, hcd⟩ := F.ex
  refine fn_of lk hcd S len fun A outer s H vs Q E hr hsp => ?_
  obtain ⟨t, h, q⟩ := hbody cdv A outer s H vs Q E hr hsp
  exact ⟨t, h.nox, q⟩
/-- how its arguments bind (no defaults): h is «fun _ _ _ _ _ _ us hl => match us, hl with | [_, _], _ => rfl», one _ a parameter -/
theorem Fun.binds {x qual : Str} {st : Stmt} {f : Addr} {fd : FuncData} {ps : List Str} (F : Fun K x qual st f fd)
    (h : ∀ (kV doc pm : Value) (an : Option Addr) (cdv ct : Value) (us : List Value), us.length = ps.length → bindArgs (PySem.W.fnOf x qual (defArgs st) (defBody st) (defScope st) .none kV doc pm an cdv ct) ⟨us, []⟩ = pure (ps.zip us)) : Binds K fd ps [] := by
  obtain ⟨oc, od, kV, doc, pm, an, cdv, ct, osl, rfl, lk, hcd⟩ := F.ex
  exact .all (h kV doc pm an cdv ct)
theorem fun_mk {x qual : Str} {st : Stmt} {f : Addr} {oc : Value} {od an : Option Addr} {osl : Array (Option Value)} {kV doc pm cdv ct : Value} (l : K.lookup f = some ⟨oc, od, .func (PySem.W.fnOf x qual (defArgs st) (defBody st) (defScope st) .none kV doc pm an cdv ct), osl⟩)
    (c : PySem.W.codeIn K cdv qual = true) (k : PySem.W.keepIn K (.ref f) = true) : Fun K x qual st f (PySem.W.fnOf x qual (defArgs st) (defBody st) (defScope st) .none kV doc pm an cdv ct) := ⟨⟨oc, od, kV, doc, pm, an, cdv, ct, osl, rfl, l, c⟩, k⟩
end
theorem hu_of {A : Around} {k : Nat} (hr : Room k A) : A.units + 1 < cLine := Nat.lt_of_le_of_lt (Nat.add_le_add_left (by decide : 1 ≤ 64) _) hr.units
theorem small1000 {n : Nat} (h : n ≤ 1000) : n < sizeLine := Nat.lt_of_le_of_lt h (by decide)
/-! ### expressions in short: the name that stands in the i-th slot -/
section
variable {X : Cx}
theorem pv (i : Nat) {x : Str} {pos : Pos} (hN : X.N[i]? = some x := by rfl) (hv : Vis X.env.scope x := by first | exact Or.inl rfl | exact Or.inr (Or.inl rfl) | exact Or.inr (Or.inr rfl)) (hd : (x == ("__debug__" : Str)) = false := by decide)
    (hcd : (x == ("__classdict__" : Str)) = false := by decide) : PE X (.Name x pos) (tVar i) := pe_var hN hv hd hcd
end
/-! ### tests -/
theorem iteF {A B : Prop} (h : B) : if false = true then A else B := by
  rw [if_neg Bool.false_ne_true]
  exact h
theorem iteT {A B : Prop} (h : A) : if true = true then A else B := by
  rw [if_pos rfl]
  exact h
/-! ### heaps -/
/-- all that was tracked is as it was -/
def Same (H H' : Hp) : Prop := ∀ b o, H b = some o → H' b = some o
theorem Same.refl (H : Hp) : Same H H := fun _ _ h => h
theorem Same.trans {H H1 H2 : Hp} (a : Same H H1) (b : Same H1 H2) : Same H H2 := fun c o h => b c o (a c o h)
theorem Same.free {H H' : Hp} (e : Same H H') {l : Addr} (h : H' l = Option.none) : H l = Option.none := by
  cases q : H l with
  | none => rfl
  | some o =>
    rw [e l o q] at h
    cases h
theorem Same.seq {K : PySem.W.Frag} {H H' : Hp} {a : Addr} {xs : List V} (e : Same H H') (h : SqL K H a xs) : SqL K H' a xs := by
  rcases h with (h | ⟨o, h⟩) | h
  · exact .inl (.inl (e _ _ h))
  · exact .inl (.inr ⟨o, e _ _ h⟩)
  · exact .inr h
/-! ### a dict's pairs: keys that differ -/
section
variable {κ : Type} [DecidableEq κ]
theorem valV_in {kvs : List (κ × V)} {k : κ} {v : V} (h : valV kvs k = some v) : k ∈ kvs.map (·.1) := by
  have q : (kvs.any fun kv => decide (kv.1 = k)) = true := by
    rw [valV_any, h]
    all_goals rfl
  obtain ⟨p, hp, e⟩ := List.any_eq_true.mp q
  exact List.mem_map.mpr ⟨p, hp, of_decide_eq_true e⟩
theorem nd_snoc : ∀ {l : List κ} {k : κ}, l.Nodup → ¬ k ∈ l → (l ++ [k]).Nodup
  | [], k, _, _ => by simp
  | a :: r, k, h, hk => by
    obtain ⟨h1, h2⟩ := List.nodup_cons.mp h
    show (a :: (r ++ [k])).Nodup
    refine List.nodup_cons.mpr ⟨fun m => ?_, nd_snoc h2 fun m => hk (List.mem_cons.mpr (Or.inr m))⟩
    rcases List.mem_append.mp m with q | q
    · exact h1 q
    · exact hk (List.mem_cons.mpr (Or.inl (List.mem_singleton.mp q).symm))
end
/-! ### lists -/
theorem at_of {xs : List V} {z : Int} {j : Nat} {v : V} (e : z = (j : Int)) (h : xs[j]? = some v) : atI xs z = some v := by
  rw [e]
  exact atI_nat h
theorem nd_ix {α : Type} {l : List α} (hN : l.Nodup) {i j : Nat} {x : α} (a : l[i]? = some x) (b : l[j]? = some x) : i = j := by
  obtain ⟨h1, e1⟩ := List.getElem?_eq_some_iff.mp a
  obtain ⟨h2, e2⟩ := List.getElem?_eq_some_iff.mp b
  exact (List.getElem_inj hN).mp (e1.trans e2.symm)
/-- a new instance and its __init__ leave all that was tracked as it was -/
theorem Same.made {H H1 : Hp} {x dx C : Addr} (nx : H x = Option.none) (nd : H dx = Option.none) (k : ∀ b o, (upd (upd H dx (.own x)) x (.ins C dx [])) b = some o → b ≠ x → H1 b = some o) : Same H H1 := fun b o e =>
  k b o (by rw [upd_ne (ne_of_none e nx), upd_ne (ne_of_none e nd)]; exact e) (ne_of_none e nx)
end L2
section
set_option Elab.async false
set_option linter.all false
set_option maxRecDepth 100000
set_option maxHeartbeats 2000000
namespace L2
open PySem PySem.Spec PyProof.Rows
open PySem.W (WData Codec OpenSpec Well WellAll ReadsW ReadsAllW)
/-! ### an answer as data -/
mutual
/-- x stands for the datum d, lists and tuples all the way -/
inductive Dw (K : PySem.W.Frag) (H : Hp) : V → WData → Prop
  | non : Dw K H .non .none
  | bl (b : Bool) : Dw K H (.bl b) (.bool b)
  | int (i : Int) : Dw K H (.int i) (.int i)
  | str (x : Str) : Dw K H (.str x) (.str x)
  | byt (b : Array UInt8) : Dw K H (.byt b) (.bytes b.toList)
  | lst {a : Addr} {xs : List V} {ds : List WData} : SqL K H a xs → DwAll K H xs ds → Dw K H (.ref a) (.list ds)
  | tup {a : Addr} {xs : List V} {ds : List WData} : SqT K H a xs → DwAll K H xs ds → Dw K H (.ref a) (.tuple ds)
inductive DwAll (K : PySem.W.Frag) (H : Hp) : List V → List WData → Prop
  | nil : DwAll K H [] []
  | cons {v : V} {vs : List V} {d : WData} {ds : List WData} : Dw K H v d → DwAll K H vs ds → DwAll K H (v :: vs) (d :: ds)
end
theorem dw_ints {K : PySem.W.Frag} {H : Hp} : ∀ ns : List Int, DwAll K H (ns.map V.int) (ns.map WData.int)
  | [] => .nil
  | n :: r => .cons (.int n) (dw_ints r)
theorem ints_dw {K : PySem.W.Frag} {H : Hp} : ∀ (ns : List Int) (xs : List V), DwAll K H xs (ns.map WData.int) → xs = ns.map V.int
  | [], xs, h => by
    cases h
    rfl
  | n :: r, xs, h => by
    cases h with
    | cons h1 h2 =>
      cases h1
      rw [ints_dw r _ h2] <;> rfl
section
variable {P : Program} {w : World} {K : PySem.W.Frag} {H : Hp} {h : Heap} {R : PySem.W.WRecords} {cl : Str → Option Addr}
theorem sqL_at {a : Addr} {xs : List V} (hok : HOk P w H h) (KX : K.In h) (q : SqL K H a xs) : ∃ (its : List Value) (o : Obj) (n : Nat), Vals xs its ∧ h.get? a = some o ∧ o.cls = .type "list" ∧ o.data = .seq its.toArray n := by
  rcases q with q | ⟨o, its, n, e, hc, _, hd, _, hv⟩
  · obtain ⟨_, its, n, hv, e⟩ := (show ObjOk P w H h a (.lst xs) from q.ok hok)
    exact ⟨its, _, n, hv, e, rfl, rfl⟩
  · exact ⟨its.toList, o, n, hv, KX _ _ e, hc, by simp [hd]⟩
theorem sqT_at {a : Addr} {xs : List V} (hok : HOk P w H h) (KX : K.In h) (q : SqT K H a xs) : ∃ (its : List Value) (o : Obj) (n : Nat), Vals xs its ∧ h.get? a = some o ∧ o.cls = .type "tuple" ∧ o.data = .seq its.toArray n := by
  rcases q with q | ⟨o, its, n, e, hc, hd, _, hv⟩
  · obtain ⟨_, its, hv, o, e, hc, n, hd⟩ := (show ObjOk P w H h a (.tup xs) from q.ok hok)
    exact ⟨its, o, n, hv, e, hc, hd⟩
  · exact ⟨its.toList, o, n, hv, KX _ _ e, hc, by simp [hd]⟩
mutual
theorem Dw.reads (hok : HOk P w H h) (KX : K.In h) : ∀ (d : WData) (v : V) (u : Value), Dw K H v d → RelV v u → ∃ as, ReadsW R cl h u d as
  | .none, _, _, x, r => by
    cases x
    cases r
    exact ⟨_, ReadsW.none⟩
  | .bool b, _, _, x, r => by
    cases x
    cases r
    exact ⟨_, ReadsW.bool b⟩
  | .int i, _, _, x, r => by
    cases x
    obtain ⟨t, rfl⟩ := r
    exact ⟨_, ReadsW.int i t⟩
  | .str s, _, _, x, r => by
    cases x
    obtain ⟨t, rfl⟩ := r
    exact ⟨_, ReadsW.str s t⟩
  | .bytes b, _, _, x, r => by
    cases x
    obtain ⟨t, rfl⟩ := r
    exact ⟨_, ReadsW.bytes _ t⟩
  | .list ds, _, _, x, r => by
    cases x with
    | lst hs ha =>
      cases r
      obtain ⟨its, o, n, rv, ho, hc, hd⟩ := sqL_at hok KX hs
      obtain ⟨as, hr⟩ := Dw.readsAll hok KX ds _ its ha rv
      exact ⟨_, ReadsW.list ho hc hd hr⟩
  | .tuple ds, _, _, x, r => by
    cases x with
    | tup hs ha =>
      cases r
      obtain ⟨its, o, n, rv, ho, hc, hd⟩ := sqT_at hok KX hs
      obtain ⟨as, hr⟩ := Dw.readsAll hok KX ds _ its ha rv
      exact ⟨_, ReadsW.tuple ho hc hd hr⟩
  | .float _, _, _, x, _ => by cases x
  | .dict _, _, _, x, _ => by cases x
  | .bytearray _, _, _, x, _ => by cases x
  | .set _, _, _, x, _ => by cases x
  | .frozenset _, _, _, x, _ => by cases x
  | .obj _ _, _, _, x, _ => by cases x
theorem Dw.readsAll (hok : HOk P w H h) (KX : K.In h) : ∀ (ds : List WData) (vs : List V) (us : List Value), DwAll K H vs ds → Vals vs us → ∃ as, ReadsAllW R cl h us ds as
  | [], _, _, x, r => by
    cases x
    cases r
    exact ⟨_, ReadsAllW.nil⟩
  | d :: ds, _, _, x, r => by
    cases x with
    | cons h1 h2 =>
      cases r with
      | cons r1 r2 =>
        obtain ⟨as, q1⟩ := Dw.reads hok KX d _ _ h1 r1
        obtain ⟨bs, q2⟩ := Dw.readsAll hok KX ds _ _ h2 r2
        exact ⟨_, ReadsAllW.cons q1 q2⟩
end
end
/-! ### the arguments -/
mutual
/-- data that a codec tells -/
def plW : WData → Bool
  | .none => true
  | .bool _ => true
  | .int _ => true
  | .str _ => true
  | .bytes _ => true
  | .list xs => plWs xs
  | .tuple xs => plWs xs
  | _ => false
def plWs : List WData → Bool
  | [] => true
  | x :: r => plW x && plWs r
end
theorem plWs_map {α : Type} {f : α → WData} (h : ∀ a, plW (f a) = true) : ∀ l : List α, plWs (l.map f) = true
  | [] => rfl
  | x :: r => by
    show (plW (f x) && plWs (r.map f)) = true
    rw [h x, plWs_map h r] <;> rfl
theorem pl_enc : ∀ (c : Codec) (a : c.denote), plW (c.enc a) = true
  | .unit, _ => rfl
  | .bool, _ => rfl
  | .int _ _, _ => rfl
  | .nat _ _, _ => rfl
  | .u8, _ => rfl
  | .bytes _ _, _ => rfl
  | .text _ _ _ _, _ => rfl
  | .list _ _ c, a => plWs_map (fun x => pl_enc c x) a
  | .pair c d, a => by
    show (plW (c.enc a.1) && (plW (d.enc a.2) && true)) = true
    rw [pl_enc c a.1, pl_enc d a.2] <;> rfl
  | .triple c d e, a => by
    show (plW (c.enc a.1) && (plW (d.enc a.2.1) && (plW (e.enc a.2.2) && true))) = true
    rw [pl_enc c a.1, pl_enc d a.2.1, pl_enc e a.2.2] <;> rfl
  | .option c, none => rfl
  | .option c, some x => pl_enc c x
theorem pl_encAll : ∀ (cs : List Codec) (a : Codec.denoteAll cs), plWs (Codec.encAll cs a) = true
  | [], _ => rfl
  | c :: cs, a => by
    show (plW (c.enc a.1) && plWs (Codec.encAll cs a.2)) = true
    rw [pl_enc c a.1, pl_encAll cs a.2] <;> rfl
theorem weight_mem : ∀ {xs : List WData} {d : WData}, d ∈ xs → d.weight ≤ WData.weightAll xs
  | [], d, h => absurd h (by simp)
  | x :: r, d, h => by
    show d.weight ≤ x.weight + 1 + WData.weightAll r
    rcases List.mem_cons.mp h with e | m
    · rw [e]
      omega
    · have z := weight_mem m
      omega
def toV : Value → V
  | .none => .non
  | .bool b => .bl b
  | .int i _ => .int i
  | .str x _ => .str x
  | .bytes b _ => .byt b
  | .ref a => .ref a
  | _ => .non
/-- a value of the arguments, its objects among A -/
def OkU (A : List Addr) : Value → Prop
  | .none => True
  | .bool _ => True
  | .int _ _ => True
  | .str _ _ => True
  | .bytes _ _ => True
  | .ref a => a ∈ A
  | _ => False
theorem OkU.mono {A B : List Addr} (h : ∀ a ∈ A, a ∈ B) : ∀ {u : Value}, OkU A u → OkU B u := fun {u} x => by
  cases u with
  | ref a => exact h a x
  | none => trivial
  | bool b => trivial
  | int i t => trivial
  | str s t => trivial
  | bytes b t => trivial
  | _ => exact False.elim x
theorem relV_toV {A : List Addr} {u : Value} (x : OkU A u) : RelV (toV u) u := by
  cases u with
  | ref a => rfl
  | none => rfl
  | bool b => rfl
  | int i t => exact ⟨t, rfl⟩
  | str s t => exact ⟨t, rfl⟩
  | bytes b t => exact ⟨t, rfl⟩
  | _ => exact False.elim x
theorem vals_toV {A : List Addr} : ∀ {vs : List Value}, (∀ u ∈ vs, OkU A u) → Vals (vs.map toV) vs
  | [], _ => .nil
  | u :: r, h => .cons (relV_toV (h u (List.mem_cons_self ..))) (vals_toV fun x hx => h x (List.mem_cons_of_mem _ hx))
/-- an object of the arguments -/
def ArgOb (h : Heap) (A : List Addr) (a : Addr) : Prop := ∃ vs : List Value, vs.length ≤ sizeLine ∧ (∀ u ∈ vs, OkU A u) ∧
  (h.get? a = some { cls := .type "list", data := .seq vs.toArray } ∨ h.get? a = some { cls := .type "tuple", data := .seq vs.toArray })
theorem ArgOb.mono {h : Heap} {A B : List Addr} {a : Addr} (k : ∀ a ∈ A, a ∈ B) (x : ArgOb h A a) : ArgOb h B a := by
  obtain ⟨vs, h1, h2, h3⟩ := x
  exact ⟨vs, h1, fun u hu => (h2 u hu).mono k, h3⟩
theorem wellAll_len {P : Params} {h : Heap} : ∀ {vs : List Value} {ds : List WData}, WellAll P h vs ds → vs.length = ds.length
  | _, _, .nil => rfl
  | _, _, .cons _ b => by
    show _ + 1 = _ + 1
    rw [wellAll_len b]
theorem well_list {P : Params} {h : Heap} {v : Value} {ds : List WData} (x : Well P h v (.list ds)) : ∃ (a : Addr) (vs : List Value), v = .ref a ∧ h.get? a = some { cls := .type "list", data := .seq vs.toArray } ∧ WellAll P h vs ds := by
  cases x with
  | list ho hall => exact ⟨_, _, rfl, ho, hall⟩
theorem well_tuple {P : Params} {h : Heap} {v : Value} {ds : List WData} (x : Well P h v (.tuple ds)) : ∃ (a : Addr) (vs : List Value), v = .ref a ∧ h.get? a = some { cls := .type "tuple", data := .seq vs.toArray } ∧ WellAll P h vs ds := by
  cases x with
  | tuple ho hall => exact ⟨_, _, rfl, ho, hall⟩
theorem well_cons {P : Params} {h : Heap} {us : List Value} {d : WData} {ds : List WData} (x : WellAll P h us (d :: ds)) : ∃ (v : Value) (vs : List Value), us = v :: vs ∧ Well P h v d ∧ WellAll P h vs ds := by
  cases x with
  | cons a b => exact ⟨_, _, rfl, a, b⟩
theorem line_of {n : Nat} (h : n ≤ 1048576) : n ≤ sizeLine := Nat.le_trans h (by decide)
section
variable {P : Params} {h : Heap}
mutual
theorem area_one : ∀ (d : WData) (v : Value), Well P h v d → plW d = true → d.weight ≤ 1048576 → ∃ A : List Addr, OkU A v ∧ ∀ a ∈ A, ArgOb h A a
  | .none, _, x, _, _ => by
    cases x
    exact ⟨[], trivial, fun a m => absurd m (by simp)⟩
  | .bool b, _, x, _, _ => by
    cases x
    exact ⟨[], trivial, fun a m => absurd m (by simp)⟩
  | .int i, _, x, _, _ => by
    cases x
    exact ⟨[], trivial, fun a m => absurd m (by simp)⟩
  | .str s, _, x, _, _ => by
    cases x
    exact ⟨[], trivial, fun a m => absurd m (by simp)⟩
  | .bytes b, _, x, _, _ => by
    cases x
    exact ⟨[], trivial, fun a m => absurd m (by simp)⟩
  | .list ds, _, x, p, z => by
    obtain ⟨a, vs, rfl, ho, hall⟩ := well_list x
    have z2 : WData.weightAll ds ≤ 1048576 := z
    obtain ⟨A, h1, h2⟩ := area_all ds _ hall p fun d hd => Nat.le_trans (weight_mem hd) z2
    have k : ∀ b ∈ A, b ∈ a :: A := fun b hb => List.mem_cons_of_mem _ hb
    refine ⟨a :: A, List.mem_cons_self .., fun b hb => ?_⟩
    rcases List.mem_cons.mp hb with e | m
    · rw [e]
      exact ⟨vs, line_of (by rw [wellAll_len hall]; exact Nat.le_trans (PySem.W.length_le_weightAllW ds) z2), fun u hu => (h1 u hu).mono k, .inl ho⟩
    · exact (h2 b m).mono k
  | .tuple ds, _, x, p, z => by
    obtain ⟨a, vs, rfl, ho, hall⟩ := well_tuple x
    have z2 : WData.weightAll ds ≤ 1048576 := z
    obtain ⟨A, h1, h2⟩ := area_all ds _ hall p fun d hd => Nat.le_trans (weight_mem hd) z2
    have k : ∀ b ∈ A, b ∈ a :: A := fun b hb => List.mem_cons_of_mem _ hb
    refine ⟨a :: A, List.mem_cons_self .., fun b hb => ?_⟩
    rcases List.mem_cons.mp hb with e | m
    · rw [e]
      exact ⟨vs, line_of (by rw [wellAll_len hall]; exact Nat.le_trans (PySem.W.length_le_weightAllW ds) z2), fun u hu => (h1 u hu).mono k, .inr ho⟩
    · exact (h2 b m).mono k
  | .float _, _, _, p, _ => Bool.noConfusion (show false = true from p)
  | .dict _, _, _, p, _ => Bool.noConfusion (show false = true from p)
  | .bytearray _, _, _, p, _ => Bool.noConfusion (show false = true from p)
  | .set _, _, _, p, _ => Bool.noConfusion (show false = true from p)
  | .frozenset _, _, _, p, _ => Bool.noConfusion (show false = true from p)
  | .obj _ _, _, _, p, _ => Bool.noConfusion (show false = true from p)
theorem area_all : ∀ (ds : List WData) (vs : List Value), WellAll P h vs ds → plWs ds = true → (∀ d ∈ ds, d.weight ≤ 1048576) → ∃ A : List Addr, (∀ u ∈ vs, OkU A u) ∧ ∀ a ∈ A, ArgOb h A a
  | [], _, x, _, _ => by
    cases x
    exact ⟨[], fun u m => absurd m (by simp), fun a m => absurd m (by simp)⟩
  | d :: ds, _, x, p, z => by
    obtain ⟨v, vs, rfl, x1, x2⟩ := well_cons x
    have q : plW d = true ∧ plWs ds = true := Bool.and_eq_true_iff.mp p
    obtain ⟨A, a1, a2⟩ := area_one d v x1 q.1 (z d (List.mem_cons_self ..))
    obtain ⟨B, b1, b2⟩ := area_all ds vs x2 q.2 fun e he => z e (List.mem_cons_of_mem _ he)
    have kA : ∀ b ∈ A, b ∈ A ++ B := fun b hb => List.mem_append.mpr (.inl hb)
    have kB : ∀ b ∈ B, b ∈ A ++ B := fun b hb => List.mem_append.mpr (.inr hb)
    refine ⟨A ++ B, fun u hu => ?_, fun b hb => ?_⟩
    · rcases List.mem_cons.mp hu with e | m
      · rw [e]
        exact a1.mono kA
      · exact (b1 u m).mono kB
    · rcases List.mem_append.mp hb with m | m
      · exact (a2 b m).mono kA
      · exact (b2 b m).mono kB
end
end
/-- what is tracked of an argument's object -/
def hoOf (o : Obj) : Option HO := match o.data with
  | .seq vs _ => if (o.cls == Value.type "list") = true then some (.frz o (.lst (vs.toList.map toV))) else some (.frz o (.tup (vs.toList.map toV)))
  | _ => none
def argH (K : PySem.W.Frag) (h : Heap) (A : List Addr) : Hp := fun b => if b ∈ A then (if (K.lookup b).isNone = true then (h.get? b).bind hoOf else none) else none
/-- nothing is tracked but what is known to the object -/
def OnlyF (H : Hp) : Prop := ∀ b, H b = none ∨ ∃ o u, H b = some (.frz o u)
theorem hoOf_lst (vs : List Value) : hoOf { cls := .type "list", data := .seq vs.toArray } = some (.frz { cls := .type "list", data := .seq vs.toArray } (.lst (vs.map toV))) := by
  show (if (Value.type "list" == Value.type "list") = true then some (HO.frz { cls := .type "list", data := .seq vs.toArray } (.lst (vs.toArray.toList.map toV))) else some (HO.frz { cls := .type "list", data := .seq vs.toArray } (.tup (vs.toArray.toList.map toV)))) = _
  rw [if_pos (beq_self_eq_true _)]
theorem hoOf_tup (vs : List Value) : hoOf { cls := .type "tuple", data := .seq vs.toArray } = some (.frz { cls := .type "tuple", data := .seq vs.toArray } (.tup (vs.map toV))) := by
  show (if (Value.type "tuple" == Value.type "list") = true then some (HO.frz { cls := .type "tuple", data := .seq vs.toArray } (.lst (vs.toArray.toList.map toV))) else some (HO.frz { cls := .type "tuple", data := .seq vs.toArray } (.tup (vs.toArray.toList.map toV)))) = _
  rw [if_neg (by decide)]
section
variable {P : Program} {w : World} {K : PySem.W.Frag} {h : Heap} {A : List Addr}
theorem argH_at {b : Addr} {o : Obj} (hb : b ∈ A) (hk : K.lookup b = none) (e : h.get? b = some o) : argH K h A b = hoOf o := by
  unfold argH
  rw [if_pos hb, hk, if_pos (show (none : Option Obj).isNone = true from rfl), e] <;> rfl
theorem of_argH {b : Addr} {u : HO} (q : argH K h A b = some u) : b ∈ A ∧ K.lookup b = none := by
  unfold argH at q
  by_cases hb : b ∈ A
  · rw [if_pos hb] at q
    cases hk : K.lookup b with
    | none => exact ⟨hb, rfl⟩
    | some o =>
      rw [hk, if_neg (by simp)] at q
      cases q
  · rw [if_neg hb] at q
    cases q
/-- what stands tracked -/
theorem argH_is (ar : ∀ a ∈ A, ArgOb h A a) {b : Addr} {u : HO} (q : argH K h A b = some u) : K.lookup b = none ∧ ∃ vs : List Value, vs.length ≤ sizeLine ∧ (∀ u ∈ vs, OkU A u) ∧
    ((h.get? b = some { cls := .type "list", data := .seq vs.toArray } ∧ u = .frz { cls := .type "list", data := .seq vs.toArray } (.lst (vs.map toV))) ∨
     (h.get? b = some { cls := .type "tuple", data := .seq vs.toArray } ∧ u = .frz { cls := .type "tuple", data := .seq vs.toArray } (.tup (vs.map toV)))) := by
  obtain ⟨hb, hk⟩ := of_argH q
  obtain ⟨vs, h1, h2, h3⟩ := ar b hb
  refine ⟨hk, vs, h1, h2, ?_⟩
  rcases h3 with e | e
  · rw [argH_at hb hk e, hoOf_lst] at q
    exact .inl ⟨e, (Option.some.inj q).symm⟩
  · rw [argH_at hb hk e, hoOf_tup] at q
    exact .inr ⟨e, (Option.some.inj q).symm⟩
theorem argH_only (ar : ∀ a ∈ A, ArgOb h A a) : OnlyF (argH K h A) := fun b => by
  cases q : argH K h A b with
  | none => exact .inl rfl
  | some u =>
    obtain ⟨_, vs, _, _, ⟨_, e⟩ | ⟨_, e⟩⟩ := argH_is ar q
    · exact .inr ⟨_, _, by rw [e]⟩
    · exact .inr ⟨_, _, by rw [e]⟩
theorem argH_ok (ar : ∀ a ∈ A, ArgOb h A a) : HOk P w (argH K h A) h := fun b u q => by
  obtain ⟨_, vs, h1, h2, ⟨e, rfl⟩ | ⟨e, rfl⟩⟩ := argH_is ar q
  · exact ⟨e, by rw [List.length_map]; exact h1, vs, _, vals_toV h2, e⟩
  · exact ⟨e, by rw [List.length_map]; exact h1, vs, vals_toV h2, _, e, rfl, _, rfl⟩
theorem seq_inj {c c' : Value} {vs us : List Value} (e : (some { cls := c, data := .seq vs.toArray } : Option Obj) = some { cls := c', data := .seq us.toArray }) : c = c' ∧ vs = us := by
  have e1 := Option.some.inj e
  have e2 : c = c' := congrArg Obj.cls e1
  have e3 : Data.seq vs.toArray = Data.seq us.toArray := congrArg Obj.data e1
  injection e3 with e4
  refine ⟨e2, ?_⟩
  have e5 := congrArg Array.toList e4
  simpa using e5
/-- a list argument -/
theorem argL (KX : K.In h) (ar : ∀ a ∈ A, ArgOb h A a) {a : Addr} {vs : List Value} (ha : a ∈ A) (e : h.get? a = some { cls := .type "list", data := .seq vs.toArray }) : (∀ u ∈ vs, OkU A u) ∧ SqL K (argH K h A) a (vs.map toV) := by
  obtain ⟨us, h1, h2, h3⟩ := ar a ha
  have hu : us = vs := by
    rcases h3 with q | q
    · rw [e] at q
      exact (seq_inj q).2.symm
    · rw [e] at q
      exact absurd (Value.type.inj (seq_inj q).1) (by decide)
  subst hu
  refine ⟨h2, ?_⟩
  cases hk : K.lookup a with
  | none => exact .inl (.inr ⟨_, by rw [argH_at ha hk e, hoOf_lst]⟩)
  | some o =>
    have e2 := KX a o hk
    rw [e] at e2
    obtain rfl := Option.some.inj e2
    exact .inr ⟨_, us.toArray, _, hk, rfl, rfl, rfl, by rw [List.size_toArray]; exact h1, by simpa using vals_toV h2⟩
theorem argT (KX : K.In h) (ar : ∀ a ∈ A, ArgOb h A a) {a : Addr} {vs : List Value} (ha : a ∈ A) (e : h.get? a = some { cls := .type "tuple", data := .seq vs.toArray }) : (∀ u ∈ vs, OkU A u) ∧ SqT K (argH K h A) a (vs.map toV) := by
  obtain ⟨us, h1, h2, h3⟩ := ar a ha
  have hu : us = vs := by
    rcases h3 with q | q
    · rw [e] at q
      exact absurd (Value.type.inj (seq_inj q).1) (by decide)
    · rw [e] at q
      exact (seq_inj q).2.symm
  subst hu
  refine ⟨h2, ?_⟩
  cases hk : K.lookup a with
  | none => exact .inl (.inr ⟨_, by rw [argH_at ha hk e, hoOf_tup]⟩)
  | some o =>
    have e2 := KX a o hk
    rw [e] at e2
    obtain rfl := Option.some.inj e2
    exact .inr ⟨_, us.toArray, _, hk, rfl, rfl, by rw [List.size_toArray]; exact h1, by simpa using vals_toV h2⟩
mutual
theorem dw_one {Pm : Params} (KX : K.In h) (ar : ∀ a ∈ A, ArgOb h A a) : ∀ (d : WData) (v : Value), Well Pm h v d → plW d = true → OkU A v → Dw K (argH K h A) (toV v) d
  | .none, _, x, _, _ => by
    cases x
    exact .non
  | .bool b, _, x, _, _ => by
    cases x
    exact .bl b
  | .int i, _, x, _, _ => by
    cases x
    exact .int i
  | .str s, _, x, _, _ => by
    cases x
    exact .str s
  | .bytes b, _, x, _, _ => by
    cases x
    have z := Dw.byt (K := K) (H := argH K h A) b.toArray
    exact z
  | .list ds, _, x, p, hu => by
    obtain ⟨a, vs, rfl, ho, hall⟩ := well_list x
    obtain ⟨h2, hs⟩ := argL KX ar hu ho
    exact .lst hs (dw_all KX ar ds _ hall p h2)
  | .tuple ds, _, x, p, hu => by
    obtain ⟨a, vs, rfl, ho, hall⟩ := well_tuple x
    obtain ⟨h2, hs⟩ := argT KX ar hu ho
    exact .tup hs (dw_all KX ar ds _ hall p h2)
  | .float _, _, _, p, _ => Bool.noConfusion (show false = true from p)
  | .dict _, _, _, p, _ => Bool.noConfusion (show false = true from p)
  | .bytearray _, _, _, p, _ => Bool.noConfusion (show false = true from p)
  | .set _, _, _, p, _ => Bool.noConfusion (show false = true from p)
  | .frozenset _, _, _, p, _ => Bool.noConfusion (show false = true from p)
  | .obj _ _, _, _, p, _ => Bool.noConfusion (show false = true from p)
theorem dw_all {Pm : Params} (KX : K.In h) (ar : ∀ a ∈ A, ArgOb h A a) : ∀ (ds : List WData) (vs : List Value), WellAll Pm h vs ds → plWs ds = true → (∀ u ∈ vs, OkU A u) → DwAll K (argH K h A) (vs.map toV) ds
  | [], _, x, _, _ => by
    cases x
    exact .nil
  | d :: ds, _, x, p, hu => by
    obtain ⟨v, vs, rfl, x1, x2⟩ := well_cons x
    have q : plW d = true ∧ plWs ds = true := Bool.and_eq_true_iff.mp p
    exact .cons (dw_one KX ar d v x1 q.1 (hu _ (List.mem_cons_self ..))) (dw_all KX ar ds vs x2 q.2 fun u m => hu u (List.mem_cons_of_mem _ m))
end
end
/-! ### the call -/
theorem spec_call {P : Program} {w : World} {K : PySem.W.Frag} {mg mb : Str → Option Value} {CX : CXT} {k : Nat} {fa : Addr} {fd : FuncData} {ps : List Str} {sp : Sp} {s₁ : Shared} {vals : List Value} {ds : List WData} {R : PySem.W.WRecords} {cl : Str → Option Addr} {d0 : WData}
    (KX : K.In s₁.heap) (hns : s₁.heap.Ns mainGlobals mg) (hb : s₁.heap.Ns builtinsNs mb) (hbb : ∀ x : Str, x ≠ "__name__" → mb x = bootBuiltins x) (hlim : s₁.heap.NoLimit) (hg : s₁.gens = #[])
    (hwl : WellAll w.params s₁.heap vals ds) (hpl : plWs ds = true) (hwt : ∀ d ∈ ds, d.weight ≤ 1048576) (hr : Room k callerA)
    (F : ∀ base : Heap, K.In base → base.Ns mainGlobals mg → FnOk P w K mg base CX k fa fd ps sp) (hbind : ∀ (s : Shared) (us : List Value), us.length = ps.length → BindsTo s fd ⟨us, []⟩ (ps.zip us)) (hlen : ds.length = ps.length)
    (hsp : ∀ (H : Hp) (xs : List V), OnlyF H → DwAll K H xs ds → sp xs H (fun v H' => Dw K H' v d0) fun _ _ _ => False)
    (hCX : ∀ H e s', CX [] H s₁ (fun _ _ _ => False) e s' → False) :
    codeAny (model P w) callerA (.call (.ref fa) ⟨vals, []⟩) (fun r s' => ∃ u as, r = .ok (.ret u) ∧ ReadsW R cl s'.heap u d0 as ∧ OldK s₁.heap s'.heap ∧ s'.os = s₁.os ∧ AllBare s'.gens) s₁ := by
  obtain ⟨A, ho, ar⟩ := area_all ds vals hwl hpl hwt
  have hO : OnlyF (argH K s₁.heap A) := argH_only ar
  have hok : HOk P w (argH K s₁.heap A) s₁.heap := argH_ok ar
  have hS := dw_all KX ar ds vals hwl hpl ho
  have hV := vals_toV ho
  have hK : ∀ b u, argH K s₁.heap A b = some u → K.lookup b = none := fun b u q => (argH_is ar q).1
  have noA : ∀ {b : Addr} {o : Obj} {es : Array DictEntry} {ep : Nat}, s₁.heap.get? b = some o → o.data = .dict es ep → argH K s₁.heap A b = none := fun {b o es ep} e d => by
    cases q : argH K s₁.heap A b with
    | none => rfl
    | some u =>
      obtain ⟨_, vs, _, _, ⟨e2, _⟩ | ⟨e2, _⟩⟩ := argH_is ar q
      · rw [e2] at e
        cases e
        have d' : Data.seq vs.toArray _ = Data.dict es ep := d
        cases d'
      · rw [e2] at e
        cases e
        have d' : Data.seq vs.toArray _ = Data.dict es ep := d
        cases d'
  generalize argH K s₁.heap A = H at hO hok hS hK noA
  have base_of : ∀ {b : Addr} {o : Obj}, s₁.heap.get? b = some o → H b = none → (hidT s₁.heap H).get? b = some o := fun e n => hidT_get e n
  have nsK : ∀ {b : Addr} {m : Str → Option Value}, s₁.heap.Ns b m → (hidT s₁.heap H).Ns b m := fun {b m} ⟨o, es, ep, e, d, r⟩ => ⟨o, es, ep, base_of e (noA e d), d, r⟩
  have nK : ∀ b o, K.lookup b = some o → H b = none := fun b o e => by
    cases q : H b with
    | none => rfl
    | some u =>
      rw [hK b u q] at e
      cases e
  have hKb : K.In (hidT s₁.heap H) := fun b o e => base_of (KX b o e) (nK b o e)
  have hM : Mod K mg (hidT s₁.heap H) := ⟨hKb, nsK hns, ⟨mb, nsK hb, hbb⟩, let ⟨mc, h1, h2⟩ := hlim; ⟨mc, nsK h1, h2⟩⟩
  have e0 : Env0 P w K mg (hidT s₁.heap H) callerA [] s₁ H := ⟨rfl, hM, fun b o e => of_hidT e, Nat.le_of_eq (hidT_size _ _), trivial, fun b hb => absurd (show b ∈ ([] : List Addr) from hb) (by simp), hok, .of_eq hg⟩
  have hl : vals.length = ps.length := by rw [wellAll_len hwl]; exact hlen
  refine codeAny_mono ((F _ hKb (nsK hns)).run callerA [] s₁ H ⟨vals, []⟩ vals (vals.map toV) _ _ hr e0 (hbind s₁ vals hl) hV (hsp H _ hO hS)) fun r s' x => ?_
  cases r with
  | error e => exact (hCX H e s' x).elim
  | ok fl =>
    cases fl with
    | next => exact False.elim x
    | brk => exact False.elim x
    | cont => exact False.elim x
    | ret u =>
      obtain ⟨v, H', os, bare, un, hok', r', q⟩ := x
      have kept : ∀ b o, s₁.heap.get? b = some o → s'.heap.get? b = some o := fun b o e => by
        cases q2 : H b with
        | none => exact un.keep b o e q2 (by intro z; exact absurd (show b ∈ ([] : List Addr) from z) (by simp)) (by simp)
        | some u2 =>
          rcases hO b with z | ⟨ob, u3, z⟩
          · rw [q2] at z
            cases z
          · have z2 := un.frzs b ob _ z
            obtain ⟨e1, _⟩ := hok b _ z
            obtain ⟨e2, _⟩ := hok' b _ z2
            rw [e] at e1
            cases e1
            exact e2
      have KX' : K.In s'.heap := fun b o e => kept b o (KX b o e)
      obtain ⟨as, hrd⟩ := Dw.reads (R := R) (cl := cl) hok' KX' d0 v u q r'
      exact ⟨u, as, rfl, hrd, OldK.of_keep kept, os, bare⟩
/-! ### the row -/
theorem layable_weight {ds : List WData} (h : WData.layableAll ds = true) : ∀ d ∈ ds, d.weight ≤ 1048576 := fun d hd =>
  (PySem.W.layableW_iff.mp (List.all_eq_true.mp h d hd)).2.2
theorem encAll_len : ∀ (cs : List Codec) (a : Codec.denoteAll cs), (Codec.encAll cs a).length = cs.length
  | [], _ => rfl
  | c :: cs, a => by
    show (Codec.encAll cs a.2).length + 1 = cs.length + 1
    rw [encAll_len cs a.2]
/-- the goal that k_headS leaves (case hc), from the promise of the row's def: whatever the arguments that the codecs let and the row asks for, the def gives what stands for enc (f ..) -/
theorem walk_spec {r : OpenSpec} {k : Nat} {q : Program} {loose : List Str} {XP : (Str → Option Value) → Heap → Prop} {YP : World → Heap → Prop} {d : DefRec} {K : Params → PySem.W.Frag} {CX : World → CXT} {ps : List Str} {sp : World → Sp}
    (hwell : r.wellSaid = true) (hdf : d.params.defaults = []) (hlen : r.args.length = ps.length) (hr : Room k callerA)
    (hY : ∀ (w : World) (h : Heap), YP w h → (K w.params).In h)
    (F : ∀ (w : World) (mg : Str → Option Value) (fa : Addr) (h : Heap), YP w h → (K w.params).In h → h.Ns mainGlobals mg → mg d.name = some (.ref fa) →
      ∃ fd : FuncData, (∀ (s : Shared) (us : List Value), us.length = ps.length → BindsTo s fd ⟨us, []⟩ (ps.zip us)) ∧
        ∀ base : Heap, (K w.params).In base → base.Ns mainGlobals mg → FnOk r.prog w (K w.params) mg base (CX w) k fa fd ps (sp w))
    (hsp : ∀ (w : World) (H : Hp) (xs : List V) (a : Codec.denoteAll r.args), OnlyF H → Codec.withinAll r.args a = true → Codec.app r.args r.asked a = true → DwAll (K w.params) H xs (Codec.encAll r.args a) →
      sp w xs H (fun v H' => Dw (K w.params) H' v (r.ret.enc (Codec.app r.args r.f a))) fun _ _ _ => False)
    (hCX : ∀ (w : World) (H : Hp) (s : Shared) (e : Value) (s' : Shared), CX w [] H s (fun _ _ _ => False) e s' → False) :
    PySem.W.WalkOS q loose XP YP r d [] (fun f vs => PySem.call f vs) := by
  intro w s_0 s₁ mg mb G Y fa o pm cd doc dV kV ho hd hcd hD hmg hg args vals as hpre hlay hrd hwl hlo
  obtain ⟨a, e1, e2⟩ := PySem.W.os_pre_some hpre
  obtain ⟨e3, hwi⟩ := Codec.encAll_of_decAll r.args args a e1
  subst e3
  have KX := hY w _ Y
  obtain ⟨fd, hb, hF⟩ := F w mg fa _ Y KX G.T.g hmg
  refine PySem.W.enter_call (codeAny_mono (spec_call (R := []) (cl := classAt s_0.heap) (d0 := r.ret.enc (Codec.app r.args r.f a)) KX G.T.g G.T.b G.T.builtins G.T.nolimit hg hwl (pl_encAll _ _) (layable_weight hlay) hr hF hb (by rw [encAll_len]; exact hlen)
    (fun H xs hO hS => hsp w H xs a hO hwi e2 hS) fun H e s' => hCX w H s₁ e s') fun r' s' hq => ?_)
  obtain ⟨u, as', rfl, h1, h2, h3, h4⟩ := hq
  exact ⟨.inl ⟨u, _, as', rfl, fun _ => rfl, h1, (OpenSpec.post_iff hwell hwi _ _).mpr rfl, fun z => Bool.noConfusion (show false = true from z)⟩, h2, h3, h4⟩
/-- the same where the promise hangs on the written part alone -/
theorem walk_specK {r : OpenSpec} {k : Nat} {q : Program} {loose : List Str} {XP : (Str → Option Value) → Heap → Prop} {YP : World → Heap → Prop} {d : DefRec} {K : Params → PySem.W.Frag} {CX : CXT} {ps : List Str} {sp : PySem.W.Frag → Sp}
    (hwell : r.wellSaid = true) (hdf : d.params.defaults = []) (hlen : r.args.length = ps.length) (hr : Room k callerA)
    (hY : ∀ (w : World) (h : Heap), YP w h → (K w.params).In h)
    (F : ∀ (w : World) (mg : Str → Option Value) (fa : Addr) (h : Heap), YP w h → (K w.params).In h → h.Ns mainGlobals mg → mg d.name = some (.ref fa) →
      ∃ fd : FuncData, (∀ (s : Shared) (us : List Value), us.length = ps.length → BindsTo s fd ⟨us, []⟩ (ps.zip us)) ∧
        ∀ base : Heap, (K w.params).In base → base.Ns mainGlobals mg → FnOk r.prog w (K w.params) mg base CX k fa fd ps (sp (K w.params)))
    (hsp : ∀ (K : PySem.W.Frag) (H : Hp) (xs : List V) (a : Codec.denoteAll r.args), OnlyF H → Codec.withinAll r.args a = true → Codec.app r.args r.asked a = true → DwAll K H xs (Codec.encAll r.args a) →
      sp K xs H (fun v H' => Dw K H' v (r.ret.enc (Codec.app r.args r.f a))) fun _ _ _ => False)
    (hCX : ∀ (H : Hp) (s : Shared) (e : Value) (s' : Shared), CX [] H s (fun _ _ _ => False) e s' → False) :
    PySem.W.WalkOS q loose XP YP r d [] (fun f vs => PySem.call f vs) :=
  walk_spec (K := K) (CX := fun _ => CX) (sp := fun w => sp (K w.params)) hwell hdf hlen hr hY F (fun w H xs a h1 h2 h3 h4 => hsp (K w.params) H xs a h1 h2 h3 h4) fun _ H s e s' => hCX H s e s'
end L2
end
end
section
set_option linter.all false
namespace SL
open Bd
/-! ### 1. What the specification's slips are at any time -/
/-- no later slip has what an earlier one keeps -/
def Rk (s t : Slip) : Prop := ∀ f, f ∈ s.keeps → ¬ f ∈ t.has
def FineS (s : Slip) : Prop := s.files ≠ [] ∧ s.files.Nodup ∧ s.files.length ≤ 8 ∧ (∀ f ∈ s.files, f < 16384) ∧ 1 ≤ s.days
/-- every slip that waits is kept from being served -/
def Stuck : List Nat → Slips → Prop
  | _, [] => True
  | taken, s :: l => (s.waiting = true → ∃ f, f ∈ s.files ∧ f ∈ taken) ∧ Stuck (s.keeps ++ taken) l
theorem waiting_iff {s : Slip} : s.waiting = true ↔ s.stand = .waits := by
  unfold Slip.waiting; exact beq_iff_eq
theorem has_waits {s : Slip} (h : s.waiting = true) : s.has = [] := by
  have e := waiting_iff.mp h
  unfold Slip.has; rw [e]
theorem keeps_w {s : Slip} (h : s.waiting = true) : s.keeps = s.files := by unfold Slip.keeps; rw [if_pos h]
theorem keeps_n {s : Slip} (h : ¬ s.waiting = true) : s.keeps = s.has := by unfold Slip.keeps; rw [if_neg h]
theorem has_sub {s : Slip} {f : Nat} (h : f ∈ s.has) : f ∈ s.files := by
  unfold Slip.has at h
  split at h
  · exact (List.mem_filter.mp h).1
  · cases h
theorem has_keeps {s : Slip} {f : Nat} (h : f ∈ s.has) : f ∈ s.keeps := by
  by_cases w : s.waiting = true
  · rw [has_waits w] at h; cases h
  · rw [keeps_n w]; exact h
/-- a slip that is served -/
def sv (d : Nat) (s : Slip) : Slip := { s with stand := .out d [] }
theorem sv_has (d : Nat) (s : Slip) : (sv d s).has = s.files := by
  unfold Slip.has sv
  simp
theorem sv_w (d : Nat) (s : Slip) : ¬ (sv d s).waiting = true := by
  intro h; have := waiting_iff.mp h; cases this
theorem sv_keeps (d : Nat) (s : Slip) : (sv d s).keeps = s.files := by rw [keeps_n (sv_w d s), sv_has]
theorem meet_iff {a b : List Nat} : (a.any fun f => b.contains f) = true ↔ ∃ f, f ∈ a ∧ f ∈ b := by
  rw [List.any_eq_true]
  exact ⟨fun ⟨f, h1, h2⟩ => ⟨f, h1, List.contains_iff_mem.mp h2⟩, fun ⟨f, h1, h2⟩ => ⟨f, h1, List.contains_iff_mem.mpr h2⟩⟩
theorem meet_no {a b : List Nat} : (a.any fun f => b.contains f) = false ↔ ∀ f, f ∈ a → ¬ f ∈ b := by
  constructor
  · intro h f h1 h2
    have := meet_iff.mpr ⟨f, h1, h2⟩
    rw [h] at this; cases this
  · intro h
    cases e : (a.any fun f => b.contains f) with
    | false => rfl
    | true => obtain ⟨f, h1, h2⟩ := meet_iff.mp e; exact absurd h2 (h f h1)
/-- the two ways of serveFrom -/
theorem sf_yes {d : Nat} {t : List Nat} {s : Slip} {l : Slips} (h : s.waiting = true) (n : ∀ f, f ∈ s.files → ¬ f ∈ t) : serveFrom d t (s :: l) = sv d s :: serveFrom d (s.files ++ t) l := by
  show (if _ then _ else _) = _
  rw [if_pos ⟨h, meet_no.mpr n⟩]; rfl
theorem sf_no {d : Nat} {t : List Nat} {s : Slip} {l : Slips} (h : s.waiting = true → ∃ f, f ∈ s.files ∧ f ∈ t) : serveFrom d t (s :: l) = s :: serveFrom d (s.keeps ++ t) l := by
  show (if _ then _ else _) = _
  rw [if_neg]
  rintro ⟨h1, h2⟩
  obtain ⟨f, a, b⟩ := h h1
  exact meet_no.mp h2 f a b
theorem sf_cases (t : List Nat) (s : Slip) : (s.waiting = true ∧ ∀ f, f ∈ s.files → ¬ f ∈ t) ∨ (s.waiting = true → ∃ f, f ∈ s.files ∧ f ∈ t) := by
  by_cases h : s.waiting = true
  · cases e : (s.files.any fun f => t.contains f) with
    | false => exact .inl ⟨h, meet_no.mp e⟩
    | true => exact .inr fun _ => meet_iff.mp e
  · exact .inr fun q => absurd q h
theorem sf_len (d : Nat) : ∀ (l : Slips) (t : List Nat), (serveFrom d t l).length = l.length
  | [], _ => rfl
  | s :: l, t => by
    rcases sf_cases t s with ⟨h, n⟩ | h
    · rw [sf_yes h n, List.length_cons, sf_len d l]; rfl
    · rw [sf_no h, List.length_cons, sf_len d l]; rfl
/-- every slip is as it was, or served -/
theorem sf_mem (d : Nat) : ∀ (l : Slips) (t : List Nat) (x : Slip), x ∈ serveFrom d t l → x ∈ l ∨ ∃ s, s ∈ l ∧ s.waiting = true ∧ x = sv d s ∧ ∀ f, f ∈ s.files → ¬ f ∈ t
  | [], _, x, h => by cases h
  | s :: l, t, x, h => by
    rcases sf_cases t s with ⟨w, n⟩ | w
    · rw [sf_yes w n] at h
      rcases List.mem_cons.mp h with e | e
      · exact .inr ⟨s, List.mem_cons_self, w, e, n⟩
      · rcases sf_mem d l _ x e with q | ⟨y, q1, q2, q3, q4⟩
        · exact .inl (List.mem_cons_of_mem _ q)
        · exact .inr ⟨y, List.mem_cons_of_mem _ q1, q2, q3, fun f hf ht => q4 f hf (List.mem_append_right _ ht)⟩
    · rw [sf_no w] at h
      rcases List.mem_cons.mp h with e | e
      · exact .inl (e ▸ List.mem_cons_self)
      · rcases sf_mem d l _ x e with q | ⟨y, q1, q2, q3, q4⟩
        · exact .inl (List.mem_cons_of_mem _ q)
        · exact .inr ⟨y, List.mem_cons_of_mem _ q1, q2, q3, fun f hf ht => q4 f hf (List.mem_append_right _ ht)⟩
theorem sf_pair (d : Nat) : ∀ (l : Slips) (t : List Nat), l.Pairwise Rk → (serveFrom d t l).Pairwise Rk
  | [], _, _ => List.Pairwise.nil
  | s :: l, t, h => by
    obtain ⟨h1, h2⟩ := List.pairwise_cons.mp h
    rcases sf_cases t s with ⟨w, n⟩ | w
    · rw [sf_yes w n]
      refine List.pairwise_cons.mpr ⟨fun x hx f hf => ?_, sf_pair d l _ h2⟩
      rw [sv_keeps] at hf
      rcases sf_mem d l _ x hx with q | ⟨y, q1, q2, rfl, q4⟩
      · exact h1 x q f (by rw [keeps_w w]; exact hf)
      · rw [sv_has]
        exact fun z => q4 f z (List.mem_append_left _ hf)
    · rw [sf_no w]
      refine List.pairwise_cons.mpr ⟨fun x hx f hf => ?_, sf_pair d l _ h2⟩
      rcases sf_mem d l _ x hx with q | ⟨y, q1, q2, rfl, q4⟩
      · exact h1 x q f hf
      · rw [sv_has]
        exact fun z => q4 f z (List.mem_append_left _ hf)
theorem stuck_mono : ∀ (l : Slips) {t t' : List Nat}, (∀ f, f ∈ t → f ∈ t') → Stuck t l → Stuck t' l
  | [], _, _, _, _ => trivial
  | s :: l, t, t', h, q => by
    refine ⟨fun w => ?_, stuck_mono l (fun f hf => ?_) q.2⟩
    · obtain ⟨f, a, b⟩ := q.1 w
      exact ⟨f, a, h f b⟩
    · rcases List.mem_append.mp hf with z | z
      · exact List.mem_append_left _ z
      · exact List.mem_append_right _ (h f z)
theorem sf_stuck (d : Nat) : ∀ (l : Slips) (t : List Nat), Stuck t (serveFrom d t l)
  | [], _ => trivial
  | s :: l, t => by
    rcases sf_cases t s with ⟨w, n⟩ | w
    · rw [sf_yes w n]
      refine ⟨fun q => absurd q (sv_w d s), ?_⟩
      rw [sv_keeps]
      exact sf_stuck d l _
    · rw [sf_no w]
      exact ⟨w, sf_stuck d l _⟩
theorem sf_has (d : Nat) : ∀ (l : Slips) (t : List Nat) (f : Nat), f ∈ outOf l → f ∈ outOf (serveFrom d t l)
  | [], _, f, h => by cases h
  | s :: l, t, f, h => by
    unfold outOf at h
    rw [List.flatMap_cons] at h
    rcases sf_cases t s with ⟨w, n⟩ | w
    · rw [sf_yes w n]
      unfold outOf
      rw [List.flatMap_cons]
      rcases List.mem_append.mp h with z | z
      · rw [has_waits w] at z; cases z
      · exact List.mem_append_right _ (sf_has d l _ f z)
    · rw [sf_no w]
      unfold outOf
      rw [List.flatMap_cons]
      rcases List.mem_append.mp h with z | z
      · exact List.mem_append_left _ z
      · exact List.mem_append_right _ (sf_has d l _ f z)
theorem serve_stuck (d : Nat) (l : Slips) : Stuck (outOf (serve d l)) (serve d l) := stuck_mono _ (fun f h => sf_has d l _ f h) (sf_stuck d l _)
/-- served slips are of the same make -/
theorem sf_fine (d : Nat) (l : Slips) (t : List Nat) (h : ∀ s ∈ l, FineS s) : ∀ s ∈ serveFrom d t l, FineS s := by
  intro x hx
  rcases sf_mem d l t x hx with q | ⟨s, q1, _, rfl, _⟩
  · exact h x q
  · exact h s q1
structure Good (l : Slips) : Prop where
  pair : l.Pairwise Rk
  stuck : Stuck (outOf l) l
  fine : ∀ s ∈ l, FineS s
theorem Good.serve {l : Slips} (d : Nat) (p : l.Pairwise Rk) (f : ∀ s ∈ l, FineS s) : Good (serve d l) := ⟨sf_pair d l _ p, serve_stuck d l, sf_fine d l _ f⟩
theorem pair_map {g : Slip → Slip} (hk : ∀ s f, f ∈ (g s).keeps → f ∈ s.keeps) (hh : ∀ s f, f ∈ (g s).has → f ∈ s.has) {l : Slips} (h : l.Pairwise Rk) : (l.map g).Pairwise Rk := by
  rw [List.pairwise_map]
  exact h.imp fun {a b} r f hf hb => r f (hk a f hf) (hh b f hb)
theorem ret_has {f g : Nat} {s : Slip} (h : g ∈ (s.returned f).has) : g ∈ s.has := by
  unfold Slip.returned at h
  split at h
  · rename_i d b e
    split at h
    · unfold Slip.has at h ⊢
      rw [e]
      simp only [] at h ⊢
      rw [List.mem_filter] at h ⊢
      refine ⟨h.1, ?_⟩
      have h2 := h.2
      simp at h2 ⊢
      exact h2.1
    · exact h
  · exact h
theorem ret_w {f : Nat} {s : Slip} : (s.returned f).waiting = s.waiting := by
  unfold Slip.returned
  split
  · rename_i d b e
    split
    · unfold Slip.waiting; rw [e]; rfl
    · rfl
  · rfl
theorem ret_files {f : Nat} {s : Slip} : (s.returned f).files = s.files := by
  unfold Slip.returned
  split
  · split <;> rfl
  · rfl
theorem ret_days {f : Nat} {s : Slip} : (s.returned f).days = s.days := by
  unfold Slip.returned
  split
  · split <;> rfl
  · rfl
theorem ret_keeps {f g : Nat} {s : Slip} (h : g ∈ (s.returned f).keeps) : g ∈ s.keeps := by
  by_cases w : s.waiting = true
  · rw [keeps_w (by rw [ret_w]; exact w), ret_files] at h
    rw [keeps_w w]; exact h
  · rw [keeps_n (by rw [ret_w]; exact w)] at h
    rw [keeps_n w]; exact ret_has h
def gone (s : Slip) : Slip := { s with stand := .withdrawn }
theorem gone_has (s : Slip) : (gone s).has = [] := rfl
theorem gone_keeps (s : Slip) : (gone s).keeps = [] := rfl
theorem modify_mem {l : Slips} {q : Nat} {x : Slip} (h : x ∈ l.modify q gone) : x ∈ l ∨ ∃ s, s ∈ l ∧ x = gone s := by
  induction l generalizing q with
  | nil => cases q <;> cases h
  | cons a l ih =>
    cases q with
    | zero =>
      rw [List.modify_zero_cons] at h
      rcases List.mem_cons.mp h with e | e
      · exact .inr ⟨a, List.mem_cons_self, e⟩
      · exact .inl (List.mem_cons_of_mem _ e)
    | succ q =>
      rw [List.modify_succ_cons] at h
      rcases List.mem_cons.mp h with e | e
      · exact .inl (e ▸ List.mem_cons_self)
      · rcases ih e with z | ⟨s, z, rfl⟩
        · exact .inl (List.mem_cons_of_mem _ z)
        · exact .inr ⟨s, List.mem_cons_of_mem _ z, rfl⟩
theorem pair_modify {l : Slips} (q : Nat) (h : l.Pairwise Rk) : (l.modify q gone).Pairwise Rk := by
  induction l generalizing q with
  | nil => cases q <;> exact List.Pairwise.nil
  | cons a l ih =>
    obtain ⟨h1, h2⟩ := List.pairwise_cons.mp h
    cases q with
    | zero =>
      rw [List.modify_zero_cons]
      exact List.pairwise_cons.mpr ⟨fun x _ f hf => (by rw [gone_keeps] at hf; cases hf), h2⟩
    | succ q =>
      rw [List.modify_succ_cons]
      refine List.pairwise_cons.mpr ⟨fun x hx f hf => ?_, ih q h2⟩
      rcases modify_mem hx with z | ⟨s, z, rfl⟩
      · exact h1 x z f hf
      · rw [gone_has]; exact List.not_mem_nil
/-- what an entry asks for may be asked for -/
def FineE (e : SEntry) : Prop := match e.what with
  | .ask r fs n => FineS ⟨e.day, r, fs, n, .waits⟩
  | _ => True
theorem Good.step {l : Slips} (g : Good l) {e : SEntry} (he : FineE e) : Good (stepSlips l e) := by
  unfold stepSlips
  obtain ⟨d, w⟩ := e
  cases w with
  | ask r fs n =>
    refine Good.serve d ?_ ?_
    · rw [List.pairwise_append]
      refine ⟨g.pair, List.pairwise_singleton _ _, fun a _ b hb f _ hf => ?_⟩
      rw [List.mem_singleton] at hb
      subst hb
      cases hf
    · intro s hs
      rcases List.mem_append.mp hs with z | z
      · exact g.fine s z
      · rw [List.mem_singleton] at z; subst z; exact he
  | back f =>
    refine Good.serve d (pair_map (fun s g h => ret_keeps h) (fun s g h => ret_has h) g.pair) ?_
    intro s hs
    obtain ⟨t, ht, rfl⟩ := List.mem_map.mp hs
    have := g.fine t ht
    unfold FineS at this ⊢
    rw [ret_files, ret_days]; exact this
  | drop q =>
    refine Good.serve d (pair_modify q g.pair) ?_
    intro s hs
    rcases modify_mem hs with z | ⟨t, z, rfl⟩
    · exact g.fine s z
    · exact g.fine t z
theorem good_fold : ∀ (l : SEntries) (s : Slips), Good s → (∀ e ∈ l, FineE e) → Good (l.foldl stepSlips s)
  | [], _, g, _ => g
  | e :: l, s, g, h => good_fold l _ (g.step (h e List.mem_cons_self)) fun x hx => h x (List.mem_cons_of_mem _ hx)
theorem good_of {l : SEntries} (h : ∀ e ∈ l, FineE e) : Good (slipsOf l) := good_fold l [] ⟨List.Pairwise.nil, trivial, fun s hs => by cases hs⟩ h
theorem good_by {l : SEntries} (h : ∀ e ∈ l, FineE e) (k : Nat) : Good (slipsBy l k) := good_of fun e he => h e (List.mem_filter.mp he).1
end SL
end
section
set_option linter.all false
namespace SL
open Bd
/-! ### 2. At the latest -/
/-- the greatest of a row -/
def mx (a : Nat → Nat) : List Nat → Nat
  | [] => 0
  | f :: l => max (a f) (mx a l)
theorem mx_ge {a : Nat → Nat} : ∀ {l : List Nat} {f : Nat}, f ∈ l → a f ≤ mx a l
  | g :: l, f, h => by
    show a f ≤ max (a g) (mx a l)
    rcases List.mem_cons.mp h with rfl | h
    · exact Nat.le_max_left _ _
    · exact Nat.le_trans (mx_ge h) (Nat.le_max_right _ _)
theorem mx_le {a : Nat → Nat} {n : Nat} : ∀ {l : List Nat}, (∀ f, f ∈ l → a f ≤ n) → mx a l ≤ n
  | [], _ => Nat.zero_le _
  | g :: l, h => Nat.max_le.mpr ⟨h g List.mem_cons_self, mx_le fun f hf => h f (List.mem_cons_of_mem _ hf)⟩
theorem mx_congr {a b : Nat → Nat} : ∀ {l : List Nat}, (∀ f, f ∈ l → a f = b f) → mx a l = mx b l
  | [], _ => rfl
  | g :: l, h => by
    show max (a g) (mx a l) = max (b g) (mx b l)
    rw [h g List.mem_cons_self, mx_congr fun f hf => h f (List.mem_cons_of_mem _ hf)]
theorem mx_at {a : Nat → Nat} {l : List Nat} (h : l ≠ []) : ∃ f, f ∈ l ∧ a f = mx a l := by
  induction l with
  | nil => exact absurd rfl h
  | cons g l ih =>
    show ∃ f, f ∈ g :: l ∧ a f = max (a g) (mx a l)
    by_cases e : l = []
    · subst e; exact ⟨g, List.mem_cons_self, (Nat.max_eq_left (Nat.zero_le _)).symm⟩
    · obtain ⟨f, h1, h2⟩ := ih e
      by_cases c : mx a l ≤ a g
      · exact ⟨g, List.mem_cons_self, (Nat.max_eq_left c).symm⟩
      · exact ⟨f, List.mem_cons_of_mem _ h1, by rw [h2]; exact (Nat.max_eq_right (by omega)).symm⟩
/-- from when each file is free, behind a slip that waits -/
def adv (a : Nat → Nat) (s : Slip) : Nat → Nat := fun f => if s.waiting = true ∧ f ∈ s.files then mx a s.files + s.days else a f
def lat (a : Nat → Nat) : Slips → Nat → Nat
  | [], _ => 0
  | s :: l, q => match q with
    | 0 => mx a s.files
    | q + 1 => lat (adv a s) l q
theorem adv_n {a : Nat → Nat} {s : Slip} (h : ¬ s.waiting = true) : adv a s = a := by
  funext f; unfold adv; rw [if_neg fun z => h z.1]
theorem adv_in {a : Nat → Nat} {s : Slip} {f : Nat} (h : s.waiting = true) (hf : f ∈ s.files) : adv a s f = mx a s.files + s.days := by
  unfold adv; rw [if_pos ⟨h, hf⟩]
theorem adv_out {a : Nat → Nat} {s : Slip} {f : Nat} (hf : ¬ f ∈ s.files) : adv a s f = a f := by
  unfold adv; rw [if_neg fun z => hf z.2]
/-- from when each file is free at first -/
def free0 (x : Nat) (l : Slips) (f : Nat) : Nat := match l.find? fun s => s.has.contains f with
  | some s => max s.due x
  | none => x
theorem free0_cons (x : Nat) (s : Slip) (l : Slips) (f : Nat) : free0 x (s :: l) f = if f ∈ s.has then max s.due x else free0 x l f := by
  unfold free0
  rw [List.find?_cons]
  by_cases h : f ∈ s.has
  · rw [if_pos h, List.contains_iff_mem.mpr h]
  · rw [if_neg h]
    have : s.has.contains f = false := by
      cases e : s.has.contains f with
      | false => rfl
      | true => exact absurd (List.contains_iff_mem.mp e) h
    rw [this]
theorem free0_nil (x : Nat) (f : Nat) : free0 x [] f = x := rfl
/-- lat over a list: only who waits counts -/
def rt1 (d : Nat) (s : Slip) : Slip := match s.stand with
  | .out e _ => if e + s.days ≤ d then { s with stand := .out e s.files } else s
  | _ => s
theorem rt1_all (d : Nat) (l : Slips) : returnAll d l = l.map (rt1 d) := rfl
theorem rt1_files (d : Nat) (s : Slip) : (rt1 d s).files = s.files := by
  unfold rt1; split
  · split <;> rfl
  · rfl
theorem rt1_days (d : Nat) (s : Slip) : (rt1 d s).days = s.days := by
  unfold rt1; split
  · split <;> rfl
  · rfl
theorem rt1_since (d : Nat) (s : Slip) : (rt1 d s).since = s.since := by
  unfold rt1; split
  · rename_i e b h
    split
    · unfold Slip.since; rw [h]
    · rfl
  · rfl
theorem rt1_due (d : Nat) (s : Slip) : (rt1 d s).due = s.due := by unfold Slip.due; rw [rt1_since, rt1_days]
theorem rt1_w (d : Nat) (s : Slip) : (rt1 d s).waiting = s.waiting := by
  unfold rt1; split
  · rename_i e b h
    split
    · unfold Slip.waiting; rw [h]; rfl
    · rfl
  · rfl
theorem out_due {s : Slip} {f : Nat} (h : f ∈ s.has) : ∃ e b, s.stand = .out e b ∧ s.due = e + s.days := by
  unfold Slip.has at h
  split at h
  · rename_i e b q
    exact ⟨e, b, q, by unfold Slip.due Slip.since; rw [q]; rfl⟩
  · cases h
theorem filter_self_nil (l : List Nat) : (l.filter fun f => !l.contains f) = [] := by
  rw [List.filter_eq_nil_iff]
  intro f hf
  simp [hf]
theorem rt1_has_no {d : Nat} {s : Slip} (h : s.due ≤ d) : (rt1 d s).has = [] := by
  unfold rt1
  split
  · rename_i e b q
    have : s.due = e + s.days := by unfold Slip.due Slip.since; rw [q]; rfl
    rw [if_pos (by omega)]
    exact filter_self_nil s.files
  · rename_i q
    unfold Slip.has
    split
    · rename_i e b q'; exact absurd q' (q e b)
    · rfl
theorem rt1_has_yes {d : Nat} {s : Slip} (h : ¬ s.due ≤ d) : (rt1 d s).has = s.has := by
  unfold rt1
  split
  · rename_i e b q
    have : s.due = e + s.days := by unfold Slip.due Slip.since; rw [q]; rfl
    rw [if_neg (by omega)]
  · rfl
theorem lat_rt (d : Nat) : ∀ (l : Slips) (a : Nat → Nat) (q : Nat), lat a (l.map (rt1 d)) q = lat a l q
  | [], _, _ => rfl
  | s :: l, a, 0 => by show mx a (rt1 d s).files = mx a s.files; rw [rt1_files]
  | s :: l, a, q + 1 => by
    show lat (adv a (rt1 d s)) (l.map (rt1 d)) q = lat (adv a s) l q
    have : adv a (rt1 d s) = adv a s := by unfold adv; rw [rt1_files, rt1_w, rt1_days]
    rw [this, lat_rt d l]
/-- step 1: what is free before d is as good as free on d -/
theorem lat_up (d : Nat) : ∀ (l : Slips) (a b : Nat → Nat) (t : List Nat) (q : Nat), (∀ f, b f = max d (a f)) → (∀ f, f ∈ t → d ≤ a f) → (∀ s ∈ l, ∀ f, f ∈ s.has → f ∈ t) → Stuck t l → (∃ s, l[q]? = some s ∧ s.waiting = true) → lat a l q = lat b l q
  | [], _, _, _, _, _, _, _, _, h => by obtain ⟨_, h, _⟩ := h; simp at h
  | s :: l, a, b, t, q, hb, ht, hh, st, hq => by
    have key : s.waiting = true → mx a s.files = mx b s.files ∧ d ≤ mx a s.files := fun w => by
      obtain ⟨f, h1, h2⟩ := st.1 w
      have h3 : d ≤ mx a s.files := Nat.le_trans (ht f h2) (mx_ge h1)
      refine ⟨Nat.le_antisymm (mx_le fun g hg => ?_) (mx_le fun g hg => ?_), h3⟩
      · have := mx_ge (a := b) hg
        have := hb g
        omega
      · have := mx_ge (a := a) hg
        rw [hb g]
        omega
    cases q with
    | zero =>
      obtain ⟨s', e, w⟩ := hq
      have : s = s' := Option.some.inj e
      subst this
      exact (key w).1
    | succ q =>
      show lat (adv a s) l q = lat (adv b s) l q
      refine lat_up d l (adv a s) (adv b s) (s.keeps ++ t) q (fun f => ?_) (fun f hf => ?_) (fun x hx f hf => List.mem_append_right _ (hh x (List.mem_cons_of_mem _ hx) f hf)) st.2 (by simpa using hq)
      · by_cases w : s.waiting = true
        · by_cases i : f ∈ s.files
          · rw [adv_in w i, adv_in w i, ← (key w).1]
            have := (key w).2
            omega
          · rw [adv_out i, adv_out i]; exact hb f
        · rw [adv_n w, adv_n w]; exact hb f
      · by_cases w : s.waiting = true
        · by_cases i : f ∈ s.files
          · rw [adv_in w i]
            have := (key w).2
            omega
          · rw [adv_out i]
            rw [keeps_w w] at hf
            rcases List.mem_append.mp hf with z | z
            · exact absurd z i
            · exact ht f z
        · rw [adv_n w]
          rw [keeps_n w] at hf
          rcases List.mem_append.mp hf with z | z
          · exact ht f (hh s List.mem_cons_self f z)
          · exact ht f z
/-- for how many days a file goes out now -/
def nf : List Nat → Slips → Nat → Option Nat
  | _, [], _ => none
  | t, s :: l, f => if s.waiting = true ∧ (s.files.any fun f => t.contains f) = false then (if f ∈ s.files then some s.days else nf (s.files ++ t) l f) else nf (s.keeps ++ t) l f
theorem nf_yes {t : List Nat} {s : Slip} {l : Slips} {f : Nat} (h : s.waiting = true) (n : ∀ f, f ∈ s.files → ¬ f ∈ t) : nf t (s :: l) f = if f ∈ s.files then some s.days else nf (s.files ++ t) l f := by
  show (if _ then _ else _) = _
  rw [if_pos ⟨h, meet_no.mpr n⟩]
theorem nf_no {t : List Nat} {s : Slip} {l : Slips} {f : Nat} (h : s.waiting = true → ∃ f, f ∈ s.files ∧ f ∈ t) : nf t (s :: l) f = nf (s.keeps ++ t) l f := by
  show (if _ then _ else _) = _
  rw [if_neg]
  rintro ⟨h1, h2⟩
  obtain ⟨f, a, b⟩ := h h1
  exact meet_no.mp h2 f a b
theorem nf_taken : ∀ (l : Slips) (t : List Nat) (f : Nat), f ∈ t → nf t l f = none
  | [], _, _, _ => rfl
  | s :: l, t, f, h => by
    rcases sf_cases t s with ⟨w, n⟩ | w
    · rw [nf_yes w n, if_neg fun z => n f z h]
      exact nf_taken l _ f (List.mem_append_right _ h)
    · rw [nf_no w]
      exact nf_taken l _ f (List.mem_append_right _ h)
def pick (d : Nat) (o : Option Nat) (z : Nat) : Nat := match o with
  | some n => d + n
  | none => z
/-- step 2: serving on d -/
theorem lat_serve (d : Nat) : ∀ (l : Slips) (a b : Nat → Nat) (t : List Nat) (q : Nat), (∀ s ∈ l, FineS s) → (∀ f, ¬ f ∈ t → a f = d) → (∀ f, f ∈ t → d < a f) → (∀ f, b f = pick d (nf t l f) (a f)) → (∀ s ∈ l, ∀ f, f ∈ s.has → f ∈ t) →
    (∃ s, l[q]? = some s ∧ s.waiting = true) → (∃ s, (serveFrom d t l)[q]? = some s ∧ ((s.waiting = true ∧ lat a l q = lat b (serveFrom d t l) q) ∨ (s.since = some d ∧ lat a l q = d)))
  | [], _, _, _, _, _, _, _, _, _, h => by obtain ⟨_, h, _⟩ := h; simp at h
  | s :: l, a, b, t, q, fi, h0, h1, hb, hh, hq => by
    have fs := fi s List.mem_cons_self
    rcases sf_cases t s with ⟨w, n⟩ | w
    · have em : mx a s.files = d := by
        refine Nat.le_antisymm (mx_le fun g hg => by rw [h0 g (n g hg)]; exact Nat.le_refl _) ?_
        obtain ⟨f, h2, h3⟩ := mx_at (a := a) fs.1
        rw [← h3, h0 f (n f h2)]; exact Nat.le_refl _
      rw [sf_yes w n]
      cases q with
      | zero => exact ⟨_, rfl, .inr ⟨rfl, em⟩⟩
      | succ q =>
        have ea : adv b (sv d s) = b := adv_n (sv_w d s)
        have A0 : ∀ f, ¬ f ∈ s.files ++ t → adv a s f = d := fun f hf => by
          have i : ¬ f ∈ s.files := fun z => hf (List.mem_append_left _ z)
          rw [adv_out i]; exact h0 f fun z => hf (List.mem_append_right _ z)
        have A1 : ∀ f, f ∈ s.files ++ t → d < adv a s f := fun f hf => by
          by_cases i : f ∈ s.files
          · rw [adv_in w i, em]; have := fs.2.2.2.2; omega
          · rw [adv_out i]
            rcases List.mem_append.mp hf with z | z
            · exact absurd z i
            · exact h1 f z
        have A2 : ∀ f, b f = pick d (nf (s.files ++ t) l f) (adv a s f) := fun f => by
          by_cases i : f ∈ s.files
          · rw [hb f, nf_yes w n, if_pos i, nf_taken l _ f (List.mem_append_left _ i), adv_in w i, em]; rfl
          · rw [hb f, nf_yes w n, if_neg i, adv_out i]
        obtain ⟨x, hx, r⟩ := lat_serve d l (adv a s) b (s.files ++ t) q (fun x hx => fi x (List.mem_cons_of_mem _ hx)) A0 A1 A2 (fun x hx f hf => List.mem_append_right _ (hh x (List.mem_cons_of_mem _ hx) f hf)) (by simpa using hq)
        refine ⟨x, by simpa using hx, ?_⟩
        show (x.waiting = true ∧ lat (adv a s) l q = lat (adv b (sv d s)) _ q) ∨ _
        rw [ea]; exact r
    · rw [sf_no w]
      have em : s.waiting = true → mx a s.files = mx b s.files ∧ d < mx a s.files := fun z => by
        refine ⟨mx_congr fun f hf => ?_, ?_⟩
        · rw [hb f, nf_no w, nf_taken l _ f (List.mem_append_left _ (by rw [keeps_w z]; exact hf))]; rfl
        · obtain ⟨f, h2, h3⟩ := w z
          exact Nat.lt_of_lt_of_le (h1 f h3) (mx_ge h2)
      cases q with
      | zero =>
        obtain ⟨s', e, w'⟩ := hq
        have : s = s' := Option.some.inj e
        subst this
        exact ⟨s, rfl, .inl ⟨w', (em w').1⟩⟩
      | succ q =>
        have A0 : ∀ f, ¬ f ∈ s.keeps ++ t → adv a s f = d := fun f hf => by
          by_cases z : s.waiting = true
          · have i : ¬ f ∈ s.files := fun y => hf (List.mem_append_left _ (by rw [keeps_w z]; exact y))
            rw [adv_out i]; exact h0 f fun y => hf (List.mem_append_right _ y)
          · rw [adv_n z]; exact h0 f fun y => hf (List.mem_append_right _ y)
        have A1 : ∀ f, f ∈ s.keeps ++ t → d < adv a s f := fun f hf => by
          by_cases z : s.waiting = true
          · by_cases i : f ∈ s.files
            · rw [adv_in z i]; have := (em z).2; omega
            · rw [adv_out i]
              rw [keeps_w z] at hf
              rcases List.mem_append.mp hf with y | y
              · exact absurd y i
              · exact h1 f y
          · rw [adv_n z]
            rw [keeps_n z] at hf
            rcases List.mem_append.mp hf with y | y
            · exact h1 f (hh s List.mem_cons_self f y)
            · exact h1 f y
        have A2 : ∀ f, adv b s f = pick d (nf (s.keeps ++ t) l f) (adv a s f) := fun f => by
          by_cases z : s.waiting = true
          · by_cases i : f ∈ s.files
            · rw [adv_in z i, adv_in z i, nf_taken l _ f (List.mem_append_left _ (by rw [keeps_w z]; exact i)), (em z).1]; rfl
            · rw [adv_out i, adv_out i, hb f, nf_no w]
          · rw [adv_n z, adv_n z, hb f, nf_no w]
        obtain ⟨x, hx, r⟩ := lat_serve d l (adv a s) (adv b s) (s.keeps ++ t) q (fun x hx => fi x (List.mem_cons_of_mem _ hx)) A0 A1 A2 (fun x hx f hf => List.mem_append_right _ (hh x (List.mem_cons_of_mem _ hx) f hf)) (by simpa using hq)
        exact ⟨x, by simpa using hx, r⟩
/-- what is free at first, once served -/
theorem free0_serve (d : Nat) : ∀ (l : Slips) (t : List Nat) (f : Nat), (∀ s ∈ l, ∀ f, f ∈ s.has → f ∈ t) → free0 d (serveFrom d t l) f = pick d (nf t l f) (free0 d l f)
  | [], _, _, _ => rfl
  | s :: l, t, f, hh => by
    have hh' := fun (t' : List Nat) x (hx : x ∈ l) g hg => List.mem_append_right t' (hh x (List.mem_cons_of_mem _ hx) g hg)
    rcases sf_cases t s with ⟨w, n⟩ | w
    · rw [sf_yes w n, nf_yes w n, free0_cons, free0_cons, sv_has, has_waits w, if_neg List.not_mem_nil]
      by_cases i : f ∈ s.files
      · rw [if_pos i, if_pos i]
        show max (d + s.days) d = d + s.days
        omega
      · rw [if_neg i, if_neg i]
        exact free0_serve d l _ f (hh' _)
    · rw [sf_no w, nf_no w, free0_cons, free0_cons]
      by_cases i : f ∈ s.has
      · rw [if_pos i, if_pos i, nf_taken l _ f (List.mem_append_right _ (hh s List.mem_cons_self f i))]; rfl
      · rw [if_neg i, if_neg i]
        exact free0_serve d l _ f (hh' _)
theorem mem_outOf {l : Slips} {f : Nat} : f ∈ outOf l ↔ ∃ s, s ∈ l ∧ f ∈ s.has := by
  unfold outOf; exact List.mem_flatMap
theorem free0_in {x : Nat} : ∀ {l : Slips} {f : Nat}, ¬ f ∈ outOf l → free0 x l f = x
  | [], _, _ => rfl
  | s :: l, f, h => by
    rw [free0_cons, if_neg fun z => h (mem_outOf.mpr ⟨s, List.mem_cons_self, z⟩)]
    exact free0_in fun z => h (by obtain ⟨y, a, b⟩ := mem_outOf.mp z; exact mem_outOf.mpr ⟨y, List.mem_cons_of_mem _ a, b⟩)
theorem free0_ge {x d : Nat} : ∀ {l : Slips} {f : Nat}, (∀ s ∈ l, ∀ f, f ∈ s.has → d ≤ max s.due x) → f ∈ outOf l → d ≤ free0 x l f
  | [], _, _, h => by cases h
  | s :: l, f, hd, h => by
    rw [free0_cons]
    by_cases i : f ∈ s.has
    · rw [if_pos i]; exact hd s List.mem_cons_self f i
    · rw [if_neg i]
      refine free0_ge (fun y hy => hd y (List.mem_cons_of_mem _ hy)) ?_
      obtain ⟨y, a, b⟩ := mem_outOf.mp h
      rcases List.mem_cons.mp a with rfl | a
      · exact absurd b i
      · exact mem_outOf.mpr ⟨y, a, b⟩
theorem free0_rt {x d : Nat} (hx : x ≤ d) : ∀ {l : Slips} (f : Nat), l.Pairwise Rk → free0 d (l.map (rt1 d)) f = max d (free0 x l f)
  | [], f, _ => by show d = max d x; omega
  | s :: l, f, hp => by
    obtain ⟨h1, h2⟩ := List.pairwise_cons.mp hp
    rw [List.map_cons, free0_cons, free0_cons, rt1_due]
    by_cases c : s.due ≤ d
    · rw [rt1_has_no c, if_neg List.not_mem_nil]
      by_cases i : f ∈ s.has
      · rw [if_pos i]
        have : ¬ f ∈ outOf (l.map (rt1 d)) := fun z => by
          obtain ⟨y, a, b⟩ := mem_outOf.mp z
          obtain ⟨u, hu, rfl⟩ := List.mem_map.mp a
          by_cases cu : u.due ≤ d
          · rw [rt1_has_no cu] at b; cases b
          · rw [rt1_has_yes cu] at b
            exact h1 u hu f (has_keeps i) b
        rw [free0_in this]
        omega
      · rw [if_neg i]; exact free0_rt hx f h2
    · rw [rt1_has_yes c]
      by_cases i : f ∈ s.has
      · rw [if_pos i, if_pos i]; omega
      · rw [if_neg i, if_neg i]; exact free0_rt hx f h2
/-- the first day on which something is due -/
theorem next_fold : ∀ (l : List Nat) (a : Option Nat), l ≠ [] ∨ a ≠ none → ∃ d, l.foldl (fun (a : Option Nat) (d : Nat) => some (match a with
    | some b => min b d
    | none => d)) a = some d ∧ (d ∈ l ∨ a = some d) ∧ (∀ y ∈ l, d ≤ y) ∧ ∀ b, a = some b → d ≤ b
  | [], a, h => by
    cases a with
    | none => exact (h.elim (fun z => absurd rfl z) fun z => absurd rfl z)
    | some b => exact ⟨b, rfl, .inr rfl, fun y hy => (by cases hy), fun c e => (by cases e; exact Nat.le_refl _)⟩
  | x :: l, a, h => by
    rw [List.foldl_cons]
    cases a with
    | none =>
      obtain ⟨d, e1, e2, e3, e4⟩ := next_fold l (some x) (.inr fun z => nomatch z)
      refine ⟨d, e1, .inl ?_, fun y hy => ?_, fun b e => nomatch e⟩
      · rcases e2 with z | z
        · exact List.mem_cons_of_mem _ z
        · cases z; exact List.mem_cons_self
      · rcases List.mem_cons.mp hy with rfl | z
        · exact e4 _ rfl
        · exact e3 y z
    | some b =>
      obtain ⟨d, e1, e2, e3, e4⟩ := next_fold l (some (min b x)) (.inr fun z => nomatch z)
      have m := e4 _ rfl
      refine ⟨d, e1, ?_, fun y hy => ?_, fun c e => (by cases e; omega)⟩
      · rcases e2 with z | z
        · exact .inl (List.mem_cons_of_mem _ z)
        · have z' : min b x = d := Option.some.inj z
          by_cases c : b ≤ x
          · exact .inr (by rw [← z', Nat.min_eq_left c])
          · rw [Nat.min_eq_right (by omega)] at z'; subst z'; exact .inl List.mem_cons_self
      · rcases List.mem_cons.mp hy with rfl | z
        · omega
        · exact e3 y z
theorem next_due {x : Nat} {l : Slips} (h : ∃ f, f ∈ outOf l) : ∃ d, nextDue x l = some d ∧ x ≤ d ∧ (∀ s ∈ l, ∀ f, f ∈ s.has → d ≤ max s.due x) ∧ ∃ s, s ∈ l ∧ s.has ≠ [] ∧ s.due ≤ d := by
  have nem : ∀ s : Slip, (!s.has.isEmpty) = true ↔ s.has ≠ [] := fun s => by
    cases s.has <;> simp
  obtain ⟨f, hf⟩ := h
  obtain ⟨s0, hs0, hf0⟩ := mem_outOf.mp hf
  have in0 : s0 ∈ l.filter fun (s : Slip) => !s.has.isEmpty := List.mem_filter.mpr ⟨hs0, (nem s0).mpr fun z => by rw [z] at hf0; cases hf0⟩
  obtain ⟨d, e1, e2, e3, _⟩ := next_fold ((l.filter fun (s : Slip) => !s.has.isEmpty).map fun (s : Slip) => max x s.due) none (.inl fun z => by
    have := List.map_eq_nil_iff.mp z
    rw [this] at in0; cases in0)
  refine ⟨d, e1, ?_, fun s hs f hf => ?_, ?_⟩
  · rcases e2 with z | z
    · obtain ⟨s, _, rfl⟩ := List.mem_map.mp z; omega
    · cases z
  · have := e3 (max x s.due) (List.mem_map.mpr ⟨s, List.mem_filter.mpr ⟨hs, (nem s).mpr fun z => by rw [z] at hf; cases hf⟩, rfl⟩)
    omega
  · rcases e2 with z | z
    · obtain ⟨s, hs, rfl⟩ := List.mem_map.mp z
      obtain ⟨h1, h2⟩ := List.mem_filter.mp hs
      exact ⟨s, h1, (nem s).mp h2, by omega⟩
    · cases z
theorem stuck_out : ∀ (l : Slips) (t : List Nat) (q : Nat), Stuck t l → (∃ s, l[q]? = some s ∧ s.waiting = true) → ∃ f, f ∈ t ∨ f ∈ outOf l
  | [], _, _, _, h => by obtain ⟨_, h, _⟩ := h; simp at h
  | s :: l, t, q, st, hq => by
    by_cases w : s.waiting = true
    · obtain ⟨f, _, h⟩ := st.1 w
      exact ⟨f, .inl h⟩
    · cases q with
      | zero =>
        obtain ⟨s', e, w'⟩ := hq
        have : s = s' := Option.some.inj e
        subst this
        exact absurd w' w
      | succ q =>
        obtain ⟨f, h⟩ := stuck_out l _ q st.2 (by simpa using hq)
        rw [keeps_n w] at h
        refine ⟨f, ?_⟩
        rcases h with h | h
        · rcases List.mem_append.mp h with z | z
          · exact .inr (mem_outOf.mpr ⟨s, List.mem_cons_self, z⟩)
          · exact .inl z
        · obtain ⟨y, a, b⟩ := mem_outOf.mp h
          exact .inr (mem_outOf.mpr ⟨y, List.mem_cons_of_mem _ a, b⟩)
/-- how much is still to happen -/
def wt (s : Slip) : Nat := if s.waiting = true then 2 else if s.has.isEmpty = true then 0 else 1
def wts (l : Slips) : Nat := (l.map wt).sum
theorem wt_le (s : Slip) : wt s ≤ 2 := by unfold wt; split; exact Nat.le_refl _; split <;> omega
theorem wts_le : ∀ l : Slips, wts l ≤ 2 * l.length
  | [] => Nat.le_refl _
  | s :: l => by
    have := wts_le l
    have := wt_le s
    unfold wts at *
    rw [List.map_cons, List.sum_cons, List.length_cons]; omega
theorem wts_serve (d : Nat) : ∀ (l : Slips) (t : List Nat), wts (serveFrom d t l) ≤ wts l
  | [], _ => Nat.le_refl _
  | s :: l, t => by
    rcases sf_cases t s with ⟨w, n⟩ | w
    · rw [sf_yes w n]
      have := wts_serve d l (s.files ++ t)
      have h1 : wt (sv d s) ≤ 1 := by unfold wt; rw [if_neg (sv_w d s)]; split <;> omega
      have h2 : wt s = 2 := by unfold wt; rw [if_pos w]
      unfold wts at *
      rw [List.map_cons, List.map_cons, List.sum_cons, List.sum_cons]; omega
    · rw [sf_no w]
      have := wts_serve d l (s.keeps ++ t)
      unfold wts at *
      rw [List.map_cons, List.map_cons, List.sum_cons, List.sum_cons]; omega
theorem wt_rt (d : Nat) (s : Slip) : wt (rt1 d s) ≤ wt s := by
  unfold wt
  rw [rt1_w]
  by_cases w : s.waiting = true
  · rw [if_pos w, if_pos w]; exact Nat.le_refl _
  · rw [if_neg w, if_neg w]
    by_cases c : s.due ≤ d
    · rw [rt1_has_no c]; exact Nat.zero_le _
    · rw [rt1_has_yes c]; exact Nat.le_refl _
theorem wts_rt_le (d : Nat) : ∀ (l : Slips), wts (l.map (rt1 d)) ≤ wts l
  | [] => Nat.le_refl _
  | s :: l => by
    have := wts_rt_le d l
    have := wt_rt d s
    unfold wts at *
    rw [List.map_cons, List.map_cons, List.map_cons, List.sum_cons, List.sum_cons]; omega
theorem wts_rt_lt (d : Nat) : ∀ (l : Slips) (s : Slip), s ∈ l → s.has ≠ [] → s.due ≤ d → wts (l.map (rt1 d)) < wts l
  | x :: l, s, h, h1, h2 => by
    rcases List.mem_cons.mp h with rfl | h
    · have a := wts_rt_le d l
      have w : ¬ s.waiting = true := fun z => h1 (has_waits z)
      have b1 : wt (rt1 d s) = 0 := by
        unfold wt; rw [rt1_w, if_neg w, rt1_has_no h2]; rfl
      have b2 : wt s = 1 := by
        unfold wt; rw [if_neg w]
        cases e : s.has with
        | nil => exact absurd e h1
        | cons _ _ => rfl
      unfold wts at *
      rw [List.map_cons, List.map_cons, List.map_cons, List.sum_cons, List.sum_cons]; omega
    · have a := wts_rt_lt d l s h h1 h2
      have b := wt_rt d x
      unfold wts at *
      rw [List.map_cons, List.map_cons, List.map_cons, List.sum_cons, List.sum_cons]; omega
theorem rt_pair (d : Nat) {l : Slips} (h : l.Pairwise Rk) : (l.map (rt1 d)).Pairwise Rk := by
  have hh : ∀ s f, f ∈ (rt1 d s).has → f ∈ s.has := fun s f hf => by
    by_cases c : s.due ≤ d
    · rw [rt1_has_no c] at hf; cases hf
    · rw [rt1_has_yes c] at hf; exact hf
  refine pair_map (fun s f hf => ?_) hh h
  by_cases w : s.waiting = true
  · rw [keeps_w (by rw [rt1_w]; exact w), rt1_files] at hf
    rw [keeps_w w]; exact hf
  · rw [keeps_n (by rw [rt1_w]; exact w)] at hf
    rw [keeps_n w]; exact hh s f hf
/-- the day that the specification finds -/
theorem when_is : ∀ (n x : Nat) (l : Slips) (q : Nat), Good l → wts l < n → (∃ s, l[q]? = some s ∧ s.waiting = true) → whenFrom (n + 1) x l q = some (lat (free0 x l) l q)
  | 0, _, _, _, _, h, _ => absurd h (Nat.not_lt_zero _)
  | n + 1, x, l, q, g, hn, hq => by
    obtain ⟨s, e, w⟩ := hq
    have es : (l[q]?).bind Slip.since = none := by
      rw [e]
      show s.since = none
      unfold Slip.since; rw [waiting_iff.mp w]
    have ex : ∃ f, f ∈ outOf l := by
      obtain ⟨f, h⟩ := stuck_out l _ q g.stuck ⟨s, e, w⟩
      exact ⟨f, h.elim id id⟩
    obtain ⟨d, e1, hx, hd, ⟨s1, hs1, hh1, hd1⟩⟩ := next_due (x := x) ex
    have e2 : whenFrom (n + 1 + 1) x l q = whenFrom (n + 1) d (serve d (returnAll d l)) q := by
      show (match (l[q]?).bind Slip.since with
        | some d => some d
        | none => (nextDue x l).bind fun (d : Nat) => whenFrom (n + 1) d (serve d (returnAll d l)) q) = _
      rw [es, e1]; rfl
    rw [e2, rt1_all]
    have fi1 : ∀ s ∈ l.map (rt1 d), FineS s := fun s hs => by
      obtain ⟨t, ht, rfl⟩ := List.mem_map.mp hs
      have := g.fine t ht
      unfold FineS at this ⊢
      rw [rt1_files, rt1_days]; exact this
    have p1 := rt_pair d g.pair
    have out1 : ∀ f, f ∈ outOf (l.map (rt1 d)) → d < free0 d (l.map (rt1 d)) f := fun f hf => by
      refine free0_ge (x := d) (d := d + 1) (fun s hs g hg => ?_) hf
      obtain ⟨t, ht, rfl⟩ := List.mem_map.mp hs
      rw [rt1_due]
      by_cases c : t.due ≤ d
      · rw [rt1_has_no c] at hg; cases hg
      · omega
    have hh : ∀ s ∈ l.map (rt1 d), ∀ f, f ∈ s.has → f ∈ outOf (l.map (rt1 d)) := fun s hs f hf => mem_outOf.mpr ⟨s, hs, hf⟩
    have hq1 : ∃ s, (l.map (rt1 d))[q]? = some s ∧ s.waiting = true := ⟨rt1 d s, by rw [List.getElem?_map, e]; rfl, by rw [rt1_w]; exact w⟩
    have L1 : lat (free0 x l) l q = lat (free0 d (l.map (rt1 d))) (l.map (rt1 d)) q := by
      rw [lat_rt]
      exact lat_up d l _ _ (outOf l) q (fun f => free0_rt hx f g.pair) (fun f hf => free0_ge hd hf) (fun s hs f hf => mem_outOf.mpr ⟨s, hs, hf⟩) g.stuck ⟨s, e, w⟩
    obtain ⟨y, ey, r⟩ := lat_serve d (l.map (rt1 d)) (free0 d (l.map (rt1 d))) (free0 d (serve d (l.map (rt1 d)))) (outOf (l.map (rt1 d))) q fi1 (fun f hf => free0_in hf) out1 (fun f => free0_serve d _ _ f hh) hh hq1
    have g2 : Good (serve d (l.map (rt1 d))) := Good.serve d p1 fi1
    have m2 : wts (serve d (l.map (rt1 d))) < n := by
      have a := wts_serve d (l.map (rt1 d)) (outOf (l.map (rt1 d)))
      have b := wts_rt_lt d l s1 hs1 hh1 hd1
      unfold serve
      omega
    rcases r with ⟨w2, r⟩ | ⟨s2, r⟩
    · rw [when_is n d _ q g2 m2 ⟨y, ey, w2⟩, L1, r]; rfl
    · rw [L1, r]
      show (match ((serve d (l.map (rt1 d)))[q]?).bind Slip.since with
        | some d => some d
        | none => _) = _
      have : ((serve d (l.map (rt1 d)))[q]?).bind Slip.since = some d := by
        unfold serve; rw [ey]; exact s2
      rw [this]
theorem atLatest_is {l : Slips} {q x : Nat} (g : Good l) (h : ∃ s, l[q]? = some s ∧ s.waiting = true) : atLatest l q x = some (lat (free0 x l) l q) :=
  when_is (2 * l.length + 1) x l q g (by have := wts_le l; omega) h
end SL
end
section
set_option linter.all false
namespace SL
open Bd
/-! ### 3. What the program keeps -/
/-- a slip as the program keeps it: the files that are back with their days, in their order -/
structure PS where
  asked : Nat
  reader : Nat
  days : Nat
  files : List Nat
  served : Option Nat
  gone : Option Nat
  ret : List (Nat × Nat)
def fell (o : Option Nat) (k : Nat) : Bool := match o with
  | some d => decide (d ≤ k)
  | none => false
def PS.waits (s : PS) (k : Nat) : Bool := decide (s.asked ≤ k) && (!fell s.served k && !fell s.gone k)
def PS.brought (s : PS) (f k : Nat) : Bool := fell (s.ret.lookup f) k
def PS.held (s : PS) (k : Nat) : List Nat := if fell s.served k = true then s.files.filter (fun f => !s.brought f k) else []
def PS.kept (s : PS) (k : Nat) : List Nat := if s.waits k = true then s.files else s.held k
def PS.backs (s : PS) (k : Nat) : List Nat := s.files.filter fun f => s.brought f k
def PS.state (s : PS) (k : Nat) : Nat := if s.waits k = true then 0 else if fell s.gone k = true then 3 else if 0 < (s.held k).length then 1 else 2
def PS.due (s : PS) : Nat := s.served.getD 0 + s.days
/-- what is known of it by a day -/
def PS.stand (s : PS) (k : Nat) : Stand := if fell s.gone k = true then .withdrawn else match s.served with
  | some d => if d ≤ k then .out d ((s.ret.filter fun p => decide (p.2 ≤ k)).map (·.1)) else .waits
  | none => .waits
def PS.view (s : PS) (k : Nat) : Slip := ⟨s.asked, s.reader, s.files, s.days, s.stand k⟩
/-- a slip as it can be by a last day m -/
structure OkS (m : Nat) (s : PS) : Prop where
  asked : s.asked ≤ m
  sv : ∀ d, s.served = some d → s.asked ≤ d ∧ d ≤ m ∧ s.gone = none
  gn : ∀ d, s.gone = some d → s.asked ≤ d ∧ d ≤ m
  rt : ∀ p ∈ s.ret, p.2 ≤ m ∧ ∃ d, s.served = some d ∧ d ≤ p.2
  nd : (s.ret.map (·.1)).Nodup
theorem fell_none (k : Nat) : fell none k = false := rfl
theorem fell_some {d k : Nat} : fell (some d) k = true ↔ d ≤ k := by
  show decide (d ≤ k) = true ↔ d ≤ k
  exact decide_eq_true_iff
theorem lookup_mem : ∀ {l : List (Nat × Nat)} {f d : Nat}, (l.map (·.1)).Nodup → (l.lookup f = some d ↔ (f, d) ∈ l)
  | [], f, d, _ => by simp
  | (g, e) :: l, f, d, h => by
    obtain ⟨h1, h2⟩ := List.nodup_cons.mp h
    rw [List.lookup_cons]
    by_cases c : f = g
    · subst c
      rw [beq_self_eq_true]
      constructor
      · intro z; cases z; exact List.mem_cons_self
      · intro z
        rcases List.mem_cons.mp z with y | y
        · cases y; rfl
        · exact absurd (List.mem_map.mpr ⟨_, y, rfl⟩) h1
    · have : (f == g) = false := beq_eq_false_iff_ne.mpr c
      rw [this]
      show l.lookup f = some d ↔ _
      rw [lookup_mem h2]
      constructor
      · exact List.mem_cons_of_mem _
      · intro z
        rcases List.mem_cons.mp z with y | y
        · cases y; exact absurd rfl c
        · exact y
theorem brought_iff {m : Nat} {s : PS} (o : OkS m s) {f k : Nat} : s.brought f k = true ↔ f ∈ (s.ret.filter fun p => decide (p.2 ≤ k)).map (·.1) := by
  unfold PS.brought
  constructor
  · intro h
    cases e : s.ret.lookup f with
    | none => rw [e] at h; cases h
    | some d =>
      rw [e] at h
      exact List.mem_map.mpr ⟨(f, d), List.mem_filter.mpr ⟨(lookup_mem o.nd).mp e, decide_eq_true (fell_some.mp h)⟩, rfl⟩
  · intro h
    obtain ⟨⟨g, d⟩, h1, rfl⟩ := List.mem_map.mp h
    obtain ⟨h2, h3⟩ := List.mem_filter.mp h1
    rw [(lookup_mem o.nd).mpr h2]
    exact fell_some.mpr (of_decide_eq_true h3)
theorem contains_brought {m : Nat} {s : PS} (o : OkS m s) (f k : Nat) : ((s.ret.filter fun p => decide (p.2 ≤ k)).map (·.1)).contains f = s.brought f k := by
  cases e : s.brought f k with
  | true => exact List.contains_iff_mem.mpr ((brought_iff o).mp e)
  | false =>
    cases c : ((s.ret.filter fun p => decide (p.2 ≤ k)).map (·.1)).contains f with
    | false => rfl
    | true => rw [(brought_iff o).mpr (List.contains_iff_mem.mp c)] at e; cases e
/-- the four stands -/
theorem stand_gone {s : PS} {k : Nat} (h : fell s.gone k = true) : s.stand k = .withdrawn := by unfold PS.stand; rw [if_pos h]
theorem stand_out {m : Nat} {s : PS} {k d : Nat} (o : OkS m s) (h : s.served = some d) (hk : d ≤ k) : s.stand k = .out d ((s.ret.filter fun p => decide (p.2 ≤ k)).map (·.1)) := by
  unfold PS.stand
  rw [(o.sv d h).2.2, if_neg (by rw [fell_none]; exact Bool.false_ne_true), h]
  show (if d ≤ k then _ else _) = _
  rw [if_pos hk]
theorem stand_waits {s : PS} {k : Nat} (h : ¬ fell s.gone k = true) (hs : ¬ fell s.served k = true) : s.stand k = .waits := by
  unfold PS.stand
  rw [if_neg h]
  cases e : s.served with
  | none => rfl
  | some d =>
    show (if d ≤ k then _ else _) = _
    rw [if_neg fun z => hs (by rw [e]; exact fell_some.mpr z)]
theorem served_some {s : PS} {k : Nat} (h : fell s.served k = true) : ∃ d, s.served = some d ∧ d ≤ k := by
  cases e : s.served with
  | none => rw [e] at h; cases h
  | some d => rw [e] at h; exact ⟨d, rfl, fell_some.mp h⟩
theorem not_both {m : Nat} {s : PS} {k : Nat} (o : OkS m s) (h : fell s.served k = true) : fell s.gone k = false := by
  obtain ⟨d, e, _⟩ := served_some h
  rw [(o.sv d e).2.2]; rfl
theorem view_has {m : Nat} {s : PS} (o : OkS m s) (k : Nat) : (s.view k).has = s.held k := by
  unfold PS.held
  by_cases h : fell s.served k = true
  · obtain ⟨d, e, hk⟩ := served_some h
    rw [if_pos h]
    unfold Slip.has
    show (match s.stand k with
      | .out _ b => s.files.filter fun (f : Nat) => !b.contains f
      | _ => []) = _
    rw [stand_out o e hk]
    show (s.files.filter fun (f : Nat) => !((s.ret.filter fun p => decide (p.2 ≤ k)).map (·.1)).contains f) = _
    congr 1
    funext f
    rw [contains_brought o]
  · rw [if_neg h]
    unfold Slip.has
    show (match s.stand k with
      | .out _ b => s.files.filter fun (f : Nat) => !b.contains f
      | _ => []) = _
    by_cases g : fell s.gone k = true
    · rw [stand_gone g]
    · rw [stand_waits g h]
theorem view_waiting {m : Nat} {s : PS} (o : OkS m s) {k : Nat} (hk : s.asked ≤ k) : (s.view k).waiting = s.waits k := by
  unfold PS.waits Slip.waiting
  rw [decide_eq_true hk, Bool.true_and]
  show (s.stand k == .waits) = _
  by_cases h : fell s.served k = true
  · obtain ⟨d, e, hk⟩ := served_some h
    rw [stand_out o e hk, h]; rfl
  · by_cases g : fell s.gone k = true
    · rw [stand_gone g, g]; cases fell s.served k <;> rfl
    · rw [stand_waits g h]
      have h1 : fell s.served k = false := by cases q : fell s.served k; rfl; exact absurd q h
      have g1 : fell s.gone k = false := by cases q : fell s.gone k; rfl; exact absurd q g
      rw [h1, g1]; rfl
theorem waits_asked {s : PS} {k : Nat} (h : s.waits k = true) : s.asked ≤ k := by
  unfold PS.waits at h
  rw [Bool.and_eq_true] at h
  exact of_decide_eq_true h.1
theorem waits_not {s : PS} {k : Nat} (h : s.waits k = true) : fell s.served k = false ∧ fell s.gone k = false := by
  unfold PS.waits at h
  rw [Bool.and_eq_true, Bool.and_eq_true] at h
  refine ⟨?_, ?_⟩
  · have := h.2.1; cases q : fell s.served k; rfl; rw [q] at this; cases this
  · have := h.2.2; cases q : fell s.gone k; rfl; rw [q] at this; cases this
/-- not yet asked for: nothing is out with it -/
theorem held_early {m : Nat} {s : PS} (o : OkS m s) {k : Nat} (h : ¬ s.asked ≤ k) : s.held k = [] := by
  unfold PS.held
  rw [if_neg]
  intro z
  obtain ⟨d, e, hk⟩ := served_some z
  have := (o.sv d e).1
  omega
theorem view_keeps {m : Nat} {s : PS} (o : OkS m s) {k : Nat} (hk : s.asked ≤ k) : (s.view k).keeps = s.kept k := by
  unfold Slip.keeps PS.kept
  rw [view_waiting o hk, view_has o]; rfl
theorem view_since {m : Nat} {s : PS} (o : OkS m s) (k : Nat) : (s.view k).since = if fell s.served k = true then s.served else none := by
  unfold Slip.since
  show (match s.stand k with
    | .out d _ => some d
    | _ => none) = _
  by_cases h : fell s.served k = true
  · obtain ⟨d, e, hk⟩ := served_some h
    rw [stand_out o e hk, if_pos h, e]
  · rw [if_neg h]
    by_cases g : fell s.gone k = true
    · rw [stand_gone g]
    · rw [stand_waits g h]
theorem view_due {m : Nat} {s : PS} (o : OkS m s) {k : Nat} (h : fell s.served k = true) : (s.view k).due = s.due := by
  unfold Slip.due PS.due
  rw [view_since o, if_pos h]; rfl
theorem held_served {s : PS} {k f : Nat} (h : f ∈ s.held k) : fell s.served k = true := by
  unfold PS.held at h
  by_cases c : fell s.served k = true
  · exact c
  · rw [if_neg c] at h; cases h
theorem view_backs {m : Nat} {s : PS} (o : OkS m s) (k : Nat) : BdS.Slip.backs (s.view k) = s.backs k := by
  unfold BdS.Slip.backs PS.backs
  show (match s.stand k with
    | .out _ b => s.files.filter fun (f : Nat) => b.contains f
    | _ => []) = _
  by_cases h : fell s.served k = true
  · obtain ⟨d, e, hk⟩ := served_some h
    rw [stand_out o e hk]
    show (s.files.filter fun (f : Nat) => ((s.ret.filter fun p => decide (p.2 ≤ k)).map (·.1)).contains f) = _
    congr 1
    funext f
    rw [contains_brought o]
  · have nb : (s.files.filter fun f => s.brought f k) = [] := by
      rw [List.filter_eq_nil_iff]
      intro f _ z
      obtain ⟨⟨g, d⟩, h1, _⟩ := List.mem_map.mp ((brought_iff o).mp z)
      obtain ⟨h2, h3⟩ := List.mem_filter.mp h1
      obtain ⟨_, e, h4, h5⟩ := o.rt _ h2
      have h6 := of_decide_eq_true h3
      exact h (by rw [h4]; exact fell_some.mpr (Nat.le_trans h5 h6))
    rw [nb]
    by_cases g : fell s.gone k = true
    · rw [stand_gone g]
    · rw [stand_waits g h]
theorem view_state {m : Nat} {s : PS} (o : OkS m s) {k : Nat} (hk : s.asked ≤ k) : BdS.standNo (s.view k) = s.state k := by
  unfold BdS.standNo PS.state
  rw [← view_has o, ← view_waiting o hk]
  show (match s.stand k with
    | .waits => 0
    | .out _ _ => if (s.view k).has.isEmpty = true then 2 else 1
    | .withdrawn => 3) = if (s.stand k == .waits) = true then 0 else _
  by_cases h : fell s.served k = true
  · obtain ⟨d, e, hk⟩ := served_some h
    rw [stand_out o e hk, not_both o h]
    show (if (s.view k).has.isEmpty = true then 2 else 1) = if 0 < (s.view k).has.length then 1 else 2
    cases (s.view k).has with
    | nil => rfl
    | cons a b => simp
  · by_cases g : fell s.gone k = true
    · rw [stand_gone g, g]; rfl
    · rw [stand_waits g h]; rfl
/-- all that happened is known -/
theorem stand_late {m : Nat} {s : PS} (o : OkS m s) {k k' : Nat} (h : m ≤ k) (h' : m ≤ k') : s.stand k = s.stand k' := by
  have ef : ∀ d, s.served = some d → (fell s.served k = true ∧ fell s.served k' = true) := fun d e => by
    have := (o.sv d e).2.1
    rw [e]; exact ⟨fell_some.mpr (by omega), fell_some.mpr (by omega)⟩
  cases e : s.served with
  | some d =>
    have hd := (o.sv d e).2.1
    rw [stand_out o e (by omega), stand_out o e (by omega)]
    have : (s.ret.filter fun p => decide (p.2 ≤ k)) = s.ret.filter fun p => decide (p.2 ≤ k') := by
      apply List.filter_congr
      intro p hp
      have := (o.rt p hp).1
      rw [decide_eq_true (show p.2 ≤ k by omega), decide_eq_true (show p.2 ≤ k' by omega)]
    rw [this]
  | none =>
    cases g : s.gone with
    | some d =>
      have hd := (o.gn d g).2
      rw [stand_gone (by rw [g]; exact fell_some.mpr (by omega)), stand_gone (by rw [g]; exact fell_some.mpr (by omega))]
    | none =>
      rw [stand_waits (by rw [g]; exact Bool.false_ne_true) (by rw [e]; exact Bool.false_ne_true), stand_waits (by rw [g]; exact Bool.false_ne_true) (by rw [e]; exact Bool.false_ne_true)]
theorem view_late {m : Nat} {s : PS} (o : OkS m s) {k k' : Nat} (h : m ≤ k) (h' : m ≤ k') : s.view k = s.view k' := by
  unfold PS.view; rw [stand_late o h h']
theorem OkS.mono {m m' : Nat} {s : PS} (o : OkS m s) (h : m ≤ m') : OkS m' s :=
  ⟨Nat.le_trans o.asked h, fun d e => ⟨(o.sv d e).1, Nat.le_trans (o.sv d e).2.1 h, (o.sv d e).2.2⟩, fun d e => ⟨(o.gn d e).1, Nat.le_trans (o.gn d e).2 h⟩, fun p hp => ⟨Nat.le_trans (o.rt p hp).1 h, (o.rt p hp).2⟩, o.nd⟩
/-- the slips that are known by a day, as they are known -/
def known (k : Nat) (l : List PS) : Slips := (l.filter fun s => decide (s.asked ≤ k)).map fun s => s.view k
theorem known_all {k : Nat} {l : List PS} (h : ∀ s ∈ l, s.asked ≤ k) : known k l = l.map fun s => s.view k := by
  unfold known
  rw [List.filter_eq_self.mpr fun s hs => decide_eq_true (h s hs)]
theorem known_cons (k : Nat) (s : PS) (l : List PS) : known k (s :: l) = if s.asked ≤ k then s.view k :: known k l else known k l := by
  unfold known
  rw [List.filter_cons]
  by_cases c : s.asked ≤ k
  · rw [if_pos (decide_eq_true c), if_pos c]; rfl
  · rw [if_neg (by intro z; exact c (of_decide_eq_true z)), if_neg c]
/-! ### serving -/
def serveP (d : Nat) : List Nat → List PS → List PS
  | _, [] => []
  | kept, s :: l => if s.waits d = true then (if (s.files.any fun f => kept.contains f) = false then { s with served := some d } else s) :: serveP d (s.files ++ kept) l else s :: serveP d kept l
def countP (d : Nat) : List Nat → List PS → Nat
  | _, [] => 0
  | kept, s :: l => if s.waits d = true then (if (s.files.any fun f => kept.contains f) = false then 1 else 0) + countP d (s.files ++ kept) l else countP d kept l
/-- how many the specification serves -/
def countS (d : Nat) : List Nat → Slips → Nat
  | _, [] => 0
  | t, s :: l => if s.waiting = true ∧ (s.files.any fun f => t.contains f) = false then 1 + countS d (s.files ++ t) l else countS d (s.keeps ++ t) l
theorem any_congr {a b c : List Nat} (h : ∀ f, f ∈ b ↔ f ∈ c) : (a.any fun f => b.contains f) = (a.any fun f => c.contains f) := by
  congr 1
  funext f
  cases e : c.contains f with
  | true => exact List.contains_iff_mem.mpr ((h f).mpr (List.contains_iff_mem.mp e))
  | false =>
    cases e' : b.contains f with
    | false => rfl
    | true => rw [List.contains_iff_mem.mpr ((h f).mp (List.contains_iff_mem.mp e'))] at e; cases e
theorem waits_none {d : Nat} {s : PS} (o : OkS d s) (h : s.waits d = true) : s.served = none ∧ s.gone = none ∧ s.ret = [] := by
  obtain ⟨h1, h2⟩ := waits_not h
  have e1 : s.served = none := by
    cases e : s.served with
    | none => rfl
    | some x => rw [e, fell_some.mpr (o.sv x e).2.1] at h1; cases h1
  refine ⟨e1, ?_, ?_⟩
  · cases e : s.gone with
    | none => rfl
    | some x => rw [e, fell_some.mpr (o.gn x e).2] at h2; cases h2
  · cases e : s.ret with
    | nil => rfl
    | cons p r =>
      obtain ⟨_, x, e2, _⟩ := o.rt p (by rw [e]; exact List.mem_cons_self)
      rw [e1] at e2; cases e2
theorem served_view {d : Nat} {s : PS} (o : OkS d s) (h : s.waits d = true) : ({ s with served := some d } : PS).view d = sv d (s.view d) := by
  obtain ⟨h1, h2, h3⟩ := waits_none o h
  unfold PS.view sv
  have : ({ s with served := some d } : PS).stand d = .out d [] := by
    unfold PS.stand
    show (if fell s.gone d = true then _ else if d ≤ d then _ else _) = _
    rw [h2, if_neg (by rw [fell_none]; exact Bool.false_ne_true), if_pos (Nat.le_refl d), h3]; rfl
  rw [this]
theorem served_ok {d : Nat} {s : PS} (o : OkS d s) (h : s.waits d = true) : OkS d { s with served := some d } := by
  obtain ⟨h1, h2, h3⟩ := waits_none o h
  refine ⟨o.asked, fun x e => ?_, o.gn, fun p hp => ?_, o.nd⟩
  · cases e; exact ⟨o.asked, Nat.le_refl _, h2⟩
  · rw [h3] at hp; cases hp
theorem served_early {d k : Nat} {s : PS} (o : OkS d s) (h : s.waits d = true) (hk : k < d) : ({ s with served := some d } : PS).view k = s.view k := by
  obtain ⟨h1, h2, h3⟩ := waits_none o h
  unfold PS.view
  have : ({ s with served := some d } : PS).stand k = s.stand k := by
    rw [stand_waits (s := s) (by rw [h2]; exact Bool.false_ne_true) (by rw [h1]; exact Bool.false_ne_true)]
    refine stand_waits ?_ ?_
    · show ¬ fell s.gone k = true
      rw [h2]; exact Bool.false_ne_true
    · show ¬ fell (some d) k = true
      rw [fell_some]; omega
  rw [this]
/-- the program serves as the specification does -/
theorem serve_view (d : Nat) : ∀ (l : List PS) (kept t : List Nat), (∀ s ∈ l, OkS d s) → (∀ f, f ∈ kept ↔ f ∈ t) → (∀ s ∈ l, ∀ f, f ∈ s.held d → f ∈ t) →
    (serveP d kept l).map (fun s => s.view d) = serveFrom d t (l.map fun s => s.view d) ∧ countP d kept l = countS d t (l.map fun s => s.view d)
  | [], _, _, _, _, _ => ⟨rfl, rfl⟩
  | s :: l, kept, t, ho, hk, hh => by
    have o := ho s List.mem_cons_self
    have o' := fun x (hx : x ∈ l) => ho x (List.mem_cons_of_mem _ hx)
    have w := view_waiting o o.asked
    rw [List.map_cons]
    unfold serveP countP serveFrom countS
    by_cases hw : s.waits d = true
    · have hw' : (s.view d).waiting = true := by rw [w]; exact hw
      have ek : (s.view d).keeps = s.files := keeps_w hw'
      obtain ⟨i1, i2⟩ := serve_view d l (s.files ++ kept) (s.files ++ t) o' (fun f => by rw [List.mem_append, List.mem_append, hk f]) fun x hx f hf => List.mem_append_right _ (hh x (List.mem_cons_of_mem _ hx) f hf)
      rw [if_pos hw, if_pos hw, any_congr hk]
      by_cases hm : (s.files.any fun f => t.contains f) = false
      · rw [if_pos hm, if_pos hm, if_pos ⟨hw', hm⟩, if_pos ⟨hw', hm⟩, List.map_cons, i1, i2]
        refine ⟨?_, rfl⟩
        show ({ s with served := some d } : PS).view d :: _ = _
        rw [served_view o hw]; rfl
      · rw [if_neg hm, if_neg hm, if_neg (fun z => hm z.2), if_neg (fun z => hm z.2), List.map_cons, i1, i2, ek]
        exact ⟨rfl, Nat.zero_add _⟩
    · have hw' : ¬ (s.view d).waiting = true := by rw [w]; exact hw
      have ek : (s.view d).keeps = s.held d := by rw [keeps_n hw', view_has o]
      obtain ⟨i1, i2⟩ := serve_view d l kept ((s.view d).keeps ++ t) o' (fun f => by
        rw [List.mem_append, ek, hk f]
        exact ⟨.inr, fun z => z.elim (fun y => hh s List.mem_cons_self f y) id⟩) fun x hx f hf => List.mem_append_right _ (hh x (List.mem_cons_of_mem _ hx) f hf)
      rw [if_neg hw, if_neg hw, if_neg (fun z => hw' z.1), if_neg (fun z => hw' z.1), List.map_cons, i1, i2]
      exact ⟨rfl, rfl⟩
theorem serveP_ok (d : Nat) : ∀ (l : List PS) (kept : List Nat), (∀ s ∈ l, OkS d s) → ∀ s ∈ serveP d kept l, OkS d s
  | [], _, _, s, h => by cases h
  | x :: l, kept, ho, s, h => by
    have o := ho x List.mem_cons_self
    have o' := fun y (hy : y ∈ l) => ho y (List.mem_cons_of_mem _ hy)
    unfold serveP at h
    by_cases hw : x.waits d = true
    · rw [if_pos hw] at h
      rcases List.mem_cons.mp h with rfl | h
      · split
        · exact served_ok o hw
        · exact o
      · exact serveP_ok d l _ o' s h
    · rw [if_neg hw] at h
      rcases List.mem_cons.mp h with rfl | h
      · exact o
      · exact serveP_ok d l _ o' s h
theorem serveP_early (d : Nat) {k : Nat} (hk : k < d) : ∀ (l : List PS) (kept : List Nat), (∀ s ∈ l, OkS d s) → known k (serveP d kept l) = known k l
  | [], _, _ => rfl
  | x :: l, kept, ho => by
    have o := ho x List.mem_cons_self
    have o' := fun y (hy : y ∈ l) => ho y (List.mem_cons_of_mem _ hy)
    unfold serveP
    by_cases hw : x.waits d = true
    · rw [if_pos hw, known_cons, known_cons, serveP_early d hk l _ o']
      by_cases hm : (x.files.any fun f => kept.contains f) = false
      · rw [if_pos hm]
        show (if x.asked ≤ k then ({ x with served := some d } : PS).view k :: _ else _) = _
        rw [served_early o hw hk]
      · rw [if_neg hm]
    · rw [if_neg hw, known_cons, known_cons, serveP_early d hk l _ o']
theorem serveP_asked (d : Nat) : ∀ (l : List PS) (kept : List Nat), (serveP d kept l).map PS.asked = l.map PS.asked
  | [], _ => rfl
  | x :: l, kept => by
    unfold serveP
    by_cases hw : x.waits d = true
    · rw [if_pos hw, List.map_cons, List.map_cons, serveP_asked d l]
      split <;> rfl
    · rw [if_neg hw, List.map_cons, List.map_cons, serveP_asked d l]
/-- how many slips the specification counts as served -/
theorem servedBy_is (d : Nat) : ∀ (l m : Slips) (t : List Nat), l.length = m.length → (∀ (i : Nat) (a b : Slip), l[i]? = some a → m[i]? = some b → (b.waiting = true → a.waiting = true) ∧ (b.since.isSome = true → a.waiting = false)) → BdS.servedBy l (serveFrom d t m) = countS d t m
  | [], [], _, _, _ => rfl
  | [], _ :: _, _, h, _ => by cases h
  | _ :: _, [], _, h, _ => by cases h
  | a :: l, b :: m, t, h, hp => by
    obtain ⟨p1, p2⟩ := hp 0 a b rfl rfl
    have ih := fun t' => servedBy_is d l m t' (Nat.succ.inj h) fun i x y h1 h2 => hp (i + 1) x y h1 h2
    unfold countS
    rcases sf_cases t b with ⟨w, n⟩ | w
    · rw [sf_yes w n, if_pos ⟨w, meet_no.mpr n⟩, ← ih]
      unfold BdS.servedBy
      rw [List.zip_cons_cons, List.filter_cons, if_pos]
      · rw [List.length_cons, Nat.add_comm]
      · show (a.waiting && (sv d b).since.isSome) = true
        rw [p1 w]; rfl
    · rw [sf_no w, if_neg, ← ih]
      · unfold BdS.servedBy
        rw [List.zip_cons_cons, List.filter_cons, if_neg]
        show ¬ (a.waiting && b.since.isSome) = true
        intro z
        rw [Bool.and_eq_true] at z
        rw [p2 z.2] at z
        exact absurd z.1 Bool.false_ne_true
      · rintro ⟨z1, z2⟩
        obtain ⟨f, y1, y2⟩ := w z1
        exact meet_no.mp z2 f y1 y2
end SL
end
section
set_option linter.all false
namespace SL
open Bd
/-! ### 4. The shelf as the program keeps it, and what it answers -/
structure Sh where
  slips : List PS
  entries : Nat
  last : Nat
structure Rel (l : SEntries) (P : Sh) : Prop where
  ent : P.entries = l.length
  last : P.last = lastSlipDay l
  days : ∀ e ∈ l, e.day ≤ P.last
  ok : ∀ s ∈ P.slips, OkS P.last s
  asc : P.slips.Pairwise fun a b => a.asked ≤ b.asked
  view : ∀ k, slipsBy l k = known k P.slips
  fine : ∀ e ∈ l, FineE e
  few : P.slips.length ≤ 64
  fewE : l.length ≤ 512
theorem split_known (k : Nat) : ∀ (l : List PS), (l.Pairwise fun a b => a.asked ≤ b.asked) → ∃ a b, l = a ++ b ∧ (∀ s ∈ a, s.asked ≤ k) ∧ (∀ s ∈ b, ¬ s.asked ≤ k)
  | [], _ => ⟨[], [], rfl, fun s h => (by cases h), fun s h => (by cases h)⟩
  | x :: l, h => by
    obtain ⟨h1, h2⟩ := List.pairwise_cons.mp h
    by_cases c : x.asked ≤ k
    · obtain ⟨a, b, e, ha, hb⟩ := split_known k l h2
      refine ⟨x :: a, b, by rw [e]; rfl, fun s hs => ?_, hb⟩
      rcases List.mem_cons.mp hs with rfl | z
      · exact c
      · exact ha s z
    · refine ⟨[], x :: l, rfl, fun s h => (by cases h), fun s hs => ?_⟩
      rcases List.mem_cons.mp hs with rfl | z
      · exact c
      · have := h1 s z; omega
theorem known_split {k : Nat} {a b : List PS} (ha : ∀ s ∈ a, s.asked ≤ k) (hb : ∀ s ∈ b, ¬ s.asked ≤ k) : known k (a ++ b) = a.map fun s => s.view k := by
  unfold known
  rw [List.filter_append, List.filter_eq_self.mpr fun s hs => decide_eq_true (ha s hs), List.filter_eq_nil_iff.mpr fun s hs => by intro z; exact hb s hs (of_decide_eq_true z), List.append_nil]
/-- slip q by day k -/
def knownM (P : Sh) (k q : Nat) : Option PS := match P.slips[q]? with
  | some s => if s.asked ≤ k then some s else none
  | none => none
theorem known_at {l : SEntries} {P : Sh} (R : Rel l P) (k q : Nat) : (slipsBy l k)[q]? = (knownM P k q).map fun s => s.view k := by
  obtain ⟨a, b, e, ha, hb⟩ := split_known k P.slips R.asc
  rw [R.view, e, known_split ha hb]
  unfold knownM
  rw [e, List.getElem?_map]
  by_cases c : q < a.length
  · rw [List.getElem?_append_left c, List.getElem?_eq_getElem c]
    show some _ = Option.map _ (if (a[q]).asked ≤ k then some a[q] else none)
    rw [if_pos (ha _ (List.getElem_mem c))]; rfl
  · rw [List.getElem?_append_right (by omega), List.getElem?_eq_none (by omega)]
    cases e2 : b[q - a.length]? with
    | none => rfl
    | some s =>
      show none = Option.map _ (if s.asked ≤ k then some s else none)
      rw [if_neg (hb s (List.mem_of_getElem? e2))]; rfl
theorem knownM_some {P : Sh} {k q : Nat} {s : PS} (h : knownM P k q = some s) : P.slips[q]? = some s ∧ s.asked ≤ k := by
  unfold knownM at h
  split at h
  · rename_i t e
    split at h
    · cases h; exact ⟨e, by assumption⟩
    · cases h
  · cases h
theorem Rel.ok_at {l : SEntries} {P : Sh} (R : Rel l P) {q : Nat} {s : PS} (h : P.slips[q]? = some s) : OkS P.last s := R.ok s (List.mem_of_getElem? h)
/-- all known -/
theorem Rel.now {l : SEntries} {P : Sh} (R : Rel l P) {k : Nat} (h : P.last ≤ k) : slipsOf l = P.slips.map fun s => s.view k := by
  have : slipsBy l k = slipsOf l := by
    unfold slipsBy
    rw [List.filter_eq_self.mpr fun e he => decide_eq_true (Nat.le_trans (R.days e he) h)]
  rw [← this, R.view, known_all fun s hs => Nat.le_trans (R.ok s hs).asked h]
def outF (k : Nat) (l : List PS) : List Nat := l.flatMap fun s => s.held k
theorem outF_out {m : Nat} (k : Nat) : ∀ {l : List PS}, (∀ s ∈ l, OkS m s) → outOf (l.map fun s => s.view k) = outF k l
  | [], _ => rfl
  | s :: l, h => by
    unfold outOf outF
    rw [List.map_cons, List.flatMap_cons, List.flatMap_cons, view_has (h s List.mem_cons_self)]
    have := outF_out k fun x hx => h x (List.mem_cons_of_mem _ hx)
    unfold outOf outF at this
    rw [this]
/-- who has a file -/
def whoM (P : Sh) (k f : Nat) : Option Nat := P.slips.findIdx? fun s => (s.held k).contains f
theorem findIdx_map {α β : Type} (g : α → β) (p : β → Bool) : ∀ l : List α, (l.map g).findIdx? p = l.findIdx? fun a => p (g a)
  | [] => rfl
  | a :: l => by rw [List.map_cons, List.findIdx?_cons, List.findIdx?_cons, findIdx_map g p l]
theorem findIdx_congr {α : Type} {p q : α → Bool} : ∀ {l : List α}, (∀ a ∈ l, p a = q a) → l.findIdx? p = l.findIdx? q
  | [], _ => rfl
  | a :: l, h => by rw [List.findIdx?_cons, List.findIdx?_cons, h a List.mem_cons_self, findIdx_congr fun x hx => h x (List.mem_cons_of_mem _ hx)]
theorem findIdx_none {α : Type} {p : α → Bool} : ∀ {l : List α}, (∀ a ∈ l, p a = false) → l.findIdx? p = none
  | [], _ => rfl
  | a :: l, h => by rw [List.findIdx?_cons, h a List.mem_cons_self, findIdx_none fun x hx => h x (List.mem_cons_of_mem _ hx)]; rfl
theorem who_known {l : SEntries} {P : Sh} (R : Rel l P) (k f : Nat) : whoHas (slipsBy l k) f = whoM P k f := by
  obtain ⟨a, b, e, ha, hb⟩ := split_known k P.slips R.asc
  unfold whoHas whoM
  have okA : ∀ s ∈ a, OkS P.last s := fun s hs => R.ok s (by rw [e]; exact List.mem_append_left _ hs)
  have okB : ∀ s ∈ b, OkS P.last s := fun s hs => R.ok s (by rw [e]; exact List.mem_append_right _ hs)
  rw [R.view, e, known_split ha hb, findIdx_map, List.findIdx?_append, findIdx_none (l := b) fun s hs => by rw [held_early (okB s hs) (hb s hs)]; rfl]
  have q := findIdx_congr (l := a) (p := fun s => (s.view k).has.contains f) (q := fun s => (s.held k).contains f) fun s hs => by rw [view_has (okA s hs)]
  refine Eq.trans q ?_
  cases List.findIdx? (fun s => (s.held k).contains f) a <;> rfl
theorem findIdx_some {α : Type} {p : α → Bool} : ∀ {l : List α} {i : Nat}, l.findIdx? p = some i → ∃ a, l[i]? = some a ∧ p a = true
  | [], i, h => by cases h
  | a :: l, i, h => by
    rw [List.findIdx?_cons] at h
    by_cases c : p a = true
    · rw [if_pos c] at h; cases h; exact ⟨a, rfl, c⟩
    · rw [if_neg c] at h
      cases e : l.findIdx? p with
      | none => rw [e] at h; cases h
      | some j =>
        rw [e] at h
        have : j + 1 = i := Option.some.inj h
        subst this
        obtain ⟨x, h1, h2⟩ := findIdx_some e
        exact ⟨x, h1, h2⟩
theorem whoM_some {P : Sh} {k f q : Nat} (h : whoM P k f = some q) : ∃ s, P.slips[q]? = some s ∧ f ∈ s.held k := by
  obtain ⟨s, h1, h2⟩ := findIdx_some h
  exact ⟨s, h1, List.contains_iff_mem.mp h2⟩
theorem whoM_none {P : Sh} {k f : Nat} (h : whoM P k f = none) : ∀ s ∈ P.slips, ¬ f ∈ s.held k := by
  intro s hs hf
  unfold whoM at h
  have : (P.slips.findIdx? fun s => (s.held k).contains f) ≠ none := by
    rw [Ne, List.findIdx?_eq_none_iff]
    intro z
    have := z s hs
    rw [List.contains_iff_mem.mpr hf] at this
    cases this
  exact this h
/-- count -/
theorem count_known {l : SEntries} {P : Sh} (R : Rel l P) (k : Nat) : (slipsBy l k).length = (P.slips.filter fun s => decide (s.asked ≤ k)).length ∧ ((slipsBy l k).filter Slip.waiting).length = (P.slips.filter fun s => s.waits k).length := by
  rw [R.view]
  unfold known
  refine ⟨List.length_map _, ?_⟩
  rw [List.filter_map, List.length_map, List.filter_filter]
  congr 1
  apply List.filter_congr
  intro s hs
  by_cases c : s.asked ≤ k
  · show ((s.view k).waiting && decide (s.asked ≤ k)) = _
    rw [view_waiting (R.ok s hs) c, decide_eq_true c, Bool.and_true]
  · show ((s.view k).waiting && decide (s.asked ≤ k)) = _
    rw [decide_eq_false c, Bool.and_false]
    cases e : s.waits k with
    | false => rfl
    | true => exact absurd (waits_asked e) c
/-- what a slip waits for -/
def waitsM (P : Sh) (k q : Nat) (fs : List Nat) : List Nat := (List.range q).filter fun j => match P.slips[j]? with
  | some t => fs.any fun f => (t.kept k).contains f
  | none => false
theorem waits_known {l : SEntries} {P : Sh} (R : Rel l P) {k q : Nat} {s : PS} (h : knownM P k q = some s) (hw : s.waits k = true) : waitsFor (slipsBy l k) q = waitsM P k q s.files := by
  have g := good_by R.fine k
  obtain ⟨h1, h2⟩ := knownM_some h
  have eq : (slipsBy l k)[q]? = some (s.view k) := by rw [known_at R, h]; rfl
  have ww : (s.view k).waiting = true := by rw [view_waiting (R.ok_at h1) h2]; exact hw
  unfold waitsFor waitsM
  rw [eq]
  have hq : q < (slipsBy l k).length := (List.getElem?_eq_some_iff.mp eq).1
  have er : List.range (slipsBy l k).length = List.range q ++ (List.range ((slipsBy l k).length - q)).map (q + ·) := by
    rw [← List.range_add]; congr 1; omega
  show ((List.range (slipsBy l k).length).filter _) = _
  rw [er, List.filter_append]
  refine (congrArg (List.filter _ (List.range q) ++ ·) (List.filter_eq_nil_iff.mpr ?_)).trans ?_
  · intro j hj
    obtain ⟨i, hi, rfl⟩ := List.mem_map.mp hj
    cases et : (slipsBy l k)[q + i]? with
    | none => exact Bool.false_ne_true
    | some t =>
      show ¬ (meets (s.view k).files t.has || (decide (q + i < q) && _)) = true
      rw [decide_eq_false (by omega), Bool.false_and, Bool.or_false]
      intro z
      obtain ⟨f, z1, z2⟩ := meet_iff.mp z
      cases i with
      | zero =>
        have : t = s.view k := Option.some.inj (et.symm.trans eq)
        subst this
        rw [has_waits ww] at z2; cases z2
      | succ i =>
        have p := g.pair
        obtain ⟨b1, b2⟩ := List.getElem?_eq_some_iff.mp et
        obtain ⟨c1, c2⟩ := List.getElem?_eq_some_iff.mp eq
        have := List.pairwise_iff_getElem.mp p q (q + (i + 1)) c1 b1 (by omega)
        rw [b2, c2] at this
        exact this f (by rw [keeps_w ww]; exact z1) z2
  show _ ++ [] = _
  rw [List.append_nil]
  apply List.filter_congr
  intro j hj
  have hj' : j < q := List.mem_range.mp hj
  have ej : (slipsBy l k)[j]? = ((P.slips[j]?).map fun s => s.view k) ∧ ∀ t, P.slips[j]? = some t → t.asked ≤ k := by
    rw [known_at R]
    unfold knownM
    cases et : P.slips[j]? with
    | none => exact ⟨rfl, fun t z => by cases z⟩
    | some t =>
      have ta : t.asked ≤ k := by
        obtain ⟨b1, b2⟩ := List.getElem?_eq_some_iff.mp et
        obtain ⟨c1, c2⟩ := List.getElem?_eq_some_iff.mp h1
        have := List.pairwise_iff_getElem.mp R.asc j q b1 c1 hj'
        rw [b2, c2] at this
        omega
      refine ⟨?_, fun u z => by cases z; exact ta⟩
      show Option.map _ (if t.asked ≤ k then some t else none) = _
      rw [if_pos ta]
  rw [ej.1]
  cases et : P.slips[j]? with
  | none => rfl
  | some t =>
    have ta := ej.2 t et
    have ok := R.ok_at et
    show (meets s.files (t.view k).has || (decide (j < q) && ((t.view k).waiting && meets s.files (t.view k).files))) = s.files.any fun f => (t.kept k).contains f
    rw [decide_eq_true hj', Bool.true_and, ← view_keeps ok ta]
    unfold Slip.keeps
    by_cases w : (t.view k).waiting = true
    · rw [w, has_waits w, if_pos rfl, Bool.true_and]
      have : meets s.files [] = false := meet_no.mpr fun f _ z => by cases z
      rw [this, Bool.false_or]; rfl
    · have w' : (t.view k).waiting = false := by cases q : (t.view k).waiting; rfl; exact absurd q w
      rw [w', if_neg Bool.false_ne_true, Bool.false_and, Bool.or_false]; rfl
/-- late -/
def overM (P : Sh) (k x : Nat) : List (Nat × Nat) := (P.slips.flatMap fun s => (s.held k).map fun f => (s.due, f)).filter fun p => decide (p.1 < x)
def sortM (l : List (Nat × Nat)) : List (Nat × Nat) := l.foldr (putFirst dueFirst) []
theorem over_one {m : Nat} {s : PS} (o : OkS m s) (k x : Nat) : (if (s.view k).due < x then (s.view k).has.map fun f => ((s.view k).due, f) else []) = ((s.held k).map fun f => (s.due, f)).filter fun p => decide (p.1 < x) := by
  rw [view_has o]
  by_cases c : s.held k = []
  · rw [c]; split <;> rfl
  · obtain ⟨f, hf⟩ : ∃ f, f ∈ s.held k := by
      cases e : s.held k with
      | nil => exact absurd e c
      | cons a b => exact ⟨a, List.mem_cons_self⟩
    rw [view_due o (held_served hf), List.filter_map]
    by_cases d : s.due < x
    · rw [if_pos d]
      congr 1
      exact (List.filter_eq_self.mpr fun f _ => decide_eq_true d).symm
    · rw [if_neg d]
      exact (congrArg (List.map fun f => (s.due, f)) (show List.filter ((fun p : Nat × Nat => decide (p.fst < x)) ∘ fun f => (s.due, f)) (s.held k) = [] from List.filter_eq_nil_iff.mpr fun f _ z => d (of_decide_eq_true z))).symm
theorem over_all {m : Nat} (k x : Nat) : ∀ {a : List PS}, (∀ s ∈ a, OkS m s) → (((a.map fun s => s.view k).filter fun (s : Slip) => decide (s.due < x)).flatMap fun (s : Slip) => s.has.map fun (f : Nat) => (s.due, f)) = (a.flatMap fun s => (s.held k).map fun f => (s.due, f)).filter fun p => decide (p.1 < x)
  | [], _ => rfl
  | s :: a, h => by
    rw [List.map_cons, List.filter_cons, List.flatMap_cons, List.filter_append, ← over_one (h s List.mem_cons_self), ← over_all k x fun t ht => h t (List.mem_cons_of_mem _ ht)]
    by_cases c : (s.view k).due < x
    · rw [if_pos (decide_eq_true c), if_pos c, List.flatMap_cons]
    · rw [if_neg (by intro z; exact c (of_decide_eq_true z)), if_neg c]; rfl
theorem late_known {l : SEntries} {P : Sh} (R : Rel l P) (k x : Nat) : Bd.late (slipsBy l k) x = (sortM (overM P k x)).map (·.2) := by
  obtain ⟨a, b, e, ha, hb⟩ := split_known k P.slips R.asc
  have okA : ∀ s ∈ a, OkS P.last s := fun s hs => R.ok s (by rw [e]; exact List.mem_append_left _ hs)
  have okB : ∀ s ∈ b, OkS P.last s := fun s hs => R.ok s (by rw [e]; exact List.mem_append_right _ hs)
  unfold Bd.late sortM overM
  rw [R.view, e, known_split ha hb, over_all k x okA, List.flatMap_append]
  have : (b.flatMap fun s => (s.held k).map fun f => (s.due, f)) = [] := by
    rw [List.flatMap_eq_nil_iff]
    intro s hs
    rw [held_early (okB s hs) (hb s hs)]; rfl
  rw [this, List.append_nil]
/-- at the latest -/
def freeM (P : Sh) (k x f : Nat) : Nat := match P.slips.find? fun s => (s.held k).contains f with
  | some s => max s.due x
  | none => x
def advM (k : Nat) (a : Nat → Nat) (s : PS) : Nat → Nat := fun f => if s.waits k = true ∧ f ∈ s.files then mx a s.files + s.days else a f
/-- the program's walk: the day of the last slip that waits -/
def latM (k : Nat) : (Nat → Nat) → Nat → List PS → Nat
  | _, day, [] => day
  | a, day, s :: l => if s.waits k = true then latM k (advM k a s) (mx a s.files) l else latM k a day l
theorem latM_is {m k : Nat} : ∀ (l : List PS) (a : Nat → Nat) (day q : Nat) (s : PS), (∀ s ∈ l, OkS m s) → (∀ s ∈ l.take (q + 1), s.asked ≤ k) → l[q]? = some s → s.waits k = true → latM k a day (l.take (q + 1)) = lat a (l.map fun s => s.view k) q
  | [], _, _, _, _, _, _, h, _ => by simp at h
  | x :: l, a, day, 0, s, ok, ha, h, w => by
    have : x = s := Option.some.inj h
    subst this
    show latM k a day [x] = mx a x.files
    unfold latM
    rw [if_pos w]; rfl
  | x :: l, a, day, q + 1, s, ok, ha, h, w => by
    have xa : x.asked ≤ k := ha x (by rw [List.take_succ_cons]; exact List.mem_cons_self)
    have ih := fun a' d' => latM_is l a' d' q s (fun y hy => ok y (List.mem_cons_of_mem _ hy)) (fun y hy => ha y (by rw [List.take_succ_cons]; exact List.mem_cons_of_mem _ hy)) h w
    rw [List.take_succ_cons]
    have ew := view_waiting (ok x List.mem_cons_self) xa
    have ea : adv a (x.view k) = advM k a x := by
      unfold adv advM
      rw [ew]; rfl
    show latM k a day (x :: l.take (q + 1)) = lat (adv a (x.view k)) (l.map fun s => s.view k) q
    unfold latM
    by_cases c : x.waits k = true
    · rw [if_pos c, ih, ea]
    · rw [if_neg c, ih, adv_n (by rw [ew]; exact c)]
theorem find_map {α β : Type} (g : α → β) (p : β → Bool) : ∀ l : List α, (l.map g).find? p = (l.find? fun a => p (g a)).map g
  | [] => rfl
  | a :: l => by
    rw [List.map_cons, List.find?_cons, List.find?_cons]
    cases p (g a) with
    | true => rfl
    | false => exact find_map g p l
theorem free_known {l : SEntries} {P : Sh} (R : Rel l P) (k x f : Nat) : free0 x (slipsBy l k) f = freeM P k x f := by
  obtain ⟨a, b, e, ha, hb⟩ := split_known k P.slips R.asc
  have okA : ∀ s ∈ a, OkS P.last s := fun s hs => R.ok s (by rw [e]; exact List.mem_append_left _ hs)
  have okB : ∀ s ∈ b, OkS P.last s := fun s hs => R.ok s (by rw [e]; exact List.mem_append_right _ hs)
  have nb : (b.find? fun s => (s.held k).contains f) = none := by
    rw [List.find?_eq_none]
    intro s hs
    rw [held_early (okB s hs) (hb s hs)]; exact Bool.false_ne_true
  unfold free0 freeM
  rw [R.view, e, known_split ha hb, find_map, List.find?_append, nb, Option.or_none]
  have : ∀ a : List PS, (∀ s ∈ a, OkS P.last s) → (match (a.find? fun s => (s.view k).has.contains f).map fun s => s.view k with
      | some s => max s.due x
      | none => x) = match a.find? fun s => (s.held k).contains f with
      | some s => max s.due x
      | none => x := by
    intro a
    induction a with
    | nil => intro _; rfl
    | cons s a ih =>
      intro ok
      rw [List.find?_cons, List.find?_cons, view_has (ok s List.mem_cons_self)]
      cases c : (s.held k).contains f with
      | true =>
        show max (s.view k).due x = max s.due x
        rw [view_due (ok s List.mem_cons_self) (held_served (List.contains_iff_mem.mp c))]
      | false => exact ih fun t ht => ok t (List.mem_cons_of_mem _ ht)
  exact this a okA
def whenM (P : Sh) (k q x : Nat) : Nat := latM k (freeM P k x) x (P.slips.take (q + 1))
theorem take_len_append {α : Type} {a b : List α} {n : Nat} (h : n ≤ a.length) : (a ++ b).take n = a.take n := by
  rw [List.take_append, Nat.sub_eq_zero_of_le h, List.take_zero, List.append_nil]
theorem when_known {l : SEntries} {P : Sh} (R : Rel l P) {k q x : Nat} {s : PS} (h : knownM P k q = some s) (hw : s.waits k = true) : atLatest (slipsBy l k) q x = some (whenM P k q x) := by
  have g := good_by R.fine k
  obtain ⟨h1, h2⟩ := knownM_some h
  have eq : (slipsBy l k)[q]? = some (s.view k) := by rw [known_at R, h]; rfl
  have ww : (s.view k).waiting = true := by rw [view_waiting (R.ok_at h1) h2]; exact hw
  rw [atLatest_is g ⟨_, eq, ww⟩]
  have ef : free0 x (slipsBy l k) = freeM P k x := funext fun f => free_known R k x f
  rw [ef]
  unfold whenM
  obtain ⟨a, b, e, ha, hb⟩ := split_known k P.slips R.asc
  have hq : q < a.length := by
    by_cases c : q < a.length
    · exact c
    · rw [e, List.getElem?_append_right (by omega)] at h1
      exact absurd h2 (hb s (List.mem_of_getElem? h1))
  have okA : ∀ s ∈ a, OkS P.last s := fun s hs => R.ok s (by rw [e]; exact List.mem_append_left _ hs)
  rw [R.view]
  congr 1
  generalize freeM P k x = fr
  rw [e, known_split ha hb, take_len_append (by omega)]
  rw [e, List.getElem?_append_left hq] at h1
  exact (latM_is a fr x q s okA (fun y hy => ha y (List.mem_of_mem_take hy)) h1 hw).symm
end SL
end
section
set_option linter.all false
namespace SL
open Bd
/-! ### 5. Entries -/
def keptP (d : Nat) : List Nat → List PS → List Nat
  | kept, [] => kept
  | kept, s :: l => if s.waits d = true then keptP d (s.files ++ kept) l else keptP d kept l
def serve1 (d : Nat) (kept : List Nat) (s : PS) : PS := if s.waits d = true then (if (s.files.any fun f => kept.contains f) = false then { s with served := some d } else s) else s
def count1 (d : Nat) (kept : List Nat) (s : PS) : Nat := if s.waits d = true then (if (s.files.any fun f => kept.contains f) = false then 1 else 0) else 0
theorem serveP_cons (d : Nat) (kept : List Nat) (s : PS) (l : List PS) : serveP d kept (s :: l) = serve1 d kept s :: serveP d (if s.waits d = true then s.files ++ kept else kept) l := by
  show (if _ then _ else _) = _
  unfold serve1
  by_cases h : s.waits d = true
  · rw [if_pos h, if_pos h, if_pos h]
  · rw [if_neg h, if_neg h, if_neg h]
theorem countP_cons (d : Nat) (kept : List Nat) (s : PS) (l : List PS) : countP d kept (s :: l) = count1 d kept s + countP d (if s.waits d = true then s.files ++ kept else kept) l := by
  show (if _ then _ else _) = _
  unfold count1
  by_cases h : s.waits d = true
  · rw [if_pos h, if_pos h, if_pos h]
  · rw [if_neg h, if_neg h, if_neg h, Nat.zero_add]
theorem keptP_cons (d : Nat) (kept : List Nat) (s : PS) (l : List PS) : keptP d kept (s :: l) = keptP d (if s.waits d = true then s.files ++ kept else kept) l := by
  show (if _ then _ else _) = _
  by_cases h : s.waits d = true
  · rw [if_pos h, if_pos h]
  · rw [if_neg h, if_neg h]
theorem snoc (d : Nat) (s : PS) : ∀ (l : List PS) (kept : List Nat), serveP d kept (l ++ [s]) = serveP d kept l ++ [serve1 d (keptP d kept l) s] ∧ countP d kept (l ++ [s]) = countP d kept l + count1 d (keptP d kept l) s ∧
    keptP d kept (l ++ [s]) = if s.waits d = true then s.files ++ keptP d kept l else keptP d kept l
  | [], kept => by
    rw [List.nil_append, serveP_cons, countP_cons, keptP_cons]
    refine ⟨rfl, ?_, rfl⟩
    show count1 d kept s + 0 = 0 + count1 d kept s
    omega
  | x :: l, kept => by
    obtain ⟨h1, h2, h3⟩ := snoc d s l (if x.waits d = true then x.files ++ kept else kept)
    rw [List.cons_append, serveP_cons, countP_cons, keptP_cons, serveP_cons, countP_cons, keptP_cons, h1, h2, h3]
    exact ⟨rfl, by omega, rfl⟩
theorem serveP_len (d : Nat) : ∀ (l : List PS) (kept : List Nat), (serveP d kept l).length = l.length
  | [], _ => rfl
  | x :: l, kept => by rw [serveP_cons, List.length_cons, List.length_cons, serveP_len d l]
def entM (P : Sh) (d : Nat) (l : List PS) : Sh := ⟨serveP d (outF d l) l, P.entries + 1, d⟩
theorem last_snoc (l : SEntries) (e : SEntry) : lastSlipDay (l ++ [e]) = e.day := by
  unfold lastSlipDay; rw [List.getLast?_append]; rfl
theorem slipsOf_snoc (l : SEntries) (e : SEntry) : slipsOf (l ++ [e]) = stepSlips (slipsOf l) e := by
  unfold slipsOf; rw [List.foldl_append]; rfl
theorem Rel.enter {l : SEntries} {P : Sh} (R : Rel l P) {e : SEntry} {P1 : List PS} {M : Slips} (hd : P.last ≤ e.day) (ok : ∀ s ∈ P1, OkS e.day s) (asc : P1.Pairwise fun a b => a.asked ≤ b.asked)
    (hM : stepSlips (slipsOf l) e = serve e.day M) (hv : (P1.map fun s => s.view e.day) = M) (hk : ∀ k, k < e.day → known k P1 = known k P.slips) (fe : FineE e) (f1 : P1.length ≤ 64) (f2 : l.length < 512) :
    Rel (l ++ [e]) (entM P e.day P1) ∧ countP e.day (outF e.day P1) P1 = countS e.day (outOf M) M := by
  have eo : outOf M = outF e.day P1 := by rw [← hv]; exact outF_out e.day ok
  obtain ⟨sv1, sv2⟩ := serve_view e.day P1 (outF e.day P1) (outOf M) ok (fun f => by rw [eo]) (fun s hs f hf => by rw [eo]; exact List.mem_flatMap.mpr ⟨s, hs, hf⟩)
  have ok' := serveP_ok e.day P1 (outF e.day P1) ok
  rw [hv] at sv1 sv2
  refine ⟨⟨?_, ?_, ?_, ok', ?_, ?_, ?_, ?_, ?_⟩, sv2⟩
  · show P.entries + 1 = _
    rw [R.ent, List.length_append]; rfl
  · rw [last_snoc]; rfl
  · intro x hx
    rcases List.mem_append.mp hx with z | z
    · exact Nat.le_trans (R.days x z) hd
    · rw [List.mem_singleton] at z; subst z; exact Nat.le_refl _
  · have := serveP_asked e.day P1 (outF e.day P1)
    have h2 : ((serveP e.day (outF e.day P1) P1).map PS.asked).Pairwise (· ≤ ·) := by
      rw [this, List.pairwise_map]; exact asc
    rw [List.pairwise_map] at h2
    exact h2
  · intro k
    show slipsBy (l ++ [e]) k = known k (serveP e.day (outF e.day P1) P1)
    by_cases c : e.day ≤ k
    · have e1 : slipsBy (l ++ [e]) k = slipsOf (l ++ [e]) := by
        unfold slipsBy
        rw [List.filter_eq_self.mpr]
        intro x hx
        rcases List.mem_append.mp hx with z | z
        · have := R.days x z
          exact decide_eq_true (by omega)
        · rw [List.mem_singleton] at z; subst z; exact decide_eq_true c
      rw [e1, slipsOf_snoc, hM, known_all fun s hs => Nat.le_trans (ok' s hs).asked c]
      show serveFrom e.day (outOf M) M = _
      rw [← sv1]
      apply List.map_congr_left
      intro s hs
      exact view_late (ok' s hs) (Nat.le_refl _) c
    · have e1 : slipsBy (l ++ [e]) k = slipsBy l k := by
        unfold slipsBy
        rw [List.filter_append]
        have : ([e] : SEntries).filter (fun (e : SEntry) => decide (e.day ≤ k)) = [] := by
          rw [List.filter_eq_nil_iff]
          intro x hx
          rw [List.mem_singleton] at hx; subst hx
          intro z; exact c (of_decide_eq_true z)
        rw [this, List.append_nil]
      rw [e1, R.view, serveP_early e.day (by omega) P1 _ ok, hk k (by omega)]
  · intro x hx
    rcases List.mem_append.mp hx with z | z
    · exact R.fine x z
    · rw [List.mem_singleton] at z; subst z; exact fe
  · show (serveP e.day (outF e.day P1) P1).length ≤ 64
    rw [serveP_len]; exact f1
  · rw [List.length_append]; show l.length + 1 ≤ 512; omega
/-! ask -/
def newS (d r n : Nat) (fs : List Nat) : PS := ⟨d, r, n, fs, none, none, []⟩
theorem newS_ok (d r n : Nat) (fs : List Nat) : OkS d (newS d r n fs) := ⟨Nat.le_refl _, fun x e => (by cases e), fun x e => (by cases e), fun p hp => (by cases hp), List.Pairwise.nil⟩
theorem rel_ask {l : SEntries} {P : Sh} (R : Rel l P) {d r n : Nat} {fs : List Nat} (hd : P.last ≤ d) (fe : FineS ⟨d, r, fs, n, .waits⟩) (f1 : P.slips.length < 64) (f2 : l.length < 512) :
    Rel (l ++ [⟨d, .ask r fs n⟩]) (entM P d (P.slips ++ [newS d r n fs])) := by
  refine (R.enter (e := ⟨d, .ask r fs n⟩) (P1 := P.slips ++ [newS d r n fs]) (M := slipsOf l ++ [⟨d, r, fs, n, .waits⟩]) hd ?_ ?_ rfl ?_ ?_ fe ?_ f2).1
  · intro s hs
    rcases List.mem_append.mp hs with z | z
    · exact (R.ok s z).mono hd
    · rw [List.mem_singleton] at z; subst z; exact newS_ok d r n fs
  · rw [List.pairwise_append]
    refine ⟨R.asc, List.pairwise_singleton _ _, fun a ha b hb => ?_⟩
    rw [List.mem_singleton] at hb; subst hb
    exact Nat.le_trans (R.ok a ha).asked hd
  · show (P.slips ++ [newS d r n fs]).map (fun s => s.view d) = _
    rw [List.map_append, ← R.now hd]; rfl
  · intro k hk
    unfold known
    rw [List.filter_append]
    have : ([newS d r n fs] : List PS).filter (fun s => decide (s.asked ≤ k)) = [] := by
      rw [List.filter_eq_nil_iff]
      intro x hx
      rw [List.mem_singleton] at hx; subst hx
      intro z
      have : d ≤ k := of_decide_eq_true z
      have : k < d := hk
      omega
    rw [this, List.append_nil]
  · rw [List.length_append]; show P.slips.length + 1 ≤ 64; omega
/-! one slip changed -/
theorem known_set {k : Nat} : ∀ {l : List PS} {q : Nat} {s s' : PS}, l[q]? = some s → s'.asked = s.asked → s'.view k = s.view k → known k (l.set q s') = known k l
  | [], q, s, s', h, _, _ => by simp at h
  | x :: l, 0, s, s', h, ha, hv => by
    have : x = s := Option.some.inj h
    subst this
    rw [List.set_cons_zero, known_cons, known_cons, ha, hv]
  | x :: l, q + 1, s, s', h, ha, hv => by
    rw [List.set_cons_succ, known_cons, known_cons, known_set (l := l) h ha hv]
theorem asc_set {l : List PS} {q : Nat} {s s' : PS} (h : l[q]? = some s) (ha : s'.asked = s.asked) (p : l.Pairwise fun a b => a.asked ≤ b.asked) : (l.set q s').Pairwise fun a b => a.asked ≤ b.asked := by
  have e : (l.set q s').map PS.asked = l.map PS.asked := by
    rw [List.map_set, ha]
    apply List.ext_getElem?
    intro j
    rw [List.getElem?_set]
    by_cases c : q = j
    · subst c
      rw [if_pos rfl, List.getElem?_map, h]
      have := (List.getElem?_eq_some_iff.mp h).1
      rw [if_pos (by rw [List.length_map]; exact this)]; rfl
    · rw [if_neg c]
  have h2 : ((l.set q s').map PS.asked).Pairwise (· ≤ ·) := by
    rw [e, List.pairwise_map]; exact p
  rw [List.pairwise_map] at h2
  exact h2
theorem mem_set_of {l : List PS} {q : Nat} {s' x : PS} (h : x ∈ l.set q s') : x ∈ l ∨ x = s' := by
  induction l generalizing q with
  | nil => cases h
  | cons a l ih =>
    cases q with
    | zero =>
      rw [List.set_cons_zero] at h
      rcases List.mem_cons.mp h with z | z
      · exact .inr z
      · exact .inl (List.mem_cons_of_mem _ z)
    | succ q =>
      rw [List.set_cons_succ] at h
      rcases List.mem_cons.mp h with z | z
      · exact .inl (z ▸ List.mem_cons_self)
      · rcases ih z with y | y
        · exact .inl (List.mem_cons_of_mem _ y)
        · exact .inr y
theorem count_of {l : SEntries} {e : SEntry} {M : Slips} (hM : stepSlips (slipsOf l) e = serve e.day M) (hl : (slipsOf l).length = M.length)
    (hp : ∀ (i : Nat) (a b : Slip), (slipsOf l)[i]? = some a → M[i]? = some b → (b.waiting = true → a.waiting = true) ∧ (b.since.isSome = true → a.waiting = false)) :
    BdS.servedBy (slipsOf l) (slipsOf (l ++ [e])) = countS e.day (outOf M) M := by
  rw [slipsOf_snoc, hM]
  exact servedBy_is e.day _ _ _ hl hp
/-! back -/
def backS (f d : Nat) (s : PS) : PS := { s with ret := s.ret ++ [(f, d)] }
theorem since_w {s : Slip} (h : s.since.isSome = true) : s.waiting = false := by
  cases e : s.waiting with
  | false => rfl
  | true =>
    unfold Slip.since at h
    rw [waiting_iff.mp e] at h
    cases h
theorem held_new {m d f : Nat} {s : PS} (o : OkS m s) (hm : m ≤ d) (h : f ∈ s.held d) : ¬ f ∈ s.ret.map (·.1) := by
  intro z
  have hs := held_served h
  unfold PS.held at h
  rw [if_pos hs] at h
  have h2 := (List.mem_filter.mp h).2
  obtain ⟨p, hp, e⟩ := List.mem_map.mp z
  have : s.brought f d = true := (brought_iff o).mpr (List.mem_map.mpr ⟨p, List.mem_filter.mpr ⟨hp, decide_eq_true (by have := (o.rt p hp).1; omega)⟩, e⟩)
  rw [this] at h2; cases h2
theorem backS_ok {m d f : Nat} {s : PS} (o : OkS m s) (hm : m ≤ d) (h : f ∈ s.held d) : OkS d (backS f d s) := by
  obtain ⟨x, e, hx⟩ := served_some (held_served h)
  refine ⟨Nat.le_trans o.asked hm, (o.mono hm).sv, (o.mono hm).gn, fun p hp => ?_, ?_⟩
  · rcases List.mem_append.mp hp with z | z
    · exact (o.mono hm).rt p z
    · rw [List.mem_singleton] at z; subst z
      exact ⟨Nat.le_refl _, x, e, hx⟩
  · show ((s.ret ++ [(f, d)]).map (·.1)).Nodup
    rw [List.map_append, List.nodup_append]
    refine ⟨o.nd, List.nodup_cons.mpr ⟨List.not_mem_nil, List.Pairwise.nil⟩, fun a ha b hb => ?_⟩
    have : b = f := by simpa using hb
    subst this
    intro z; subst z
    exact held_new o hm h ha
theorem backS_early {m d f k : Nat} {s : PS} (o : OkS m s) (hk : k < d) : (backS f d s).view k = s.view k := by
  unfold PS.view
  have : (backS f d s).stand k = s.stand k := by
    unfold PS.stand
    show (if fell s.gone k = true then _ else match s.served with
      | some x => if x ≤ k then Stand.out x (((s.ret ++ [(f, d)]).filter fun (p : Nat × Nat) => decide (p.2 ≤ k)).map fun (p : Nat × Nat) => p.1) else .waits
      | none => .waits) = _
    rw [List.filter_append]
    have e : ([(f, d)] : List (Nat × Nat)).filter (fun p => decide (p.2 ≤ k)) = [] := by
      rw [List.filter_cons, if_neg (by show ¬ decide (d ≤ k) = true; intro z; have := of_decide_eq_true z; omega)]; rfl
    rw [e, List.append_nil]; (try rfl)
  rw [this]; rfl
theorem backS_view {m d f : Nat} {s : PS} (o : OkS m s) (hm : m ≤ d) (h : f ∈ s.held d) : (backS f d s).view d = (s.view d).returned f := by
  obtain ⟨x, e, hx⟩ := served_some (held_served h)
  have o' := backS_ok o hm h
  have hh : (s.view d).has.contains f = true := by rw [view_has o]; exact List.contains_iff_mem.mpr h
  unfold Slip.returned
  have e1 : (s.view d).stand = .out x ((s.ret.filter fun p => decide (p.2 ≤ d)).map (·.1)) := stand_out o e hx
  rw [e1]
  show _ = if (s.view d).has.contains f = true then _ else _
  rw [if_pos hh]
  unfold PS.view
  have e2 : (backS f d s).stand d = .out x ((((s.ret ++ [(f, d)])).filter fun (p : Nat × Nat) => decide (p.2 ≤ d)).map (·.1)) := stand_out o' e hx
  rw [e2, List.filter_append, List.map_append]
  have e3 : ([(f, d)] : List (Nat × Nat)).filter (fun p => decide (p.2 ≤ d)) = [(f, d)] := by
    rw [List.filter_cons, if_pos (by show decide (d ≤ d) = true; exact decide_eq_true (Nat.le_refl _))]; rfl
  rw [e3]; rfl
theorem rel_back {l : SEntries} {P : Sh} (R : Rel l P) {d f q : Nat} {s : PS} (hd : P.last ≤ d) (hs : P.slips[q]? = some s) (hf : f ∈ s.held d) (f2 : l.length < 512) :
    Rel (l ++ [⟨d, .back f⟩]) (entM P d (P.slips.set q (backS f d s))) ∧ BdS.servedBy (slipsOf l) (slipsOf (l ++ [⟨d, .back f⟩])) = countP d (outF d (P.slips.set q (backS f d s))) (P.slips.set q (backS f d s)) := by
  have g := good_of R.fine
  have now := R.now hd
  have hM : stepSlips (slipsOf l) ⟨d, .back f⟩ = serve d ((slipsOf l).map (Slip.returned f)) := rfl
  have o := R.ok_at hs
  have hv : (P.slips.set q (backS f d s)).map (fun s => s.view d) = (slipsOf l).map (Slip.returned f) := by
    rw [now]
    apply List.ext_getElem?
    intro j
    rw [List.getElem?_map, List.getElem?_map, List.getElem?_map, List.getElem?_set]
    by_cases c : q = j
    · subst c
      rw [if_pos rfl, hs, if_pos (List.getElem?_eq_some_iff.mp hs).1]
      show some ((backS f d s).view d) = some ((s.view d).returned f)
      rw [backS_view o hd hf]
    · rw [if_neg c]
      cases e : P.slips[j]? with
      | none => rfl
      | some t =>
        show some (t.view d) = some ((t.view d).returned f)
        congr 1
        have nh : ¬ f ∈ (t.view d).has := by
          rw [now] at g
          intro z
          have a1 : (P.slips.map fun s => s.view d)[q]? = some (s.view d) := by rw [List.getElem?_map, hs]; rfl
          have a2 : (P.slips.map fun s => s.view d)[j]? = some (t.view d) := by rw [List.getElem?_map, e]; rfl
          obtain ⟨b1, b2⟩ := List.getElem?_eq_some_iff.mp a1
          obtain ⟨c1, c2⟩ := List.getElem?_eq_some_iff.mp a2
          have hq : f ∈ (s.view d).has := by rw [view_has o]; exact hf
          rcases Nat.lt_or_gt_of_ne c with y | y
          · have := List.pairwise_iff_getElem.mp g.pair q j b1 c1 y
            rw [b2, c2] at this
            exact this f (has_keeps hq) z
          · have := List.pairwise_iff_getElem.mp g.pair j q c1 b1 y
            rw [b2, c2] at this
            exact this f (has_keeps z) hq
        unfold Slip.returned
        split
        · rw [if_neg]
          intro z; exact nh (List.contains_iff_mem.mp z)
        · rfl
  obtain ⟨r1, r2⟩ := R.enter (e := ⟨d, .back f⟩) (P1 := P.slips.set q (backS f d s)) (M := (slipsOf l).map (Slip.returned f)) hd
    (fun x hx => by
      rcases mem_set_of hx with z | z
      · exact (R.ok x z).mono hd
      · subst z; exact backS_ok o hd hf)
    (asc_set hs rfl R.asc) hM hv (fun k hk => known_set hs rfl (backS_early o hk)) trivial (by rw [List.length_set]; exact R.few) f2
  refine ⟨r1, ?_⟩
  rw [r2]
  refine count_of hM (by rw [List.length_map]) fun i a b h1 h2 => ?_
  rw [List.getElem?_map, h1] at h2
  have : a.returned f = b := Option.some.inj h2
  subst this
  rw [ret_w]
  refine ⟨id, fun z => ?_⟩
  have := since_w z
  rw [ret_w] at this; exact this
/-! drop -/
def dropS (d : Nat) (s : PS) : PS := { s with gone := some d }
theorem rel_drop {l : SEntries} {P : Sh} (R : Rel l P) {d q : Nat} {s : PS} (hd : P.last ≤ d) (hs : P.slips[q]? = some s) (hw : s.waits d = true) (f2 : l.length < 512) :
    Rel (l ++ [⟨d, .drop q⟩]) (entM P d (P.slips.set q (dropS d s))) ∧ BdS.servedBy (slipsOf l) (slipsOf (l ++ [⟨d, .drop q⟩])) = countP d (outF d (P.slips.set q (dropS d s))) (P.slips.set q (dropS d s)) := by
  have now := R.now hd
  have o := (R.ok_at hs).mono hd
  obtain ⟨w1, w2, w3⟩ := waits_none o hw
  have hM : stepSlips (slipsOf l) ⟨d, .drop q⟩ = serve d ((slipsOf l).modify q gone) := rfl
  have eg : (dropS d s).view d = gone (s.view d) := by
    unfold PS.view gone
    have : (dropS d s).stand d = .withdrawn := stand_gone (fell_some.mpr (Nat.le_refl d))
    rw [this]; rfl
  have hv : (P.slips.set q (dropS d s)).map (fun s => s.view d) = (slipsOf l).modify q gone := by
    rw [now]
    apply List.ext_getElem?
    intro j
    rw [List.getElem?_modify, List.getElem?_map, List.getElem?_map, List.getElem?_set]
    by_cases c : q = j
    · subst c
      rw [if_pos rfl, hs, if_pos (List.getElem?_eq_some_iff.mp hs).1]
      simp [eg]
    · rw [if_neg c]
      cases P.slips[j]? <;> simp [c]
  have ok1 : OkS d (dropS d s) := ⟨o.asked, fun x e => (by have : s.served = some x := e; rw [w1] at this; cases this), fun x e => (by cases e; exact ⟨o.asked, Nat.le_refl _⟩), o.rt, o.nd⟩
  have early : ∀ k, k < d → (dropS d s).view k = s.view k := fun k hk => by
    unfold PS.view
    have : (dropS d s).stand k = s.stand k := by
      rw [stand_waits (s := s) (by rw [w2]; exact Bool.false_ne_true) (by rw [w1]; exact Bool.false_ne_true)]
      refine stand_waits ?_ ?_
      · show ¬ fell (some d) k = true
        rw [fell_some]; omega
      · show ¬ fell s.served k = true
        rw [w1]; exact Bool.false_ne_true
    rw [this]; rfl
  obtain ⟨r1, r2⟩ := R.enter (e := ⟨d, .drop q⟩) (P1 := P.slips.set q (dropS d s)) (M := (slipsOf l).modify q gone) hd
    (fun x hx => by
      rcases mem_set_of hx with z | z
      · exact (R.ok x z).mono hd
      · subst z; exact ok1)
    (asc_set hs rfl R.asc) hM hv (fun k hk => known_set hs rfl (early k hk)) trivial (by rw [List.length_set]; exact R.few) f2
  refine ⟨r1, ?_⟩
  rw [r2]
  refine count_of hM (by rw [List.length_modify]) fun i a b h1 h2 => ?_
  rw [List.getElem?_modify, h1] at h2
  by_cases c : q = i
  · subst c
    have : gone a = b := by simpa using h2
    subst this
    exact ⟨fun z => (by cases (waiting_iff.mp z)), fun z => (by cases z)⟩
  · have : a = b := by simpa [c] using h2
    subst this
    exact ⟨id, since_w⟩
end SL
end
section
set_option linter.all false
namespace SL
open Bd
/-! ### 6. A call -/
def nI (l : List Nat) : List Int := l.map fun (n : Nat) => (n : Int)
def oI : Option Nat → Int
  | some d => (d : Int)
  | none => -1
def stepM (P : Sh) : BdS.Call → Sh × List Int
  | .begin_ => (⟨[], 0, 0⟩, [0])
  | .ask d r n fs => if 292193 < d ∨ askOk r fs n = false then (P, [-1]) else if d < P.last then (P, [-3]) else if 64 ≤ P.slips.length ∨ 512 ≤ P.entries then (P, [-6]) else
      (entM P d (P.slips ++ [newS d r n fs]), [(P.slips.length : Int)])
  | .back d f => if 292193 < d ∨ 16383 < f then (P, [-1]) else if d < P.last then (P, [-3]) else match whoM P d f with
    | none => (P, [-5])
    | some q => match P.slips[q]? with
      | none => (P, [])
      | some s => if 512 ≤ P.entries then (P, [-6]) else (entM P d (P.slips.set q (backS f d s)), [(countP d (outF d (P.slips.set q (backS f d s))) (P.slips.set q (backS f d s)) : Nat)])
  | .drop d q => if 292193 < d then (P, [-1]) else if d < P.last then (P, [-3]) else match knownM P d q with
    | none => (P, [-4])
    | some s => if s.waits d = false then (P, [-5]) else if 512 ≤ P.entries then (P, [-6]) else
      (entM P d (P.slips.set q (dropS d s)), [(countP d (outF d (P.slips.set q (dropS d s))) (P.slips.set q (dropS d s)) : Nat)])
  | .count k => if 292193 < k then (P, [-1]) else (P, [((P.slips.filter fun s => decide (s.asked ≤ k)).length : Nat), ((P.slips.filter fun s => s.waits k).length : Nat)])
  | .who k f => if 292193 < k ∨ 16383 < f then (P, [-1]) else match whoM P k f with
    | none => (P, [0])
    | some q => match P.slips[q]? with
      | none => (P, [])
      | some s => (P, [1, (q : Int), (s.reader : Int), oI s.served, oI s.served + (s.days : Int)])
  | .slip k q => if 292193 < k then (P, [-1]) else match knownM P k q with
    | none => (P, [-4])
    | some s => (P, [0, (s.asked : Int), (if fell s.served k = true then oI s.served else -1), (s.days : Int), (s.reader : Int), (s.state k : Nat)] ++ nI (s.backs k))
  | .files k q => if 292193 < k then (P, [-1]) else match knownM P k q with
    | none => (P, [-4])
    | some s => (P, (s.files.length : Int) :: nI s.files)
  | .waits k q => if 292193 < k then (P, [-1]) else match knownM P k q with
    | none => (P, [-4])
    | some s => if s.waits k = false then (P, [-5]) else (P, ((waitsM P k q s.files).length : Int) :: nI (waitsM P k q s.files))
  | .late k x => if 292193 < k ∨ 292193 < x then (P, [-1]) else (P, ((overM P k x).length : Int) :: nI ((sortM (overM P k x)).map (·.2)))
  | .when_ k q x => if 292193 < k ∨ 292193 < x then (P, [-1]) else if x < k then (P, [-3]) else match knownM P k q with
    | none => (P, [-4])
    | some s => if s.waits k = false then (P, [-5]) else (P, [0, (whenM P k q x : Nat)])
theorem put_len (x : Nat × Nat) : ∀ l : List (Nat × Nat), (putFirst dueFirst x l).length = l.length + 1
  | [] => rfl
  | y :: l => by
    unfold putFirst
    split
    · rw [List.length_cons, put_len x l]; rfl
    · rfl
theorem sort_len : ∀ l : List (Nat × Nat), (sortM l).length = l.length
  | [] => rfl
  | x :: l => by
    show (putFirst dueFirst x (sortM l)).length = _
    rw [put_len, sort_len l]; rfl
theorem rising_nodup : ∀ {l : List Nat}, rising l = true → (∀ a r, l = a :: r → ∀ b ∈ r, a < b) ∧ l.Nodup
  | [], _ => ⟨fun a r e => (by cases e), List.Pairwise.nil⟩
  | [a], _ => ⟨fun x r e b hb => (by cases e; cases hb), List.nodup_cons.mpr ⟨List.not_mem_nil, List.Pairwise.nil⟩⟩
  | a :: b :: r, h => by
    unfold rising at h
    rw [Bool.and_eq_true] at h
    obtain ⟨i1, i2⟩ := rising_nodup h.2
    have ab := of_decide_eq_true h.1
    have all : ∀ c ∈ b :: r, a < c := fun c hc => by
      rcases List.mem_cons.mp hc with rfl | z
      · exact ab
      · exact Nat.lt_trans ab (i1 b r rfl c z)
    refine ⟨fun x s e c hc => ?_, List.nodup_cons.mpr ⟨fun z => Nat.lt_irrefl _ (all a z), i2⟩⟩
    cases e
    exact all c hc
theorem fine_of {r n d : Nat} {fs : List Nat} (h : askOk r fs n = true) : FineS ⟨d, r, fs, n, .waits⟩ := by
  unfold askOk at h
  simp only [Bool.and_eq_true, decide_eq_true_eq, List.all_eq_true] at h
  obtain ⟨h1, h2, h3, h4, h5, h6, h7, h8⟩ := h
  refine ⟨?_, (rising_nodup h5).2, h4, h6, h7⟩
  intro z
  have z' : fs = [] := z
  subst z'
  exact absurd h3 (by decide)
theorem step_ok {l : SEntries} {P : Sh} (R : Rel l P) (c : BdS.Call) : SlipNeutral.told c (BdS.step l c).2 = (stepM P c).2 ∧ Rel (BdS.step l c).1 (stepM P c).1 := by
  have lastE := R.last
  have dec : ∀ a b : Nat, decide (a < b) = true ↔ a < b := fun a b => decide_eq_true_iff
  cases c with
  | begin_ =>
    refine ⟨rfl, ?_⟩
    exact ⟨rfl, rfl, fun e h => (by cases h), fun s h => (by cases h), List.Pairwise.nil, fun k => rfl, fun e h => (by cases h), Nat.zero_le _, Nat.zero_le _⟩
  | ask d r n fs =>
    unfold BdS.step stepM
    by_cases h : 292193 < d ∨ askOk r fs n = false
    · have ht : BdS.tooMuch (.ask d r n fs) = true := by
        show (decide (LAST < d) || !askOk r fs n) = true
        rcases h with z | z
        · rw [decide_eq_true (show LAST < d from z)]; rfl
        · rw [z]; cases decide (LAST < d) <;> rfl
      simp only [ht, if_true, if_pos h]
      exact ⟨rfl, R⟩
    · have ht : BdS.tooMuch (.ask d r n fs) = false := by
        show (decide (LAST < d) || !askOk r fs n) = false
        have a1 : ¬ LAST < d := fun z => h (.inl z)
        have a2 : askOk r fs n = true := by cases e : askOk r fs n; exact absurd (.inr e) h; rfl
        rw [decide_eq_false a1, a2]; rfl
      have a2 : askOk r fs n = true := by cases e : askOk r fs n; exact absurd (.inr e) h; rfl
      simp only [ht, if_neg h, BdS.entryOf, Bool.false_eq_true, if_false]
      unfold whySlip
      simp only []
      rw [← lastE]
      by_cases h2 : d < P.last
      · simp only [if_pos h2]; exact ⟨rfl, R⟩
      · simp only [if_neg h2]
        have el : (slipsOf l).length = P.slips.length := by rw [R.now (Nat.le_of_not_lt h2), List.length_map]
        rw [el]
        by_cases h3 : 64 ≤ P.slips.length
        · have : SLIPS ≤ P.slips.length := h3
          simp only [if_pos this, if_pos (Or.inl h3 : 64 ≤ P.slips.length ∨ 512 ≤ P.entries)]; exact ⟨rfl, R⟩
        · have h3' : ¬ SLIPS ≤ P.slips.length := h3
          by_cases h4 : 512 ≤ P.entries
          · have : SENTRIES ≤ l.length := by rw [← R.ent]; exact h4
            simp only [if_neg h3', if_pos this, if_pos (Or.inr h4 : 64 ≤ P.slips.length ∨ 512 ≤ P.entries)]; exact ⟨rfl, R⟩
          · have : ¬ SENTRIES ≤ l.length := by rw [← R.ent]; exact h4
            have h5 : ¬ (64 ≤ P.slips.length ∨ 512 ≤ P.entries) := fun z => z.elim h3 h4
            simp only [if_neg h3', if_neg this, if_neg h5]
            refine ⟨?_, rel_ask R (Nat.le_of_not_lt h2) (fine_of a2) (Nat.lt_of_not_le h3) (by rw [← R.ent]; exact Nat.lt_of_not_le h4)⟩
            show [((slipsOf l).length : Int)] = _
            rw [el]
  | back d f =>
    unfold BdS.step stepM
    by_cases h : 292193 < d ∨ 16383 < f
    · have ht : BdS.tooMuch (.back d f) = true := by
        show (decide (LAST < d) || decide (SFILES ≤ f)) = true
        rcases h with z | z
        · rw [decide_eq_true (show LAST < d from z)]; rfl
        · rw [decide_eq_true (show SFILES ≤ f from z)]; cases decide (LAST < d) <;> rfl
      simp only [ht, if_true, if_pos h]
      exact ⟨rfl, R⟩
    · have ht : BdS.tooMuch (.back d f) = false := by
        show (decide (LAST < d) || decide (SFILES ≤ f)) = false
        rw [decide_eq_false (show ¬ LAST < d from fun z => h (.inl z)), decide_eq_false (show ¬ SFILES ≤ f from fun z => h (.inr z))]; rfl
      simp only [ht, if_neg h, BdS.entryOf, Bool.false_eq_true, if_false]
      unfold whySlip
      simp only []
      rw [← lastE]
      by_cases h2 : d < P.last
      · simp only [if_pos h2]; exact ⟨rfl, R⟩
      · simp only [if_neg h2]
        have hd := Nat.le_of_not_lt h2
        have eb : slipsBy l d = slipsOf l := by
          unfold slipsBy
          rw [List.filter_eq_self.mpr fun e he => decide_eq_true (Nat.le_trans (R.days e he) hd)]
        have ew := who_known R d f
        rw [eb] at ew
        rw [ew]
        cases e : whoM P d f with
        | none => simp only [Option.isNone_none, if_true]; exact ⟨rfl, R⟩
        | some q =>
          obtain ⟨s, hs, hf⟩ := whoM_some e
          simp only [Option.isNone_some, Bool.false_eq_true, if_false, hs]
          by_cases h4 : 512 ≤ P.entries
          · have : SENTRIES ≤ l.length := by rw [← R.ent]; exact h4
            simp only [if_pos this, if_pos h4]; exact ⟨rfl, R⟩
          · have : ¬ SENTRIES ≤ l.length := by rw [← R.ent]; exact h4
            simp only [if_neg this, if_neg h4]
            obtain ⟨r1, r2⟩ := rel_back R hd hs hf (by rw [← R.ent]; exact Nat.lt_of_not_le h4)
            refine ⟨?_, r1⟩
            show [(BdS.servedBy (slipsOf l) (slipsOf (l ++ [⟨d, .back f⟩])) : Int)] = _
            rw [r2]
  | drop d q =>
    unfold BdS.step stepM
    by_cases h : 292193 < d
    · have ht : BdS.tooMuch (.drop d q) = true := decide_eq_true h
      simp only [ht, if_true, if_pos h]
      exact ⟨rfl, R⟩
    · have ht : BdS.tooMuch (.drop d q) = false := decide_eq_false h
      simp only [ht, if_neg h, BdS.entryOf, Bool.false_eq_true, if_false]
      unfold whySlip
      simp only []
      rw [← lastE]
      by_cases h2 : d < P.last
      · simp only [if_pos h2]; exact ⟨rfl, R⟩
      · simp only [if_neg h2]
        have hd := Nat.le_of_not_lt h2
        have eb : slipsBy l d = slipsOf l := by
          unfold slipsBy
          rw [List.filter_eq_self.mpr fun e he => decide_eq_true (Nat.le_trans (R.days e he) hd)]
        have ea := known_at R d q
        rw [eb] at ea
        rw [ea]
        cases e : knownM P d q with
        | none => exact ⟨rfl, R⟩
        | some s =>
          obtain ⟨hs, hk⟩ := knownM_some e
          have ew := view_waiting (R.ok_at hs) hk
          simp only [Option.map_some, ew]
          cases hw : s.waits d with
          | false => simp only [Bool.false_eq_true, if_false, if_true]; exact ⟨rfl, R⟩
          | true =>
            simp only [if_true, Bool.true_eq_false, if_false]
            by_cases h4 : 512 ≤ P.entries
            · have : SENTRIES ≤ l.length := by rw [← R.ent]; exact h4
              simp only [if_pos this, if_pos h4]; exact ⟨rfl, R⟩
            · have : ¬ SENTRIES ≤ l.length := by rw [← R.ent]; exact h4
              simp only [if_neg this, if_neg h4]
              obtain ⟨r1, r2⟩ := rel_drop R hd hs hw (by rw [← R.ent]; exact Nat.lt_of_not_le h4)
              refine ⟨?_, r1⟩
              show [(BdS.servedBy (slipsOf l) (slipsOf (l ++ [⟨d, .drop q⟩])) : Int)] = _
              rw [r2]
  | count k =>
    unfold BdS.step stepM
    by_cases h : 292193 < k
    · have ht : BdS.tooMuch (.count k) = true := decide_eq_true h
      simp only [ht, if_true, if_pos h]
      exact ⟨rfl, R⟩
    · have ht : BdS.tooMuch (.count k) = false := decide_eq_false h
      simp only [ht, if_neg h, BdS.entryOf, Bool.false_eq_true, if_false]
      refine ⟨?_, R⟩
      obtain ⟨c1, c2⟩ := count_known R k
      show [((slipsBy l k).length : Int), (((slipsBy l k).filter Slip.waiting).length : Int)] = _
      rw [c1, c2]
  | who k f =>
    unfold BdS.step stepM
    by_cases h : 292193 < k ∨ 16383 < f
    · have ht : BdS.tooMuch (.who k f) = true := by
        show (decide (LAST < k) || decide (SFILES ≤ f)) = true
        rcases h with z | z
        · rw [decide_eq_true (show LAST < k from z)]; rfl
        · rw [decide_eq_true (show SFILES ≤ f from z)]; cases decide (LAST < k) <;> rfl
      simp only [ht, if_true, if_pos h]
      exact ⟨rfl, R⟩
    · have ht : BdS.tooMuch (.who k f) = false := by
        show (decide (LAST < k) || decide (SFILES ≤ f)) = false
        rw [decide_eq_false (show ¬ LAST < k from fun z => h (.inl z)), decide_eq_false (show ¬ SFILES ≤ f from fun z => h (.inr z))]; rfl
      simp only [ht, if_neg h, BdS.entryOf, Bool.false_eq_true, if_false, BdS.asks]
      rw [who_known R]
      cases e : whoM P k f with
      | none => exact ⟨rfl, R⟩
      | some q =>
        obtain ⟨s, hs, hf⟩ := whoM_some e
        have o := R.ok_at hs
        have sk := held_served hf
        obtain ⟨d, ed, hdk⟩ := served_some sk
        have ak : s.asked ≤ k := Nat.le_trans (o.sv d ed).1 hdk
        have ea : (slipsBy l k)[q]? = some (s.view k) := by
          rw [known_at R]; unfold knownM; rw [hs]
          show Option.map _ (if s.asked ≤ k then some s else none) = _
          rw [if_pos ak]; rfl
        simp only [hs]
        refine ⟨?_, R⟩
        unfold BdS.ofSlip
        rw [ea]
        show [1, (q : Int), (s.reader : Int), (((s.view k).since.getD 0 : Nat) : Int), ((s.view k).due : Int)] = _
        rw [view_due o sk, view_since o, if_pos sk]
        unfold PS.due
        rw [ed]
        show [1, (q : Int), (s.reader : Int), (d : Int), ((d + s.days : Nat) : Int)] = [1, (q : Int), (s.reader : Int), (d : Int), (d : Int) + (s.days : Int)]
        rw [Int.natCast_add]
  | slip k q =>
    unfold BdS.step stepM
    by_cases h : 292193 < k
    · have ht : BdS.tooMuch (.slip k q) = true := decide_eq_true h
      simp only [ht, if_true, if_pos h]
      exact ⟨rfl, R⟩
    · have ht : BdS.tooMuch (.slip k q) = false := decide_eq_false h
      simp only [ht, if_neg h, BdS.entryOf, Bool.false_eq_true, if_false, BdS.asks]
      unfold BdS.ofSlip
      rw [known_at R]
      cases e : knownM P k q with
      | none => exact ⟨rfl, R⟩
      | some s =>
        obtain ⟨hs, hk⟩ := knownM_some e
        have o := R.ok_at hs
        refine ⟨?_, R⟩
        show (0 : Int) :: ([(s.asked : Int), (match (s.view k).since with
          | some d => (d : Int)
          | none => -1), (s.days : Int), (s.reader : Int), (BdS.standNo (s.view k) : Int)] ++ Bd.ints (BdS.Slip.backs (s.view k))) = _
        rw [view_since o, view_state o hk, view_backs o]
        by_cases c : fell s.served k = true
        · obtain ⟨d, ed, _⟩ := served_some c
          rw [if_pos c]
          show _ = ([0, (s.asked : Int), (if fell s.served k = true then oI s.served else -1), (s.days : Int), (s.reader : Int), ((s.state k : Nat) : Int)] ++ nI (s.backs k) : List Int)
          rw [if_pos c, ed]; rfl
        · simp only [if_neg c]; rfl
  | files k q =>
    unfold BdS.step stepM
    by_cases h : 292193 < k
    · have ht : BdS.tooMuch (.files k q) = true := decide_eq_true h
      simp only [ht, if_true, if_pos h]
      exact ⟨rfl, R⟩
    · have ht : BdS.tooMuch (.files k q) = false := decide_eq_false h
      simp only [ht, if_neg h, BdS.entryOf, Bool.false_eq_true, if_false, BdS.asks]
      unfold BdS.ofSlip
      rw [known_at R]
      cases e : knownM P k q with
      | none => exact ⟨rfl, R⟩
      | some s => exact ⟨rfl, R⟩
  | waits k q =>
    unfold BdS.step stepM
    by_cases h : 292193 < k
    · have ht : BdS.tooMuch (.waits k q) = true := decide_eq_true h
      simp only [ht, if_true, if_pos h]
      exact ⟨rfl, R⟩
    · have ht : BdS.tooMuch (.waits k q) = false := decide_eq_false h
      simp only [ht, if_neg h, BdS.entryOf, Bool.false_eq_true, if_false, BdS.asks]
      unfold BdS.ofSlip
      rw [known_at R]
      cases e : knownM P k q with
      | none => exact ⟨rfl, R⟩
      | some s =>
        obtain ⟨hs, hk⟩ := knownM_some e
        have ew := view_waiting (R.ok_at hs) hk
        simp only [Option.map_some, ew]
        cases hw : s.waits k with
        | false => simp only [Bool.false_eq_true, if_false, if_true]; exact ⟨rfl, R⟩
        | true =>
          simp only [if_true, Bool.true_eq_false, if_false]
          refine ⟨?_, R⟩
          rw [waits_known R e hw]; rfl
  | late k x =>
    unfold BdS.step stepM
    by_cases h : 292193 < k ∨ 292193 < x
    · have ht : BdS.tooMuch (.late k x) = true := by
        show (decide (LAST < k) || decide (LAST < x)) = true
        rcases h with z | z
        · rw [decide_eq_true (show LAST < k from z)]; rfl
        · rw [decide_eq_true (show LAST < x from z)]; cases decide (LAST < k) <;> rfl
      simp only [ht, if_true, if_pos h]
      exact ⟨rfl, R⟩
    · have ht : BdS.tooMuch (.late k x) = false := by
        show (decide (LAST < k) || decide (LAST < x)) = false
        rw [decide_eq_false (show ¬ LAST < k from fun z => h (.inl z)), decide_eq_false (show ¬ LAST < x from fun z => h (.inr z))]; rfl
      simp only [ht, if_neg h, BdS.entryOf, Bool.false_eq_true, if_false, BdS.asks]
      refine ⟨?_, R⟩
      rw [late_known R]
      show (((sortM (overM P k x)).map (·.2)).length : Int) :: _ = _
      rw [List.length_map, sort_len]; rfl
  | when_ k q x =>
    unfold BdS.step stepM
    by_cases h : 292193 < k ∨ 292193 < x
    · have ht : BdS.tooMuch (.when_ k q x) = true := by
        show (decide (LAST < k) || decide (LAST < x)) = true
        rcases h with z | z
        · rw [decide_eq_true (show LAST < k from z)]; rfl
        · rw [decide_eq_true (show LAST < x from z)]; cases decide (LAST < k) <;> rfl
      simp only [ht, if_true, if_pos h]
      exact ⟨rfl, R⟩
    · have ht : BdS.tooMuch (.when_ k q x) = false := by
        show (decide (LAST < k) || decide (LAST < x)) = false
        rw [decide_eq_false (show ¬ LAST < k from fun z => h (.inl z)), decide_eq_false (show ¬ LAST < x from fun z => h (.inr z))]; rfl
      simp only [ht, if_neg h, BdS.entryOf, Bool.false_eq_true, if_false, BdS.asks]
      by_cases h2 : x < k
      · simp only [if_pos h2]; exact ⟨rfl, R⟩
      · simp only [if_neg h2]
        unfold BdS.ofSlip
        rw [known_at R]
        cases e : knownM P k q with
        | none => exact ⟨rfl, R⟩
        | some s =>
          obtain ⟨hs, hk⟩ := knownM_some e
          have ew := view_waiting (R.ok_at hs) hk
          simp only [Option.map_some, ew]
          cases hw : s.waits k with
          | false => simp only [Bool.false_eq_true, if_false, if_true]; exact ⟨rfl, R⟩
          | true =>
            simp only [if_true, Bool.true_eq_false, if_false]
            refine ⟨?_, R⟩
            rw [when_known R e hw]; rfl
end SL
end
section
set_option linter.all false
namespace SL
open Bd
/-! ### 7. The list of calls, read call by call -/
inductive IsC : List Int → BdS.Call → Prop
  | begin_ : IsC [1] .begin_
  | ask (d r n : Nat) (fs : List Nat) : IsC (2 :: (d : Int) :: (r : Int) :: (n : Int) :: (fs.length : Int) :: nI fs) (.ask d r n fs)
  | back (d f : Nat) : IsC [3, (d : Int), (f : Int)] (.back d f)
  | drop (d q : Nat) : IsC [4, (d : Int), (q : Int)] (.drop d q)
  | count (k : Nat) : IsC [5, (k : Int)] (.count k)
  | who (k f : Nat) : IsC [6, (k : Int), (f : Int)] (.who k f)
  | slip (k q : Nat) : IsC [7, (k : Int), (q : Int)] (.slip k q)
  | files (k q : Nat) : IsC [8, (k : Int), (q : Int)] (.files k q)
  | waits (k q : Nat) : IsC [9, (k : Int), (q : Int)] (.waits k q)
  | late (k x : Nat) : IsC [10, (k : Int), (x : Int)] (.late k x)
  | when_ (k q x : Nat) : IsC [11, (k : Int), (q : Int), (x : Int)] (.when_ k q x)
inductive Parsed : List Int → List BdS.Call → Prop
  | nil : Parsed [] []
  | cons {u t : List Int} {x : BdS.Call} {xs : List BdS.Call} : IsC u x → Parsed t xs → Parsed (u ++ t) (x :: xs)
theorem nat_of {n : Int} (h : 0 ≤ n) : ∃ m : Nat, n = (m : Int) ∧ BdRows.nat? n = some m := by
  refine ⟨n.toNat, by omega, ?_⟩
  unfold BdRows.nat?
  rw [if_pos h]
theorem nI_toNat : ∀ {l : List Int}, (∀ z ∈ l, 0 ≤ z) → nI (l.map Int.toNat) = l
  | [], _ => rfl
  | a :: l, h => by
    show ((a.toNat : Nat) : Int) :: nI (l.map Int.toNat) = a :: l
    rw [nI_toNat fun z hz => h z (List.mem_cons_of_mem _ hz), Int.toNat_of_nonneg (h a List.mem_cons_self)]
theorem nats_of {l : List Int} (h : (l.all fun (z : Int) => decide (0 ≤ z)) = true) : ∃ fs : List Nat, l = nI fs ∧ fs.length = l.length ∧ BdRows.nats? l = some fs := by
  refine ⟨l.map Int.toNat, (nI_toNat fun z hz => of_decide_eq_true (List.all_eq_true.mp h z hz)).symm, List.length_map _, ?_⟩
  unfold BdRows.nats?
  rw [if_pos h]
open PyWqaibu in
theorem shape_cases {p : Int} {nk : Nat × Nat} (h : shape p = some nk) : (p = 1 ∧ nk = (0, 0)) ∨ (p = 2 ∧ nk = (3, 1)) ∨ ((p = 3 ∨ p = 4 ∨ p = 6 ∨ p = 7 ∨ p = 8 ∨ p = 9 ∨ p = 10) ∧ nk = (2, 0)) ∨ (p = 5 ∧ nk = (1, 0)) ∨ (p = 11 ∧ nk = (3, 0)) := by
  unfold shape at h
  repeat' split at h
  all_goals first | (cases h; done) | (have e := Option.some.inj h; subst e; simp_all)
theorem take_two {r : List Int} (h : ¬ r.length < 2) : ∃ a b t, r = a :: b :: t := by
  match r, h with
  | [], h => exact absurd (by decide : (0 : Nat) < 2) h
  | [a], h => exact absurd (by decide : (1 : Nat) < 2) h
  | a :: b :: t, _ => exact ⟨a, b, t, rfl⟩
theorem take_three {r : List Int} (h : ¬ r.length < 3) : ∃ a b c t, r = a :: b :: c :: t := by
  match r, h with
  | [], h => exact absurd (by decide : (0 : Nat) < 3) h
  | [a], h => exact absurd (by decide : (1 : Nat) < 3) h
  | [a, b], h => exact absurd (by decide : (2 : Nat) < 3) h
  | a :: b :: c :: t, _ => exact ⟨a, b, c, t, rfl⟩
open PyWqaibu in
theorem call_is {l t : List Int} {c : List (List Int)} (h : PyFlat.call shape l = some (c, t)) (ha : SlipNeutral.asked1 (whole c) = true) : ∃ u x, l = u ++ t ∧ IsC u x ∧ SlipNeutral.callOf (whole c) = some x := by
  cases l with
  | nil => cases h
  | cons p r =>
    unfold PyFlat.call at h
    dsimp only at h
    cases e : shape p with
    | none => rw [e] at h; cases h
    | some nk =>
      obtain ⟨n, k⟩ := nk
      rw [e] at h
      have h' : (if r.length < n then none else match PyFlat.rows k (r.drop n) with
        | none => none
        | some (xs, t) => some ((p :: r.take n) :: xs, t)) = some (c, t) := h
      by_cases hr : r.length < n
      · rw [if_pos hr] at h'; cases h'
      rw [if_neg hr] at h'
      rcases shape_cases e with ⟨rfl, e2⟩ | ⟨rfl, e2⟩ | ⟨hp, e2⟩ | ⟨rfl, e2⟩ | ⟨rfl, e2⟩ <;> cases e2
      · have q : ([1] : List Int) :: [] = c ∧ r = t := by
          have := Option.some.inj h'
          exact ⟨congrArg Prod.fst this, congrArg Prod.snd this⟩
        obtain ⟨rfl, rfl⟩ := q
        exact ⟨[1], .begin_, rfl, .begin_, rfl⟩
      · obtain ⟨d, rd, nn, r', rfl⟩ := take_three hr
        have h2 : (match PyFlat.rows 1 r' with
          | none => none
          | some (xs, t) => some (([2, d, rd, nn] : List Int) :: xs, t)) = some (c, t) := h'
        cases r' with
        | nil => cases h2
        | cons m r2 =>
          unfold PyFlat.rows PyFlat.row at h2
          by_cases hm : 0 ≤ m ∧ m.toNat ≤ r2.length
          · simp only [if_pos hm] at h2
            have q : [([2, d, rd, nn] : List Int), r2.take m.toNat] = c ∧ r2.drop m.toNat = t := by
              have := Option.some.inj h2
              exact ⟨congrArg Prod.fst this, congrArg Prod.snd this⟩
            obtain ⟨rfl, rfl⟩ := q
            have ha' : (decide (0 ≤ d) && (decide (0 ≤ rd) && (decide (0 ≤ nn) && (r2.take m.toNat).all (fun (z : Int) => decide (0 ≤ z))))) = true := ha
            rw [Bool.and_eq_true, Bool.and_eq_true, Bool.and_eq_true] at ha'
            obtain ⟨a1, a2, a3, a4⟩ := ha'
            obtain ⟨d', rfl, e1⟩ := nat_of (of_decide_eq_true a1)
            obtain ⟨rd', rfl, e2⟩ := nat_of (of_decide_eq_true a2)
            obtain ⟨nn', rfl, e3⟩ := nat_of (of_decide_eq_true a3)
            obtain ⟨fs, e4, e5, e6⟩ := nats_of a4
            have el : (fs.length : Int) = m := by
              rw [e5, List.length_take, Nat.min_eq_left hm.2]; omega
            refine ⟨2 :: (d' : Int) :: (rd' : Int) :: (nn' : Int) :: (fs.length : Int) :: nI fs, .ask d' rd' nn' fs, ?_, .ask d' rd' nn' fs, ?_⟩
            · rw [el, ← e4]
              show _ = 2 :: (d' : Int) :: (rd' : Int) :: (nn' : Int) :: m :: (r2.take m.toNat ++ r2.drop m.toNat)
              rw [List.take_append_drop]
            · show (do return BdS.Call.ask (← BdRows.nat? d') (← BdRows.nat? rd') (← BdRows.nat? nn') (← BdRows.nats? (r2.take m.toNat))) = _
              rw [e1, e2, e3, e6]; rfl
          · simp only [if_neg hm] at h2; cases h2
      · obtain ⟨a, b, r', rfl⟩ := take_two hr
        have q : [([p, a, b] : List Int)] = c ∧ r' = t := by
          have := Option.some.inj h'
          exact ⟨congrArg Prod.fst this, congrArg Prod.snd this⟩
        obtain ⟨rfl, rfl⟩ := q
        have hab : 0 ≤ a ∧ 0 ≤ b := by
          rcases hp with rfl | rfl | rfl | rfl | rfl | rfl | rfl <;>
          · have ha' : (decide (0 ≤ a) && decide (0 ≤ b)) = true := ha
            rw [Bool.and_eq_true] at ha'
            exact ⟨of_decide_eq_true ha'.1, of_decide_eq_true ha'.2⟩
        obtain ⟨a', rfl, e1⟩ := nat_of hab.1
        obtain ⟨b', rfl, e2⟩ := nat_of hab.2
        rcases hp with rfl | rfl | rfl | rfl | rfl | rfl | rfl
        · exact ⟨[3, (a' : Int), (b' : Int)], .back a' b', rfl, .back a' b', by show (do return BdS.Call.back (← BdRows.nat? a') (← BdRows.nat? b')) = _; rw [e1, e2]; rfl⟩
        · exact ⟨[4, (a' : Int), (b' : Int)], .drop a' b', rfl, .drop a' b', by show (do return BdS.Call.drop (← BdRows.nat? a') (← BdRows.nat? b')) = _; rw [e1, e2]; rfl⟩
        · exact ⟨[6, (a' : Int), (b' : Int)], .who a' b', rfl, .who a' b', by show (do return BdS.Call.who (← BdRows.nat? a') (← BdRows.nat? b')) = _; rw [e1, e2]; rfl⟩
        · exact ⟨[7, (a' : Int), (b' : Int)], .slip a' b', rfl, .slip a' b', by show (do return BdS.Call.slip (← BdRows.nat? a') (← BdRows.nat? b')) = _; rw [e1, e2]; rfl⟩
        · exact ⟨[8, (a' : Int), (b' : Int)], .files a' b', rfl, .files a' b', by show (do return BdS.Call.files (← BdRows.nat? a') (← BdRows.nat? b')) = _; rw [e1, e2]; rfl⟩
        · exact ⟨[9, (a' : Int), (b' : Int)], .waits a' b', rfl, .waits a' b', by show (do return BdS.Call.waits (← BdRows.nat? a') (← BdRows.nat? b')) = _; rw [e1, e2]; rfl⟩
        · exact ⟨[10, (a' : Int), (b' : Int)], .late a' b', rfl, .late a' b', by show (do return BdS.Call.late (← BdRows.nat? a') (← BdRows.nat? b')) = _; rw [e1, e2]; rfl⟩
      · cases r with
        | nil => exact absurd (by decide : (0 : Nat) < 1) hr
        | cons a r' =>
          have q : [([5, a] : List Int)] = c ∧ r' = t := by
            have := Option.some.inj h'
            exact ⟨congrArg Prod.fst this, congrArg Prod.snd this⟩
          obtain ⟨rfl, rfl⟩ := q
          obtain ⟨a', rfl, e1⟩ := nat_of (of_decide_eq_true (show decide (0 ≤ a) = true from ha))
          exact ⟨[5, (a' : Int)], .count a', rfl, .count a', by show (do return BdS.Call.count (← BdRows.nat? a')) = _; rw [e1]; rfl⟩
      · obtain ⟨a, b, d, r', rfl⟩ := take_three hr
        have q : [([11, a, b, d] : List Int)] = c ∧ r' = t := by
          have := Option.some.inj h'
          exact ⟨congrArg Prod.fst this, congrArg Prod.snd this⟩
        obtain ⟨rfl, rfl⟩ := q
        have ha' : (decide (0 ≤ a) && (decide (0 ≤ b) && decide (0 ≤ d))) = true := ha
        rw [Bool.and_eq_true, Bool.and_eq_true] at ha'
        obtain ⟨a', rfl, e1⟩ := nat_of (of_decide_eq_true ha'.1)
        obtain ⟨b', rfl, e2⟩ := nat_of (of_decide_eq_true ha'.2.1)
        obtain ⟨d', rfl, e3⟩ := nat_of (of_decide_eq_true ha'.2.2)
        exact ⟨[11, (a' : Int), (b' : Int), (d' : Int)], .when_ a' b' d', rfl, .when_ a' b' d', by show (do return BdS.Call.when_ (← BdRows.nat? a') (← BdRows.nat? b') (← BdRows.nat? d')) = _; rw [e1, e2, e3]; rfl⟩
/-- what is told, call by call -/
def toldM (P : Sh) : List BdS.Call → List Int
  | [] => []
  | x :: xs => ((stepM P x).2.length : Int) :: ((stepM P x).2 ++ toldM (stepM P x).1 xs)
theorem told_is {l : SEntries} {P : Sh} (R : Rel l P) : ∀ (cs : List (List (List Int))) (xs : List BdS.Call), cs.map SlipNeutral.callOf = xs.map some → PyFlat.told (PyFlat.played SlipNeutral.step l cs) = toldM P xs := by
  intro cs
  induction cs generalizing l P with
  | nil =>
    intro xs h
    cases xs with
    | nil => rfl
    | cons x xs => cases h
  | cons c cs ih =>
    intro xs h
    cases xs with
    | nil => cases h
    | cons x xs =>
      rw [List.map_cons, List.map_cons] at h
      obtain ⟨h1, h2⟩ := List.cons.inj h
      obtain ⟨s1, s2⟩ := step_ok R x
      have e : SlipNeutral.step l c = ((BdS.step l x).1, SlipNeutral.told x (BdS.step l x).2) := by
        unfold SlipNeutral.step
        rw [h1]
      show PyFlat.told ((SlipNeutral.step l c).2 :: PyFlat.played SlipNeutral.step (SlipNeutral.step l c).1 cs) = _
      rw [e]
      show ((SlipNeutral.told x (BdS.step l x).2).length : Int) :: SlipNeutral.told x (BdS.step l x).2 ++ PyFlat.told (PyFlat.played SlipNeutral.step (BdS.step l x).1 cs) = _
      rw [ih s2 xs h2, s1]; rfl
open PyWqaibu in
theorem parsed_of : ∀ (f : Nat) (l : List Int) (cs : List (List (List Int))), PyFlat.calls shape f l = some cs → (∀ c ∈ cs, SlipNeutral.asked1 (whole c) = true) → ∃ xs, Parsed l xs ∧ (cs.map whole).map SlipNeutral.callOf = xs.map some
  | f, [], cs, h, _ => by
    have e : cs = [] := by cases f <;> exact (Option.some.inj h).symm
    subst e
    exact ⟨[], .nil, rfl⟩
  | 0, _ :: _, cs, h, _ => by cases h
  | f + 1, p :: r, cs, h, ha => by
    unfold PyFlat.calls at h
    cases e : PyFlat.call shape (p :: r) with
    | none => rw [e] at h; cases h
    | some ct =>
      obtain ⟨c, t⟩ := ct
      rw [e] at h
      have h' : (match PyFlat.calls shape f t with
        | none => none
        | some cs => some (c :: cs)) = some cs := h
      cases e2 : PyFlat.calls shape f t with
      | none => rw [e2] at h'; cases h'
      | some cs' =>
        rw [e2] at h'
        have e3 : c :: cs' = cs := Option.some.inj h'
        subst e3
        obtain ⟨u, x, eu, hu, hx⟩ := call_is e (ha c List.mem_cons_self)
        obtain ⟨xs, p1, p2⟩ := parsed_of f t cs' e2 fun z hz => ha z (List.mem_cons_of_mem _ hz)
        refine ⟨x :: xs, by rw [eu]; exact .cons hu p1, ?_⟩
        rw [List.map_cons, List.map_cons, List.map_cons, hx, p2]
def P0 : Sh := ⟨[], 0, 0⟩
theorem rel0 : Rel [] P0 := ⟨rfl, rfl, fun e h => (by cases h), fun s h => (by cases h), List.Pairwise.nil, fun k => rfl, fun e h => (by cases h), Nat.zero_le _, Nat.zero_le _⟩
/-- **the request and what is due** -/
theorem request {l : List Int} (h : PyWqaibu.answers_asked l = true) : ∃ xs, Parsed l xs ∧ xs.length ≤ 700 ∧ PyWqaibu.answers l = toldM P0 xs := by
  unfold PyWqaibu.answers_asked PyWqaibu.calls at h
  unfold PyWqaibu.answers PyWqaibu.calls
  cases e : PyFlat.calls PyWqaibu.shape l.length l with
  | none => rw [e] at h; cases h
  | some cs =>
    rw [e] at h
    have h' : (PyFlat.atMost 700 (cs.map PyWqaibu.whole) && SlipNeutral.asked (cs.map PyWqaibu.whole)) = true := h
    rw [Bool.and_eq_true] at h'
    obtain ⟨h1, h2⟩ := h'
    obtain ⟨xs, p1, p2⟩ := parsed_of _ l cs e fun c hc => List.all_eq_true.mp h2 _ (List.mem_map.mpr ⟨c, hc, rfl⟩)
    refine ⟨xs, p1, ?_, told_is rel0 _ xs p2⟩
    have e1 : xs.length = cs.length := by
      have := congrArg List.length p2
      rw [List.length_map, List.length_map, List.length_map] at this
      exact this.symm
    have h3 := of_decide_eq_true (show decide ((cs.map PyWqaibu.whole).length ≤ 700) = true from h1)
    rw [List.length_map] at h3
    omega
end SL
end
section
set_option linter.all false
namespace SL
open Bd
/-! ### 8. What the program's run leans on -/
structure Wf (P : Sh) : Prop where
  few : P.slips.length ≤ 64
  ne : ∀ s ∈ P.slips, s.files ≠ []
  nd : ∀ s ∈ P.slips, s.files.Nodup
  le : ∀ s ∈ P.slips, s.files.length ≤ 8
  out : ∀ k, (outF k P.slips).Nodup
theorem nodup_app {a b : List Nat} (h1 : a.Nodup) (h2 : b.Nodup) (h : ∀ f, f ∈ a → ¬ f ∈ b) : (a ++ b).Nodup := by
  unfold List.Nodup
  rw [List.pairwise_append]
  exact ⟨h1, h2, fun x hx y hy e => h x hx (by rw [e]; exact hy)⟩
theorem out_nodup : ∀ {l : Slips}, l.Pairwise Rk → (∀ s ∈ l, FineS s) → (outOf l).Nodup
  | [], _, _ => List.Pairwise.nil
  | s :: l, h, f => by
    obtain ⟨h1, h2⟩ := List.pairwise_cons.mp h
    unfold outOf
    rw [List.flatMap_cons]
    refine nodup_app ?_ (out_nodup h2 fun x hx => f x (List.mem_cons_of_mem _ hx)) fun g hg hb => ?_
    · unfold Slip.has
      split
      · exact List.Pairwise.filter _ (f s List.mem_cons_self).2.1
      · exact List.Pairwise.nil
    · obtain ⟨t, ht, hf⟩ := List.mem_flatMap.mp hb
      exact h1 t ht g (has_keeps hg) hf
theorem Rel.wf {l : SEntries} {P : Sh} (R : Rel l P) : Wf P := by
  have now := R.now (Nat.le_refl P.last)
  have g := good_of R.fine
  have fin : ∀ s ∈ P.slips, FineS (s.view P.last) := fun s hs => g.fine _ (by rw [now]; exact List.mem_map.mpr ⟨s, hs, rfl⟩)
  refine ⟨R.few, fun s hs => (fin s hs).1, fun s hs => (fin s hs).2.1, fun s hs => (fin s hs).2.2.1, fun k => ?_⟩
  have gk := good_by R.fine k
  obtain ⟨a, b, e, ha, hb⟩ := split_known k P.slips R.asc
  have okA : ∀ s ∈ a, OkS P.last s := fun s hs => R.ok s (by rw [e]; exact List.mem_append_left _ hs)
  have okB : ∀ s ∈ b, OkS P.last s := fun s hs => R.ok s (by rw [e]; exact List.mem_append_right _ hs)
  have eb : outF k b = [] := by
    unfold outF
    rw [List.flatMap_eq_nil_iff]
    intro s hs
    exact held_early (okB s hs) (hb s hs)
  have ea : outF k P.slips = outOf (slipsBy l k) := by
    rw [R.view, e, known_split ha hb, outF_out k okA]
    show outF k (a ++ b) = _
    unfold outF at eb ⊢
    rw [List.flatMap_append, eb, List.append_nil]
  rw [ea]
  exact out_nodup gk.pair gk.fine
/-- what is back was asked for -/
def Sub (P : Sh) : Prop := ∀ s ∈ P.slips, ∀ p ∈ s.ret, p.1 ∈ s.files
theorem sub_serve (d : Nat) : ∀ (l : List PS) (kept : List Nat), (∀ s ∈ l, ∀ p ∈ s.ret, p.1 ∈ s.files) → ∀ s ∈ serveP d kept l, ∀ p ∈ s.ret, p.1 ∈ s.files
  | [], _, _, s, h => by cases h
  | x :: l, kept, hs, s, h => by
    rw [serveP_cons] at h
    rcases List.mem_cons.mp h with rfl | h
    · intro p hp
      have e1 : (serve1 d kept x).ret = x.ret ∧ (serve1 d kept x).files = x.files := by
        unfold serve1
        split
        · split <;> exact ⟨rfl, rfl⟩
        · exact ⟨rfl, rfl⟩
      rw [e1.1] at hp
      rw [e1.2]
      exact hs x List.mem_cons_self p hp
    · exact sub_serve d l _ (fun y hy => hs y (List.mem_cons_of_mem _ hy)) s h
theorem held_sub {s : PS} {k f : Nat} (h : f ∈ s.held k) : f ∈ s.files := by
  unfold PS.held at h
  split at h
  · exact (List.mem_filter.mp h).1
  · cases h
theorem Sub.step {P : Sh} (h : Sub P) (c : BdS.Call) : Sub (stepM P c).1 := by
  cases c with
  | begin_ => intro s hs; cases hs
  | ask d r n fs =>
    unfold stepM
    dsimp only
    split
    · exact h
    · split
      · exact h
      · split
        · exact h
        · refine sub_serve d _ _ fun s hs => ?_
          rcases List.mem_append.mp hs with z | z
          · exact h s z
          · rw [List.mem_singleton] at z
            subst z
            intro p hp
            cases hp
  | back d f =>
    unfold stepM
    dsimp only
    split
    · exact h
    · split
      · exact h
      · split
        · exact h
        · rename_i q eq
          split
          · exact h
          · rename_i s es
            split
            · exact h
            · refine sub_serve d _ _ fun x hx => ?_
              rcases mem_set_of hx with z | z
              · exact h x z
              · subst z
                intro p hp
                rcases List.mem_append.mp (show p ∈ s.ret ++ [(f, d)] from hp) with z | z
                · exact h s (List.mem_of_getElem? es) p z
                · rw [List.mem_singleton] at z
                  subst z
                  obtain ⟨s', e1, e2⟩ := whoM_some eq
                  have e3 : s' = s := Option.some.inj (e1.symm.trans es)
                  subst e3
                  show f ∈ s'.files
                  exact held_sub e2
  | drop d q =>
    unfold stepM
    dsimp only
    split
    · exact h
    · split
      · exact h
      · split
        · exact h
        · rename_i s es
          split
          · exact h
          · split
            · exact h
            · refine sub_serve d _ _ fun x hx => ?_
              rcases mem_set_of hx with z | z
              · exact h x z
              · subst z
                intro p hp
                exact h s (List.mem_of_getElem? (knownM_some es).1) p hp
  | count k => unfold stepM; dsimp only; split <;> exact h
  | who k f => unfold stepM; dsimp only; repeat' split
               all_goals exact h
  | slip k q => unfold stepM; dsimp only; repeat' split
                all_goals exact h
  | files k q => unfold stepM; dsimp only; repeat' split
                 all_goals exact h
  | waits k q => unfold stepM; dsimp only; repeat' split
                 all_goals exact h
  | late k x => unfold stepM; dsimp only; repeat' split
                all_goals exact h
  | when_ k q x => unfold stepM; dsimp only; repeat' split
                   all_goals exact h
/-- a state that calls can make -/
def Can (P : Sh) : Prop := (∃ l, Rel l P) ∧ Sub P
theorem can0 : Can P0 := ⟨⟨[], rel0⟩, fun s hs => (by cases hs)⟩
theorem Can.step {P : Sh} (h : Can P) (c : BdS.Call) : Can (stepM P c).1 := by
  obtain ⟨⟨l, R⟩, hs⟩ := h
  exact ⟨⟨_, (step_ok R c).2⟩, hs.step c⟩
theorem Can.wf {P : Sh} (h : Can P) : Wf P := by
  obtain ⟨⟨l, R⟩, _⟩ := h
  exact R.wf
theorem Can.ok {P : Sh} (h : Can P) {q : Nat} {s : PS} (e : P.slips[q]? = some s) : OkS P.last s := by
  obtain ⟨⟨l, R⟩, _⟩ := h
  exact R.ok_at e
theorem len_sub : ∀ {a b : List Nat}, a.Nodup → (∀ f ∈ a, f ∈ b) → a.length ≤ b.length
  | [], _, _, _ => Nat.zero_le _
  | f :: a, b, hn, hs => by
    obtain ⟨h1, h2⟩ := List.nodup_cons.mp hn
    have hf : f ∈ b := hs f List.mem_cons_self
    have ih := len_sub (a := a) (b := b.erase f) h2 fun g hg => (List.mem_erase_of_ne (fun z => h1 (by rw [← z]; exact hg))).mpr (hs g (List.mem_cons_of_mem _ hg))
    rw [List.length_erase_of_mem hf] at ih
    have : 0 < b.length := List.length_pos_of_mem hf
    rw [List.length_cons]
    omega
theorem Can.ret {P : Sh} (h : Can P) {q : Nat} {s : PS} (e : P.slips[q]? = some s) : s.ret.length ≤ 8 := by
  have h1 := (h.ok e).nd
  have h2 := h.2 s (List.mem_of_getElem? e)
  have h3 := len_sub h1 (b := s.files) fun f hf => by
    obtain ⟨p, hp, rfl⟩ := List.mem_map.mp hf
    exact h2 p hp
  rw [List.length_map] at h3
  exact Nat.le_trans h3 (h.wf.le s (List.mem_of_getElem? e))
theorem held_len (s : PS) (k : Nat) : (s.held k).length ≤ s.files.length := by
  unfold PS.held
  split
  · exact List.length_filter_le _ _
  · exact Nat.zero_le _
theorem out_len : ∀ {l : List PS} (k : Nat), (∀ s ∈ l, s.files.length ≤ 8) → (outF k l).length ≤ 8 * l.length
  | [], _, _ => Nat.zero_le _
  | s :: l, k, h => by
    unfold outF
    rw [List.flatMap_cons, List.length_append, List.length_cons]
    have h1 := h s List.mem_cons_self
    have h2 := held_len s k
    have h3 := out_len (l := l) k fun x hx => h x (List.mem_cons_of_mem _ hx)
    unfold outF at h3
    omega
theorem over_len (P : Sh) (k x : Nat) (h : Wf P) : (overM P k x).length ≤ 512 := by
  unfold overM
  refine Nat.le_trans (List.length_filter_le _ _) ?_
  have e : (P.slips.flatMap fun s => (s.held k).map fun f => (s.due, f)).length = (outF k P.slips).length := by
    unfold outF
    induction P.slips with
    | nil => rfl
    | cons s l ih => rw [List.flatMap_cons, List.flatMap_cons, List.length_append, List.length_append, List.length_map, ih]
  rw [e]
  have := out_len k h.le
  have := h.few
  omega
theorem nI_len (l : List Nat) : (nI l).length = l.length := List.length_map _
/-- an answer is short -/
theorem short (P : Sh) (h : Wf P) (c : BdS.Call) : (stepM P c).2.length ≤ 600 := by
  have one : ∀ z : Int, ([z] : List Int).length ≤ 600 := fun z => by show 1 ≤ 600; decide
  have none' : ([] : List Int).length ≤ 600 := Nat.zero_le _
  have mem : ∀ {k q : Nat} {s : PS}, knownM P k q = some s → s ∈ P.slips := fun e => List.mem_of_getElem? (knownM_some e).1
  cases c with
  | begin_ => exact one 0
  | ask d r n fs => unfold stepM; dsimp only; repeat' split
                    all_goals exact one _
  | back d f => unfold stepM; dsimp only; repeat' split
                all_goals first | exact one _ | exact none'
  | drop d q => unfold stepM; dsimp only; repeat' split
                all_goals first | exact one _ | exact none'
  | count k => unfold stepM; dsimp only; split
               · exact one _
               · show 2 ≤ 600; decide
  | who k f =>
    unfold stepM; dsimp only
    split
    · exact one _
    · split
      · exact one _
      · split
        · exact none'
        · show 5 ≤ 600; decide
  | slip k q =>
    unfold stepM; dsimp only
    split
    · exact one _
    · split
      · exact one _
      · rename_i s e
        have h1 := h.le s (mem e)
        show ([0, (s.asked : Int), (if fell s.served k = true then oI s.served else -1), (s.days : Int), (s.reader : Int), ((s.state k : Nat) : Int)] ++ nI (s.backs k)).length ≤ 600
        rw [List.length_append, nI_len]
        have h2 : (s.backs k).length ≤ s.files.length := List.length_filter_le _ _
        show 6 + (s.backs k).length ≤ 600
        omega
  | files k q =>
    unfold stepM; dsimp only
    split
    · exact one _
    · split
      · exact one _
      · rename_i s e
        have h1 := h.le s (mem e)
        show (nI s.files).length + 1 ≤ 600
        rw [nI_len]; omega
  | waits k q =>
    unfold stepM; dsimp only
    split
    · exact one _
    · split
      · exact one _
      · rename_i s e
        split
        · exact one _
        · show (nI (waitsM P k q s.files)).length + 1 ≤ 600
          rw [nI_len]
          have h2 : (waitsM P k q s.files).length ≤ q := by
            unfold waitsM
            exact Nat.le_trans (List.length_filter_le _ _) (by rw [List.length_range]; exact Nat.le_refl _)
          have h3 := (List.getElem?_eq_some_iff.mp (knownM_some e).1).1
          have := h.few
          omega
  | late k x =>
    unfold stepM; dsimp only
    split
    · exact one _
    · show (nI ((sortM (overM P k x)).map (·.2))).length + 1 ≤ 600
      rw [nI_len, List.length_map, sort_len]
      have := over_len P k x h
      omega
  | when_ k q x =>
    unfold stepM; dsimp only
    repeat' split
    all_goals first | exact one _ | (show 2 ≤ 600; decide)
/-! ### the files of an ask, one after another -/
def fitF : Int → List Nat → Bool
  | _, [] => true
  | b, f :: l => !decide ((f : Int) ≤ b) && (!decide ((16383 : Int) < (f : Int)) && fitF (f : Int) l)
theorem fitF_is : ∀ (l : List Nat) (b : Int), fitF b l = (rising l && (l.all (fun (f : Nat) => decide (f < SFILES)) && (match l with | [] => true | f :: _ => decide (b < (f : Int)))))
  | [], b => rfl
  | [f], b => by
    show (!decide ((f : Int) ≤ b) && (!decide ((16383 : Int) < (f : Int)) && true)) = (true && ((decide (f < SFILES) && true) && decide (b < (f : Int))))
    have e1 : (!decide ((f : Int) ≤ b)) = decide (b < (f : Int)) := by
      by_cases h : (f : Int) ≤ b
      · rw [decide_eq_true h, decide_eq_false (by omega)]; rfl
      · rw [decide_eq_false h, decide_eq_true (by omega)]; rfl
    have e2 : (!decide ((16383 : Int) < (f : Int))) = decide (f < SFILES) := by
      by_cases h : (16383 : Int) < (f : Int)
      · rw [decide_eq_true h, decide_eq_false (show ¬ f < SFILES from fun z => by unfold SFILES at z; omega)]; rfl
      · rw [decide_eq_false h, decide_eq_true (show f < SFILES by unfold SFILES; omega)]; rfl
    rw [e1, e2]
    cases decide (b < (f : Int)) <;> cases decide (f < SFILES) <;> rfl
  | f :: g :: l, b => by
    have ih := fitF_is (g :: l) (f : Int)
    show (!decide ((f : Int) ≤ b) && (!decide ((16383 : Int) < (f : Int)) && fitF (f : Int) (g :: l))) = ((decide (f < g) && rising (g :: l)) && ((decide (f < SFILES) && (g :: l).all (fun (f : Nat) => decide (f < SFILES))) && decide (b < (f : Int))))
    rw [ih]
    have e1 : (!decide ((f : Int) ≤ b)) = decide (b < (f : Int)) := by
      by_cases h : (f : Int) ≤ b
      · rw [decide_eq_true h, decide_eq_false (by omega)]; rfl
      · rw [decide_eq_false h, decide_eq_true (by omega)]; rfl
    have e2 : (!decide ((16383 : Int) < (f : Int))) = decide (f < SFILES) := by
      by_cases h : (16383 : Int) < (f : Int)
      · rw [decide_eq_true h, decide_eq_false (show ¬ f < SFILES from fun z => by unfold SFILES at z; omega)]; rfl
      · rw [decide_eq_false h, decide_eq_true (show f < SFILES by unfold SFILES; omega)]; rfl
    have e3 : decide ((f : Int) < (g : Int)) = decide (f < g) := by
      by_cases h : f < g
      · rw [decide_eq_true h, decide_eq_true (by omega)]
      · rw [decide_eq_false h, decide_eq_false (by omega)]
    rw [e1, e2]
    show (decide (b < (f : Int)) && (decide (f < SFILES) && (rising (g :: l) && ((g :: l).all (fun (f : Nat) => decide (f < SFILES)) && decide ((f : Int) < (g : Int)))))) = _
    rw [e3]
    cases decide (b < (f : Int)) <;> cases decide (f < SFILES) <;> cases rising (g :: l) <;> cases decide (f < g) <;> cases ((g :: l).all (fun (f : Nat) => decide (f < SFILES))) <;> rfl
/-- what the program asks of a slip -/
def filesFit (fs : List Nat) : Bool := if fs.length < 1 ∨ 8 < fs.length then false else fitF (-1) fs
def slipFits (r n : Nat) (fs : List Nat) : Bool := if r < 1 ∨ 65535 < r then false else if n < 1 ∨ 1000 < n then false else filesFit fs
theorem slipFits_is (r n : Nat) (fs : List Nat) : slipFits r n fs = askOk r fs n := by
  unfold slipFits askOk filesFit READER ATONCE LOAN
  have ef : ∀ b : Bool, (match fs with | [] => true | f :: _ => decide ((-1 : Int) < (f : Int))) = true := fun _ => by
    cases fs with
    | nil => rfl
    | cons f l => exact decide_eq_true (by omega)
  rw [fitF_is, ef true, Bool.and_true]
  by_cases h1 : r < 1 ∨ 65535 < r
  · rw [if_pos h1]
    rcases h1 with h | h
    · rw [decide_eq_false (show ¬ 1 ≤ r by omega)]; rfl
    · rw [decide_eq_false (show ¬ r ≤ 65535 by omega)]; cases decide (1 ≤ r) <;> rfl
  · rw [if_neg h1, decide_eq_true (show 1 ≤ r by omega), decide_eq_true (show r ≤ 65535 by omega), Bool.true_and, Bool.true_and]
    by_cases h2 : n < 1 ∨ 1000 < n
    · rw [if_pos h2]
      have : (decide (1 ≤ n) && decide (n ≤ 1000)) = false := by
        rcases h2 with h | h
        · rw [decide_eq_false (show ¬ 1 ≤ n by omega)]; rfl
        · rw [decide_eq_false (show ¬ n ≤ 1000 by omega)]; cases decide (1 ≤ n) <;> rfl
      rw [this]
      simp
    · rw [if_neg h2, decide_eq_true (show 1 ≤ n by omega), decide_eq_true (show n ≤ 1000 by omega)]
      by_cases h3 : fs.length < 1 ∨ 8 < fs.length
      · rw [if_pos h3]
        rcases h3 with h | h
        · rw [decide_eq_false (show ¬ 1 ≤ fs.length by omega)]; rfl
        · rw [decide_eq_false (show ¬ fs.length ≤ 8 by omega)]; cases decide (1 ≤ fs.length) <;> rfl
      · rw [if_neg h3, decide_eq_true (show 1 ≤ fs.length by omega), decide_eq_true (show fs.length ≤ 8 by omega)]
        simp
/-! ### serving, slip by slip -/
theorem take_snoc {α : Type} : ∀ {l : List α} {i : Nat} {x : α}, l[i]? = some x → l.take (i + 1) = l.take i ++ [x]
  | [], i, x, h => by simp at h
  | a :: l, 0, x, h => by
    have e : a = x := Option.some.inj h
    subst e
    rfl
  | a :: l, i + 1, x, h => by
    have ih := take_snoc (l := l) (i := i) (x := x) h
    show a :: l.take (i + 1) = a :: l.take i ++ [x]
    rw [ih]
    rfl
theorem drop_at {α : Type} : ∀ {l : List α} {i : Nat} {x : α}, l[i]? = some x → l.drop i = x :: l.drop (i + 1)
  | [], i, x, h => by simp at h
  | a :: l, 0, x, h => by
    have e : a = x := Option.some.inj h
    subst e
    rfl
  | a :: l, i + 1, x, h => by
    show l.drop i = x :: l.drop (i + 1)
    exact drop_at (l := l) (i := i) (x := x) h
/-- the slips when the first i have been looked at -/
def midP (d : Nat) (kept : List Nat) (l : List PS) (i : Nat) : List PS := serveP d kept (l.take i) ++ l.drop i
theorem mid_zero (d : Nat) (kept : List Nat) (l : List PS) : midP d kept l 0 = l := rfl
theorem mid_len (d : Nat) (kept : List Nat) (l : List PS) (i : Nat) : (midP d kept l i).length = l.length := by
  unfold midP
  rw [List.length_append, serveP_len, List.length_take, List.length_drop]; omega
theorem mid_end (d : Nat) (kept : List Nat) (l : List PS) : midP d kept l l.length = serveP d kept l := by
  unfold midP
  rw [List.take_length, List.drop_length, List.append_nil]
theorem mid_at {d : Nat} {kept : List Nat} {l : List PS} {i : Nat} {s : PS} (h : l[i]? = some s) : (midP d kept l i)[i]? = some s := by
  obtain ⟨hi, _⟩ := List.getElem?_eq_some_iff.mp h
  have el : (serveP d kept (l.take i)).length = i := by rw [serveP_len, List.length_take]; omega
  unfold midP
  rw [List.getElem?_append_right (by omega), el, Nat.sub_self, drop_at h]; rfl
theorem set_app {α : Type} : ∀ (a : List α) (x y : α) (b : List α), (a ++ x :: b).set a.length y = a ++ y :: b
  | [], x, y, b => rfl
  | c :: a, x, y, b => by
    show c :: (a ++ x :: b).set a.length y = _
    rw [set_app a x y b]; rfl
theorem mid_next {d : Nat} {kept : List Nat} {l : List PS} {i : Nat} {s : PS} (h : l[i]? = some s) : midP d kept l (i + 1) = (midP d kept l i).set i (serve1 d (keptP d kept (l.take i)) s) := by
  obtain ⟨hi, _⟩ := List.getElem?_eq_some_iff.mp h
  have el : (serveP d kept (l.take i)).length = i := by rw [serveP_len, List.length_take]; omega
  unfold midP
  rw [take_snoc h, (snoc d s (l.take i) kept).1, drop_at h]
  have := set_app (serveP d kept (l.take i)) s (serve1 d (keptP d kept (l.take i)) s) (l.drop (i + 1))
  rw [el] at this
  rw [this, List.append_assoc]; rfl
theorem kept_next {d : Nat} {kept : List Nat} {l : List PS} {i : Nat} {s : PS} (h : l[i]? = some s) : keptP d kept (l.take (i + 1)) = if s.waits d = true then s.files ++ keptP d kept (l.take i) else keptP d kept (l.take i) := by
  rw [take_snoc h]; exact (snoc d s (l.take i) kept).2.2
theorem count_next {d : Nat} {kept : List Nat} {l : List PS} {i : Nat} {s : PS} (h : l[i]? = some s) : countP d kept (l.take (i + 1)) = countP d kept (l.take i) + count1 d (keptP d kept (l.take i)) s := by
  rw [take_snoc h]; exact (snoc d s (l.take i) kept).2.1
/-! ### late: the one sorted row -/
def pLt (a b : Nat × Nat) : Prop := a.1 < b.1 ∨ (a.1 = b.1 ∧ a.2 < b.2)
theorem due_iff {a b : Nat × Nat} : dueFirst a b = true ↔ pLt a b := by
  unfold dueFirst pLt
  rw [Bool.or_eq_true, Bool.and_eq_true, decide_eq_true_iff, decide_eq_true_iff, beq_iff_eq]
theorem put_perm (x : Nat × Nat) : ∀ l : List (Nat × Nat), (putFirst dueFirst x l).Perm (x :: l)
  | [] => List.Perm.refl _
  | y :: l => by
    unfold putFirst
    split
    · exact ((put_perm x l).cons y).trans (List.Perm.swap x y l)
    · exact List.Perm.refl _
theorem sort_perm : ∀ l : List (Nat × Nat), (sortM l).Perm l
  | [] => List.Perm.refl _
  | x :: l => (put_perm x (sortM l)).trans ((sort_perm l).cons x)
def pLe (a b : Nat × Nat) : Prop := ¬ pLt b a
theorem put_sorted (x : Nat × Nat) : ∀ l : List (Nat × Nat), l.Pairwise pLe → (putFirst dueFirst x l).Pairwise pLe
  | [], _ => List.pairwise_singleton _ _
  | y :: l, h => by
    obtain ⟨h1, h2⟩ := List.pairwise_cons.mp h
    unfold putFirst
    split
    · rename_i c
      have c' := due_iff.mp c
      refine List.pairwise_cons.mpr ⟨fun z hz => ?_, put_sorted x l h2⟩
      rcases List.mem_cons.mp ((put_perm x l).mem_iff.mp hz) with rfl | hz
      · unfold pLe pLt; unfold pLt at c'; omega
      · exact h1 z hz
    · rename_i c
      have c' : ¬ pLt y x := fun z => c (due_iff.mpr z)
      refine List.pairwise_cons.mpr ⟨fun z hz => ?_, h⟩
      rcases List.mem_cons.mp hz with rfl | hz
      · exact c'
      · have := h1 z hz
        unfold pLe pLt at this ⊢; unfold pLt at c'; omega
theorem sort_sorted : ∀ l : List (Nat × Nat), (sortM l).Pairwise pLe
  | [] => List.Pairwise.nil
  | x :: l => put_sorted x _ (sort_sorted l)
theorem same_sorted : ∀ {a b : List (Nat × Nat)}, a.Perm b → a.Pairwise pLe → b.Pairwise pLe → a = b
  | [], b, p, _, _ => (List.Perm.nil_eq p)
  | x :: a, [], p, _, _ => absurd p.length_eq (by simp)
  | x :: a, y :: b, p, ha, hb => by
    obtain ⟨a1, a2⟩ := List.pairwise_cons.mp ha
    obtain ⟨b1, b2⟩ := List.pairwise_cons.mp hb
    have e : x = y := by
      have hx : x ∈ y :: b := p.mem_iff.mp List.mem_cons_self
      have hy : y ∈ x :: a := p.mem_iff.mpr List.mem_cons_self
      rcases List.mem_cons.mp hx with z | z
      · exact z
      rcases List.mem_cons.mp hy with w | w
      · exact w.symm
      have q1 := b1 x z
      have q2 := a1 y w
      unfold pLe pLt at q1 q2
      obtain ⟨x1, x2⟩ := x
      obtain ⟨y1, y2⟩ := y
      simp only [] at q1 q2
      have : x1 = y1 := by omega
      subst this
      have : x2 = y2 := by omega
      subst this
      rfl
    subst e
    rw [same_sorted (List.Perm.cons_inv p) a2 b2]
theorem sorted_is {a l : List (Nat × Nat)} (p : a.Perm l) (h : a.Pairwise pLe) : a = sortM l := same_sorted (p.trans (sort_perm l).symm) h (sort_sorted l)
end SL
end
section
set_option Elab.async false
set_option linter.all false
set_option maxRecDepth 100000
/-! RULES of this proof, over the layer -/
namespace SP
open PySem PySem.Spec PyProof.Rows L2
theorem iteB {c : Bool} {A B : Prop} (h1 : c = true → A) (h2 : c = false → B) : if c = true then A else B := by
  cases c with
  | true => rw [if_pos rfl]; exact h1 rfl
  | false => rw [if_neg Bool.false_ne_true]; exact h2 rfl
theorem tyes {σ : L2.St} {H : Hp} {A B : Hp → Prop} (h : A H) : tYes σ H (fun b H3 => if b = true then A H3 else B H3) := by
  show if true = true then A H else B H
  rw [if_pos rfl]
  exact h
theorem lk_hd {k : Str} {v : V} {l : List (Str × V)} : ((k, v) :: l).lookup k = some v := by
  have hb : (k == k) = true := beq_iff_eq.mpr rfl
  simp only [List.lookup, hb]
theorem lk_tl {m k : Str} {v : V} {l : List (Str × V)} (h : ¬ m = k) : ((k, v) :: l).lookup m = l.lookup m := by
  have hb : (m == k) = false := beq_eq_false_iff_ne.mpr h
  simp only [List.lookup, hb]
theorem pf_hd {k : Str} {v u : V} {l : List (Str × V)} : putF k u ((k, v) :: l) = (k, u) :: l := by
  show (if k = k then _ else _) = _
  rw [if_pos rfl]
theorem pf_tl {m k : Str} {v u : V} {l : List (Str × V)} (h : ¬ k = m) : putF m u ((k, v) :: l) = (k, v) :: putF m u l := by
  show (if k = m then _ else _) = _
  rw [if_neg h]
/-- the thing that an expression hands back is locked from then on -/
def tFrz (t : TE) : TE := fun σ H Q => t σ H fun v H1 => ∃ d u, v = .ref d ∧ H1 d = some u ∧ Mut (some u) ∧ ∀ od, Q v (upd H1 d (.frz od u))
section
variable {X : Cx}
theorem pe_frz {e : Expr} {t : TE} (h : PE X e t) : PE X e (tFrz t) := by
  intro pins s σ H Q I hw
  refine thn (h pins s σ H _ I hw) fun v s1 ⟨x, H1, I1, r, d, u, e1, hd, mu, q⟩ => ?_
  obtain ⟨od, I2⟩ := I1.lock hd mu
  exact ⟨x, _, I2, r, q od⟩
theorem op_in_dict (hu : X.A.units + 1 < cLine) : OpR X (compareOp .In) (fun x y H Q => ∃ a o, y = .ref a ∧ DGet H a x o ∧ Q (.bl o.isSome) H) := by
  intro pins s σ H x y v u Q I rx ry h
  obtain ⟨a, o, rfl, g, q⟩ := h
  obtain rfl : u = Value.ref a := ry
  exact d_in hu I g rx fun s3 I3 => ⟨.bl o.isSome, H, I3, rfl, q⟩
/-- in: of a row of flat items, or of a dict -/
def rInAny (K : PySem.W.Frag) : R2 := fun x y H Q => rIn K false x y H Q ∨ ∃ a o, y = .ref a ∧ DGet H a x o ∧ Q (.bl o.isSome) H
theorem op_in_any (hu : X.A.units + 1 < cLine) : OpR X (compareOp .In) (rInAny X.K) := op_in_seq.or (op_in_dict hu)
theorem blk {N : List Str} {sc scope : Scope} {own : List (Str × Nat)} (hN : X.N = N) (hs : X.env.scope = sc) (h : blkC N sc scope own = true) : BlkOk X.N X.env.scope scope own := by
  rw [hN, hs]
  exact blkOk_by h
/-! a dict of the module, ints to ints -/
def enC : List DictEntry → List (Int × Int) → Bool
  | [], [] => true
  | e :: es, (k, v) :: r => (match e.key with | .int i _ => i == k | _ => false) && e.hash == hashInt k && (match e.val with | .int i _ => i == v | _ => false) && enC es r
  | _, _ => false
def dictC (o : Obj) (kvs : List (Int × Int)) : Bool := (match o.cls with | .type n => n == "dict" | _ => false) && o.dict.isNone && o.slots.isEmpty && (match o.data with | .dict es _ => enC es.toList kvs | _ => false)
theorem enC_ok {P : Program} {w : World} : ∀ {es : List DictEntry} {kvs : List (Int × Int)}, enC es kvs = true → ∃ vs : List (Key × Value), PySem.Pairs (mixKind P w) es vs ∧ (∀ e ∈ es, ∃ k, (mixKind P w).is k e.key = true ∧ e.hash = (mixKind P w).hash k) ∧
    vs.map (·.1) = kvs.map (fun p => (Sum.inl p.1 : Key)) ∧ ∀ (k v : Int), kvs.lookup k = some v → ∃ t, valueAt vs (Sum.inl k : Key) = some (.int v t)
  | [], [], _ => ⟨[], .nil, fun e h => (by cases h), rfl, fun k v h => (by cases h)⟩
  | [], _ :: _, h => by cases h
  | _ :: _, [], h => by cases h
  | e :: es, (k, v) :: r, h => by
    have h' : (((match e.key with | .int i _ => i == k | _ => false) && e.hash == hashInt k) && (match e.val with | .int i _ => i == v | _ => false) && enC es r) = true := h
    rw [Bool.and_eq_true, Bool.and_eq_true, Bool.and_eq_true] at h'
    obtain ⟨⟨⟨h1, h2⟩, h3⟩, h4⟩ := h'
    obtain ⟨vs, p1, p2, p3, p4⟩ := enC_ok (P := P) (w := w) h4
    obtain ⟨t, ek⟩ : ∃ t, e.key = .int k t := by
      cases q : e.key with
      | int i t => rw [q] at h1; exact ⟨t, by rw [beq_iff_eq.mp (show (i == k) = true from h1)]⟩
      | _ => rw [q] at h1; exact absurd h1 Bool.false_ne_true
    obtain ⟨t', ev⟩ : ∃ t, e.val = .int v t := by
      cases q : e.val with
      | int i t => rw [q] at h3; exact ⟨t, by rw [beq_iff_eq.mp (show (i == v) = true from h3)]⟩
      | _ => rw [q] at h3; exact absurd h3 Bool.false_ne_true
    have hk : (mixKind P w).is (Sum.inl k) e.key = true := by rw [ek]; exact mixKind_int P w k t
    have hh : e.hash = hashInt k := beq_iff_eq.mp h2
    refine ⟨(Sum.inl k, e.val) :: vs, .cons hk rfl p1, fun x hx => ?_, by rw [List.map_cons, List.map_cons, p3], fun k' v' hl => ?_⟩
    · rcases List.mem_cons.mp hx with rfl | hx
      · exact ⟨Sum.inl k, hk, hh⟩
      · exact p2 x hx
    · by_cases c : k' = k
      · subst c
        rw [List.lookup_cons, beq_self_eq_true] at hl
        have : v = v' := Option.some.inj hl
        subst this
        exact ⟨t', by unfold valueAt; rw [List.find?_cons]; simp [ev]⟩
      · rw [List.lookup_cons, beq_eq_false_iff_ne.mpr c] at hl
        obtain ⟨t2, e2⟩ := p4 k' v' hl
        refine ⟨t2, ?_⟩
        unfold valueAt at e2 ⊢
        rw [List.find?_cons]
        have : decide ((Sum.inl k : Key) = Sum.inl k') = false := decide_eq_false fun z => c (Sum.inl.inj z).symm
        simp only [this]
        exact e2
theorem dictC_ok {P : Program} {w : World} {h : Heap} {a : Addr} {o : Obj} {kvs : List (Int × Int)} (hc : dictC o kvs = true) (hn : (kvs.map (·.1)).Nodup) (e : h.get? a = some o) :
    ∃ vs : List (Key × Value), h.DictOf (mixKind P w) a vs ∧ ∀ (k v : Int), kvs.lookup k = some v → ∃ t, valueAt vs (Sum.inl k : Key) = some (.int v t) := by
  unfold dictC at hc
  rw [Bool.and_eq_true, Bool.and_eq_true, Bool.and_eq_true] at hc
  obtain ⟨⟨⟨h1, h2⟩, h3⟩, h4⟩ := hc
  have e1 : o.cls = .type "dict" := by
    cases q : o.cls with
    | type n => rw [q] at h1; rw [beq_iff_eq.mp (show (n == "dict") = true from h1)]
    | _ => rw [q] at h1; exact absurd h1 Bool.false_ne_true
  have e2 : o.dict = none := Option.isNone_iff_eq_none.mp h2
  have e3 : o.slots = #[] := Array.isEmpty_iff.mp h3
  cases q : o.data with
  | dict es ep =>
    rw [q] at h4
    obtain ⟨vs, p1, p2, p3, p4⟩ := enC_ok (P := P) (w := w) (show enC es.toList kvs = true from h4)
    refine ⟨vs, ⟨o, es, ep, e, ⟨e1, e2, e3⟩, q, fun x hx => p2 x (Array.mem_toList_iff.mpr hx), p1, ?_⟩, p4⟩
    rw [p3]
    have := List.pairwise_map.mp (show (kvs.map (·.1)).Pairwise (· ≠ ·) from hn)
    show (kvs.map fun p => (Sum.inl p.1 : Key)).Pairwise (· ≠ ·)
    rw [List.pairwise_map]
    exact this.imp fun {x y} z w' => z (Sum.inl.inj w')
  | _ => rw [q] at h4; exact absurd h4 Bool.false_ne_true
def KD (K : PySem.W.Frag) (a : Addr) (kvs : List (Int × Int)) : Prop := ∃ o, K.lookup a = some o ∧ dictC o kvs = true ∧ (kvs.map (·.1)).Nodup
def tKGet (K : PySem.W.Frag) (td ty : TE) : TE := fun σ H Q => td σ H fun x H1 => ty σ H1 fun y H2 => ∃ a kvs k v, x = .ref a ∧ y = .int k ∧ KD K a kvs ∧ kvs.lookup k = some v ∧ Q (.int v) H2
theorem pe_kget {o i : Expr} {pos : Pos} {td ty : TE} (ho : PE X o td) (hi : PE X i ty) (hs : NoSl i) : PE X (.Subscript o i pos) (tKGet X.K td ty) := by
  intro pins s σ H Q I h
  refine subD_of PySem.F.slot_dict_getitem.lookup hs (thn (ho pins s σ H _ I h) fun u s1 ⟨x, H1, I1, rx, q1⟩ => thn (hi pins s1 σ H1 _ I1 q1) fun iv s2 ⟨y, H2, I2, ry, a, kvs, k, v, ex, ey, ⟨ob, hk, hc, hn⟩, hl, q2⟩ => ?_)
  subst ex ey
  obtain rfl : u = Value.ref a := rx
  obtain ⟨vs, dd, p⟩ := dictC_ok (P := X.prog) (w := X.w) hc hn (I2.kIn a ob hk)
  obtain ⟨t, e⟩ := p k v hl
  exact ⟨dd.typeIs, wpAny_getItem_of (kV_is (k := Sum.inl k) ry) dd.mapOf e ⟨.int v, H2, I2.tok _, ⟨t, rfl⟩, q2⟩⟩
/-! sorted, of pairs of numbers -/
def keyAt (H : Hp) (c : Addr) : Nat × Nat := match H c with
  | some (.tup [.int x, .int y]) => (x.toNat, y.toNat)
  | _ => (0, 0)
theorem keyAt_of {H : Hp} {c : Addr} {x y : Nat} (h : H c = some (.tup [.int (x : Int), .int (y : Int)])) : keyAt H c = (x, y) := by
  unfold keyAt; rw [h]; rfl
def PairAt (H : Hp) (c : Addr) : Prop := ∃ x y : Nat, H c = some (.tup [.int (x : Int), .int (y : Int)])
def rSortedT (K : PySem.W.Frag) : List V → Hp → VK → Prop := fun vs H Q => ∃ (a : Addr) (cs : List Addr), vs = [V.ref a] ∧ SqL K H a (cs.map V.ref) ∧ (∀ c ∈ cs, PairAt H c) ∧
  ∀ (cs' : List Addr) (p : Addr), cs'.Perm cs → (cs'.map (keyAt H)).Pairwise SL.pLe → H p = none → Q (.ref p) (upd H p (.lst (cs'.map V.ref)))
def sh0 : Nat → Bool := fun _ => false
theorem tup_at {pins : List (Addr × Obj)} {σ : L2.St} {H : Hp} {s : Shared} {c : Addr} {x y : Nat} (I : Inv X pins σ H s) (h : H c = some (.tup [.int (x : Int), .int (y : Int)])) :
    ∃ o t u n, s.heap.get? c = some o ∧ o.cls = .type "tuple" ∧ o.data = .seq #[.int (x : Int) t, .int (y : Int) u] n := by
  obtain ⟨_, its, r, ⟨o, e, hc, n, hd⟩⟩ : [V.int (x : Int), V.int (y : Int)].length ≤ sizeLine ∧ ∃ its : List Value, Vals [V.int (x : Int), V.int (y : Int)] its ∧ IsTup s.heap c its.toArray := I.hok c _ h
  obtain ⟨t, u, rfl⟩ := Vals.int2 r
  exact ⟨o, t, u, n, e, hc, hd⟩
theorem lex2 (a b c d : Nat) : PyProof.Rows.lexLt itemOrd [Sum.inl (a : Int), Sum.inl (b : Int)] [Sum.inl (c : Int), Sum.inl (d : Int)] = false ↔ ¬ SL.pLt (a, b) (c, d) := by
  show ((decide ((a : Int) < (c : Int)) || (!decide ((c : Int) < (a : Int)) && (decide ((b : Int) < (d : Int)) || (!decide ((d : Int) < (b : Int)) && false)))) = false) ↔ ¬ (a < c ∨ (a = c ∧ b < d))
  rw [Bool.and_false, Bool.or_false]
  by_cases h1 : a < c
  · rw [decide_eq_true (show (a : Int) < (c : Int) by omega)]
    exact ⟨fun z => absurd z (by rw [Bool.true_or]; exact Bool.noConfusion), fun z => absurd (.inl h1) z⟩
  · rw [decide_eq_false (show ¬ (a : Int) < (c : Int) by omega), Bool.false_or]
    by_cases h2 : c < a
    · rw [decide_eq_true (show (c : Int) < (a : Int) by omega)]
      exact ⟨fun _ z => by omega, fun _ => rfl⟩
    · rw [decide_eq_false (show ¬ (c : Int) < (a : Int) by omega), Bool.not_false, Bool.true_and]
      by_cases h3 : b < d
      · rw [decide_eq_true (show (b : Int) < (d : Int) by omega)]
        exact ⟨fun z => absurd z (by decide), fun z => absurd (.inr ⟨by omega, h3⟩) z⟩
      · rw [decide_eq_false (show ¬ (b : Int) < (d : Int) by omega)]
        exact ⟨fun _ z => by omega, fun _ => rfl⟩
theorem cr_sortedT : CallR X (.builtin "sorted") (rSortedT X.K) := by
  intro pins s σ H vs us Q I r h
  obtain ⟨a, cs, rfl, hs, hp, q⟩ := h
  obtain ⟨its, rv, hl, hz⟩ := I.list hs
  rw [Vals.ref1 r]
  have ei := refs_at rv
  subst ei
  have hz' : cs.length ≤ sizeLine := by rw [List.length_map] at hz; exact hz
  have tk : ∀ c ∈ cs, PyProof.Rows.G.tupKeyC s.heap sh0 (.ref c) = some [Sum.inl ((keyAt H c).1 : Int), Sum.inl ((keyAt H c).2 : Int)] := fun c hc => by
    obtain ⟨x, y, hxy⟩ := hp c hc
    obtain ⟨o, t, u, n, e1, e2, e3⟩ := tup_at I hxy
    rw [keyAt_of hxy]
    have e4 : PyProof.Rows.G.isTupObj s.heap (.ref c) = true := by simp [PyProof.Rows.G.isTupObj, e1, e2]
    unfold PyProof.Rows.G.tupKeyC
    rw [if_pos e4]
    simp only [tupKey, e1, e3]
    rfl
  obtain ⟨fs, ht⟩ : ∃ fs, TupsOf s.heap sh0 (cs.map Value.ref) fs := by
    have : ∀ cs : List Addr, (∀ c ∈ cs, PairAt H c) → ∃ fs, TupsOf s.heap sh0 (cs.map Value.ref) fs := by
      intro cs
      induction cs with
      | nil => intro _; exact ⟨[], .nil⟩
      | cons c cs ih =>
        intro hp
        obtain ⟨fs, h2⟩ := ih fun d hd => hp d (List.mem_cons_of_mem _ hd)
        obtain ⟨x, y, hxy⟩ := hp c List.mem_cons_self
        obtain ⟨o, t, u, n, e1, e2, e3⟩ := tup_at I hxy
        exact ⟨_ :: fs, .cons ⟨c, o, _, n, rfl, e1, e2, e3, rfl, fun _ => ⟨_, _, rfl⟩, fun z => absurd z Bool.false_ne_true⟩ h2⟩
    exact this cs hp
  refine PyProof.Rows.G.sorted_tups (shape := sh0) hl.isList ht (fun v hv => ?_) (by rw [List.length_map]; exact hz') fun st' hpm hso _ => ?_
  · obtain ⟨c, hc, rfl⟩ := List.mem_map.mp hv
    exact ⟨_, tk c hc⟩
  · have hl1 : (arrOf st').toList.Perm ((cs.map Value.ref).zip (cs.map Value.ref)) := by
      have e := Array.perm_iff_toList_perm.mp hpm
      rw [pairsOf_toList] at e
      exact e
    have hl2 : ((arrOf st').toList.map (·.2)).Perm (cs.map Value.ref) := by
      have e := hl1.map (·.2)
      rw [List.map_snd_zip (by simp)] at e
      exact e
    have self : ∀ p ∈ (arrOf st').toList, p.1 = p.2 ∧ p.1 ∈ cs.map Value.ref := fun p hp' => by
      have := hl1.mem_iff.mp hp'
      have := mem_zip_self this
      exact ⟨this.1, this.2⟩
    obtain ⟨cs', ecs⟩ : ∃ cs' : List Addr, (arrOf st').toList.map (·.2) = cs'.map Value.ref := by
      have : ∀ l : List Keyed, (∀ p ∈ l, p.1 = p.2 ∧ p.1 ∈ cs.map Value.ref) → ∃ cs' : List Addr, l.map (·.2) = cs'.map Value.ref := by
        intro l
        induction l with
        | nil => intro _; exact ⟨[], rfl⟩
        | cons p l ih =>
          intro hh
          obtain ⟨cs', e⟩ := ih fun z hz => hh z (List.mem_cons_of_mem _ hz)
          obtain ⟨h1, h2⟩ := hh p List.mem_cons_self
          obtain ⟨c, _, ec⟩ := List.mem_map.mp h2
          exact ⟨c :: cs', by rw [List.map_cons, List.map_cons, e, ← h1, ← ec]⟩
      exact this _ self
    have hperm : cs'.Perm cs := by
      rw [ecs] at hl2
      have e := hl2.filterMap (fun v : Value => match v with | .ref c => some c | _ => none)
      have f : ∀ l : List Addr, (l.map Value.ref).filterMap (fun v : Value => match v with | .ref c => some c | _ => none) = l := by
        intro l
        induction l with
        | nil => rfl
        | cons c l ih => rw [List.map_cons, List.filterMap_cons]; simp only []; rw [ih]
      rw [f, f] at e
      exact e
    have hlen : cs'.length = cs.length := hperm.length_eq
    have hsorted : (cs'.map (keyAt H)).Pairwise SL.pLe := by
      rw [List.pairwise_map, List.pairwise_iff_getElem]
      intro i j hi hj hij
      have hsz : (arrOf st').size = cs'.length := by
        have := congrArg List.length ecs
        rw [List.length_map, List.length_map] at this
        rw [← this]; simp
      have e := hso i j (Nat.le_of_lt hij) (by rw [pairsOf_size, List.length_map, ← hlen]; exact hj)
      have kk : ∀ n (hn : n < cs'.length), KK (PyProof.Rows.G.tupKindC s.heap sh0) (arrOf st') n = [Sum.inl ((keyAt H cs'[n]).1 : Int), Sum.inl ((keyAt H cs'[n]).2 : Int)] := fun n hn => by
        have hn' : n < (arrOf st').size := by rw [hsz]; exact hn
        have e0 : (arrOf st')[n]? = some (arrOf st')[n] := by simp [hn']
        have m0 : (arrOf st')[n] ∈ (arrOf st').toList := by simp
        obtain ⟨s1, s2⟩ := self _ m0
        have e2 : ((arrOf st')[n]).2 = Value.ref cs'[n] := by
          have : ((arrOf st').toList.map (·.2))[n]? = (cs'.map Value.ref)[n]? := by rw [ecs]
          rw [List.getElem?_map, List.getElem?_map, Array.getElem?_toList, e0, List.getElem?_eq_getElem hn] at this
          exact Option.some.inj this
        unfold KK
        rw [e0]
        show (PyProof.Rows.G.tupKeyC s.heap sh0 ((arrOf st')[n]).1).getD [] = _
        rw [s1, e2, tk cs'[n] (hperm.mem_iff.mp (List.getElem_mem hn))]
        rfl
      rw [kk i hi, kk j hj] at e
      have e' : PyProof.Rows.lexLt itemOrd [Sum.inl ((keyAt H cs'[j]).1 : Int), Sum.inl ((keyAt H cs'[j]).2 : Int)] [Sum.inl ((keyAt H cs'[i]).1 : Int), Sum.inl ((keyAt H cs'[i]).2 : Int)] = false := e
      exact (lex2 _ _ _ _).mp e'
    obtain ⟨ep, he'⟩ := PyProof.Rows.sortedAll_at s.heap (cs.map Value.ref) ((arrOf st').map (·.2))
    have hlen' : (cs'.map V.ref).length ≤ sizeLine := by rw [List.length_map, hlen]; exact hz'
    have vr : ∀ l : List Addr, Vals (l.map V.ref) (l.map Value.ref) := by
      intro l
      induction l with
      | nil => exact .nil
      | cons c l ih => exact .cons rfl ih
    refine ⟨.ref _, upd H (s.heap.objs.size + 1) (.lst (cs'.map V.ref)), I.laid (t' := s.toks) (fun _ _ => PyProof.Rows.sortedAll_old) (Nat.le_succ _) ⟨hlen', cs'.map Value.ref, ep, vr cs', ?_⟩, rfl, q cs' _ hperm hsorted (I.hok.fresh (Nat.le_succ _))⟩
    have ea : ((arrOf st').map (·.2)) = (cs'.map Value.ref).toArray := by
      apply Array.toList_inj.mp
      rw [Array.toList_map, ecs]
    rw [ea] at he'
    rw [ea]
    exact he'
end
end SP
end
section
set_option Elab.async false
set_option linter.all false
set_option maxRecDepth 100000
namespace SP
open PySem PySem.Spec PyProof.Rows L2
/-! ### The text by places -/
def top (i : Nat) : Stmt := PySem.Challenge.pw_slipshelf_s01_answers.main.body.getD i (.Pass ⟨0, 0, 0, 0⟩)
abbrev sBefell : Stmt := top 29
abbrev sShare : Stmt := top 30
abbrev sSInit : Stmt := inClass (top 31) 0
abbrev sWaits : Stmt := inClass (top 31) 1
abbrev sHeld : Stmt := inClass (top 31) 2
abbrev sBrought : Stmt := inClass (top 31) 3
abbrev sKept : Stmt := inClass (top 31) 4
abbrev sState : Stmt := inClass (top 31) 5
abbrev sDue : Stmt := inClass (top 31) 6
abbrev sHInit : Stmt := inClass (top 32) 0
abbrev sBegin : Stmt := inClass (top 32) 1
abbrev sFull : Stmt := inClass (top 32) 2
abbrev sOut : Stmt := inClass (top 32) 3
abbrev sKnown : Stmt := inClass (top 32) 4
abbrev sEnter : Stmt := inClass (top 32) 5
abbrev sServe : Stmt := inClass (top 32) 6
abbrev sLatest : Stmt := inClass (top 32) 7
abbrev sFilesFit : Stmt := top 33
abbrev sSlipFits : Stmt := top 34
abbrev sAsk : Stmt := top 35
abbrev sBack : Stmt := top 36
abbrev sDrop : Stmt := top 37
abbrev sCount : Stmt := top 38
abbrev sWho : Stmt := top 39
abbrev sTellSlip : Stmt := top 40
abbrev sTellFiles : Stmt := top 41
abbrev sWaitsFor : Stmt := top 42
abbrev sLate : Stmt := top 43
abbrev sWhen : Stmt := top 44
abbrev sCallLength : Stmt := top 45
abbrev sAnswerOf : Stmt := top 46
abbrev sAnswers : Stmt := top 47
/-! ### Fields -/
theorem lk_at {ks : List Str} {m : Str} : ∀ {l : List (Str × V)} {i : Nat} {v : V}, l.map (·.1) = ks → ks.findIdx? (· == m) = some i → (l.map (·.2))[i]? = some v → l.lookup m = some v := by
  induction ks with
  | nil => intro l i v _ hi; cases hi
  | cons k ks ih =>
    intro l i v hk hi hv
    cases l with
    | nil => cases hk
    | cons x l =>
      obtain ⟨x1, x2⟩ := x
      rw [List.map_cons] at hk
      obtain ⟨h1, h2⟩ := List.cons.inj hk
      have h1' : x1 = k := h1
      subst h1'
      rw [List.findIdx?_cons] at hi
      by_cases c : (x1 == m) = true
      · rw [if_pos c] at hi
        have : 0 = i := Option.some.inj hi
        subst this
        have em : x1 = m := eq_of_beq c
        subst em
        have : x2 = v := Option.some.inj hv
        rw [lk_hd, this]
      · rw [if_neg c] at hi
        cases e : ks.findIdx? (· == m) with
        | none => rw [e] at hi; cases hi
        | some j =>
          rw [e] at hi
          have : j + 1 = i := Option.some.inj hi
          subst this
          rw [lk_tl (fun z => c (by rw [z]; exact beq_self_eq_true _))]
          exact ih h2 e hv
theorem lk_no {ks : List Str} {m : Str} : ∀ {l : List (Str × V)}, l.map (·.1) = ks → ks.findIdx? (· == m) = none → l.lookup m = none := by
  induction ks with
  | nil =>
    intro l hk _
    cases l with
    | nil => rfl
    | cons x l => cases hk
  | cons k ks ih =>
    intro l hk hi
    cases l with
    | nil => rfl
    | cons x l =>
      obtain ⟨x1, x2⟩ := x
      rw [List.map_cons] at hk
      obtain ⟨h1, h2⟩ := List.cons.inj hk
      have h1' : x1 = k := h1
      subst h1'
      rw [List.findIdx?_cons] at hi
      by_cases c : (x1 == m) = true
      · rw [if_pos c] at hi; cases hi
      · rw [if_neg c] at hi
        rw [lk_tl (fun z => c (by rw [z]; exact beq_self_eq_true _))]
        refine ih h2 ?_
        cases e : ks.findIdx? (· == m) with
        | none => rfl
        | some j => rw [e] at hi; cases hi
theorem pf_at {ks : List Str} {m : Str} {u : V} : ∀ {l : List (Str × V)} {i : Nat}, l.map (·.1) = ks → ks.findIdx? (· == m) = some i → putF m u l = l.set i (m, u) := by
  induction ks with
  | nil => intro l i _ hi; cases hi
  | cons k ks ih =>
    intro l i hk hi
    cases l with
    | nil => cases hk
    | cons x l =>
      obtain ⟨x1, x2⟩ := x
      rw [List.map_cons] at hk
      obtain ⟨h1, h2⟩ := List.cons.inj hk
      have h1' : x1 = k := h1
      subst h1'
      rw [List.findIdx?_cons] at hi
      by_cases c : (x1 == m) = true
      · rw [if_pos c] at hi
        have : 0 = i := Option.some.inj hi
        subst this
        have em : x1 = m := eq_of_beq c
        subst em
        rw [pf_hd]; rfl
      · rw [if_neg c] at hi
        cases e : ks.findIdx? (· == m) with
        | none => rw [e] at hi; cases hi
        | some j =>
          rw [e] at hi
          have : j + 1 = i := Option.some.inj hi
          subst this
          rw [pf_tl (fun z => c (by rw [z]; exact beq_self_eq_true _)), ih h2 e]; rfl
theorem pf_new {ks : List Str} {m : Str} {u : V} : ∀ {l : List (Str × V)}, l.map (·.1) = ks → ks.findIdx? (· == m) = none → putF m u l = l ++ [(m, u)] := by
  induction ks with
  | nil =>
    intro l hk _
    cases l with
    | nil => rfl
    | cons x l => cases hk
  | cons k ks ih =>
    intro l hk hi
    cases l with
    | nil => cases hk
    | cons x l =>
      obtain ⟨x1, x2⟩ := x
      rw [List.map_cons] at hk
      obtain ⟨h1, h2⟩ := List.cons.inj hk
      have h1' : x1 = k := h1
      subst h1'
      rw [List.findIdx?_cons] at hi
      by_cases c : (x1 == m) = true
      · rw [if_pos c] at hi; cases hi
      · rw [if_neg c] at hi
        rw [pf_tl (fun z => c (by rw [z]; exact beq_self_eq_true _)), ih h2 ?_]
        · rfl
        · cases e : ks.findIdx? (· == m) with
          | none => rfl
          | some j => rw [e] at hi; cases hi
/-! ### A slip -/
structure A1 where
  a : Addr
  lf : Addr
  dr : Addr
  dx : Addr
def nV (l : List Nat) : List V := l.map fun (n : Nat) => V.int (n : Int)
def rK (l : List (Nat × Nat)) : List (Key × V) := l.map fun p => ((Sum.inl (p.1 : Int) : Key), V.int (p.2 : Int))
def kS : List Str := ["number", "asked", "reader", "days", "files", "served", "withdrawn", "returned"]
def sf (n : Nat) (s : SL.PS) (lf dr : Addr) : List (Str × V) :=
  [("number", V.int (n : Int)), ("asked", V.int (s.asked : Int)), ("reader", V.int (s.reader : Int)), ("days", V.int (s.days : Int)), ("files", V.ref lf), ("served", V.int (SL.oI s.served)), ("withdrawn", V.int (SL.oI s.gone)), ("returned", V.ref dr)]
theorem sf_keys (n : Nat) (s : SL.PS) (lf dr : Addr) : (sf n s lf dr).map (·.1) = kS := rfl
section
variable {n : Nat} {s : SL.PS} {lf dr : Addr}
theorem sf_number : (sf n s lf dr).lookup ("number" : Str) = some (.int (n : Int)) := lk_at (i := 0) (sf_keys n s lf dr) (by decide +kernel) rfl
theorem sf_asked : (sf n s lf dr).lookup ("asked" : Str) = some (.int (s.asked : Int)) := lk_at (i := 1) (sf_keys n s lf dr) (by decide +kernel) rfl
theorem sf_reader : (sf n s lf dr).lookup ("reader" : Str) = some (.int (s.reader : Int)) := lk_at (i := 2) (sf_keys n s lf dr) (by decide +kernel) rfl
theorem sf_days : (sf n s lf dr).lookup ("days" : Str) = some (.int (s.days : Int)) := lk_at (i := 3) (sf_keys n s lf dr) (by decide +kernel) rfl
theorem sf_files : (sf n s lf dr).lookup ("files" : Str) = some (.ref lf) := lk_at (i := 4) (sf_keys n s lf dr) (by decide +kernel) rfl
theorem sf_served : (sf n s lf dr).lookup ("served" : Str) = some (.int (SL.oI s.served)) := lk_at (i := 5) (sf_keys n s lf dr) (by decide +kernel) rfl
theorem sf_gone : (sf n s lf dr).lookup ("withdrawn" : Str) = some (.int (SL.oI s.gone)) := lk_at (i := 6) (sf_keys n s lf dr) (by decide +kernel) rfl
theorem sf_ret : (sf n s lf dr).lookup ("returned" : Str) = some (.ref dr) := lk_at (i := 7) (sf_keys n s lf dr) (by decide +kernel) rfl
theorem sf_no {m : Str} (h : kS.findIdx? (· == m) = none) : (sf n s lf dr).lookup m = none := lk_no (sf_keys n s lf dr) h
theorem sf_setServed (d : Nat) : putF "served" (.int (d : Int)) (sf n s lf dr) = sf n { s with served := some d } lf dr := pf_at (i := 5) (sf_keys n s lf dr) (by decide +kernel)
theorem sf_setGone (d : Nat) : putF "withdrawn" (.int (d : Int)) (sf n s lf dr) = sf n { s with gone := some d } lf dr := pf_at (i := 6) (sf_keys n s lf dr) (by decide +kernel)
end
structure SlAt (C : Addr) (H : Hp) (o : A1) (n : Nat) (s : SL.PS) : Prop where
  ob : H o.a = some (.ins C o.dx (sf n s o.lf o.dr))
  fl : H o.lf = some (.lst (nV s.files))
  rt : H o.dr = some (.dK (rK s.ret))
theorem SlAt.same {C : Addr} {H H' : Hp} {o : A1} {n : Nat} {s : SL.PS} (h : SlAt C H o n s) (e : Same H H') : SlAt C H' o n s := ⟨e _ _ h.ob, e _ _ h.fl, e _ _ h.rt⟩
structure SlipsAt (C : Addr) (H : Hp) (os : List A1) (l : List SL.PS) : Prop where
  len : os.length = l.length
  nda : (os.map (·.a)).Nodup
  ndr : (os.map (·.dr)).Nodup
  at_ : ∀ (i : Nat) (o : A1) (s : SL.PS), os[i]? = some o → l[i]? = some s → SlAt C H o i s
theorem SlipsAt.same {C : Addr} {H H' : Hp} {os : List A1} {l : List SL.PS} (h : SlipsAt C H os l) (e : Same H H') : SlipsAt C H' os l := ⟨h.len, h.nda, h.ndr, fun i o s h1 h2 => (h.at_ i o s h1 h2).same e⟩
theorem SlipsAt.get {C : Addr} {H : Hp} {os : List A1} {l : List SL.PS} (h : SlipsAt C H os l) {i : Nat} {s : SL.PS} (e : l[i]? = some s) : ∃ o, os[i]? = some o ∧ SlAt C H o i s := by
  obtain ⟨hi, _⟩ := List.getElem?_eq_some_iff.mp e
  have hi' : i < os.length := by rw [h.len]; exact hi
  exact ⟨os[i], List.getElem?_eq_getElem hi', h.at_ i _ s (List.getElem?_eq_getElem hi') e⟩
theorem SlipsAt.get' {C : Addr} {H : Hp} {os : List A1} {l : List SL.PS} (h : SlipsAt C H os l) {i : Nat} {o : A1} (e : os[i]? = some o) : ∃ s, l[i]? = some s ∧ SlAt C H o i s := by
  obtain ⟨hi, _⟩ := List.getElem?_eq_some_iff.mp e
  have hi' : i < l.length := by rw [← h.len]; exact hi
  exact ⟨l[i], List.getElem?_eq_getElem hi', h.at_ i o _ e (List.getElem?_eq_getElem hi')⟩
theorem nd_at {β : Type} [DecidableEq β] {f : A1 → β} {os : List A1} (h : (os.map f).Nodup) {i j : Nat} {o o' : A1} (hi : os[i]? = some o) (hj : os[j]? = some o') (e : f o = f o') : i = j :=
  nd_ix h (i := i) (j := j) (x := f o) (by rw [List.getElem?_map, hi]; rfl) (by rw [List.getElem?_map, hj, e]; rfl)
/-- one slip of the row is written: its object, or its dict -/
theorem SlipsAt.write {C : Addr} {H H' : Hp} {os : List A1} {l : List SL.PS} (h : SlipsAt C H os l) {i : Nat} {o : A1} {s : SL.PS} (hi : os[i]? = some o) (h' : SlAt C H' o i s) (k : ∀ b u, H b = some u → b ≠ o.a → b ≠ o.dr → H' b = some u) :
    SlipsAt C H' os (l.set i s) := by
  refine ⟨by rw [List.length_set]; exact h.len, h.nda, h.ndr, fun j o' s' hj hs => ?_⟩
  by_cases c : j = i
  · subst c
    have e1 : o' = o := Option.some.inj (hj.symm.trans hi)
    obtain ⟨hl, _⟩ := List.getElem?_eq_some_iff.mp hs
    rw [List.length_set] at hl
    rw [List.getElem?_set_self hl] at hs
    have e2 : s = s' := Option.some.inj hs
    subst e1 e2
    exact h'
  · rw [List.getElem?_set_ne (fun z => c z.symm)] at hs
    obtain ⟨s0, hs0, q0⟩ := h.get' hi
    have q := h.at_ j o' s' hj hs
    have n1 : o'.a ≠ o.a := fun z => c (nd_at h.nda hj hi z)
    have n2 : o'.dr ≠ o.dr := fun z => c (nd_at h.ndr hj hi z)
    have n3 : o'.a ≠ o.dr := ne_of q.ob q0.rt (by intro z; cases z)
    have n4 : o'.dr ≠ o.a := ne_of q.rt q0.ob (by intro z; cases z)
    have n5 : o'.lf ≠ o.a := ne_of q.fl q0.ob (by intro z; cases z)
    have n6 : o'.lf ≠ o.dr := ne_of q.fl q0.rt (by intro z; cases z)
    exact ⟨k _ _ q.ob n1 n3, k _ _ q.fl n5 n6, k _ _ q.rt n4 n2⟩
/-! ### The shelf -/
def kD : List Str := ["slips", "entries", "last"]
def shf (ls : Addr) (e m : Int) : List (Str × V) := [("slips", V.ref ls), ("entries", V.int e), ("last", V.int m)]
theorem shf_keys (ls : Addr) (e m : Int) : (shf ls e m).map (·.1) = kD := rfl
section
variable {ls : Addr} {e m : Int}
theorem shf_slips : (shf ls e m).lookup ("slips" : Str) = some (.ref ls) := lk_at (i := 0) (shf_keys ls e m) (by decide +kernel) rfl
theorem shf_entries : (shf ls e m).lookup ("entries" : Str) = some (.int e) := lk_at (i := 1) (shf_keys ls e m) (by decide +kernel) rfl
theorem shf_last : (shf ls e m).lookup ("last" : Str) = some (.int m) := lk_at (i := 2) (shf_keys ls e m) (by decide +kernel) rfl
theorem shf_no {x : Str} (h : kD.findIdx? (· == x) = none) : (shf ls e m).lookup x = none := lk_no (shf_keys ls e m) h
theorem shf_setSlips (l' : Addr) : putF "slips" (.ref l') (shf ls e m) = shf l' e m := pf_at (i := 0) (shf_keys ls e m) (by decide +kernel)
theorem shf_setEntries (e' : Int) : putF "entries" (.int e') (shf ls e m) = shf ls e' m := pf_at (i := 1) (shf_keys ls e m) (by decide +kernel)
theorem shf_setLast (m' : Int) : putF "last" (.int m') (shf ls e m) = shf ls e m' := pf_at (i := 2) (shf_keys ls e m) (by decide +kernel)
theorem shf_new (l' : Addr) (e' m' : Int) : putF "last" (.int m') (putF "entries" (.int e') (putF "slips" (.ref l') [])) = shf l' e' m' := by
  rw [pf_new (ks := []) (m := "slips") rfl rfl, pf_new (ks := ["slips"]) (m := "entries") rfl (by decide +kernel), pf_new (ks := ["slips", "entries"]) (m := "last") rfl (by decide +kernel)]
  rfl
end
structure ShAt (C D : Addr) (H : Hp) (p ls : Addr) (os : List A1) (P : SL.Sh) : Prop where
  ob : ∃ dx, H p = some (.ins D dx (shf ls (P.entries : Int) (P.last : Int)))
  lst : H ls = some (.lst (os.map fun o => V.ref o.a))
  sl : SlipsAt C H os P.slips
theorem ShAt.same {C D : Addr} {H H' : Hp} {p ls : Addr} {os : List A1} {P : SL.Sh} (h : ShAt C D H p ls os P) (e : Same H H') : ShAt C D H' p ls os P := by
  obtain ⟨dx, h1⟩ := h.ob
  exact ⟨⟨dx, e _ _ h1⟩, e _ _ h.lst, h.sl.same e⟩
/-- the addresses of the shelf that calls write at -/
def InW (p ls : Addr) (os : List A1) (b : Addr) : Prop := b = p ∨ b = ls ∨ ∃ o, o ∈ os ∧ (b = o.a ∨ b = o.dr)
def Keeps (W : Addr → Prop) (H H' : Hp) : Prop := ∀ b u, H b = some u → ¬ W b → H' b = some u
theorem Keeps.of {W : Addr → Prop} {H H' : Hp} (h : Same H H') : Keeps W H H' := fun b u e _ => h b u e
theorem Keeps.trans {W : Addr → Prop} {H H1 H2 : Hp} (h : Keeps W H H1) (h' : Keeps W H1 H2) : Keeps W H H2 := fun b u e w => h' b u (h b u e w) w
theorem ins_ne {H : Hp} {a b C D dx dy : Addr} {n : Nat} {s : SL.PS} {lf dr ls : Addr} {e m : Int} (h : H a = some (.ins C dx (sf n s lf dr))) (h' : H b = some (.ins D dy (shf ls e m))) : a ≠ b :=
  ne_of h h' fun z => by
    injection z with _ _ z
    have := congrArg List.length z
    exact absurd this (by show ¬ (8 = 3); decide)
/-! ### numbers and tables -/
theorem nV_len (l : List Nat) : (nV l).length = l.length := List.length_map _
theorem nV_flat : ∀ l : List Nat, (nV l).all flatV = true
  | [] => rfl
  | a :: l => nV_flat l
theorem nV_get {l : List Nat} {i : Nat} {v : V} (h : (nV l)[i]? = some v) : ∃ n, l[i]? = some n ∧ v = V.int (n : Int) := by
  unfold nV at h
  rw [List.getElem?_map] at h
  cases e : l[i]? with
  | none => rw [e] at h; cases h
  | some n => rw [e] at h; exact ⟨n, rfl, (Option.some.inj h).symm⟩
theorem refs_get {os : List A1} {i : Nat} {v : V} (h : (os.map fun o => V.ref o.a)[i]? = some v) : ∃ o, os[i]? = some o ∧ v = V.ref o.a := by
  rw [List.getElem?_map] at h
  cases e : os[i]? with
  | none => rw [e] at h; cases h
  | some o => rw [e] at h; exact ⟨o, rfl, (Option.some.inj h).symm⟩
theorem inV_nV (f : Nat) : ∀ l : List Nat, inV (V.int (f : Int)) (nV l) = l.contains f
  | [] => rfl
  | a :: l => by
    show (((a : Int) == (f : Int)) || inV (V.int (f : Int)) (nV l)) = (a :: l).contains f
    rw [inV_nV f l, List.contains_cons]
    have : ((a : Int) == (f : Int)) = (f == a) := by
      by_cases h : f = a
      · subst h; simp
      · rw [beq_eq_false_iff_ne.mpr h, beq_eq_false_iff_ne.mpr (fun z => h (by omega))]
    rw [this]
theorem rK_val (f : Nat) : ∀ l : List (Nat × Nat), valV (rK l) (Sum.inl (f : Int) : Key) = (l.lookup f).map fun d => V.int (d : Int)
  | [] => rfl
  | (g, d) :: l => by
    show valV (((Sum.inl (g : Int) : Key), V.int (d : Int)) :: rK l) _ = _
    rw [List.lookup_cons]
    by_cases h : f = g
    · subst h
      rw [valV_pos rfl, beq_self_eq_true]; rfl
    · rw [valV_neg (fun z => h (by have := Sum.inl.inj z; omega)), beq_eq_false_iff_ne.mpr h, rK_val f l]
theorem rK_getD (f : Nat) (l : List (Nat × Nat)) : (valV (rK l) (Sum.inl (f : Int) : Key)).getD (V.int (-1)) = V.int (SL.oI (l.lookup f)) := by
  rw [rK_val]
  cases l.lookup f <;> rfl
theorem rK_put {f d : Nat} {l : List (Nat × Nat)} (h : ¬ f ∈ l.map (·.1)) : putK (rK l) (Sum.inl (f : Int) : Key) (V.int (d : Int)) = rK (l ++ [(f, d)]) := by
  have e : l.lookup f = none := by
    cases q : l.lookup f with
    | none => rfl
    | some x =>
      exfalso; apply h
      have : ∀ l : List (Nat × Nat), ∀ x, l.lookup f = some x → f ∈ l.map (·.1) := by
        intro l
        induction l with
        | nil => intro x z; cases z
        | cons p l ih =>
          intro x z
          obtain ⟨g, y⟩ := p
          rw [List.lookup_cons] at z
          by_cases c : f = g
          · subst c; exact List.mem_cons_self
          · rw [beq_eq_false_iff_ne.mpr c] at z
            exact List.mem_cons_of_mem _ (ih x z)
      exact this l x q
  rw [putK_new _ (by rw [rK_val, e]; rfl)]
  unfold rK
  rw [List.map_append]; rfl
/-! what is put in one after another -/
theorem merge_append (a b c : List (Key × V)) : mergeK (mergeK a b) c = mergeK a (b ++ c) := by
  unfold mergeK; rw [List.foldl_append]
theorem merge_some (k : Key) : ∀ (b a : List (Key × V)), (valV (mergeK a b) k).isSome = ((valV a k).isSome || b.any fun p => decide (p.1 = k))
  | [], a => by
    show _ = (_ || false)
    rw [Bool.or_false]; rfl
  | (j, v) :: b, a => by
    show (valV (mergeK (putK a j v) b) k).isSome = (_ || (decide (j = k) || b.any fun p => decide (p.1 = k)))
    rw [merge_some k b, valV_put]
    by_cases h : k = j
    · subst h
      rw [if_pos rfl, decide_eq_true rfl]; simp
    · rw [if_neg h, decide_eq_false (fun z => h z.symm), Bool.false_or]
theorem merge_nodup : ∀ (b a : List (Key × V)), ((a ++ b).map (·.1)).Nodup → mergeK a b = a ++ b
  | [], a, _ => (List.append_nil a).symm
  | (j, v) :: b, a, h => by
    have e : (a ++ (j, v) :: b) = (a ++ [(j, v)]) ++ b := by rw [List.append_assoc]; rfl
    rw [e] at h ⊢
    rw [← merge_nodup b (a ++ [(j, v)]) h]
    show mergeK (putK a j v) b = _
    congr 1
    refine putK_new v ?_
    cases q : valV a j with
    | none => rfl
    | some x =>
      have h1 := valV_in q
      rw [List.map_append, List.map_append] at h
      have h2 := (List.pairwise_append.mp (List.pairwise_append.mp h).1).2.2 j h1 j List.mem_cons_self
      exact absurd rfl h2
end SP
end
section
set_option Elab.async false
set_option linter.all false
set_option maxRecDepth 100000
set_option maxHeartbeats 2000000
namespace SP
open PySem PySem.Spec PyProof.Rows L2
/-! ### What the walk asks of the text -/
def IntG (mg : Str → Option Value) (x : Str) (i : Int) : Prop := ∃ t, mg x = some (.int i t)
def lens : List (Int × Int) := [(1, 1), (2, 5), (3, 3), (4, 3), (5, 2), (6, 3), (7, 3), (8, 3), (9, 3), (10, 3), (11, 4)]
structure Txt (K : PySem.W.Frag) (mg : Str → Option Value) (C D : Addr) : Prop where
  clC : Cls K C
  nNumber : NoAttr K C "number"
  nAsked : NoAttr K C "asked"
  nReader : NoAttr K C "reader"
  nDays : NoAttr K C "days"
  nFiles : NoAttr K C "files"
  nServed : NoAttr K C "served"
  nGone : NoAttr K C "withdrawn"
  nRet : NoAttr K C "returned"
  mgC : mg "Slip" = some (.ref C)
  clD : Cls K D
  nSlips : NoAttr K D "slips"
  nEntries : NoAttr K D "entries"
  nLast : NoAttr K D "last"
  mgD : mg "Shelf" = some (.ref D)
  bAny : mg "any" = none
  bLen : mg "len" = none
  bMax : mg "max" = none
  bSorted : mg "sorted" = none
  gLastDay : IntG mg "LAST_DAY" 292193
  gLastReader : IntG mg "LAST_READER" 65535
  gLastFile : IntG mg "LAST_FILE" 16383
  gMostFiles : IntG mg "MOST_FILES" 8
  gMostDays : IntG mg "MOST_DAYS" 1000
  gMostSlips : IntG mg "MOST_SLIPS" 64
  gMostEntries : IntG mg "MOST_ENTRIES" 512
  gOut1 : IntG mg "OUT_OF_BOUNDS" (-1)
  gEarly : IntG mg "TOO_EARLY" (-3)
  gNoSlip : IntG mg "NO_SLIP" (-4)
  gNotSo : IntG mg "NOT_SO" (-5)
  gNoRoom : IntG mg "NO_ROOM" (-6)
  gBegin : IntG mg "BEGIN" 1
  gAsk : IntG mg "ASK" 2
  gBack : IntG mg "BACK" 3
  gDrop : IntG mg "DROP" 4
  gCount : IntG mg "COUNT" 5
  gWho : IntG mg "WHO" 6
  gSlip : IntG mg "SLIP" 7
  gFiles : IntG mg "FILES" 8
  gWaits : IntG mg "WAITS" 9
  gLate : IntG mg "LATE" 10
  gWaiting : IntG mg "WAITING" 0
  gOut : IntG mg "OUT" 1
  gDone : IntG mg "DONE" 2
  gWithdrawn : IntG mg "WITHDRAWN" 3
  gNever : IntG mg "NEVER" (-1)
  gLens : ∃ a, mg "CALL_LENGTHS" = some (.ref a) ∧ KD K a lens
/-- a def of the module, a method: its object, its promise -/
def FnAt (P : Program) (w : World) (K : PySem.W.Frag) (mg : Str → Option Value) (base : Heap) (x : Str) (ps : List Str) (k : Nat) (sp : Sp) : Prop :=
  ∃ f fd, mg x = some (.ref f) ∧ PySem.W.keepIn K (.ref f) = true ∧ Binds K fd ps [] ∧ FnOk P w K mg base CX0 k f fd ps sp
def MtAt (P : Program) (w : World) (K : PySem.W.Frag) (mg : Str → Option Value) (base : Heap) (C : Addr) (m : Str) (ps : List Str) (k : Nat) (sp : Sp) : Prop :=
  ∃ f fd, Meth K C m f ∧ Binds K fd ps [] ∧ FnOk P w K mg base CX0 k f fd ps sp
theorem pe_gi {X : Cx} {x : Str} {i : Int} {pos : Pos} (g : IntG X.mg x i) (hg : Gl X x := by rfl) (hd : (x == ("__debug__" : Str)) = false := by decide) : PE X (.Name x pos) (tC (.int i)) := by
  obtain ⟨t, e⟩ := g
  exact pe_glob hg e ⟨t, rfl⟩ hd
theorem pe_fldK {X : Cx} {K : PySem.W.Frag} {e : Expr} {f : Str} {pos : Pos} {ta : TE} (hK : X.K = K) (he : PE X e ta) (hb : attributeBase e f X.env (eval e X.env) = eval e X.env) : PE X (.Attribute e f pos) (tFld K ta f) := by
  subst hK
  exact pe_fld he hb
theorem small9 {n : Nat} (h : n ≤ 9000) : n < sizeLine := Nat.lt_of_le_of_lt h (by decide)
theorem same_upd {H : Hp} {D : Addr} {o : HO} (h : H D = none) : Same H (upd H D o) := fun b u e => by rw [upd_ne (ne_of_none e h)]; exact e
theorem same_put {H H' : Hp} {D : Addr} {o : HO} (h : H D = none) (s : Same H H') : Same H (upd H' D o) := fun b u e => by rw [upd_ne (ne_of_none e h)]; exact s b u e
theorem lp {f : Str} {v : V} {fs : List (Str × V)} {n : Nat} (h : fs.length ≤ n) : (putF f v fs).length ≤ n + 1 := Nat.le_trans (length_putF f v fs) (Nat.succ_le_succ h)
/-! ### Promises -/
def spBefell : Sp := fun vs H Q _ => ∃ (o : Option Nat) (k : Nat), vs = [.int (SL.oI o), .int (k : Int)] ∧ Q (.bl (SL.fell o k)) H
/-- what 'in' tells of the thing at b -/
def MemB (K : PySem.W.Frag) (H : Hp) (b : Addr) (m : Nat → Bool) : Prop :=
  (∃ xs : List Nat, SqL K H b (nV xs) ∧ ∀ f, m f = xs.contains f) ∨ ∃ kvs, H b = some (.dK kvs) ∧ ∀ f : Nat, m f = (valV kvs (Sum.inl (f : Int) : Key)).isSome
def spShare (K : PySem.W.Frag) : Sp := fun vs H Q _ => ∃ (a b : Addr) (fs : List Nat) (m : Nat → Bool), vs = [.ref a, .ref b] ∧ SqL K H a (nV fs) ∧ fs.length ≤ 1000 ∧ MemB K H b m ∧ ∀ H', Same H H' → Q (.bl (fs.any m)) H'
def spSInit (C : Addr) : Sp := fun vs H Q _ => ∃ (p dx lf : Addr) (n d r days : Nat), vs = [.ref p, .int (n : Int), .int (d : Int), .int (r : Int), .int (days : Int), .ref lf] ∧ H p = some (.ins C dx []) ∧
  ∀ (dr : Addr) (H' : Hp), (∀ fs, H' p = some (.ins C dx (sf n (SL.newS d r days fs) lf dr))) → H' dr = some (.dK []) → H dr = none → (∀ b u, H b = some u → b ≠ p → H' b = some u) → Q .non H'
def spWaits (C : Addr) : Sp := fun vs H Q _ => ∃ (o : A1) (n : Nat) (s : SL.PS) (k : Nat), vs = [.ref o.a, .int (k : Int)] ∧ SlAt C H o n s ∧ Q (.bl (s.waits k)) H
def spBrought (C : Addr) : Sp := fun vs H Q _ => ∃ (o : A1) (n : Nat) (s : SL.PS) (f k : Nat), vs = [.ref o.a, .int (f : Int), .int (k : Int)] ∧ SlAt C H o n s ∧ Q (.bl (s.brought f k)) H
def spHeld (C : Addr) : Sp := fun vs H Q _ => ∃ (o : A1) (n : Nat) (s : SL.PS) (k : Nat), vs = [.ref o.a, .int (k : Int)] ∧ SlAt C H o n s ∧ s.files.length ≤ 8 ∧
  ∀ (p : Addr) (H' : Hp), H p = none → Same H H' → H' p = some (.lst (nV (s.held k))) → Q (.ref p) H'
def spKept (K : PySem.W.Frag) (C : Addr) : Sp := fun vs H Q _ => ∃ (o : A1) (n : Nat) (s : SL.PS) (k : Nat), vs = [.ref o.a, .int (k : Int)] ∧ SlAt C H o n s ∧ s.files.length ≤ 8 ∧
  ∀ (p : Addr) (H' : Hp), Same H H' → SqL K H' p (nV (s.kept k)) → Q (.ref p) H'
def spState (C : Addr) : Sp := fun vs H Q _ => ∃ (o : A1) (n : Nat) (s : SL.PS) (k : Nat), vs = [.ref o.a, .int (k : Int)] ∧ SlAt C H o n s ∧ s.files.length ≤ 8 ∧
  ∀ H' : Hp, Same H H' → Q (.int ((s.state k : Nat) : Int)) H'
def spDue (C : Addr) : Sp := fun vs H Q _ => ∃ (o : A1) (n : Nat) (s : SL.PS), vs = [.ref o.a] ∧ SlAt C H o n s ∧ Q (.int (SL.oI s.served + (s.days : Int))) H
section
variable {P : Program} {w : World} {K : PySem.W.Frag} {mg : Str → Option Value} {base : Heap} {C D : Addr}
/-! ### befell, share -/
theorem scBefell : FnScope ["day", "k"] ["day", "k"] (defScope sBefell) := ⟨rfl, rfl, rfl, by decide +kernel, rfl, by decide +kernel, by decide +kernel⟩
theorem ok_befell {f : Addr} {fd : FuncData} (F : Fun K "befell" "befell" sBefell f fd) (T : Txt K mg C D) : FnOk P w K mg base CX0 1 f fd ["day", "k"] spBefell := by
  refine F.ok scBefell (fun vs H Q E h => ?_) (fun cdv A outer s H vs Q E hr h => ?_)
  · obtain ⟨o, k, rfl, _⟩ := h
    rfl
  · obtain ⟨o, k, rfl, h⟩ := h
    refine ⟨_, pss_one (ps_ret (pe_and (pe_cmpR op_ne (pv 0) (pe_gi T.gNever) (nomark _)) (pe_one (pe_cmpR op_le (pv 0) (pv 1) (nomark _))))), ?_⟩
    refine ⟨_, rfl, rfl, _, rfl, iteB (fun e => ?_) (fun e => ?_)⟩
    · refine ⟨_, rfl, _, rfl, _, _, rfl, rfl, ?_⟩
      cases o with
      | none => exact absurd e (by rw [decide_eq_true (show V.int (SL.oI none) = V.int (-1) from rfl)]; exact Bool.false_ne_true)
      | some d =>
        have e2 : decide (SL.oI (some d) ≤ (k : Int)) = SL.fell (some d) k := by
          show decide ((d : Int) ≤ (k : Int)) = decide (d ≤ k)
          exact decide_eq_decide.mpr Int.ofNat_le
        show Q (.bl (decide (SL.oI (some d) ≤ (k : Int)))) H
        rw [e2]; exact h
    · cases o with
      | none => exact h
      | some d => exact absurd e (by rw [decide_eq_false (show ¬ V.int (SL.oI (some d)) = V.int (-1) from fun z => by have := V.int.inj z; exact absurd (show (d : Int) = -1 from this) (by omega))]; exact Bool.noConfusion)
theorem scShare : FnScope ["files", "others", "f"] ["files", "others"] (defScope sShare) := ⟨rfl, rfl, rfl, by decide +kernel, rfl, by decide +kernel, by decide +kernel⟩
theorem ok_share {f : Addr} {fd : FuncData} (F : Fun K "share" "share" sShare f fd) (T : Txt K mg C D) : FnOk P w K mg base CX0 1 f fd ["files", "others"] (spShare K) := by
  refine F.ok scShare (fun vs H Q E h => ?_) (fun cdv A outer s H vs Q E hr h => ?_)
  · obtain ⟨a, b, fs, m, rfl, _⟩ := h
    rfl
  · obtain ⟨a, b, fs, m, rfl, hS, hle, hm, k⟩ := h
    refine ⟨_, pss_one (ps_ret (pe_callB (cr_any rfl) rfl T.bAny (by decide +kernel) (pa_cons (pe_lc (own := [("f", 2)]) rfl scShare.nd (pi_list (pv 0)) (blk (N := ["files", "others", "f"]) (sc := defScope sShare) rfl rfl (by decide +kernel)) (fun _ _ _ _ _ => pg_name (i := 2) scShare.nd rfl (Or.inl rfl)) (fun _ _ _ _ _ => pts_nil)
      (fun _ _ _ _ _ => pe_cmpR (r := rInAny K) (op_in_any (hu_of hr)) (pv 2) (pv 1) (by with_unfolding_all rfl))) pa_nil))), ?_⟩
    refine ⟨_, rfl, a, rfl, ⟨_, hS⟩, fun Dn hD => lc_list (K := K) (a := a) (xs := nV fs) (fun i H' => Same H H' ∧ H' Dn = some (.lst (((fs.take i).map m).map V.bl))) ⟨same_upd hD, upd_same⟩ (fun i H' _ ⟨s1, _⟩ => s1.seq hS) ?_ ?_⟩
    · rintro i x H' hi ⟨s1, hd1⟩
      obtain ⟨g, hg, rfl⟩ := nV_get hi
      have hlen : (((fs.take i).map m).map V.bl).length < sizeLine := by
        rw [List.length_map, List.length_map, List.length_take]
        exact small1000 (Nat.le_trans (Nat.min_le_right _ _) hle)
      have fin : ∀ c : Bool, m g = c → Same H (upd H' Dn (.lst (((fs.take i).map m).map V.bl ++ [V.bl c]))) ∧ (upd H' Dn (.lst (((fs.take i).map m).map V.bl ++ [V.bl c]))) Dn = some (.lst (((fs.take (i + 1)).map m).map V.bl)) := fun c ec => by
        refine ⟨same_put hD s1, ?_⟩
        rw [upd_same, SL.take_snoc hg, List.map_append, List.map_append, ← ec]; rfl
      refine ⟨rfl, tyes ?_⟩
      rcases hm with ⟨xs, hx, em⟩ | ⟨kvs, hk, em⟩
      · refine ⟨_, rfl, _, rfl, .inl ⟨b, nV xs, rfl, .inl (s1.seq hx), rfl, nV_flat xs, _, hd1, hlen, ?_⟩⟩
        exact fin (inV (V.int (g : Int)) (nV xs)) (by rw [em, inV_nV])
      · refine ⟨_, rfl, _, rfl, .inr ⟨b, _, rfl, DGet.k (k := Sum.inl (g : Int)) (s1 _ _ hk), _, hd1, hlen, ?_⟩⟩
        exact fin _ (em g)
    · rintro H' ⟨s1, hd1⟩
      rw [nV_len, List.take_length] at hd1
      refine ⟨Dn, fs.map m, rfl, SqL.of hd1, ?_⟩
      rw [List.any_map]
      exact k H' s1
/-! ### Slip -/
theorem scSInit : FnScope ["self", "number", "asked", "reader", "days", "files"] ["self", "number", "asked", "reader", "days", "files"] (defScope sSInit) := ⟨rfl, rfl, rfl, by decide +kernel, rfl, by decide +kernel, by decide +kernel⟩
theorem sf_new (n d r days : Nat) (fs : List Nat) (lf dr : Addr) : putF "returned" (.ref dr) (putF "withdrawn" (.int (-1)) (putF "served" (.int (-1)) (putF "files" (.ref lf) (putF "days" (.int (days : Int)) (putF "reader" (.int (r : Int)) (putF "asked" (.int (d : Int)) (putF "number" (.int (n : Int)) []))))))) = sf n (SL.newS d r days fs) lf dr := by
  rw [pf_new (ks := []) (m := "number") rfl rfl, pf_new (ks := ["number"]) (m := "asked") rfl (by decide +kernel), pf_new (ks := ["number", "asked"]) (m := "reader") rfl (by decide +kernel),
    pf_new (ks := ["number", "asked", "reader"]) (m := "days") rfl (by decide +kernel), pf_new (ks := ["number", "asked", "reader", "days"]) (m := "files") rfl (by decide +kernel),
    pf_new (ks := ["number", "asked", "reader", "days", "files"]) (m := "served") rfl (by decide +kernel), pf_new (ks := ["number", "asked", "reader", "days", "files", "served"]) (m := "withdrawn") rfl (by decide +kernel),
    pf_new (ks := ["number", "asked", "reader", "days", "files", "served", "withdrawn"]) (m := "returned") rfl (by decide +kernel)]
  rfl
theorem ok_sinit {f : Addr} {fd : FuncData} (F : Fun K "__init__" "Slip.__init__" sSInit f fd) (T : Txt K mg C D) : FnOk P w K mg base CX0 1 f fd ["self", "number", "asked", "reader", "days", "files"] (spSInit C) := by
  refine F.ok scSInit (fun vs H Q E h => ?_) (fun cdv A outer s H vs Q E hr h => ?_)
  · obtain ⟨p, dx, lf, n, d, r, days, rfl, _⟩ := h
    rfl
  · obtain ⟨p, dx, lf, n, d, r, days, rfl, hp, k⟩ := h
    refine ⟨_, pss_cons (ps_fld (pv 0) (pv 1) rfl) (pss_cons (ps_fld (pv 0) (pv 2) rfl) (pss_cons (ps_fld (pv 0) (pv 3) rfl) (pss_cons (ps_fld (pv 0) (pv 4) rfl) (pss_cons (ps_fld (pv 0) (pv 5) rfl)
      (pss_cons (ps_fld (pv 0) (pe_gi T.gNever) rfl) (pss_cons (ps_fld (pv 0) (pe_gi T.gNever) rfl) (pss_one (ps_fld (pv 0) pe_dnewK rfl)))))))), ?_⟩
    have l0 : ([] : List (Str × V)).length ≤ 0 := Nat.le_refl 0
    refine ⟨_, rfl, _, rfl, p, C, dx, [], rfl, hp, T.clC, T.nNumber, (by show 0 < 1000; decide), ?_⟩
    refine ⟨_, rfl, _, rfl, p, C, dx, _, rfl, upd_same, T.clC, T.nAsked, Nat.lt_of_le_of_lt (lp l0) (by decide), ?_⟩
    refine ⟨_, rfl, _, rfl, p, C, dx, _, rfl, upd_same, T.clC, T.nReader, Nat.lt_of_le_of_lt (lp (lp l0)) (by decide), ?_⟩
    refine ⟨_, rfl, _, rfl, p, C, dx, _, rfl, upd_same, T.clC, T.nDays, Nat.lt_of_le_of_lt (lp (lp (lp l0))) (by decide), ?_⟩
    refine ⟨_, rfl, _, rfl, p, C, dx, _, rfl, upd_same, T.clC, T.nFiles, Nat.lt_of_le_of_lt (lp (lp (lp (lp l0)))) (by decide), ?_⟩
    refine ⟨_, rfl, p, C, dx, _, rfl, upd_same, T.clC, T.nServed, Nat.lt_of_le_of_lt (lp (lp (lp (lp (lp l0))))) (by decide), ?_⟩
    refine ⟨_, rfl, p, C, dx, _, rfl, upd_same, T.clC, T.nGone, Nat.lt_of_le_of_lt (lp (lp (lp (lp (lp (lp l0)))))) (by decide), ?_⟩
    intro dr hdr
    rw [upd_upd, upd_upd, upd_upd, upd_upd, upd_upd, upd_upd] at hdr
    have npd : p ≠ dr := fun z => by rw [← z, upd_same] at hdr; cases hdr
    refine ⟨_, rfl, p, C, dx, _, rfl, (upd_ne npd).trans upd_same, T.clC, T.nRet, Nat.lt_of_le_of_lt (lp (lp (lp (lp (lp (lp (lp l0))))))) (by decide), ?_⟩
    refine k dr _ (fun fs => ?_) ?_ ?_ (fun b u e hb => ?_)
    · rw [upd_same, sf_new n d r days fs lf dr]
    · rw [upd_ne npd.symm, upd_same]
    · rw [upd_ne npd.symm] at hdr; exact hdr
    · have nbd : b ≠ dr := fun z => by rw [← z, upd_ne hb, e] at hdr; cases hdr
      rw [upd_ne hb, upd_ne nbd, upd_ne hb, upd_ne hb, upd_ne hb, upd_ne hb, upd_ne hb, upd_ne hb, upd_ne hb]
      exact e
theorem scWaits : FnScope ["self", "k"] ["self", "k"] (defScope sWaits) := ⟨rfl, rfl, rfl, by decide +kernel, rfl, by decide +kernel, by decide +kernel⟩
theorem ok_waits {f : Addr} {fd : FuncData} (F : Fun K "waits" "Slip.waits" sWaits f fd) (T : Txt K mg C D) (B : FnAt P w K mg base "befell" ["day", "k"] 1 spBefell) : FnOk P w K mg base CX0 2 f fd ["self", "k"] (spWaits C) := by
  obtain ⟨fB, fdB, mB, kB, bB, GB⟩ := B
  refine F.ok scWaits (fun vs H Q E h => ?_) (fun cdv A outer s H vs Q E hr h => ?_)
  · obtain ⟨o, n, s, k, rfl, _⟩ := h
    rfl
  · obtain ⟨o, n, s, k, rfl, hS, q⟩ := h
    refine ⟨_, pss_cons (ps_if (pt_cmpR op_gt (pe_fld (pv 0) rfl) (pv 1) (nomark _)) (pss_one (ps_ret pe_bl)) pss_nil)
      (pss_one (ps_ret (pe_and (pe_not (pe_call GB hr rfl mB kB bB .nil pass0 (pa_cons (pe_fld (pv 0) rfl) (pa_cons (pv 1) pa_nil)))) (pe_one (pe_not (pe_call GB hr rfl mB kB bB .nil pass0 (pa_cons (pe_fld (pv 0) rfl) (pa_cons (pv 1) pa_nil)))))))), ?_⟩
    refine ⟨_, rfl, o.a, C, o.dx, _, _, rfl, hS.ob, T.clC, T.nAsked, sf_asked, _, rfl, _, _, rfl, rfl, _, rfl, iteB (fun e => ?_) (fun e => ?_)⟩
    · have e2 : s.waits k = false := by
        unfold SL.PS.waits
        rw [decide_eq_false (show ¬ s.asked ≤ k by have := of_decide_eq_true e; omega)]; rfl
      rw [e2] at q
      exact q
    · have e1 : decide (s.asked ≤ k) = true := decide_eq_true (by have := of_decide_eq_false e; omega)
      have e2 : s.waits k = (!SL.fell s.served k && !SL.fell s.gone k) := by
        unfold SL.PS.waits
        rw [e1, Bool.true_and]
      rw [e2] at q
      refine ⟨_, rfl, o.a, C, o.dx, _, _, rfl, hS.ob, T.clC, T.nServed, sf_served, _, rfl, s.served, k, rfl, _, rfl, _, rfl, iteB (fun e3 => ?_) (fun e3 => ?_)⟩
      · rw [e3, Bool.true_and] at q
        exact ⟨_, rfl, o.a, C, o.dx, _, _, rfl, hS.ob, T.clC, T.nGone, sf_gone, _, rfl, s.gone, k, rfl, _, rfl, q⟩
      · rw [e3, Bool.false_and] at q
        exact q
theorem scBrought : FnScope ["self", "f", "k"] ["self", "f", "k"] (defScope sBrought) := ⟨rfl, rfl, rfl, by decide +kernel, rfl, by decide +kernel, by decide +kernel⟩
theorem ok_brought {f : Addr} {fd : FuncData} (F : Fun K "brought" "Slip.brought" sBrought f fd) (T : Txt K mg C D) (B : FnAt P w K mg base "befell" ["day", "k"] 1 spBefell) : FnOk P w K mg base CX0 2 f fd ["self", "f", "k"] (spBrought C) := by
  obtain ⟨fB, fdB, mB, kB, bB, GB⟩ := B
  refine F.ok scBrought (fun vs H Q E h => ?_) (fun cdv A outer s H vs Q E hr h => ?_)
  · obtain ⟨o, n, s, g, k, rfl, _⟩ := h
    rfl
  · obtain ⟨o, n, s, g, k, rfl, hS, q⟩ := h
    refine ⟨_, pss_one (ps_ret (pe_call GB hr rfl mB kB bB .nil pass0 (pa_cons (pe_dget2 (hu_of hr) (pe_fld (pv 0) rfl) (pv 1) (pe_gi T.gNever) ⟨rfl, rfl, rfl, rfl⟩) (pa_cons (pv 2) pa_nil)))), ?_⟩
    refine ⟨_, rfl, o.a, C, o.dx, _, _, rfl, hS.ob, T.clC, T.nRet, sf_ret, o.dr, rfl, .inl ⟨_, .inl hS.rt⟩, _, rfl, _, DGet.k (k := Sum.inl (g : Int)) hS.rt, _, rfl, s.ret.lookup g, k, ?_, q⟩
    rw [rK_getD]; rfl
theorem scHeld : FnScope ["self", "k", "f"] ["self", "k"] (defScope sHeld) := ⟨rfl, rfl, rfl, by decide +kernel, rfl, by decide +kernel, by decide +kernel⟩
theorem ok_held {f : Addr} {fd : FuncData} (F : Fun K "held" "Slip.held" sHeld f fd) (T : Txt K mg C D) (B : FnAt P w K mg base "befell" ["day", "k"] 1 spBefell) (R : MtAt P w K mg base C "brought" ["self", "f", "k"] 2 (spBrought C)) :
    FnOk P w K mg base CX0 3 f fd ["self", "k"] (spHeld C) := by
  obtain ⟨fB, fdB, mB, kB, bB, GB⟩ := B
  obtain ⟨fR, fdR, mR, bR, GR⟩ := R
  refine F.ok scHeld (fun vs H Q E h => ?_) (fun cdv A outer s H vs Q E hr h => ?_)
  · obtain ⟨o, n, s, k, rfl, _⟩ := h
    rfl
  · obtain ⟨o, n, s, k, rfl, hS, h8, q⟩ := h
    have hr1 : Room 1 _ := hr.mono (by decide)
    refine ⟨_, pss_cons (ps_if (pt_not (pt_val (pe_call GB hr1 rfl mB kB bB .nil pass0 (pa_cons (pe_fld (pv 0) rfl) (pa_cons (pv 1) pa_nil))))) (pss_one (ps_ret (pe_lst pa_nil))) pss_nil)
      (pss_one (ps_ret (pe_lc (own := [("f", 2)]) rfl scHeld.nd (pi_list (pe_fld (pv 0) rfl)) (blk (N := ["self", "k", "f"]) (sc := defScope sHeld) rfl rfl (by decide +kernel)) (fun _ _ _ _ _ => pg_name (i := 2) scHeld.nd rfl (Or.inl rfl))
        (fun _ _ _ _ _ => pts_one (pt_not (pt_val (pe_meth (pv 0) T.clC mR GR hr bR .nil pass0 (pa_cons (pv 2) (pa_cons (pv 1) pa_nil)))))) (fun _ _ _ _ _ => pv 2)))), ?_⟩
    refine ⟨_, rfl, o.a, C, o.dx, _, _, rfl, hS.ob, T.clC, T.nServed, sf_served, _, rfl, s.served, k, rfl, _, rfl, iteB (fun e => ?_) (fun e => ?_)⟩
    · have e1 : SL.fell s.served k = false := by cases c : SL.fell s.served k; rfl; rw [c] at e; cases e
      refine ⟨Nat.zero_le _, fun p hp => ?_⟩
      refine q p _ hp (same_upd hp) ?_
      unfold SL.PS.held
      rw [e1, if_neg Bool.false_ne_true, upd_same]; rfl
    · have e1 : SL.fell s.served k = true := by cases c : SL.fell s.served k; rw [c] at e; cases e; rfl
      refine ⟨_, rfl, o.a, C, o.dx, _, _, rfl, hS.ob, T.clC, T.nFiles, sf_files, o.lf, rfl, ⟨_, SqL.of hS.fl⟩, fun Dn hD => lc_list (K := K) (a := o.lf) (xs := nV s.files)
        (fun i H' => Same H H' ∧ H' Dn = some (.lst (nV ((s.files.take i).filter fun g => !s.brought g k)))) ⟨same_upd hD, upd_same⟩ (fun i H' _ ⟨s1, _⟩ => SqL.of (s1 _ _ hS.fl)) ?_ ?_⟩
      · rintro i x H' hi ⟨s1, hd1⟩
        obtain ⟨g, hg, rfl⟩ := nV_get hi
        have hS' := hS.same s1
        refine ⟨rfl, _, rfl, o.a, o.dx, _, rfl, hS'.ob, sf_no (by decide +kernel), _, rfl, _, rfl, o, n, s, g, k, rfl, hS', _, rfl, iteB (fun e2 => ?_) (fun e2 => ?_)⟩
        · refine ⟨_, rfl, _, hd1, ?_, same_put hD s1, ?_⟩
          · rw [nV_len]
            refine small1000 (Nat.le_trans (List.length_filter_le _ _) ?_)
            rw [List.length_take]
            exact Nat.le_trans (Nat.min_le_right _ _) (Nat.le_trans h8 (by decide))
          · rw [upd_same, SL.take_snoc hg, List.filter_append, List.filter_cons, if_pos e2]
            unfold nV
            rw [List.map_append]; rfl
        · refine ⟨s1, ?_⟩
          rw [hd1, SL.take_snoc hg, List.filter_append, List.filter_cons, if_neg (by rw [e2]; exact Bool.false_ne_true)]
          rw [List.filter_nil, List.append_nil]
      · rintro H' ⟨s1, hd1⟩
        rw [nV_len, List.take_length] at hd1
        refine q Dn H' hD s1 ?_
        rw [hd1]
        unfold SL.PS.held
        rw [if_pos e1]
theorem scKept : FnScope ["self", "k"] ["self", "k"] (defScope sKept) := ⟨rfl, rfl, rfl, by decide +kernel, rfl, by decide +kernel, by decide +kernel⟩
theorem ok_kept {f : Addr} {fd : FuncData} (F : Fun K "kept" "Slip.kept" sKept f fd) (T : Txt K mg C D) (W : MtAt P w K mg base C "waits" ["self", "k"] 2 (spWaits C)) (Hd : MtAt P w K mg base C "held" ["self", "k"] 3 (spHeld C)) :
    FnOk P w K mg base CX0 4 f fd ["self", "k"] (spKept K C) := by
  obtain ⟨fW, fdW, mW, bW, GW⟩ := W
  obtain ⟨fH, fdH, mH, bH, GH⟩ := Hd
  refine F.ok scKept (fun vs H Q E h => ?_) (fun cdv A outer s H vs Q E hr h => ?_)
  · obtain ⟨o, n, s, k, rfl, _⟩ := h
    rfl
  · obtain ⟨o, n, s, k, rfl, hS, h8, q⟩ := h
    refine ⟨_, pss_cons (ps_if (pt_val (pe_meth (pv 0) T.clC mW GW (hr.mono (by decide)) bW .nil pass0 (pa_cons (pv 1) pa_nil))) (pss_one (ps_ret (pe_fld (pv 0) rfl))) pss_nil)
      (pss_one (ps_ret (pe_meth (pv 0) T.clC mH GH hr bH .nil pass0 (pa_cons (pv 1) pa_nil)))), ?_⟩
    refine ⟨_, rfl, o.a, o.dx, _, rfl, hS.ob, sf_no (by decide +kernel), _, rfl, o, n, s, k, rfl, hS, _, rfl, iteB (fun e => ?_) (fun e => ?_)⟩
    · refine ⟨_, rfl, o.a, C, o.dx, _, _, rfl, hS.ob, T.clC, T.nFiles, sf_files, ?_⟩
      refine q o.lf H (Same.refl H) (SqL.of ?_)
      rw [hS.fl]
      unfold SL.PS.kept
      rw [if_pos e]
    · refine ⟨_, rfl, o.a, o.dx, _, rfl, hS.ob, sf_no (by decide +kernel), _, rfl, o, n, s, k, rfl, hS, h8, fun p H' hp s1 hl => ?_⟩
      refine q p H' s1 (SqL.of ?_)
      rw [hl]
      unfold SL.PS.kept
      rw [if_neg (by rw [e]; exact Bool.false_ne_true)]
theorem scState : FnScope ["self", "k"] ["self", "k"] (defScope sState) := ⟨rfl, rfl, rfl, by decide +kernel, rfl, by decide +kernel, by decide +kernel⟩
theorem ok_state {f : Addr} {fd : FuncData} (F : Fun K "state" "Slip.state" sState f fd) (T : Txt K mg C D) (B : FnAt P w K mg base "befell" ["day", "k"] 1 spBefell) (W : MtAt P w K mg base C "waits" ["self", "k"] 2 (spWaits C)) (Hd : MtAt P w K mg base C "held" ["self", "k"] 3 (spHeld C)) :
    FnOk P w K mg base CX0 4 f fd ["self", "k"] (spState C) := by
  obtain ⟨fB, fdB, mB, kB, bB, GB⟩ := B
  obtain ⟨fW, fdW, mW, bW, GW⟩ := W
  obtain ⟨fH, fdH, mH, bH, GH⟩ := Hd
  refine F.ok scState (fun vs H Q E h => ?_) (fun cdv A outer s H vs Q E hr h => ?_)
  · obtain ⟨o, n, s, k, rfl, _⟩ := h
    rfl
  · obtain ⟨o, n, s, k, rfl, hS, h8, q⟩ := h
    refine ⟨_, pss_cons (ps_if (pt_val (pe_meth (pv 0) T.clC mW GW (hr.mono (by decide)) bW .nil pass0 (pa_cons (pv 1) pa_nil))) (pss_one (ps_ret (pe_gi T.gWaiting))) pss_nil)
      (pss_cons (ps_if (pt_val (pe_call GB (hr.mono (by decide)) rfl mB kB bB .nil pass0 (pa_cons (pe_fld (pv 0) rfl) (pa_cons (pv 1) pa_nil)))) (pss_one (ps_ret (pe_gi T.gWithdrawn))) pss_nil)
      (pss_cons (ps_if (pt_cmpR op_gt (pe_callB call_len_seq rfl T.bLen PySem.boot_len (pa_cons (pe_meth (pv 0) T.clC mH GH hr bH .nil pass0 (pa_cons (pv 1) pa_nil)) pa_nil)) pe_int (nomark _)) (pss_one (ps_ret (pe_gi T.gOut))) pss_nil)
      (pss_one (ps_ret (pe_gi T.gDone))))), ?_⟩
    refine ⟨_, rfl, o.a, o.dx, _, rfl, hS.ob, sf_no (by decide +kernel), _, rfl, o, n, s, k, rfl, hS, _, rfl, iteB (fun e => ?_) (fun e => ?_)⟩
    · have q' := q H (Same.refl H)
      unfold SL.PS.state at q'
      rw [if_pos e] at q'
      exact q'
    · refine ⟨_, rfl, o.a, C, o.dx, _, _, rfl, hS.ob, T.clC, T.nGone, sf_gone, _, rfl, s.gone, k, rfl, _, rfl, iteB (fun e2 => ?_) (fun e2 => ?_)⟩
      · have q' := q H (Same.refl H)
        unfold SL.PS.state at q'
        rw [if_neg (by rw [e]; exact Bool.false_ne_true), if_pos e2] at q'
        exact q'
      · refine ⟨_, rfl, o.a, o.dx, _, rfl, hS.ob, sf_no (by decide +kernel), _, rfl, o, n, s, k, rfl, hS, h8, fun p H' hp s1 hl => ?_⟩
        have q' := q H' s1
        unfold SL.PS.state at q'
        rw [if_neg (by rw [e]; exact Bool.false_ne_true), if_neg (by rw [e2]; exact Bool.false_ne_true)] at q'
        refine ⟨p, _, rfl, .inl (SqL.of hl), _, _, rfl, rfl, _, rfl, iteB (fun e3 => ?_) (fun e3 => ?_)⟩
        · have h3 : 0 < (s.held k).length := by
            have := of_decide_eq_true e3
            rw [nV_len] at this; omega
          rw [if_pos h3] at q'
          exact q'
        · have h3 : ¬ 0 < (s.held k).length := by
            have := of_decide_eq_false e3
            rw [nV_len] at this; omega
          rw [if_neg h3] at q'
          exact q'
theorem scDue : FnScope ["self"] ["self"] (defScope sDue) := ⟨rfl, rfl, rfl, by decide +kernel, rfl, by decide +kernel, by decide +kernel⟩
theorem ok_due {f : Addr} {fd : FuncData} (F : Fun K "due" "Slip.due" sDue f fd) (T : Txt K mg C D) : FnOk P w K mg base CX0 1 f fd ["self"] (spDue C) := by
  refine F.ok scDue (fun vs H Q E h => ?_) (fun cdv A outer s H vs Q E hr h => ?_)
  · obtain ⟨o, n, s, rfl, _⟩ := h
    rfl
  · obtain ⟨o, n, s, rfl, hS, q⟩ := h
    refine ⟨_, pss_one (ps_ret (pe_op op_add (pe_fld (pv 0) rfl) (pe_fld (pv 0) rfl))), ?_⟩
    exact ⟨_, rfl, o.a, C, o.dx, _, _, rfl, hS.ob, T.clC, T.nServed, sf_served, _, rfl, o.a, C, o.dx, _, _, rfl, hS.ob, T.clC, T.nDays, sf_days, _, _, rfl, rfl, q⟩
end
end SP
end
section
set_option Elab.async false
set_option linter.all false
set_option maxRecDepth 100000
set_option maxHeartbeats 2000000
namespace SP
open PySem PySem.Spec PyProof.Rows L2
/-! ### Tables of what is out -/
def outP (k : Nat) (os : List A1) (l : List SL.PS) : List (Nat × (A1 × SL.PS)) := (os.zip l).flatMap fun x => (x.2.held k).map fun f => (f, x)
def oK (t : Nat × (A1 × SL.PS)) : Key × V := ((Sum.inl (t.1 : Int) : Key), V.ref t.2.1.a)
def outL (k : Nat) (os : List A1) (l : List SL.PS) : List (Key × V) := (outP k os l).map oK
theorem outP_snoc {k : Nat} {os : List A1} {l : List SL.PS} {i : Nat} {o : A1} {s : SL.PS} (ho : os[i]? = some o) (hs : l[i]? = some s) : outP k (os.take (i + 1)) (l.take (i + 1)) = outP k (os.take i) (l.take i) ++ (s.held k).map fun f => (f, (o, s)) := by
  obtain ⟨h1, _⟩ := List.getElem?_eq_some_iff.mp ho
  obtain ⟨h2, _⟩ := List.getElem?_eq_some_iff.mp hs
  unfold outP
  rw [SL.take_snoc ho, SL.take_snoc hs, List.zip_append (by rw [List.length_take, List.length_take]; omega), List.flatMap_append]
  show _ ++ ([(o, s)] : List (A1 × SL.PS)).flatMap _ = _
  rw [List.flatMap_cons, List.flatMap_nil, List.append_nil]
theorem outP_fst (k : Nat) : ∀ (os : List A1) (l : List SL.PS), os.length = l.length → (outP k os l).map (·.1) = SL.outF k l
  | [], [], _ => rfl
  | [], _ :: _, h => by cases h
  | _ :: _, [], h => by cases h
  | o :: os, s :: l, h => by
    unfold outP SL.outF
    rw [List.zip_cons_cons, List.flatMap_cons, List.flatMap_cons, List.map_append, List.map_map]
    have := outP_fst k os l (Nat.succ.inj h)
    unfold outP SL.outF at this
    rw [this]
    congr 1
    show (s.held k).map (fun f => f) = _
    exact List.map_id' _
theorem outL_keys (k : Nat) (os : List A1) (l : List SL.PS) (h : os.length = l.length) : (outL k os l).map (·.1) = (SL.outF k l).map fun (f : Nat) => (Sum.inl (f : Int) : Key) := by
  unfold outL
  rw [List.map_map, ← outP_fst k os l h, List.map_map]; rfl
theorem outP_len (k : Nat) {os : List A1} {l : List SL.PS} (h : os.length = l.length) (h8 : ∀ s ∈ l, s.files.length ≤ 8) : (outP k os l).length ≤ 8 * l.length := by
  have e := congrArg List.length (outP_fst k os l h)
  rw [List.length_map] at e
  rw [e]
  exact SL.out_len k h8
theorem keys_contains (f : Nat) : ∀ l : List Nat, (l.any fun (g : Nat) => decide ((Sum.inl (g : Int) : Key) = Sum.inl (f : Int))) = l.contains f
  | [] => rfl
  | a :: l => by
    rw [List.any_cons, List.contains_cons, keys_contains f l]
    congr 1
    by_cases h : f = a
    · subst h; simp
    · rw [beq_eq_false_iff_ne.mpr h, decide_eq_false (fun z => h (by have := Sum.inl.inj z; omega))]
theorem out_some (k : Nat) {os : List A1} {l : List SL.PS} (h : os.length = l.length) (f : Nat) : (valV (mergeK [] (outL k os l)) (Sum.inl (f : Int) : Key)).isSome = (SL.outF k l).contains f := by
  rw [merge_some, ← outP_fst k os l h, ← keys_contains]
  unfold outL
  rw [List.any_map, List.any_map]; rfl
theorem out_is (k : Nat) {os : List A1} {l : List SL.PS} (h : os.length = l.length) (hn : (SL.outF k l).Nodup) : mergeK [] (outL k os l) = outL k os l := by
  refine merge_nodup _ [] ?_
  rw [List.nil_append, outL_keys k os l h]
  show ((SL.outF k l).map fun (f : Nat) => (Sum.inl (f : Int) : Key)).Pairwise (· ≠ ·)
  rw [List.pairwise_map]
  exact List.Pairwise.imp (fun {a b} z w' => z (by have := Sum.inl.inj w'; omega)) hn
theorem merge_put (a b : List (Key × V)) (k : Key) (v : V) : putK (mergeK a b) k v = mergeK a (b ++ [(k, v)]) := by
  rw [← merge_append]; rfl
/-! ### Promises -/
def spBegin (D : Addr) : Sp := fun vs H Q _ => ∃ (p dx : Addr) (fs : List (Str × V)), vs = [.ref p] ∧ H p = some (.ins D dx fs) ∧ (fs = [] ∨ ∃ ls e m, fs = shf ls e m) ∧
  ∀ (ls : Addr) (H' : Hp), H ls = none → H' p = some (.ins D dx (shf ls 0 0)) → H' ls = some (.lst []) → (∀ b u, H b = some u → b ≠ p → H' b = some u) → Q .non H'
def spHInit (D : Addr) : Sp := fun vs H Q _ => ∃ (p dx : Addr), vs = [.ref p] ∧ H p = some (.ins D dx []) ∧
  ∀ (ls : Addr) (H' : Hp), H ls = none → H' p = some (.ins D dx (shf ls 0 0)) → H' ls = some (.lst []) → (∀ b u, H b = some u → b ≠ p → H' b = some u) → Q .non H'
def spFull (D : Addr) : Sp := fun vs H Q _ => ∃ (p dx ls : Addr) (e m : Int), vs = [.ref p] ∧ H p = some (.ins D dx (shf ls e m)) ∧ Q (.bl (decide ((512 : Int) ≤ e))) H
def spOut (C D : Addr) : Sp := fun vs H Q _ => ∃ (p ls : Addr) (os : List A1) (S : SL.Sh) (k : Nat), vs = [.ref p, .int (k : Int)] ∧ ShAt C D H p ls os S ∧ S.slips.length ≤ 64 ∧ (∀ s ∈ S.slips, s.files.length ≤ 8) ∧
  ∀ (d : Addr) (H' : Hp), H d = none → Same H H' → H' d = some (.dK (mergeK [] (outL k os S.slips))) → Q (.ref d) H'
def spKnown (C D : Addr) : Sp := fun vs H Q _ => ∃ (p ls : Addr) (os : List A1) (S : SL.Sh) (k q : Nat), vs = [.ref p, .int (k : Int), .int (q : Int)] ∧ ShAt C D H p ls os S ∧ (SL.knownM S k q = none → Q .non H) ∧
  ∀ (o : A1) (s : SL.PS), os[q]? = some o → S.slips[q]? = some s → s.asked ≤ k → Q (.ref o.a) H
def spServe (C D : Addr) : Sp := fun vs H Q _ => ∃ (p ls : Addr) (os : List A1) (S : SL.Sh) (d : Nat), vs = [.ref p, .int (d : Int)] ∧ ShAt C D H p ls os S ∧ S.slips.length ≤ 64 ∧ (∀ s ∈ S.slips, s.files.length ≤ 8) ∧
  ∀ H' : Hp, ShAt C D H' p ls os ⟨SL.serveP d (SL.outF d S.slips) S.slips, S.entries, S.last⟩ → (∀ b u, H b = some u → (∀ o ∈ os, b ≠ o.a) → H' b = some u) → Q (.int ((SL.countP d (SL.outF d S.slips) S.slips : Nat) : Int)) H'
def spEnter (C D : Addr) : Sp := fun vs H Q _ => ∃ (p ls : Addr) (os : List A1) (S : SL.Sh) (d : Nat), vs = [.ref p, .int (d : Int)] ∧ ShAt C D H p ls os S ∧ S.slips.length ≤ 64 ∧ (∀ s ∈ S.slips, s.files.length ≤ 8) ∧
  ∀ H' : Hp, ShAt C D H' p ls os (SL.entM S d S.slips) → (∀ b u, H b = some u → b ≠ p → (∀ o ∈ os, b ≠ o.a) → H' b = some u) → Q (.int ((SL.countP d (SL.outF d S.slips) S.slips : Nat) : Int)) H'
section
variable {P : Program} {w : World} {K : PySem.W.Frag} {mg : Str → Option Value} {base : Heap} {C D : Addr}
theorem scBegin : FnScope ["self"] ["self"] (defScope sBegin) := ⟨rfl, rfl, rfl, by decide +kernel, rfl, by decide +kernel, by decide +kernel⟩
theorem ok_begin {f : Addr} {fd : FuncData} (F : Fun K "begin" "Shelf.begin" sBegin f fd) (T : Txt K mg C D) : FnOk P w K mg base CX0 1 f fd ["self"] (spBegin D) := by
  refine F.ok scBegin (fun vs H Q E h => ?_) (fun cdv A outer s H vs Q E hr h => ?_)
  · obtain ⟨p, dx, fs, rfl, _⟩ := h
    rfl
  · obtain ⟨p, dx, fs, rfl, hp, hf, k⟩ := h
    have hlen : fs.length ≤ 3 := by
      rcases hf with rfl | ⟨ls, e, m, rfl⟩
      · exact Nat.zero_le _
      · exact Nat.le_refl 3
    have hfin : ∀ ls : Addr, putF "last" (.int 0) (putF "entries" (.int 0) (putF "slips" (.ref ls) fs)) = shf ls 0 0 := fun ls => by
      rcases hf with rfl | ⟨l0, e, m, rfl⟩
      · exact shf_new ls 0 0
      · rw [shf_setSlips, shf_setEntries, shf_setLast]
    refine ⟨_, pss_cons (ps_fld (pv 0) (pe_lst pa_nil) rfl) (pss_cons (ps_fld (pv 0) pe_int rfl) (pss_one (ps_fld (pv 0) pe_int rfl))), ?_⟩
    refine ⟨Nat.zero_le _, fun ls hls => ?_⟩
    have npl : p ≠ ls := ne_of_none hp hls
    refine ⟨_, rfl, p, D, dx, fs, rfl, (upd_ne npl).trans hp, T.clD, T.nSlips, Nat.lt_of_le_of_lt hlen (by decide), ?_⟩
    refine ⟨_, rfl, p, D, dx, _, rfl, upd_same, T.clD, T.nEntries, Nat.lt_of_le_of_lt (lp hlen) (by decide), ?_⟩
    refine ⟨_, rfl, p, D, dx, _, rfl, upd_same, T.clD, T.nLast, Nat.lt_of_le_of_lt (lp (lp hlen)) (by decide), ?_⟩
    refine k ls _ hls ?_ ?_ (fun b u e hb => ?_)
    · rw [upd_same, hfin]
    · rw [upd_ne npl.symm, upd_ne npl.symm, upd_ne npl.symm, upd_same]
    · rw [upd_ne hb, upd_ne hb, upd_ne hb, upd_ne (ne_of_none e hls)]
      exact e
theorem scHInit : FnScope ["self"] ["self"] (defScope sHInit) := ⟨rfl, rfl, rfl, by decide +kernel, rfl, by decide +kernel, by decide +kernel⟩
theorem ok_hinit {f : Addr} {fd : FuncData} (F : Fun K "__init__" "Shelf.__init__" sHInit f fd) (T : Txt K mg C D) (B : MtAt P w K mg base D "begin" ["self"] 1 (spBegin D)) : FnOk P w K mg base CX0 2 f fd ["self"] (spHInit D) := by
  obtain ⟨fB, fdB, mB, bB, GB⟩ := B
  refine F.ok scHInit (fun vs H Q E h => ?_) (fun cdv A outer s H vs Q E hr h => ?_)
  · obtain ⟨p, dx, rfl, _⟩ := h
    rfl
  · obtain ⟨p, dx, rfl, hp, k⟩ := h
    refine ⟨_, pss_one (ps_expr (pe_meth0 (pv 0) T.clD mB GB hr bB .nil pass0)), ?_⟩
    exact ⟨_, rfl, p, dx, [], rfl, hp, rfl, p, dx, [], rfl, hp, .inl rfl, fun ls H' h1 h2 h3 h4 => k ls H' h1 h2 h3 h4⟩
theorem scFull : FnScope ["self"] ["self"] (defScope sFull) := ⟨rfl, rfl, rfl, by decide +kernel, rfl, by decide +kernel, by decide +kernel⟩
theorem ok_full {f : Addr} {fd : FuncData} (F : Fun K "full" "Shelf.full" sFull f fd) (T : Txt K mg C D) : FnOk P w K mg base CX0 1 f fd ["self"] (spFull D) := by
  refine F.ok scFull (fun vs H Q E h => ?_) (fun cdv A outer s H vs Q E hr h => ?_)
  · obtain ⟨p, dx, ls, e, m, rfl, _⟩ := h
    rfl
  · obtain ⟨p, dx, ls, e, m, rfl, hp, q⟩ := h
    refine ⟨_, pss_one (ps_ret (pe_cmpR op_ge (pe_fld (pv 0) rfl) (pe_gi T.gMostEntries) (nomark _))), ?_⟩
    exact ⟨_, rfl, p, D, dx, _, _, rfl, hp, T.clD, T.nEntries, shf_entries, _, _, rfl, rfl, q⟩
theorem scOut : FnScope ["self", "k", "found", "slip", "f"] ["self", "k"] (defScope sOut) := ⟨rfl, rfl, rfl, by decide +kernel, rfl, by decide +kernel, by decide +kernel⟩
theorem ok_out {f : Addr} {fd : FuncData} (F : Fun K "out" "Shelf.out" sOut f fd) (T : Txt K mg C D) (Hd : MtAt P w K mg base C "held" ["self", "k"] 3 (spHeld C)) : FnOk P w K mg base CX0 4 f fd ["self", "k"] (spOut C D) := by
  obtain ⟨fH, fdH, mH, bH, GH⟩ := Hd
  refine F.ok scOut (fun vs H Q E h => ?_) (fun cdv A outer s H vs Q E hr h => ?_)
  · obtain ⟨p, ls, os, S, k, rfl, _⟩ := h
    rfl
  · obtain ⟨p, ls, os, S, k, rfl, A1', h64, h8, q⟩ := h
    obtain ⟨dx, hp⟩ := A1'.ob
    have hL := A1'.lst
    have hsl := A1'.sl
    refine ⟨_, pss_cons (ps_set (i := 2) scOut.nd rfl (Or.inl rfl) pe_dnewK)
      (pss_cons (ps_for PassesOwn.never rfl (pi_list (pe_fld (pv 0) rfl)) (pg_name (i := 3) scOut.nd rfl (Or.inl rfl))
        (pss_one (ps_for PassesOwn.never rfl (pi_list (pe_meth (pv 3) T.clC mH GH hr bH .nil pass0 (pa_cons (pv 1) pa_nil))) (pg_name (i := 4) scOut.nd rfl (Or.inl rfl)) (pss_one (ps_dput (hu_of hr) (pv 2) (pv 4) (pv 3) rfl)))))
      (pss_one (ps_ret (pv 2)))), ?_⟩
    intro d hd
    have s0 : Same H (upd H d (.dK [])) := same_upd hd
    refine ⟨_, rfl, p, D, dx, _, _, rfl, s0 _ _ hp, T.clD, T.nSlips, shf_slips, ls, rfl, ⟨_, SqL.of (s0 _ _ hL)⟩, for_list (K := K) (a := ls) (xs := os.map fun o => V.ref o.a)
      (fun i σ H' => ∃ v3 v4 : Option V, σ = [some (.ref p), some (.int (k : Int)), some (.ref d), v3, v4] ∧ Same H H' ∧ H' d = some (.dK (mergeK [] (outL k (os.take i) (S.slips.take i)))))
      ⟨none, none, rfl, s0, upd_same⟩ (fun i σ H' _ ⟨_, _, _, s1, _⟩ => SqL.of (s1 _ _ hL)) ?_ ?_⟩
    · rintro i x σ H' hi ⟨v3, v4, rfl, s1, hd1⟩
      obtain ⟨o, ho, rfl⟩ := refs_get hi
      obtain ⟨sl, hs, hS⟩ := hsl.get' ho
      have hS1 := hS.same s1
      have h8' : sl.files.length ≤ 8 := h8 sl (List.mem_of_getElem? hs)
      refine ⟨_, rfl, o.a, o.dx, _, rfl, hS1.ob, sf_no (by decide +kernel), _, rfl, o, i, sl, k, rfl, hS1, h8', fun ph H1 hph s2 hl1 => ?_⟩
      have hd2 : H1 d = some (.dK (mergeK [] (outL k (os.take i) (S.slips.take i)))) := s2 _ _ hd1
      have nd : d ≠ ph := ne_of_none hd1 hph
      refine ⟨ph, rfl, ⟨_, SqL.of hl1⟩, for_list (K := K) (a := ph) (xs := nV (sl.held k))
        (fun j σ H2 => ∃ v4 : Option V, σ = [some (.ref p), some (.int (k : Int)), some (.ref d), some (.ref o.a), v4] ∧ Same H H2 ∧ H2 ph = some (.lst (nV (sl.held k))) ∧
          H2 d = some (.dK (mergeK [] (outL k (os.take i) (S.slips.take i) ++ ((sl.held k).take j).map fun g => oK (g, (o, sl))))))
        ⟨v4, rfl, s1.trans s2, hl1, by rw [hd2, List.take_zero, List.map_nil, List.append_nil]⟩ (fun j σ H2 _ ⟨_, _, _, h2, _⟩ => SqL.of h2) ?_ ?_⟩
      · rintro j x σ H2 hj ⟨v4, rfl, s3, hl2, hd3⟩
        obtain ⟨g, hg, rfl⟩ := nV_get hj
        have hlen : (mergeK [] (outL k (os.take i) (S.slips.take i) ++ ((sl.held k).take j).map fun g => oK (g, (o, sl)))).length < sizeLine := by
          refine Nat.lt_of_le_of_lt (length_mergeK _ _) (small9 ?_)
          rw [List.length_append, List.length_map, List.length_take]
          have e1 : (outL k (os.take i) (S.slips.take i)).length ≤ 8 * (S.slips.take i).length := by
            unfold outL
            rw [List.length_map]
            exact outP_len k (by rw [List.length_take, List.length_take, hsl.len]) fun s hs => h8 s (List.mem_of_mem_take hs)
          rw [List.length_take] at e1
          have e2 := SL.held_len sl k
          show 0 + _ ≤ _
          omega
        refine ⟨_, rfl, _, rfl, _, rfl, d, _, rfl, DPut.k (k := Sum.inl (g : Int)) hd3 hlen, ?_⟩
        refine ⟨_, rfl, same_put hd s3, ?_, ?_⟩
        · rw [upd_ne nd.symm]; exact hl2
        · rw [upd_same, merge_put, List.append_assoc, SL.take_snoc hg, List.map_append]; rfl
      · rintro σ H2 ⟨v4, rfl, s3, hl2, hd3⟩
        refine ⟨_, _, rfl, s3, ?_⟩
        rw [hd3, nV_len, List.take_length]
        unfold outL
        rw [outP_snoc ho hs, List.map_append, List.map_map]; rfl
    · rintro σ H' ⟨v3, v4, rfl, s1, hd1⟩
      refine ⟨_, rfl, q d H' hd s1 ?_⟩
      rw [hd1, List.length_map, List.take_length, hsl.len, List.take_length]
theorem scKnown : FnScope ["self", "k", "q"] ["self", "k", "q"] (defScope sKnown) := ⟨rfl, rfl, rfl, by decide +kernel, rfl, by decide +kernel, by decide +kernel⟩
theorem ok_known {f : Addr} {fd : FuncData} (F : Fun K "known" "Shelf.known" sKnown f fd) (T : Txt K mg C D) : FnOk P w K mg base CX0 1 f fd ["self", "k", "q"] (spKnown C D) := by
  refine F.ok scKnown (fun vs H Q E h => ?_) (fun cdv A outer s H vs Q E hr h => ?_)
  · obtain ⟨p, ls, os, S, k, q, rfl, _⟩ := h
    rfl
  · obtain ⟨p, ls, os, S, k, q, rfl, A1', qn, qs⟩ := h
    obtain ⟨dx, hp⟩ := A1'.ob
    have hL := A1'.lst
    have hsl := A1'.sl
    refine ⟨_, pss_cons (ps_if (PW.pt (pw_and (pt_cmpR op_lt (pv 2) (pe_callB call_len_seq rfl T.bLen PySem.boot_len (pa_cons (pe_fld (pv 0) rfl) pa_nil)) (nomark _))
        (pw_and1 (pt_cmpR op_le (pe_fld (pe_ix ix_list (pe_fld (pv 0) rfl) (pv 2) (fun _ _ => rfl)) rfl) (pv 1) (nomark _))))) (pss_one (ps_ret (pe_ix ix_list (pe_fld (pv 0) rfl) (pv 2) (fun _ _ => rfl)))) pss_nil)
      (pss_one (ps_ret pe_non)), ?_⟩
    refine ⟨_, rfl, _, rfl, p, D, dx, _, _, rfl, hp, T.clD, T.nSlips, shf_slips, ls, _, rfl, .inl (SqL.of hL), _, _, rfl, rfl, _, rfl, iteB (fun e => ?_) (fun e => ?_)⟩
    · have hq : q < os.length := by
        have := of_decide_eq_true e
        rw [List.length_map] at this; omega
      obtain ⟨o, ho⟩ : ∃ o, os[q]? = some o := ⟨os[q], List.getElem?_eq_getElem hq⟩
      obtain ⟨sl, hs, hS⟩ := hsl.get' ho
      have hat : atI (os.map fun o => V.ref o.a) (q : Int) = some (V.ref o.a) := atI_nat (by rw [List.getElem?_map, ho]; rfl)
      refine ⟨_, rfl, p, D, dx, _, _, rfl, hp, T.clD, T.nSlips, shf_slips, _, rfl, ls, _, _, _, rfl, rfl, SqL.of hL, hat, o.a, C, o.dx, _, _, rfl, hS.ob, T.clC, T.nAsked, sf_asked, _, rfl, _, _, rfl, rfl, _, rfl, iteB (fun e2 => ?_) (fun e2 => ?_)⟩
      · refine ⟨_, rfl, p, D, dx, _, _, rfl, hp, T.clD, T.nSlips, shf_slips, _, rfl, ls, _, _, _, rfl, rfl, SqL.of hL, hat, ?_⟩
        exact qs o sl ho hs (by have := of_decide_eq_true e2; omega)
      · refine qn ?_
        unfold SL.knownM
        rw [hs]
        show (if sl.asked ≤ k then _ else _) = _
        rw [if_neg (by have := of_decide_eq_false e2; omega)]
    · refine iteF (qn ?_)
      have hq : S.slips.length ≤ q := by
        have := of_decide_eq_false e
        rw [List.length_map, hsl.len] at this; omega
      unfold SL.knownM
      rw [List.getElem?_eq_none hq]
theorem scServe : FnScope ["self", "day", "kept", "served", "slip", "f"] ["self", "day"] (defScope sServe) := ⟨rfl, rfl, rfl, by decide +kernel, rfl, by decide +kernel, by decide +kernel⟩
theorem set_self {α : Type} : ∀ {l : List α} {i : Nat} {x : α}, l[i]? = some x → l.set i x = l
  | [], i, x, h => by simp at h
  | a :: l, 0, x, h => by
    have e : a = x := Option.some.inj h
    subst e; rfl
  | a :: l, i + 1, x, h => by
    show a :: l.set i x = a :: l
    rw [set_self (l := l) (i := i) h]
theorem SlipsAt.keep {H H' : Hp} {os : List A1} {l : List SL.PS} {d : Addr} (h : SlipsAt C H os l) (hd : ∀ o ∈ os, o.a ≠ d ∧ o.lf ≠ d ∧ o.dr ≠ d) (k : ∀ b u, H b = some u → b ≠ d → H' b = some u) : SlipsAt C H' os l :=
  ⟨h.len, h.nda, h.ndr, fun i o s h1 h2 => by
    obtain ⟨n1, n2, n3⟩ := hd o (List.mem_of_getElem? h1)
    have q := h.at_ i o s h1 h2
    exact ⟨k _ _ q.ob n1, k _ _ q.fl n2, k _ _ q.rt n3⟩⟩
theorem SlipsAt.fresh {H : Hp} {os : List A1} {l : List SL.PS} {d : Addr} (h : SlipsAt C H os l) (hd : H d = none) : ∀ o ∈ os, o.a ≠ d ∧ o.lf ≠ d ∧ o.dr ≠ d := fun o ho => by
  obtain ⟨i, hi⟩ := List.getElem?_of_mem ho
  obtain ⟨s, hs, q⟩ := h.get' hi
  exact ⟨ne_of_none q.ob hd, ne_of_none q.fl hd, ne_of_none q.rt hd⟩
theorem ok_serve {f : Addr} {fd : FuncData} (F : Fun K "serve" "Shelf.serve" sServe f fd) (T : Txt K mg C D) (O : MtAt P w K mg base D "out" ["self", "k"] 4 (spOut C D)) (W : MtAt P w K mg base C "waits" ["self", "k"] 2 (spWaits C)) (Sh : FnAt P w K mg base "share" ["files", "others"] 1 (spShare K)) :
    FnOk P w K mg base CX0 5 f fd ["self", "day"] (spServe C D) := by
  obtain ⟨fO, fdO, mO, bO, GO⟩ := O
  obtain ⟨fW, fdW, mW, bW, GW⟩ := W
  obtain ⟨fS, fdS, mS, kS', bS, GS⟩ := Sh
  refine F.ok scServe (fun vs H Q E h => ?_) (fun cdv A outer s H vs Q E hr h => ?_)
  · obtain ⟨p, ls, os, S, d, rfl, _⟩ := h
    rfl
  · obtain ⟨p, ls, os, S, d, rfl, A0, h64, h8, q⟩ := h
    obtain ⟨dx, hp⟩ := A0.ob
    have hL := A0.lst
    have hsl := A0.sl
    have hr2 : Room 2 _ := hr.mono (by decide)
    have hr1 : Room 1 _ := hr.mono (by decide)
    refine ⟨_, pss_cons (ps_set (i := 2) scServe.nd rfl (Or.inl rfl) (pe_meth (pv 0) T.clD mO GO hr bO .nil pass0 (pa_cons (pv 1) pa_nil)))
      (pss_cons (ps_set (i := 3) scServe.nd rfl (Or.inl rfl) pe_int)
      (pss_cons (ps_for PassesOwn.never rfl (pi_list (pe_fld (pv 0) rfl)) (pg_name (i := 4) scServe.nd rfl (Or.inl rfl))
        (pss_one (ps_if (pt_val (pe_meth (pv 4) T.clC mW GW hr2 bW .nil pass0 (pa_cons (pv 1) pa_nil)))
          (pss_cons (ps_if (pt_not (pt_val (pe_call GS hr1 rfl mS kS' bS .nil pass0 (pa_cons (pe_fld (pv 4) rfl) (pa_cons (pv 2) pa_nil))))) (pss_cons (ps_fld (pv 4) (pv 1) rfl) (pss_one (ps_aug (i := 3) scServe.nd rfl (Or.inl rfl) pe_int ip_add))) pss_nil)
            (pss_one (ps_for PassesOwn.never rfl (pi_list (pe_fld (pv 4) rfl)) (pg_name (i := 5) scServe.nd rfl (Or.inl rfl)) (pss_one (ps_dput (hu_of hr) (pv 2) (pv 5) (pv 4) rfl)))))
          pss_nil)))
      (pss_one (ps_ret (pv 3))))), ?_⟩
    refine ⟨_, rfl, p, dx, _, rfl, hp, shf_no (by decide +kernel), _, rfl, p, ls, os, S, d, rfl, A0, h64, h8, fun dk H0 hdk s0 hk0 => ?_⟩
    have fresh := hsl.fresh hdk
    have npk : p ≠ dk := ne_of_none hp hdk
    have nlk : ls ≠ dk := ne_of_none hL hdk
    have npo : ∀ o ∈ os, p ≠ o.a := fun o ho => by
      obtain ⟨i, hi⟩ := List.getElem?_of_mem ho
      obtain ⟨sl, _, hS⟩ := hsl.get' hi
      exact (ins_ne hS.ob hp).symm
    have nlo : ∀ o ∈ os, ls ≠ o.a := fun o ho => by
      obtain ⟨i, hi⟩ := List.getElem?_of_mem ho
      obtain ⟨sl, _, hS⟩ := hsl.get' hi
      exact ne_of hL hS.ob (by intro z; cases z)
    have klen : (mergeK [] (outL d os S.slips)).length ≤ 512 := by
      refine Nat.le_trans (length_mergeK _ _) ?_
      have e1 := outP_len d hsl.len h8
      unfold outL
      rw [List.length_map]
      show 0 + _ ≤ _
      omega
    refine ⟨_, rfl, p, D, dx, _, _, rfl, s0 _ _ hp, T.clD, T.nSlips, shf_slips, ls, rfl, ⟨_, SqL.of (s0 _ _ hL)⟩, for_list (K := K) (a := ls) (xs := os.map fun o => V.ref o.a)
      (fun i σ H' => ∃ (v4 v5 : Option V) (kvs : List (Key × V)), σ = [some (.ref p), some (.int (d : Int)), some (.ref dk), some (.int ((SL.countP d (SL.outF d S.slips) (S.slips.take i) : Nat) : Int)), v4, v5] ∧
        (∀ b u, H b = some u → (∀ o ∈ os, b ≠ o.a) → H' b = some u) ∧ SlipsAt C H' os (SL.midP d (SL.outF d S.slips) S.slips i) ∧ H' dk = some (.dK kvs) ∧
        (∀ g : Nat, (valV kvs (Sum.inl (g : Int) : Key)).isSome = (SL.keptP d (SL.outF d S.slips) (S.slips.take i)).contains g) ∧ kvs.length ≤ 512 + 8 * i)
      ⟨none, none, _, rfl, fun b u e _ => s0 b u e, by rw [SL.mid_zero]; exact hsl.same s0, hk0, fun g => out_some d hsl.len g, klen⟩ (fun i σ H' _ ⟨_, _, _, _, k1, _⟩ => SqL.of (k1 _ _ hL nlo)) ?_ ?_⟩
    · rintro i x σ H' hi ⟨v4, v5, kvs, rfl, k1, sl1, hk1, hm1, hz1⟩
      obtain ⟨o, ho, rfl⟩ := refs_get hi
      have hi64 : i < 64 := by
        have := (List.getElem?_eq_some_iff.mp ho).1
        rw [hsl.len] at this; omega
      obtain ⟨sl, hs, _⟩ := hsl.get' ho
      have hS := sl1.at_ i o sl ho (SL.mid_at hs)
      have h8' : sl.files.length ≤ 8 := h8 sl (List.mem_of_getElem? hs)
      refine ⟨_, rfl, o.a, o.dx, _, rfl, hS.ob, sf_no (by decide +kernel), _, rfl, o, i, sl, d, rfl, hS, _, rfl, iteB (fun e => ?_) (fun e => ?_)⟩
      · -- it waits
        -- the loop that keeps its files, whatever was done before
        have tail : ∀ (c : Nat) (H2 : Hp), SL.countP d (SL.outF d S.slips) (S.slips.take (i + 1)) = c → (∀ b u, H b = some u → (∀ o ∈ os, b ≠ o.a) → H2 b = some u) →
            SlipsAt C H2 os (SL.midP d (SL.outF d S.slips) S.slips (i + 1)) → H2 dk = some (.dK kvs) → ∀ s2, SlAt C H2 o i s2 → s2.files = sl.files →
            tFor (iList K (tFld K (tVar 4) "files")) (gName 5) (sDPut (tVar 2) (tVar 5) (tVar 4))
              { nx := fun σ H' => ∃ (v4 v5 : Option V) (kvs : List (Key × V)), σ = [some (.ref p), some (.int (d : Int)), some (.ref dk), some (.int ((SL.countP d (SL.outF d S.slips) (S.slips.take (i + 1)) : Nat) : Int)), v4, v5] ∧
                  (∀ b u, H b = some u → (∀ o ∈ os, b ≠ o.a) → H' b = some u) ∧ SlipsAt C H' os (SL.midP d (SL.outF d S.slips) S.slips (i + 1)) ∧ H' dk = some (.dK kvs) ∧
                  (∀ g : Nat, (valV kvs (Sum.inl (g : Int) : Key)).isSome = (SL.keptP d (SL.outF d S.slips) (S.slips.take (i + 1))).contains g) ∧ kvs.length ≤ 512 + 8 * (i + 1),
                rt := Q,
                bk := fun σ H' => tRet (tVar 3) { nx := fun _ H' => Q .non H', rt := Q } σ H',
                ct := fun σ H' => ∃ (v4 v5 : Option V) (kvs : List (Key × V)), σ = [some (.ref p), some (.int (d : Int)), some (.ref dk), some (.int ((SL.countP d (SL.outF d S.slips) (S.slips.take (i + 1)) : Nat) : Int)), v4, v5] ∧
                  (∀ b u, H b = some u → (∀ o ∈ os, b ≠ o.a) → H' b = some u) ∧ SlipsAt C H' os (SL.midP d (SL.outF d S.slips) S.slips (i + 1)) ∧ H' dk = some (.dK kvs) ∧
                  (∀ g : Nat, (valV kvs (Sum.inl (g : Int) : Key)).isSome = (SL.keptP d (SL.outF d S.slips) (S.slips.take (i + 1))).contains g) ∧ kvs.length ≤ 512 + 8 * (i + 1) }
              [some (.ref p), some (.int (d : Int)), some (.ref dk), some (.int ((c : Nat) : Int)), some (.ref o.a), v5] H2 := by
          intro c H2 ec k2 sl2 hk2 s2 hS2 ef
          have hfl : H2 o.lf = some (.lst (nV sl.files)) := by rw [hS2.fl, ef]
          refine ⟨_, rfl, o.a, C, o.dx, _, _, rfl, hS2.ob, T.clC, T.nFiles, sf_files, o.lf, rfl, ⟨_, SqL.of hfl⟩, for_list (K := K) (a := o.lf) (xs := nV sl.files)
            (fun j σ H3 => ∃ (v5 : Option V) (kv3 : List (Key × V)), σ = [some (.ref p), some (.int (d : Int)), some (.ref dk), some (.int ((c : Nat) : Int)), some (.ref o.a), v5] ∧
              (∀ b u, H2 b = some u → b ≠ dk → H3 b = some u) ∧ H3 dk = some (.dK kv3) ∧
              (∀ g : Nat, (valV kv3 (Sum.inl (g : Int) : Key)).isSome = ((sl.files.take j).contains g || (SL.keptP d (SL.outF d S.slips) (S.slips.take i)).contains g)) ∧ kv3.length ≤ 512 + 8 * i + j)
            ⟨v5, kvs, rfl, fun b u e _ => e, hk2, fun g => (by rw [hm1, List.take_zero]; rfl), hz1⟩ (fun j σ H3 _ ⟨_, _, _, k3, _⟩ => SqL.of (k3 _ _ hfl (fresh o (List.mem_of_getElem? ho)).2.1)) ?_ ?_⟩
          · rintro j x σ H3 hj ⟨v5, kv3, rfl, k3, hk3, hm3, hz3⟩
            obtain ⟨g, hg, rfl⟩ := nV_get hj
            have hj8 : j < 8 := Nat.lt_of_lt_of_le (List.getElem?_eq_some_iff.mp hg).1 h8'
            refine ⟨_, rfl, _, rfl, _, rfl, dk, _, rfl, DPut.k (k := Sum.inl (g : Int)) hk3 (small9 (by omega) : kv3.length < sizeLine), ?_⟩
            refine ⟨_, _, rfl, fun b u e hb => by rw [upd_ne hb]; exact k3 b u e hb, upd_same, fun g' => ?_, ?_⟩
            · rw [valV_put, SL.take_snoc hg, List.contains_eq_any_beq, List.any_append, ← List.contains_eq_any_beq]
              by_cases c : g' = g
              · subst c
                rw [if_pos rfl]; simp
              · rw [if_neg (fun z => c (by have := Sum.inl.inj z; omega)), hm3]
                have : ([g].any fun x => g' == x) = false := by
                  show ((g' == g) || false) = false
                  rw [beq_eq_false_iff_ne.mpr c]; rfl
                rw [this, Bool.or_false]
            · refine Nat.le_trans (length_putK _ _ _) ?_
              omega
          · rintro σ H3 ⟨v5, kv3, rfl, k3, hk3, hm3, hz3⟩
            rw [nV_len] at hm3 hz3
            rw [List.take_length] at hm3
            refine ⟨_, _, kv3, by rw [ec], fun b u e hb => ?_, sl2.keep fresh k3, hk3, fun g => ?_, by omega⟩
            · exact k3 b u (k2 b u e hb) (ne_of_none e hdk)
            · rw [hm3, SL.kept_next hs, if_pos e, List.contains_eq_any_beq, List.contains_eq_any_beq, List.contains_eq_any_beq, List.any_append]
        refine ⟨_, rfl, o.a, C, o.dx, _, _, rfl, hS.ob, T.clC, T.nFiles, sf_files, _, rfl, o.lf, dk, sl.files, fun g => (SL.keptP d (SL.outF d S.slips) (S.slips.take i)).contains g, rfl, SqL.of hS.fl, Nat.le_trans h8' (by decide), .inr ⟨kvs, hk1, fun g => (hm1 g).symm⟩, fun H1 s1 => ?_⟩
        have hS1 := hS.same s1
        have k1' : ∀ b u, H b = some u → (∀ o ∈ os, b ≠ o.a) → H1 b = some u := fun b u e hb => s1 b u (k1 b u e hb)
        refine ⟨_, rfl, iteB (fun e2 => ?_) (fun e2 => ?_)⟩
        · -- it is served
          have ea : (sl.files.any fun g => (SL.keptP d (SL.outF d S.slips) (S.slips.take i)).contains g) = false := by
            cases c : (sl.files.any fun g => (SL.keptP d (SL.outF d S.slips) (S.slips.take i)).contains g) with
            | false => rfl
            | true => rw [c] at e2; cases e2
          have es : SL.serve1 d (SL.keptP d (SL.outF d S.slips) (S.slips.take i)) sl = { sl with served := some d } := by
            unfold SL.serve1
            rw [if_pos e, if_pos ea]
          have ec : SL.countP d (SL.outF d S.slips) (S.slips.take (i + 1)) = SL.countP d (SL.outF d S.slips) (S.slips.take i) + 1 := by
            rw [SL.count_next hs]
            unfold SL.count1
            rw [if_pos e, if_pos ea]
          refine ⟨_, rfl, _, rfl, o.a, C, o.dx, _, rfl, hS1.ob, T.clC, T.nServed, (by show 8 < 1000; decide), ?_⟩
          refine ⟨_, rfl, _, _, rfl, rfl, ?_⟩
          have hS2 : SlAt C (upd H1 o.a (.ins C o.dx (putF "served" (V.int (d : Int)) (sf i sl o.lf o.dr)))) o i { sl with served := some d } := by
            refine ⟨by rw [upd_same, sf_setServed], ?_, ?_⟩
            · rw [upd_ne (ne_of hS1.fl hS1.ob (by intro z; cases z))]; exact hS1.fl
            · rw [upd_ne (ne_of hS1.rt hS1.ob (by intro z; cases z))]; exact hS1.rt
          refine tail _ _ ec (fun b u e' hb => ?_) ?_ ?_ _ hS2 rfl
          · rw [upd_ne (hb o (List.mem_of_getElem? ho))]; exact k1' b u e' hb
          · rw [SL.mid_next hs, es]
            exact (sl1.same s1).write ho hS2 fun b u e' hb _ => by rw [upd_ne hb]; exact e'
          · rw [upd_ne (fresh o (List.mem_of_getElem? ho)).1.symm]; exact s1 _ _ hk1
        · -- it goes on waiting
          have ea : ¬ (sl.files.any fun g => (SL.keptP d (SL.outF d S.slips) (S.slips.take i)).contains g) = false := fun c => by rw [c] at e2; cases e2
          have es : SL.serve1 d (SL.keptP d (SL.outF d S.slips) (S.slips.take i)) sl = sl := by
            unfold SL.serve1
            rw [if_pos e, if_neg ea]
          have ec : SL.countP d (SL.outF d S.slips) (S.slips.take (i + 1)) = SL.countP d (SL.outF d S.slips) (S.slips.take i) := by
            rw [SL.count_next hs]
            unfold SL.count1
            rw [if_pos e, if_neg ea]; rfl
          refine tail _ _ ec k1' ?_ (s1 _ _ hk1) _ hS1 rfl
          rw [SL.mid_next hs, es, set_self (SL.mid_at hs)]
          exact sl1.same s1
      · -- it does not wait
        have es : SL.serve1 d (SL.keptP d (SL.outF d S.slips) (S.slips.take i)) sl = sl := by
          unfold SL.serve1
          rw [if_neg (by rw [e]; exact Bool.false_ne_true)]
        have ec : SL.countP d (SL.outF d S.slips) (S.slips.take (i + 1)) = SL.countP d (SL.outF d S.slips) (S.slips.take i) := by
          rw [SL.count_next hs]
          unfold SL.count1
          rw [if_neg (by rw [e]; exact Bool.false_ne_true)]; rfl
        refine ⟨_, _, kvs, by rw [ec]; rfl, k1, ?_, hk1, fun g => ?_, by omega⟩
        · rw [SL.mid_next hs, es, set_self (SL.mid_at hs)]
          exact sl1
        · rw [hm1, SL.kept_next hs, if_neg (by rw [e]; exact Bool.false_ne_true)]
    · rintro σ H' ⟨v4, v5, kvs, rfl, k1, sl1, _⟩
      have el : (os.map fun o => V.ref o.a).length = S.slips.length := by rw [List.length_map, hsl.len]
      rw [el, List.take_length]
      rw [el, SL.mid_end] at sl1
      exact ⟨_, rfl, q H' ⟨⟨dx, k1 _ _ hp npo⟩, k1 _ _ hL nlo, sl1⟩ k1⟩
theorem scEnter : FnScope ["self", "day"] ["self", "day"] (defScope sEnter) := ⟨rfl, rfl, rfl, by decide +kernel, rfl, by decide +kernel, by decide +kernel⟩
theorem ok_enter {f : Addr} {fd : FuncData} (F : Fun K "enter" "Shelf.enter" sEnter f fd) (T : Txt K mg C D) (Sv : MtAt P w K mg base D "serve" ["self", "day"] 5 (spServe C D)) : FnOk P w K mg base CX0 6 f fd ["self", "day"] (spEnter C D) := by
  obtain ⟨fS, fdS, mS, bS, GS⟩ := Sv
  refine F.ok scEnter (fun vs H Q E h => ?_) (fun cdv A outer s H vs Q E hr h => ?_)
  · obtain ⟨p, ls, os, S, d, rfl, _⟩ := h
    rfl
  · obtain ⟨p, ls, os, S, d, rfl, A0, h64, h8, q⟩ := h
    obtain ⟨dx, hp⟩ := A0.ob
    have hL := A0.lst
    have hsl := A0.sl
    refine ⟨_, pss_cons (ps_fldaug (pv 0) pe_int in_add) (pss_cons (ps_fld (pv 0) (pv 1) rfl) (pss_one (ps_ret (pe_meth (pv 0) T.clD mS GS hr bS .nil pass0 (pa_cons (pv 1) pa_nil))))), ?_⟩
    refine ⟨_, rfl, p, D, dx, _, _, rfl, hp, T.clD, T.nEntries, shf_entries, _, _, rfl, rfl, dx, _, hp, (by show 3 < 1000; decide), ?_⟩
    rw [shf_setEntries]
    refine ⟨_, rfl, _, rfl, p, D, dx, _, rfl, upd_same, T.clD, T.nLast, (by show 3 < 1000; decide), ?_⟩
    rw [shf_setLast, upd_upd]
    have ne1 : ∀ b u, H b = some u → b ≠ p → (upd H p (.ins D dx (shf ls ((S.entries : Int) + 1) (d : Int)))) b = some u := fun b u e hb => by rw [upd_ne hb]; exact e
    have npo : ∀ o ∈ os, o.a ≠ p ∧ o.lf ≠ p ∧ o.dr ≠ p := fun o ho => by
      obtain ⟨i, hi⟩ := List.getElem?_of_mem ho
      obtain ⟨sl, _, hS⟩ := hsl.get' hi
      exact ⟨ins_ne hS.ob hp, ne_of hS.fl hp (by intro z; cases z), ne_of hS.rt hp (by intro z; cases z)⟩
    have nlp : ls ≠ p := ne_of hL hp (by intro z; cases z)
    have A1 : ShAt C D (upd H p (.ins D dx (shf ls ((S.entries : Int) + 1) (d : Int)))) p ls os ⟨S.slips, S.entries + 1, d⟩ := ⟨⟨dx, upd_same⟩, ne1 _ _ hL nlp, hsl.keep npo ne1⟩
    refine ⟨_, rfl, p, dx, _, rfl, upd_same, shf_no (by decide +kernel), _, rfl, p, ls, os, ⟨S.slips, S.entries + 1, d⟩, d, rfl, A1, h64, h8, fun H' A2 k2 => ?_⟩
    exact q H' A2 fun b u e hb ho => k2 b u (ne1 b u e hb) ho
end
end SP
end
section
set_option Elab.async false
set_option linter.all false
set_option maxRecDepth 100000
set_option maxHeartbeats 2000000
namespace SP
open PySem PySem.Spec PyProof.Rows L2
/-- over the pairs of a locked dict -/
theorem for_items {d : Addr} {od : Obj} {kvs : List (Key × V)} {g : TG} {tb : TS} {D : Ends} {σ : L2.St} {H : Hp} (Pv : Nat → L2.St → Hp → Prop) (h0 : Pv 0 σ H) (hl : ∀ i σ H, i ≤ kvs.length → Pv i σ H → H d = some (.frz od (.dK kvs)))
    (hs : ∀ i k v T σ H, kvs[i]? = some (k, v) → H T = none → Pv i σ H → g (.ref T) σ (upd H T (.tup [kV k, v])) fun σ2 H2 => tb { D with nx := Pv (i + 1), ct := Pv (i + 1), bk := D.nx } σ2 H2) (hd : ∀ σ H, Pv kvs.length σ H → D.nx σ H) :
    ∃ W : Nat → Nat → L2.St → Hp → Prop, (∃ m, W 0 m σ H) ∧ ∀ i m σ H, W i m σ H →
      ((Iti d od kvs).stop i H ∧ D.nx σ H) ∨ ((Iti d od kvs).go i H ∧ ∃ N : L2.St → Hp → Prop, (∀ σ' H', N σ' H' → ∃ m', m' < m ∧ W (i + 1) m' σ' H') ∧ ∀ x H', (Iti d od kvs).yld i H x H' → g x σ H' fun σ2 H2 => tb { D with nx := N, ct := N, bk := D.nx } σ2 H2) := by
  refine ⟨fun i m σ H => m = kvs.length - i ∧ i ≤ kvs.length ∧ Pv i σ H, ⟨kvs.length, by simp, Nat.zero_le _, h0⟩, ?_⟩
  rintro i m σ H ⟨rfl, hi, p⟩
  have q := hl i σ H hi p
  by_cases hlt : i < kvs.length
  · refine .inr ⟨⟨q, hlt⟩, Pv (i + 1), fun σ' H' p' => ⟨kvs.length - (i + 1), by omega, rfl, hlt, p'⟩, fun x H' y => ?_⟩
    obtain ⟨Tn, k, v, e1, rfl, e2, rfl⟩ := y
    exact hs i k v Tn σ H e1 e2 p
  · have e : i = kvs.length := by omega
    subst e
    exact .inl ⟨⟨q, Nat.le_refl _⟩, hd σ H p⟩
/-! ### From when each file is free -/
def freeOf (x : Nat) (its : List (Nat × (A1 × SL.PS))) (f : Nat) : Nat := match its.find? fun t => t.1 == f with
  | some t => max t.2.2.due x
  | none => x
theorem freeOf_snoc {x : Nat} {its : List (Nat × (A1 × SL.PS))} {t : Nat × (A1 × SL.PS)} (hn : ¬ t.1 ∈ its.map (·.1)) (f : Nat) : freeOf x (its ++ [t]) f = if f = t.1 then max t.2.2.due x else freeOf x its f := by
  unfold freeOf
  rw [List.find?_append]
  by_cases c : f = t.1
  · subst c
    have e : (its.find? fun u => u.1 == t.1) = none := by
      rw [List.find?_eq_none]
      intro u hu z
      exact hn (List.mem_map.mpr ⟨u, hu, eq_of_beq z⟩)
    rw [e, if_pos rfl, Option.none_or, List.find?_cons, beq_self_eq_true]
  · have e : ([t].find? fun u => u.1 == f) = none := by
      rw [List.find?_cons, beq_eq_false_iff_ne.mpr (fun z => c z.symm)]; rfl
    rw [e, if_neg c, Option.or_none]
theorem find_held (f : Nat) (y : A1 × SL.PS) : ∀ l : List Nat, ((l.map fun g => (g, y)).find? fun t => t.1 == f) = if l.contains f = true then some (f, y) else none
  | [] => rfl
  | g :: l => by
    rw [List.map_cons, List.find?_cons, List.contains_cons]
    by_cases c : g = f
    · subst c
      rw [beq_self_eq_true]; rfl
    · rw [beq_eq_false_iff_ne.mpr c, beq_eq_false_iff_ne.mpr (fun z => c z.symm), Bool.false_or]
      exact find_held f y l
theorem outP_find (k f : Nat) : ∀ (os : List A1) (l : List SL.PS), os.length = l.length → ((outP k os l).find? fun t => t.1 == f).map (fun t => t.2.2) = l.find? fun s => (s.held k).contains f
  | [], [], _ => rfl
  | [], _ :: _, h => by cases h
  | _ :: _, [], h => by cases h
  | o :: os, s :: l, h => by
    have ih := outP_find k f os l (Nat.succ.inj h)
    unfold outP at ih ⊢
    rw [List.zip_cons_cons, List.flatMap_cons, List.find?_append, find_held, List.find?_cons]
    cases c : (s.held k).contains f with
    | true => rfl
    | false =>
      rw [if_neg Bool.false_ne_true, Option.none_or]
      exact ih
theorem freeOf_is {S : SL.Sh} {os : List A1} (k x f : Nat) (h : os.length = S.slips.length) : freeOf x (outP k os S.slips) f = SL.freeM S k x f := by
  have e := outP_find k f os S.slips h
  unfold freeOf SL.freeM
  rw [← e]
  cases ((outP k os S.slips).find? fun t => t.1 == f) <;> rfl
theorem outP_mem {k : Nat} {os : List A1} {l : List SL.PS} {t : Nat × (A1 × SL.PS)} (h : t ∈ outP k os l) : t.1 ∈ t.2.2.held k ∧ ∃ i : Nat, os[i]? = some t.2.1 ∧ l[i]? = some t.2.2 := by
  obtain ⟨y, hy, hf⟩ := List.mem_flatMap.mp h
  obtain ⟨f, h1, rfl⟩ := List.mem_map.mp hf
  refine ⟨h1, ?_⟩
  obtain ⟨i, hi⟩ := List.getElem?_of_mem hy
  rw [List.getElem?_zip_eq_some] at hi
  exact ⟨i, hi.1, hi.2⟩
theorem due_is {s : SL.PS} {k f : Nat} (h : f ∈ s.held k) : SL.oI s.served + (s.days : Int) = ((s.due : Nat) : Int) := by
  obtain ⟨d, e, _⟩ := SL.served_some (SL.held_served h)
  unfold SL.PS.due
  rw [e]
  show (d : Int) + (s.days : Int) = ((d + s.days : Nat) : Int)
  omega
theorem max_is (a b : Nat) : (if (b : Int) > (a : Int) then (b : Int) else (a : Int)) = ((max a b : Nat) : Int) := by
  by_cases h : (b : Int) > (a : Int)
  · rw [if_pos h, Nat.max_eq_right (by omega)]
  · rw [if_neg h, Nat.max_eq_left (by omega)]
theorem mx_is {a : Nat → Nat} {l : List Nat} {m : Int} (h1 : m ∈ l.map fun f => ((a f : Nat) : Int)) (h2 : ∀ y, (y ∈ l.map fun f => ((a f : Nat) : Int)) → y ≤ m) : m = ((SL.mx a l : Nat) : Int) := by
  obtain ⟨f, hf, rfl⟩ := List.mem_map.mp h1
  have g1 : a f ≤ SL.mx a l := SL.mx_ge hf
  have g2 : SL.mx a l ≤ a f := SL.mx_le fun g hg => by
    have := h2 _ (List.mem_map.mpr ⟨g, hg, rfl⟩)
    omega
  omega
theorem cut_take (xs : List V) (q : Nat) : cutV xs none (some ((q : Int) + 1)) = xs.take (q + 1) := by
  unfold cutV
  rw [HT.sIx_none, show ((q : Int) + 1) = ((q + 1 : Nat) : Int) by omega, HT.sIx_nat, List.drop_zero, Nat.sub_zero]
  by_cases h : q + 1 ≤ xs.length
  · rw [Nat.min_eq_left h]
  · rw [Nat.min_eq_right (by omega), List.take_length, List.take_of_length_le (by omega)]
theorem cut_mid (xs : List V) (a n : Nat) (h : a + n ≤ xs.length) : cutV xs (some (a : Int)) (some ((a : Int) + (n : Int))) = (xs.drop a).take n := by
  unfold cutV
  rw [show ((a : Int) + (n : Int)) = ((a + n : Nat) : Int) by omega, HT.sIx_nat, HT.sIx_nat, Nat.min_eq_left h, Nat.min_eq_left (show a ≤ xs.length by omega), Nat.add_sub_cancel_left]
theorem cut_drop (xs : List V) (n : Nat) (h : n ≤ xs.length) : cutV xs (some (n : Int)) none = xs.drop n := by
  unfold cutV
  rw [HT.sIx_none, HT.sIx_nat, Nat.min_eq_left h, List.take_of_length_le (by rw [List.length_drop]; exact Nat.le_refl _)]
def spLatest (C D : Addr) : Sp := fun vs H Q _ => ∃ (p ls : Addr) (os : List A1) (S : SL.Sh) (k q x : Nat), vs = [.ref p, .int (k : Int), .int (q : Int), .int (x : Int)] ∧ ShAt C D H p ls os S ∧ SL.Wf S ∧
  ∀ H' : Hp, Same H H' → Q (.int ((SL.whenM S k q x : Nat) : Int)) H'
section
variable {P : Program} {w : World} {K : PySem.W.Frag} {mg : Str → Option Value} {base : Heap} {C D : Addr}
theorem scLatest : FnScope ["self", "k", "q", "x", "free", "f", "holder", "day", "slip"] ["self", "k", "q", "x"] (defScope sLatest) := ⟨rfl, rfl, rfl, by decide +kernel, rfl, by decide +kernel, by decide +kernel⟩
theorem ok_latest {f : Addr} {fd : FuncData} (F : Fun K "latest" "Shelf.latest" sLatest f fd) (T : Txt K mg C D) (O : MtAt P w K mg base D "out" ["self", "k"] 4 (spOut C D)) (W : MtAt P w K mg base C "waits" ["self", "k"] 2 (spWaits C)) (Du : MtAt P w K mg base C "due" ["self"] 1 (spDue C)) :
    FnOk P w K mg base CX0 5 f fd ["self", "k", "q", "x"] (spLatest C D) := by
  obtain ⟨fO, fdO, mO, bO, GO⟩ := O
  obtain ⟨fW, fdW, mW, bW, GW⟩ := W
  obtain ⟨fU, fdU, mU, bU, GU⟩ := Du
  refine F.ok scLatest (fun vs H Q E h => ?_) (fun cdv A outer s H vs Q E hr h => ?_)
  · obtain ⟨p, ls, os, S, k, q, x, rfl, _⟩ := h
    rfl
  · obtain ⟨p, ls, os, S, k, q, x, rfl, A0, wf, qq⟩ := h
    obtain ⟨dx, hp⟩ := A0.ob
    have hL := A0.lst
    have hsl := A0.sl
    have hr2 : Room 2 _ := hr.mono (by decide)
    have hr1 : Room 1 _ := hr.mono (by decide)
    refine ⟨_, pss_cons (ps_set (i := 4) scLatest.nd rfl (Or.inr rfl) pe_dnewK)
      (pss_cons (ps_for PassesOwn.never rfl (pi_items (pe_frz (pe_meth (pv 0) T.clD mO GO hr bO .nil pass0 (pa_cons (pv 1) pa_nil)))) (pg_tup rfl (pgs_cons (pg_name (i := 5) scLatest.nd rfl (Or.inl rfl)) (pgs_cons (pg_name (i := 6) scLatest.nd rfl (Or.inl rfl)) pgs_nil)))
        (pss_one (ps_dput (hu_of hr) (pv 4) (pv 5) (pe_callB (call_max2 rfl) rfl T.bMax PyProof.Rows.boot_max (pa_cons (pe_meth0 (pv 6) T.clC mU GU hr1 bU .nil pass0) (pa_cons (pv 3) pa_nil))) rfl)))
      (pss_cons (ps_set (i := 7) scLatest.nd rfl (Or.inl rfl) (pv 3))
      (pss_cons (ps_for PassesOwn.never rfl (pi_list (pe_slice sl_list (pe_fld (pv 0) rfl) po_none (po_some (pe_op op_add (pv 2) pe_int)))) (pg_name (i := 8) scLatest.nd rfl (Or.inl rfl))
        (pss_one (ps_if (pt_val (pe_meth (pv 8) T.clC mW GW hr2 bW .nil pass0 (pa_cons (pv 1) pa_nil)))
          (pss_cons (ps_set (i := 7) scLatest.nd rfl (Or.inl rfl) (pe_callB (cr_max rfl) rfl T.bMax PyProof.Rows.boot_max (pa_cons (pe_lc (own := [("f", 5)]) rfl scLatest.nd (pi_list (pe_fld (pv 8) rfl)) (blk (N := ["self", "k", "q", "x", "free", "f", "holder", "day", "slip"]) (sc := defScope sLatest) rfl rfl (by decide +kernel)) (fun _ _ _ _ _ => pg_name (i := 5) scLatest.nd rfl (Or.inl rfl))
              (fun _ _ _ _ _ => pts_nil) (fun _ _ _ _ _ => pe_dget2 (hu_of hr) (pv 4) (pv 5) (pv 3) ⟨rfl, rfl, rfl, rfl⟩)) pa_nil)))
            (pss_one (ps_for PassesOwn.never rfl (pi_list (pe_fld (pv 8) rfl)) (pg_name (i := 5) scLatest.nd rfl (Or.inl rfl)) (pss_one (ps_dput (hu_of hr) (pv 4) (pv 5) (pe_op op_add (pv 7) (pe_fld (pv 8) rfl)) rfl)))))
          pss_nil)))
      (pss_one (ps_ret (pv 7)))))), ?_⟩
    intro fr hfr
    have s0 : Same H (upd H fr (.dK [])) := same_upd hfr
    have A1' := A0.same s0
    refine ⟨_, rfl, p, dx, _, rfl, s0 _ _ hp, shf_no (by decide +kernel), _, rfl, p, ls, os, S, k, rfl, A1', wf.few, wf.le, fun d H1 hd s1 hd1 => ?_⟩
    rw [out_is k hsl.len (wf.out k)] at hd1
    refine ⟨d, _, rfl, hd1, trivial, fun od => ?_⟩
    have hdH : H d = none := s0.free hd
    have nfd : fr ≠ d := ne_of_none (upd_same (H := H) (a := fr) (o := .dK [])) hd
    have sF : Same H (upd H1 d (.frz od (.dK (outL k os S.slips)))) := same_put hdH (s0.trans s1)
    have nds : ((outP k os S.slips).map (·.1)).Nodup := by rw [outP_fst k os S.slips hsl.len]; exact wf.out k
    have len512 : (outP k os S.slips).length ≤ 512 := by
      have := outP_len k hsl.len wf.le
      have := wf.few
      omega
    refine ⟨d, od, _, rfl, upd_same, for_items (Pv := fun i σ H' => ∃ (v5 v6 : Option V) (kvf : List (Key × V)), σ = [some (.ref p), some (.int (k : Int)), some (.int (q : Int)), some (.int (x : Int)), some (.ref fr), v5, v6, none, none] ∧
        Same H H' ∧ H' d = some (.frz od (.dK (outL k os S.slips))) ∧ H' fr = some (.dK kvf) ∧ kvf.length ≤ i ∧ ∀ g : Nat, (valV kvf (Sum.inl (g : Int) : Key)).getD (V.int (x : Int)) = V.int ((freeOf x ((outP k os S.slips).take i) g : Nat) : Int))
      ⟨none, none, [], rfl, sF, upd_same, by rw [upd_ne nfd]; exact s1 _ _ upd_same, Nat.le_refl 0, fun g => rfl⟩ (fun i σ H' _ ⟨_, _, _, _, _, h2, _⟩ => h2) ?_ ?_⟩
    · rintro i kk v Tn σ H' hi hT ⟨v5, v6, kvf, rfl, s2, hd2, hf2, hz2, hg2⟩
      obtain ⟨t, ht, et⟩ : ∃ t, (outP k os S.slips)[i]? = some t ∧ (kk, v) = oK t := by
        unfold outL at hi
        rw [List.getElem?_map] at hi
        cases e : (outP k os S.slips)[i]? with
        | none => rw [e] at hi; cases hi
        | some t => rw [e] at hi; exact ⟨t, rfl, (Option.some.inj hi).symm⟩
      have e1 : kk = (Sum.inl (t.1 : Int) : Key) := congrArg Prod.fst et
      have e2 : v = V.ref t.2.1.a := congrArg Prod.snd et
      subst e1 e2
      obtain ⟨hheld, j, hj1, hj2⟩ := outP_mem (List.mem_of_getElem? ht)
      have hS := (hsl.at_ j _ _ hj1 hj2).same s2
      have sT : Same H' (upd H' Tn (.tup [kV (Sum.inl (t.1 : Int)), V.ref t.2.1.a])) := same_upd hT
      have hS' := hS.same sT
      have hi512 : i < 512 := Nat.lt_of_lt_of_le (List.getElem?_eq_some_iff.mp ht).1 len512
      have hf3 := sT _ _ hf2
      refine ⟨Tn, _, rfl, SqT.of upd_same, rfl, _, _, rfl, _, _, rfl, rfl, ?_⟩
      refine ⟨_, rfl, t.2.1.a, t.2.1.dx, _, rfl, hS'.ob, sf_no (by decide +kernel), t.2.1, j, t.2.2, rfl, hS', _, rfl, _, _, rfl, _, rfl, _, rfl, fr, _, rfl, DPut.k (k := Sum.inl (t.1 : Int)) hf3 (small9 (by omega) : kvf.length < sizeLine), ?_⟩
      have sn : (outP k os S.slips).take (i + 1) = (outP k os S.slips).take i ++ [t] := SL.take_snoc ht
      have hn : ¬ t.1 ∈ ((outP k os S.slips).take i).map (·.1) := fun z => by
        have e3 : (((outP k os S.slips).take (i + 1)).map (·.1)).Nodup := by
          rw [List.map_take]
          exact nds.sublist (List.take_sublist _ _)
        rw [sn, List.map_append] at e3
        exact (List.pairwise_append.mp e3).2.2 t.1 z t.1 List.mem_cons_self rfl
      refine ⟨_, _, _, rfl, same_put hfr (s2.trans sT), ?_, upd_same, Nat.le_trans (length_putK _ _ _) (by omega), fun g => ?_⟩
      · rw [upd_ne nfd.symm]; exact sT _ _ hd2
      · rw [valV_put, sn, freeOf_snoc hn]
        by_cases c : g = t.1
        · subst c
          rw [if_pos rfl, if_pos rfl, due_is hheld, max_is]; rfl
        · rw [if_neg (fun z => c (by have := Sum.inl.inj z; omega)), if_neg c]
          exact hg2 g
    · rintro σ H2 ⟨v5, v6, kvf, rfl, s2, hd2, hf2, hz2, hg2⟩
      have el : (outL k os S.slips).length = (outP k os S.slips).length := List.length_map _
      rw [el] at hz2 hg2
      rw [List.take_length] at hg2
      refine ⟨_, rfl, ?_⟩
      refine ⟨_, rfl, p, D, dx, _, _, rfl, s2 _ _ hp, T.clD, T.nSlips, shf_slips, _, rfl, _, _, rfl, rfl, _, rfl, ls, _, rfl, SqL.of (s2 _ _ hL), fun pl hpl => ?_⟩
      rw [cut_take, ← List.map_take]
      have npf : fr ≠ pl := ne_of_none hf2 hpl
      have hplH : H pl = none := s2.free hpl
      refine ⟨pl, rfl, ⟨_, SqL.of upd_same⟩, for_list (K := K) (a := pl) (xs := (os.take (q + 1)).map fun o => V.ref o.a)
        (fun i σ H' => ∃ (v5 v6 v8 : Option V) (day : Nat) (a : Nat → Nat) (kv : List (Key × V)), σ = [some (.ref p), some (.int (k : Int)), some (.int (q : Int)), some (.int (x : Int)), some (.ref fr), v5, v6, some (.int (day : Int)), v8] ∧
          Same H H' ∧ H' pl = some (.lst ((os.take (q + 1)).map fun o => V.ref o.a)) ∧ H' fr = some (.dK kv) ∧ kv.length ≤ 512 + 8 * i ∧ (∀ g : Nat, (valV kv (Sum.inl (g : Int) : Key)).getD (V.int (x : Int)) = V.int ((a g : Nat) : Int)) ∧
          SL.whenM S k q x = SL.latM k a day ((S.slips.take (q + 1)).drop i))
        ⟨v5, v6, none, x, SL.freeM S k x, kvf, rfl, same_put hplH s2, upd_same, by rw [upd_ne npf]; exact hf2, Nat.le_trans hz2 len512, fun g => by rw [hg2, freeOf_is k x g hsl.len], rfl⟩ (fun i σ H' _ ⟨_, _, _, _, _, _, _, _, h2, _⟩ => SqL.of h2) ?_ ?_⟩
      · rintro i y σ H' hi ⟨v5, v6, v8, day, a, kv, rfl, s3, hp3, hf3, hz3, hg3, hw3⟩
        obtain ⟨o, ho', rfl⟩ := refs_get hi
        have hiq : i < q + 1 := by
          have := (List.getElem?_eq_some_iff.mp ho').1
          rw [List.length_take] at this
          omega
        have ho : os[i]? = some o := by rw [List.getElem?_take_of_lt hiq] at ho'; exact ho'
        obtain ⟨sl, hs, hS0⟩ := hsl.get' ho
        have hs' : (S.slips.take (q + 1))[i]? = some sl := by rw [List.getElem?_take_of_lt hiq]; exact hs
        have hS := hS0.same s3
        have h8' : sl.files.length ≤ 8 := wf.le sl (List.mem_of_getElem? hs)
        have hi64 : i < 64 := by
          have := (List.getElem?_eq_some_iff.mp hs).1
          have := wf.few
          omega
        rw [SL.drop_at hs'] at hw3
        refine ⟨_, rfl, o.a, o.dx, _, rfl, hS.ob, sf_no (by decide +kernel), _, rfl, o, i, sl, k, rfl, hS, _, rfl, iteB (fun e => ?_) (fun e => ?_)⟩
        · have hw4 : SL.whenM S k q x = SL.latM k (SL.advM k a sl) (SL.mx a sl.files) ((S.slips.take (q + 1)).drop (i + 1)) := by
            rw [hw3]
            show (if sl.waits k = true then _ else _) = _
            rw [if_pos e]
          refine ⟨_, rfl, o.a, C, o.dx, _, _, rfl, hS.ob, T.clC, T.nFiles, sf_files, o.lf, rfl, ⟨_, SqL.of hS.fl⟩, fun Dn hD => lc_list (K := K) (a := o.lf) (xs := nV sl.files)
            (fun j H4 => Same H' H4 ∧ H4 Dn = some (.lst (((sl.files.take j).map fun g => ((a g : Nat) : Int)).map V.int))) ⟨same_upd hD, upd_same⟩ (fun j H4 _ ⟨s4, _⟩ => SqL.of (s4 _ _ hS.fl)) ?_ ?_⟩
          · rintro j y H4 hj ⟨s4, hd4⟩
            obtain ⟨g, hg, rfl⟩ := nV_get hj
            have hf4 := s4 _ _ hf3
            refine ⟨rfl, tyes ⟨_, rfl, fr, rfl, .inl ⟨_, .inl hf4⟩, _, rfl, _, rfl, _, DGet.k (k := Sum.inl (g : Int)) hf4, _, hd4, ?_, same_put hD s4, ?_⟩⟩
            · rw [List.length_map, List.length_map, List.length_take]
              exact small9 (by omega)
            · rw [upd_same, hg3, SL.take_snoc hg, List.map_append, List.map_append]; rfl
          · rintro H4 ⟨s4, hd4⟩
            rw [nV_len, List.take_length] at hd4
            have hne : 0 < (sl.files.map fun g => ((a g : Nat) : Int)).length := by
              rw [List.length_map]
              have := wf.ne sl (List.mem_of_getElem? hs)
              cases e2 : sl.files with
              | nil => exact absurd e2 this
              | cons _ _ => exact Nat.succ_pos _
            refine ⟨Dn, _, rfl, SqL.of hd4, hne, fun m hm1 hm2 => ?_⟩
            have em := mx_is hm1 hm2
            subst em
            have s5 := s3.trans s4
            have hS4 := hS.same s4
            have hf4 := s4 _ _ hf3
            have hp4 := s4 _ _ hp3
            refine ⟨_, rfl, o.a, C, o.dx, _, _, rfl, hS4.ob, T.clC, T.nFiles, sf_files, o.lf, rfl, ⟨_, SqL.of hS4.fl⟩, for_list (K := K) (a := o.lf) (xs := nV sl.files)
              (fun j σ H5 => ∃ (v5 : Option V) (kv5 : List (Key × V)), σ = [some (.ref p), some (.int (k : Int)), some (.int (q : Int)), some (.int (x : Int)), some (.ref fr), v5, v6, some (.int ((SL.mx a sl.files : Nat) : Int)), some (.ref o.a)] ∧
                Same H H5 ∧ H5 pl = some (.lst ((os.take (q + 1)).map fun o => V.ref o.a)) ∧ H5 fr = some (.dK kv5) ∧ kv5.length ≤ 512 + 8 * i + j ∧
                ∀ g : Nat, (valV kv5 (Sum.inl (g : Int) : Key)).getD (V.int (x : Int)) = V.int (((if g ∈ sl.files.take j then SL.mx a sl.files + sl.days else a g) : Nat) : Int))
              ⟨v5, kv, rfl, s5, hp4, hf4, hz3, fun g => by rw [List.take_zero, if_neg List.not_mem_nil]; exact hg3 g⟩ (fun j σ H5 _ ⟨_, _, _, s6, _⟩ => SqL.of (s6 _ _ hS0.fl)) ?_ ?_⟩
            · rintro j y σ H5 hj ⟨v5, kv5, rfl, s6, hp6, hf6, hz6, hg6⟩
              obtain ⟨g, hg, rfl⟩ := nV_get hj
              have hj8 : j < 8 := Nat.lt_of_lt_of_le (List.getElem?_eq_some_iff.mp hg).1 h8'
              have hS6 := hS0.same s6
              refine ⟨_, rfl, _, rfl, o.a, C, o.dx, _, _, rfl, hS6.ob, T.clC, T.nDays, sf_days, _, _, rfl, rfl, _, rfl, _, rfl, fr, _, rfl, DPut.k (k := Sum.inl (g : Int)) hf6 (small9 (by omega) : kv5.length < sizeLine), ?_⟩
              refine ⟨_, _, rfl, same_put hfr s6, ?_, upd_same, Nat.le_trans (length_putK _ _ _) (by omega), fun g' => ?_⟩
              · rw [upd_ne npf.symm]; exact hp6
              · rw [valV_put, SL.take_snoc hg]
                by_cases c : g' = g
                · subst c
                  rw [if_pos rfl, if_pos (List.mem_append_right _ List.mem_cons_self)]
                  show V.int (((SL.mx a sl.files : Nat) : Int) + (sl.days : Int)) = _
                  rw [Int.natCast_add]
                · rw [if_neg (fun z => c (by have := Sum.inl.inj z; omega)), hg6]
                  by_cases c2 : g' ∈ sl.files.take j
                  · rw [if_pos c2, if_pos (List.mem_append_left _ c2)]
                  · rw [if_neg c2, if_neg]
                    intro z
                    rcases List.mem_append.mp z with z | z
                    · exact c2 z
                    · exact c (List.mem_singleton.mp z)
            · rintro σ H5 ⟨v5, kv5, rfl, s6, hp6, hf6, hz6, hg6⟩
              rw [nV_len] at hz6 hg6
              rw [List.take_length] at hg6
              refine ⟨_, _, _, _, SL.advM k a sl, kv5, rfl, s6, hp6, hf6, by omega, fun g => ?_, hw4⟩
              rw [hg6]
              unfold SL.advM
              by_cases c : g ∈ sl.files
              · rw [if_pos c, if_pos ⟨e, c⟩]
              · rw [if_neg c, if_neg fun z => c z.2]
        · have hw4 : SL.whenM S k q x = SL.latM k a day ((S.slips.take (q + 1)).drop (i + 1)) := by
            rw [hw3]
            show (if sl.waits k = true then _ else _) = _
            rw [if_neg (by rw [e]; exact Bool.false_ne_true)]
          exact ⟨_, _, _, day, a, kv, rfl, s3, hp3, hf3, by omega, hg3, hw4⟩
      · rintro σ H' ⟨v5, v6, v8, day, a, kv, rfl, s3, hp3, hf3, hz3, hg3, hw3⟩
        have e1 : (S.slips.take (q + 1)).drop ((os.take (q + 1)).map fun o => V.ref o.a).length = [] := by
          rw [List.length_map, List.length_take, hsl.len, ← List.length_take, List.drop_length]
        rw [e1] at hw3
        have e2 : SL.whenM S k q x = day := hw3
        rw [← e2]
        exact ⟨_, rfl, qq H' s3⟩
end
end SP
end
section
set_option Elab.async false
set_option linter.all false
set_option maxRecDepth 100000
set_option maxHeartbeats 2000000
namespace SP
open PySem PySem.Spec PyProof.Rows L2
/-! ### What may be asked for -/
def spFilesFit (K : PySem.W.Frag) : Sp := fun vs H Q _ => ∃ (a : Addr) (fs : List Nat), vs = [.ref a] ∧ SqL K H a (nV fs) ∧ Q (.bl (SL.filesFit fs)) H
def spSlipFits (K : PySem.W.Frag) : Sp := fun vs H Q _ => ∃ (a : Addr) (r n : Nat) (fs : List Nat), vs = [.int (r : Int), .int (n : Int), .ref a] ∧ SqL K H a (nV fs) ∧ Q (.bl (SL.slipFits r n fs)) H
section
variable {P : Program} {w : World} {K : PySem.W.Frag} {mg : Str → Option Value} {base : Heap} {C D : Addr}
theorem scFilesFit : FnScope ["files", "before", "f"] ["files"] (defScope sFilesFit) := ⟨rfl, rfl, rfl, by decide +kernel, rfl, by decide +kernel, by decide +kernel⟩
theorem ok_filesFit {f : Addr} {fd : FuncData} (F : Fun K "files_fit" "files_fit" sFilesFit f fd) (T : Txt K mg C D) : FnOk P w K mg base CX0 1 f fd ["files"] (spFilesFit K) := by
  refine F.ok scFilesFit (fun vs H Q E h => ?_) (fun cdv A outer s H vs Q E hr h => ?_)
  · obtain ⟨a, fs, rfl, _⟩ := h
    rfl
  · obtain ⟨a, fs, rfl, hS, q⟩ := h
    refine ⟨_, pss_cons (ps_if (PW.pt (pw_or (pt_cmpR op_lt (pe_callB call_len_seq rfl T.bLen PySem.boot_len (pa_cons (pv 0) pa_nil)) pe_int (nomark _)) (pw_or1 (pt_cmpR op_gt (pe_callB call_len_seq rfl T.bLen PySem.boot_len (pa_cons (pv 0) pa_nil)) (pe_gi T.gMostFiles) (nomark _))))) (pss_one (ps_ret pe_bl)) pss_nil)
      (pss_cons (ps_set (i := 1) scFilesFit.nd rfl (Or.inl rfl) (pe_un un_neg pe_int))
      (pss_cons (ps_for PassesOwn.never rfl (pi_list (pv 0)) (pg_name (i := 2) scFilesFit.nd rfl (Or.inl rfl))
        (pss_cons (ps_if (PW.pt (pw_or (pt_cmpR op_le (pv 2) (pv 1) (nomark _)) (pw_or1 (pt_cmpR op_gt (pv 2) (pe_gi T.gLastFile) (nomark _))))) (pss_one (ps_ret pe_bl)) pss_nil)
          (pss_one (ps_set (i := 1) scFilesFit.nd rfl (Or.inl rfl) (pv 2)))))
      (pss_one (ps_ret pe_bl)))), ?_⟩
    have no : fs.length < 1 ∨ 8 < fs.length → Q (.bl false) H := fun z => by
      unfold SL.filesFit at q
      rw [if_pos z] at q
      exact q
    refine ⟨_, rfl, a, _, rfl, .inl hS, _, _, rfl, rfl, _, rfl, iteB (fun e => iteT (no (.inl ?_))) (fun e => ?_)⟩
    · have := of_decide_eq_true e
      rw [nV_len] at this; omega
    · refine ⟨_, rfl, a, _, rfl, .inl hS, _, _, rfl, rfl, _, rfl, iteB (fun e2 => no (.inr ?_)) (fun e2 => ?_)⟩
      · have := of_decide_eq_true e2
        rw [nV_len] at this; omega
      · have q1 : Q (.bl (SL.fitF (-1) fs)) H := by
          unfold SL.filesFit at q
          rw [if_neg] at q
          · exact q
          · have h1 := of_decide_eq_false e
            have h2 := of_decide_eq_false e2
            rw [nV_len] at h1 h2
            omega
        refine ⟨_, rfl, ?_⟩
        refine ⟨_, rfl, a, rfl, ⟨_, hS⟩, for_list (K := K) (a := a) (xs := nV fs) (fun i σ H' => ∃ (b : Int) (v2 : Option V), σ = [some (.ref a), some (.int b), v2] ∧ H' = H ∧ SL.fitF (-1) fs = SL.fitF b (fs.drop i))
          ⟨_, none, rfl, rfl, rfl⟩ (fun i σ H' _ ⟨_, _, _, e, _⟩ => by rw [e]; exact hS) ?_ ?_⟩
        · rintro i x σ H' hi ⟨b, v2, rfl, rfl, ef⟩
          obtain ⟨g, hg, rfl⟩ := nV_get hi
          rw [SL.drop_at hg] at ef
          have ef' : SL.fitF (-1) fs = (!decide ((g : Int) ≤ b) && (!decide ((16383 : Int) < (g : Int)) && SL.fitF (g : Int) (fs.drop (i + 1)))) := ef
          refine ⟨_, rfl, _, rfl, _, _, rfl, rfl, _, rfl, iteB (fun e3 => iteT ?_) (fun e3 => ?_)⟩
          · have z : SL.fitF (-1) fs = false := by rw [ef', e3]; rfl
            rw [z] at q1
            exact q1
          · refine ⟨_, rfl, _, _, rfl, rfl, _, rfl, iteB (fun e4 => ?_) (fun e4 => ?_)⟩
            · have z : SL.fitF (-1) fs = false := by rw [ef', e3, e4]; rfl
              rw [z] at q1
              exact q1
            · refine ⟨_, rfl, _, _, rfl, rfl, ?_⟩
              rw [ef', e3, e4]; rfl
        · rintro σ H' ⟨b, v2, rfl, rfl, ef⟩
          rw [nV_len, List.drop_length] at ef
          have z : SL.fitF (-1) fs = true := ef
          rw [z] at q1
          exact q1
theorem scSlipFits : FnScope ["reader", "days", "files"] ["reader", "days", "files"] (defScope sSlipFits) := ⟨rfl, rfl, rfl, by decide +kernel, rfl, by decide +kernel, by decide +kernel⟩
theorem ok_slipFits {f : Addr} {fd : FuncData} (F : Fun K "slip_fits" "slip_fits" sSlipFits f fd) (T : Txt K mg C D) (B : FnAt P w K mg base "files_fit" ["files"] 1 (spFilesFit K)) : FnOk P w K mg base CX0 2 f fd ["reader", "days", "files"] (spSlipFits K) := by
  obtain ⟨fB, fdB, mB, kB, bB, GB⟩ := B
  refine F.ok scSlipFits (fun vs H Q E h => ?_) (fun cdv A outer s H vs Q E hr h => ?_)
  · obtain ⟨a, r, n, fs, rfl, _⟩ := h
    rfl
  · obtain ⟨a, r, n, fs, rfl, hS, q⟩ := h
    refine ⟨_, pss_cons (ps_if (PW.pt (pw_or (pt_cmpR op_lt (pv 0) pe_int (nomark _)) (pw_or1 (pt_cmpR op_gt (pv 0) (pe_gi T.gLastReader) (nomark _))))) (pss_one (ps_ret pe_bl)) pss_nil)
      (pss_cons (ps_if (PW.pt (pw_or (pt_cmpR op_lt (pv 1) pe_int (nomark _)) (pw_or1 (pt_cmpR op_gt (pv 1) (pe_gi T.gMostDays) (nomark _))))) (pss_one (ps_ret pe_bl)) pss_nil)
      (pss_one (ps_ret (pe_call GB hr rfl mB kB bB .nil pass0 (pa_cons (pv 2) pa_nil))))), ?_⟩
    unfold SL.slipFits at q
    have no1 : r < 1 ∨ 65535 < r → Q (.bl false) H := fun z => by rw [if_pos z] at q; exact q
    refine ⟨_, rfl, _, _, rfl, rfl, _, rfl, iteB (fun e => iteT (no1 (.inl (by have := of_decide_eq_true e; omega)))) (fun e => ?_)⟩
    refine ⟨_, rfl, _, _, rfl, rfl, _, rfl, iteB (fun e2 => no1 (.inr (by have := of_decide_eq_true e2; omega))) (fun e2 => ?_)⟩
    rw [if_neg (by have h1 := of_decide_eq_false e; have h2 := of_decide_eq_false e2; omega)] at q
    have no2 : n < 1 ∨ 1000 < n → Q (.bl false) H := fun z => by rw [if_pos z] at q; exact q
    refine ⟨_, rfl, _, _, rfl, rfl, _, rfl, iteB (fun e => iteT (no2 (.inl (by have := of_decide_eq_true e; omega)))) (fun e => ?_)⟩
    refine ⟨_, rfl, _, _, rfl, rfl, _, rfl, iteB (fun e2 => no2 (.inr (by have := of_decide_eq_true e2; omega))) (fun e2 => ?_)⟩
    rw [if_neg (by have h1 := of_decide_eq_false e; have h2 := of_decide_eq_false e2; omega)] at q
    exact ⟨_, rfl, a, fs, rfl, hS, q⟩
end
/-! ### An answer -/
/-- a new row of numbers is handed back; what stood there stands -/
def AnsR (H : Hp) (zs : List Int) (Q : VK) : Prop := ∀ (r : Addr) (H' : Hp), H r = none → Same H H' → H' r = some (.lst (zs.map V.int)) → Q (.ref r) H'
/-- all addresses of the shelf -/
def InA (p ls : Addr) (os : List A1) (b : Addr) : Prop := b = p ∨ b = ls ∨ ∃ o, o ∈ os ∧ (b = o.a ∨ b = o.lf ∨ b = o.dr)
/-- .. and the shelf has become another; X: what else may have come to it -/
def AnsW (C D : Addr) (H : Hp) (p ls : Addr) (os : List A1) (S' : SL.Sh) (zs : List Int) (X : Addr → Prop) (Q : VK) : Prop := ∀ (r ls' : Addr) (os' : List A1) (H' : Hp), ShAt C D H' p ls' os' S' → H' r = some (.lst (zs.map V.int)) → H r = none →
  (∀ b u, H b = some u → ¬ InA p ls os b → H' b = some u) → (∀ b, InA p ls' os' b → InA p ls os b ∨ H b = none ∨ X b) → Q (.ref r) H'
theorem AnsW.read {C D : Addr} {H : Hp} {p ls : Addr} {os : List A1} {S : SL.Sh} {zs : List Int} {X : Addr → Prop} {Q : VK} (A : ShAt C D H p ls os S) (q : AnsW C D H p ls os S zs X Q) : AnsR H zs Q := fun r H' hr s h =>
  q r ls os H' (A.same s) h hr (fun b u e _ => s b u e) fun b hb => .inl hb
/-- one number, as it is written -/
theorem ans1 {H : Hp} {z : Int} {Q : VK} (q : AnsR H [z] Q) (r : Addr) (h : H r = none) : Q (.ref r) (upd H r (.lst [V.int z])) := q r _ h (same_upd h) upd_same
theorem one_line : ([V.int 0] : List V).length ≤ sizeLine := by show 1 ≤ sizeLine; decide
theorem AnsR.after {H H1 : Hp} {zs : List Int} {Q : VK} (q : AnsR H zs Q) (s : Same H H1) : AnsR H1 zs Q := fun r H' hr s1 h => q r H' (s.free hr) (s.trans s1) h
theorem AnsW.after {C D : Addr} {H H1 : Hp} {p ls : Addr} {os : List A1} {S : SL.Sh} {zs : List Int} {X : Addr → Prop} {Q : VK} (q : AnsW C D H p ls os S zs X Q) (s : Same H H1) : AnsW C D H1 p ls os S zs X Q := fun r ls' os' H' A h hr k n =>
  q r ls' os' H' A h (s.free hr) (fun b u e hb => k b u (s b u e) hb) fun b hb => (n b hb).elim .inl fun z => z.elim (fun y => .inr (.inl (s.free y))) fun y => .inr (.inr y)
def noX : Addr → Prop := fun _ => False
/-! ### The one that has a file -/
theorem valV_app {κ : Type} [DecidableEq κ] (a b : List (κ × V)) (k : κ) : valV (a ++ b) k = (valV a k).or (valV b k) := by
  unfold valV
  rw [List.find?_append]
  cases (a.find? fun kv => decide (kv.1 = k)) <;> rfl
theorem val_held (f : Nat) (y : A1 × SL.PS) : ∀ l : List Nat, valV (l.map fun g => oK (g, y)) (Sum.inl (f : Int) : Key) = if l.contains f = true then some (V.ref y.1.a) else none
  | [] => rfl
  | g :: l => by
    rw [List.map_cons, List.contains_cons]
    by_cases c : g = f
    · subst c
      rw [valV_pos (p := oK (g, y)) (k := (Sum.inl (g : Int) : Key)) rfl, beq_self_eq_true]; rfl
    · rw [valV_neg (p := oK (g, y)) (fun z => c (by have := Sum.inl.inj (show (Sum.inl (g : Int) : Key) = Sum.inl (f : Int) from z); omega)), beq_eq_false_iff_ne.mpr (fun z => c z.symm), Bool.false_or]
      exact val_held f y l
theorem outL_val (k f : Nat) : ∀ (os : List A1) (l : List SL.PS), os.length = l.length → valV (outL k os l) (Sum.inl (f : Int) : Key) = ((l.findIdx? fun s => (s.held k).contains f).bind fun q => os[q]?).map fun o => V.ref o.a
  | [], [], _ => rfl
  | [], _ :: _, h => by cases h
  | _ :: _, [], h => by cases h
  | o :: os, s :: l, h => by
    have ih := outL_val k f os l (Nat.succ.inj h)
    have e : outL k (o :: os) (s :: l) = ((s.held k).map fun g => oK (g, (o, s))) ++ outL k os l := by
      unfold outL outP
      rw [List.zip_cons_cons, List.flatMap_cons, List.map_append, List.map_map]; rfl
    rw [e, valV_app, val_held, ih, List.findIdx?_cons]
    cases c : (s.held k).contains f with
    | true => rfl
    | false =>
      rw [if_neg Bool.false_ne_true, if_neg Bool.false_ne_true, Option.none_or]
      cases (l.findIdx? fun s => (s.held k).contains f) <;> rfl
/-- out(k).get(f) -/
theorem who_val {C : Addr} {H : Hp} {S : SL.Sh} {os : List A1} {k f : Nat} (hsl : SlipsAt C H os S.slips) (hn : (SL.outF k S.slips).Nodup) :
    (SL.whoM S k f = none ∧ (valV (mergeK [] (outL k os S.slips)) (Sum.inl (f : Int) : Key)).getD .non = .non) ∨
    ∃ q o s, SL.whoM S k f = some q ∧ os[q]? = some o ∧ S.slips[q]? = some s ∧ f ∈ s.held k ∧ SlAt C H o q s ∧ (valV (mergeK [] (outL k os S.slips)) (Sum.inl (f : Int) : Key)).getD .non = .ref o.a := by
  rw [out_is k hsl.len hn, outL_val k f os S.slips hsl.len]
  cases e : SL.whoM S k f with
  | none =>
    have e' : (S.slips.findIdx? fun s => (s.held k).contains f) = none := e
    rw [e']
    exact .inl ⟨rfl, rfl⟩
  | some q =>
    obtain ⟨s, hs, hf⟩ := SL.whoM_some e
    obtain ⟨o, ho, hS⟩ := hsl.get hs
    have e' : (S.slips.findIdx? fun s => (s.held k).contains f) = some q := e
    rw [e']
    refine .inr ⟨q, o, s, rfl, ho, hs, hf, hS, ?_⟩
    show ((os[q]?).map fun o => V.ref o.a).getD .non = _
    rw [ho]; rfl
/-! ### The calls that only tell -/
def spCount (C D : Addr) : Sp := fun vs H Q _ => ∃ (p ls : Addr) (os : List A1) (S : SL.Sh) (k : Nat), vs = [.ref p, .int (k : Int)] ∧ ShAt C D H p ls os S ∧ SL.Wf S ∧ AnsR H (SL.stepM S (.count k)).2 Q
def spWho (C D : Addr) : Sp := fun vs H Q _ => ∃ (p ls : Addr) (os : List A1) (S : SL.Sh) (k f : Nat), vs = [.ref p, .int (k : Int), .int (f : Int)] ∧ ShAt C D H p ls os S ∧ SL.Wf S ∧ AnsR H (SL.stepM S (.who k f)).2 Q
def spTellSlip (C D : Addr) : Sp := fun vs H Q _ => ∃ (p ls : Addr) (os : List A1) (S : SL.Sh) (k q : Nat), vs = [.ref p, .int (k : Int), .int (q : Int)] ∧ ShAt C D H p ls os S ∧ SL.Wf S ∧ AnsR H (SL.stepM S (.slip k q)).2 Q
def spTellFiles (C D : Addr) : Sp := fun vs H Q _ => ∃ (p ls : Addr) (os : List A1) (S : SL.Sh) (k q : Nat), vs = [.ref p, .int (k : Int), .int (q : Int)] ∧ ShAt C D H p ls os S ∧ SL.Wf S ∧ AnsR H (SL.stepM S (.files k q)).2 Q
def spWaitsFor (C D : Addr) : Sp := fun vs H Q _ => ∃ (p ls : Addr) (os : List A1) (S : SL.Sh) (k q : Nat), vs = [.ref p, .int (k : Int), .int (q : Int)] ∧ ShAt C D H p ls os S ∧ SL.Wf S ∧ AnsR H (SL.stepM S (.waits k q)).2 Q
def spLate (C D : Addr) : Sp := fun vs H Q _ => ∃ (p ls : Addr) (os : List A1) (S : SL.Sh) (k x : Nat), vs = [.ref p, .int (k : Int), .int (x : Int)] ∧ ShAt C D H p ls os S ∧ SL.Wf S ∧ AnsR H (SL.stepM S (.late k x)).2 Q
def spWhen (C D : Addr) : Sp := fun vs H Q _ => ∃ (p ls : Addr) (os : List A1) (S : SL.Sh) (k q x : Nat), vs = [.ref p, .int (k : Int), .int (q : Int), .int (x : Int)] ∧ ShAt C D H p ls os S ∧ SL.Wf S ∧ AnsR H (SL.stepM S (.when_ k q x)).2 Q
section
variable {P : Program} {w : World} {K : PySem.W.Frag} {mg : Str → Option Value} {base : Heap} {C D : Addr}
theorem scCount : FnScope ["shelf", "k", "known", "waiting", "slip"] ["shelf", "k"] (defScope sCount) := ⟨rfl, rfl, rfl, by decide +kernel, rfl, by decide +kernel, by decide +kernel⟩
theorem ok_count {f : Addr} {fd : FuncData} (F : Fun K "count" "count" sCount f fd) (T : Txt K mg C D) (W : MtAt P w K mg base C "waits" ["self", "k"] 2 (spWaits C)) : FnOk P w K mg base CX0 3 f fd ["shelf", "k"] (spCount C D) := by
  obtain ⟨fW, fdW, mW, bW, GW⟩ := W
  refine F.ok scCount (fun vs H Q E h => ?_) (fun cdv A outer s H vs Q E hr h => ?_)
  · obtain ⟨p, ls, os, S, k, rfl, _⟩ := h
    rfl
  · obtain ⟨p, ls, os, S, k, rfl, A0, wf, q⟩ := h
    obtain ⟨dx, hp⟩ := A0.ob
    have hL := A0.lst
    have hsl := A0.sl
    refine ⟨_, pss_cons (ps_if (pt_cmpR op_gt (pv 1) (pe_gi T.gLastDay) (nomark _)) (pss_one (ps_ret (pe_lst (pa_cons (pe_gi T.gOut1) pa_nil)))) pss_nil)
      (pss_cons (ps_setLc (i := 2) (own := [("slip", 4)]) rfl scCount.nd rfl rfl (sw_true rfl rfl rfl (by decide +kernel)) (pi_list (pe_fld (pv 0) rfl)) (blk (N := ["shelf", "k", "known", "waiting", "slip"]) (sc := defScope sCount) rfl rfl (by decide +kernel)) (fun _ _ _ _ _ => pg_name (i := 4) scCount.nd rfl (Or.inl rfl))
        (fun _ _ _ _ _ => pts_one (pt_cmpR op_le (pe_fldK (K := K) rfl (pv 4) rfl) (pv 1) (nomark _))) (fun _ _ _ _ _ => pv 4))
      (pss_cons (ps_setLc (i := 3) (own := [("slip", 4)]) rfl scCount.nd rfl rfl (sw_true rfl rfl rfl (by decide +kernel)) (pi_list (pe_fld (pv 0) rfl)) (blk (N := ["shelf", "k", "known", "waiting", "slip"]) (sc := defScope sCount) rfl rfl (by decide +kernel)) (fun _ _ _ _ _ => pg_name (i := 4) scCount.nd rfl (Or.inl rfl))
        (fun _ _ _ _ _ => pts_one (pt_val (pe_meth (pv 4) T.clC mW GW hr bW .nil pass0 (pa_cons (pv 1) pa_nil)))) (fun _ _ _ _ _ => pv 4))
      (pss_one (ps_ret (pe_lst (pa_cons (pe_callB call_len_seq rfl T.bLen PySem.boot_len (pa_cons (pv 2) pa_nil)) (pa_cons (pe_callB call_len_seq rfl T.bLen PySem.boot_len (pa_cons (pv 3) pa_nil)) pa_nil))))))), ?_⟩
    unfold SL.stepM at q
    dsimp only at q
    refine ⟨_, rfl, _, _, rfl, rfl, _, rfl, iteB (fun e => ?_) (fun e => ?_)⟩
    · rw [if_pos (by have := of_decide_eq_true e; omega)] at q
      exact ⟨one_line, fun r hr' => ans1 q r hr'⟩
    · rw [if_neg (by have := of_decide_eq_false e; omega)] at q
      refine ⟨_, rfl, p, D, dx, _, _, rfl, hp, T.clD, T.nSlips, shf_slips, ls, rfl, ⟨_, SqL.of hL⟩, fun D1 hD1 => lc_list (K := K) (a := ls) (xs := os.map fun o => V.ref o.a)
        (fun i H' => Same H H' ∧ ∃ L : List V, H' D1 = some (.lst L) ∧ L.length = ((S.slips.take i).filter fun s => decide (s.asked ≤ k)).length) ⟨same_upd hD1, [], upd_same, rfl⟩ (fun i H' _ ⟨s1, _⟩ => SqL.of (s1 _ _ hL)) ?_ ?_⟩
      · rintro i x H' hi ⟨s1, L, hl1, hl2⟩
        obtain ⟨o, ho, rfl⟩ := refs_get hi
        obtain ⟨sl, hs, hS0⟩ := hsl.get' ho
        have hS := hS0.same s1
        have hi64 : i < 64 := Nat.lt_of_lt_of_le (List.getElem?_eq_some_iff.mp hs).1 wf.few
        refine ⟨rfl, _, rfl, o.a, C, o.dx, _, _, rfl, hS.ob, T.clC, T.nAsked, sf_asked, _, rfl, _, _, rfl, rfl, _, rfl, iteB (fun e2 => ?_) (fun e2 => ?_)⟩
        · refine ⟨_, rfl, L, hl1, ?_, same_put hD1 s1, _, upd_same, ?_⟩
          · rw [hl2]
            refine small9 (Nat.le_trans (List.length_filter_le _ _) ?_)
            rw [List.length_take]; omega
          · rw [SL.take_snoc hs, List.filter_append, List.filter_cons, if_pos (decide_eq_true (show sl.asked ≤ k by have := of_decide_eq_true e2; omega)), List.length_append, List.length_append, hl2]; rfl
        · refine ⟨s1, L, hl1, ?_⟩
          rw [SL.take_snoc hs, List.filter_append, List.filter_cons, if_neg (by intro z; have := of_decide_eq_true z; have := of_decide_eq_false e2; omega), List.filter_nil, List.append_nil]
          exact hl2
      · rintro H1 ⟨s1, L1, hl1, hl2⟩
        rw [List.length_map, hsl.len, List.take_length] at hl2
        refine ⟨_, rfl, p, D, dx, _, _, rfl, s1 _ _ hp, T.clD, T.nSlips, shf_slips, ls, rfl, ⟨_, SqL.of (s1 _ _ hL)⟩, fun D2 hD2 => lc_list (K := K) (a := ls) (xs := os.map fun o => V.ref o.a)
          (fun i H' => Same H1 H' ∧ ∃ L : List V, H' D2 = some (.lst L) ∧ L.length = ((S.slips.take i).filter fun s => s.waits k).length) ⟨same_upd hD2, [], upd_same, rfl⟩ (fun i H' _ ⟨s2, _⟩ => SqL.of (s2 _ _ (s1 _ _ hL))) ?_ ?_⟩
        · rintro i x H' hi ⟨s2, L, hl3, hl4⟩
          obtain ⟨o, ho, rfl⟩ := refs_get hi
          obtain ⟨sl, hs, hS0⟩ := hsl.get' ho
          have hS := (hS0.same s1).same s2
          have hi64 : i < 64 := Nat.lt_of_lt_of_le (List.getElem?_eq_some_iff.mp hs).1 wf.few
          refine ⟨rfl, _, rfl, o.a, o.dx, _, rfl, hS.ob, sf_no (by decide +kernel), _, rfl, o, i, sl, k, rfl, hS, _, rfl, iteB (fun e2 => ?_) (fun e2 => ?_)⟩
          · refine ⟨_, rfl, L, hl3, ?_, same_put hD2 s2, _, upd_same, ?_⟩
            · rw [hl4]
              refine small9 (Nat.le_trans (List.length_filter_le _ _) ?_)
              rw [List.length_take]; omega
            · rw [SL.take_snoc hs, List.filter_append, List.filter_cons, if_pos e2, List.length_append, List.length_append, hl4]; rfl
          · refine ⟨s2, L, hl3, ?_⟩
            rw [SL.take_snoc hs, List.filter_append, List.filter_cons, if_neg (by rw [e2]; exact Bool.false_ne_true), List.filter_nil, List.append_nil]
            exact hl4
        · rintro H2 ⟨s2, L2, hl3, hl4⟩
          rw [List.length_map, hsl.len, List.take_length] at hl4
          refine ⟨_, rfl, D1, _, rfl, .inl (SqL.of (s2 _ _ hl1)), _, rfl, D2, _, rfl, .inl (SqL.of hl3), (by show 2 ≤ sizeLine; decide), fun r hr' => ?_⟩
          refine q r _ ((s1.trans s2).free hr') (same_put ((s1.trans s2).free hr') (s1.trans s2)) ?_
          rw [upd_same, hl2, hl4]; rfl
theorem scWho : FnScope ["shelf", "k", "f", "slip"] ["shelf", "k", "f"] (defScope sWho) := ⟨rfl, rfl, rfl, by decide +kernel, rfl, by decide +kernel, by decide +kernel⟩
theorem ok_who {f : Addr} {fd : FuncData} (F : Fun K "who" "who" sWho f fd) (T : Txt K mg C D) (O : MtAt P w K mg base D "out" ["self", "k"] 4 (spOut C D)) (Du : MtAt P w K mg base C "due" ["self"] 1 (spDue C)) : FnOk P w K mg base CX0 5 f fd ["shelf", "k", "f"] (spWho C D) := by
  obtain ⟨fO, fdO, mO, bO, GO⟩ := O
  obtain ⟨fU, fdU, mU, bU, GU⟩ := Du
  refine F.ok scWho (fun vs H Q E h => ?_) (fun cdv A outer s H vs Q E hr h => ?_)
  · obtain ⟨p, ls, os, S, k, g, rfl, _⟩ := h
    rfl
  · obtain ⟨p, ls, os, S, k, g, rfl, A0, wf, q⟩ := h
    obtain ⟨dx, hp⟩ := A0.ob
    have hL := A0.lst
    have hsl := A0.sl
    refine ⟨_, pss_cons (ps_if (PW.pt (pw_or (pt_cmpR op_gt (pv 1) (pe_gi T.gLastDay) (nomark _)) (pw_or1 (pt_cmpR op_gt (pv 2) (pe_gi T.gLastFile) (nomark _))))) (pss_one (ps_ret (pe_lst (pa_cons (pe_gi T.gOut1) pa_nil)))) pss_nil)
      (pss_cons (ps_set (i := 3) scWho.nd rfl (Or.inl rfl) (pe_dget1 (hu_of hr) (pe_meth (pv 0) T.clD mO GO hr bO .nil pass0 (pa_cons (pv 1) pa_nil)) (pv 2) ⟨rfl, rfl, rfl, rfl⟩))
      (pss_cons (ps_if (pt_cmp (pc_isN (pv 3))) (pss_one (ps_ret (pe_lst (pa_cons pe_int pa_nil)))) pss_nil)
      (pss_one (ps_ret (pe_lst (pa_cons pe_int (pa_cons (pe_fld (pv 3) rfl) (pa_cons (pe_fld (pv 3) rfl) (pa_cons (pe_fld (pv 3) rfl) (pa_cons (pe_meth0 (pv 3) T.clC mU GU (hr.mono (by decide)) bU .nil pass0) pa_nil)))))))))), ?_⟩
    unfold SL.stepM at q
    dsimp only at q
    have no : 292193 < k ∨ 16383 < g → AnsR H [-1] Q := fun z => by rw [if_pos z] at q; exact q
    refine ⟨_, rfl, _, _, rfl, rfl, _, rfl, iteB (fun e => iteT ⟨one_line, fun r hr' => ans1 (no (.inl (by have := of_decide_eq_true e; omega))) r hr'⟩) (fun e => ?_)⟩
    refine ⟨_, rfl, _, _, rfl, rfl, _, rfl, iteB (fun e2 => ⟨one_line, fun r hr' => ans1 (no (.inr (by have := of_decide_eq_true e2; omega))) r hr'⟩) (fun e2 => ?_)⟩
    rw [if_neg (by have h1 := of_decide_eq_false e; have h2 := of_decide_eq_false e2; omega)] at q
    refine ⟨_, rfl, p, dx, _, rfl, hp, shf_no (by decide +kernel), _, rfl, p, ls, os, S, k, rfl, A0, wf.few, wf.le, fun d H1 hd s1 hd1 => ?_⟩
    refine ⟨d, rfl, .inl ⟨_, .inl hd1⟩, _, rfl, _, DGet.k (k := Sum.inl (g : Int)) hd1, ?_⟩
    have q1 := q.after s1
    rcases who_val (k := k) (f := g) (hsl.same s1) (wf.out k) with ⟨ew, ev⟩ | ⟨n, o, sl, ew, ho, hs, hf, hS, ev⟩
    · rw [ev]
      rw [ew] at q1
      refine ⟨_, rfl, _, rfl, ?_⟩
      refine iteT ⟨one_line, fun r hr' => ans1 q1 r hr'⟩
    · rw [ev]
      rw [ew] at q1
      dsimp only at q1
      rw [hs] at q1
      refine ⟨_, rfl, _, rfl, ?_⟩
      refine iteF ?_
      refine ⟨_, rfl, o.a, C, o.dx, _, _, rfl, hS.ob, T.clC, T.nNumber, sf_number, _, rfl, o.a, C, o.dx, _, _, rfl, hS.ob, T.clC, T.nReader, sf_reader, _, rfl, o.a, C, o.dx, _, _, rfl, hS.ob, T.clC, T.nServed, sf_served,
        _, rfl, o.a, o.dx, _, rfl, hS.ob, sf_no (by decide +kernel), o, n, sl, rfl, hS, (by show 5 ≤ sizeLine; decide), fun r hr' => ?_⟩
      exact q1 r _ hr' (same_upd hr') upd_same
theorem known_none {S : SL.Sh} {k q : Nat} {s : SL.PS} (hs : S.slips[q]? = some s) (ha : s.asked ≤ k) : SL.knownM S k q = some s := by
  unfold SL.knownM
  rw [hs]
  show (if s.asked ≤ k then _ else _) = _
  rw [if_pos ha]
theorem nI_map (l : List Nat) : (SL.nI l).map V.int = nV l := by
  unfold SL.nI nV
  rw [List.map_map]; rfl
theorem scTellSlip : FnScope ["shelf", "k", "q", "slip", "served", "told", "f"] ["shelf", "k", "q"] (defScope sTellSlip) := ⟨rfl, rfl, rfl, by decide +kernel, rfl, by decide +kernel, by decide +kernel⟩
theorem ok_tellSlip {f : Addr} {fd : FuncData} (F : Fun K "tell_slip" "tell_slip" sTellSlip f fd) (T : Txt K mg C D) (Kn : MtAt P w K mg base D "known" ["self", "k", "q"] 1 (spKnown C D)) (B : FnAt P w K mg base "befell" ["day", "k"] 1 spBefell)
    (St : MtAt P w K mg base C "state" ["self", "k"] 4 (spState C)) (R : MtAt P w K mg base C "brought" ["self", "f", "k"] 2 (spBrought C)) : FnOk P w K mg base CX0 5 f fd ["shelf", "k", "q"] (spTellSlip C D) := by
  obtain ⟨fK, fdK, mK, bK, GK⟩ := Kn
  obtain ⟨fB, fdB, mB, kB, bB, GB⟩ := B
  obtain ⟨fS, fdS, mS, bS, GS⟩ := St
  obtain ⟨fR, fdR, mR, bR, GR⟩ := R
  refine F.ok scTellSlip (fun vs H Q E h => ?_) (fun cdv A outer s H vs Q E hr h => ?_)
  · obtain ⟨p, ls, os, S, k, q, rfl, _⟩ := h
    rfl
  · obtain ⟨p, ls, os, S, k, n, rfl, A0, wf, q⟩ := h
    obtain ⟨dx, hp⟩ := A0.ob
    have hsl := A0.sl
    have hr1 : Room 1 _ := hr.mono (by decide)
    have hr2 : Room 2 _ := hr.mono (by decide)
    refine ⟨_, pss_cons (ps_if (pt_cmpR op_gt (pv 1) (pe_gi T.gLastDay) (nomark _)) (pss_one (ps_ret (pe_lst (pa_cons (pe_gi T.gOut1) pa_nil)))) pss_nil)
      (pss_cons (ps_set (i := 3) scTellSlip.nd rfl (Or.inr rfl) (pe_meth (pv 0) T.clD mK GK hr1 bK .nil pass0 (pa_cons (pv 1) (pa_cons (pv 2) pa_nil))))
      (pss_cons (ps_if (pt_cmp (pc_isN (pv 3))) (pss_one (ps_ret (pe_lst (pa_cons (pe_gi T.gNoSlip) pa_nil)))) pss_nil)
      (pss_cons (ps_set (i := 4) scTellSlip.nd rfl (Or.inl rfl) (pe_ifExp (pt_val (pe_call GB hr1 rfl mB kB bB .nil pass0 (pa_cons (pe_fld (pv 3) rfl) (pa_cons (pv 1) pa_nil)))) (pe_fld (pv 3) rfl) (pe_gi T.gNever)))
      (pss_cons (ps_set (i := 5) scTellSlip.nd rfl (Or.inl rfl) (pe_lst (pa_cons pe_int (pa_cons (pe_fld (pv 3) rfl) (pa_cons (pv 4) (pa_cons (pe_fld (pv 3) rfl) (pa_cons (pe_fld (pv 3) rfl) (pa_cons (pe_meth (pv 3) T.clC mS GS hr bS .nil pass0 (pa_cons (pv 1) pa_nil)) pa_nil))))))))
      (pss_one (ps_ret (pe_op op_cat (pv 5) (pe_lc (own := [("f", 6)]) rfl scTellSlip.nd (pi_list (pe_fld (pv 3) rfl)) (blk (N := ["shelf", "k", "q", "slip", "served", "told", "f"]) (sc := defScope sTellSlip) rfl rfl (by decide +kernel)) (fun _ _ _ _ _ => pg_name (i := 6) scTellSlip.nd rfl (Or.inl rfl))
        (fun _ _ _ _ _ => pts_one (pt_val (pe_meth (pv 3) T.clC mR GR hr2 bR .nil pass0 (pa_cons (pv 6) (pa_cons (pv 1) pa_nil))))) (fun _ _ _ _ _ => pv 6))))))))), ?_⟩
    unfold SL.stepM at q
    dsimp only at q
    refine ⟨_, rfl, _, _, rfl, rfl, _, rfl, iteB (fun e => ?_) (fun e => ?_)⟩
    · rw [if_pos (by have := of_decide_eq_true e; omega)] at q
      exact ⟨one_line, fun r hr' => ans1 q r hr'⟩
    · rw [if_neg (by have := of_decide_eq_false e; omega)] at q
      refine ⟨_, rfl, p, dx, _, rfl, hp, shf_no (by decide +kernel), _, rfl, _, rfl, p, ls, os, S, k, n, rfl, A0, fun hn => ?_, fun o sl ho hs ha => ?_⟩
      · rw [hn] at q
        refine ⟨_, rfl, _, rfl, iteT ⟨one_line, fun r hr' => ans1 q r hr'⟩⟩
      · rw [known_none hs ha] at q
        dsimp only at q
        have hS := hsl.at_ n o sl ho hs
        have h8' : sl.files.length ≤ 8 := wf.le sl (List.mem_of_getElem? hs)
        refine ⟨_, rfl, _, rfl, iteF ?_⟩
        -- served, told
        have rest : ∀ sv : Int, (if SL.fell sl.served k = true then SL.oI sl.served else -1) = sv →
            tSeq (tAsg (tLst (tCons (tC (.int 0)) (tCons (tFld K (tVar 3) "asked") (tCons (tVar 4) (tCons (tFld K (tVar 3) "days") (tCons (tFld K (tVar 3) "reader") (tCons (tMeth C "state" (spState C) [] E0 (tVar 3) (tCons (tVar 1) tNil)) tNil))))))) (gName 5))
              (tRet (tOp rCat (tVar 5) (tLc (iList K (tFld K (tVar 3) "files")) (gName 6) (tB (tMeth C "brought" (spBrought C) [] E0 (tVar 3) (tCons (tVar 6) (tCons (tVar 1) tNil)))) (tVar 6) [6])))
              { nx := fun _ H' => Q .non H', rt := Q } [some (.ref p), some (.int (k : Int)), some (.int (n : Int)), some (.ref o.a), some (.int sv), none, none] H := by
          intro sv esv
          refine ⟨_, rfl, o.a, C, o.dx, _, _, rfl, hS.ob, T.clC, T.nAsked, sf_asked, _, rfl, _, rfl, o.a, C, o.dx, _, _, rfl, hS.ob, T.clC, T.nDays, sf_days, _, rfl, o.a, C, o.dx, _, _, rfl, hS.ob, T.clC, T.nReader, sf_reader,
            _, rfl, o.a, o.dx, _, rfl, hS.ob, sf_no (by decide +kernel), _, rfl, o, n, sl, k, rfl, hS, h8', fun H1 s1 => ?_⟩
          refine ⟨(by show 6 ≤ sizeLine; decide), fun tl htl => ?_⟩
          have s2 : Same H (upd H1 tl (.lst [.int 0, .int (sl.asked : Int), .int sv, .int (sl.days : Int), .int (sl.reader : Int), .int ((sl.state k : Nat) : Int)])) := same_put (s1.free htl) s1
          have hS2 := hS.same s2
          refine ⟨_, rfl, _, rfl, o.a, C, o.dx, _, _, rfl, hS2.ob, T.clC, T.nFiles, sf_files, o.lf, rfl, ⟨_, SqL.of hS2.fl⟩, fun Dn hD => lc_list (K := K) (a := o.lf) (xs := nV sl.files)
            (fun i H' => Same (upd H1 tl (.lst [.int 0, .int (sl.asked : Int), .int sv, .int (sl.days : Int), .int (sl.reader : Int), .int ((sl.state k : Nat) : Int)])) H' ∧ H' Dn = some (.lst (nV ((sl.files.take i).filter fun g => sl.brought g k)))) ⟨same_upd hD, upd_same⟩ (fun i H' _ ⟨s3, _⟩ => SqL.of (s3 _ _ hS2.fl)) ?_ ?_⟩
          · rintro i x H' hi ⟨s3, hd3⟩
            obtain ⟨g, hg, rfl⟩ := nV_get hi
            have hS3 := hS2.same s3
            refine ⟨rfl, _, rfl, o.a, o.dx, _, rfl, hS3.ob, sf_no (by decide +kernel), _, rfl, _, rfl, o, n, sl, g, k, rfl, hS3, _, rfl, iteB (fun e2 => ?_) (fun e2 => ?_)⟩
            · refine ⟨_, rfl, _, hd3, ?_, same_put hD s3, ?_⟩
              · rw [nV_len]
                refine small9 (Nat.le_trans (List.length_filter_le _ _) ?_)
                rw [List.length_take]; omega
              · rw [upd_same, SL.take_snoc hg, List.filter_append, List.filter_cons, if_pos e2]
                unfold nV
                rw [List.map_append]; rfl
            · refine ⟨s3, ?_⟩
              rw [hd3, SL.take_snoc hg, List.filter_append, List.filter_cons, if_neg (by rw [e2]; exact Bool.false_ne_true), List.filter_nil, List.append_nil]
          · rintro H3 ⟨s3, hd3⟩
            rw [nV_len, List.take_length] at hd3
            have s4 := s2.trans s3
            refine ⟨tl, Dn, _, _, rfl, rfl, s3 _ _ upd_same, hd3, ?_, fun r hr' => ?_⟩
            · rw [nV_len]
              have := List.length_filter_le (fun g => sl.brought g k) sl.files
              refine Nat.le_of_lt (small9 ?_)
              show 6 + _ ≤ 9000
              omega
            · refine q r _ (s4.free hr') (same_put (s4.free hr') s4) ?_
              rw [upd_same, List.map_append, nI_map, esv]; rfl
        refine ⟨_, rfl, o.a, C, o.dx, _, _, rfl, hS.ob, T.clC, T.nServed, sf_served, _, rfl, sl.served, k, rfl, _, rfl, iteB (fun e2 => ?_) (fun e2 => ?_)⟩
        · refine ⟨_, rfl, o.a, C, o.dx, _, _, rfl, hS.ob, T.clC, T.nServed, sf_served, ?_⟩
          exact rest _ (by rw [if_pos e2])
        · exact rest _ (by rw [if_neg (by rw [e2]; exact Bool.false_ne_true)])
theorem scTellFiles : FnScope ["shelf", "k", "q", "slip"] ["shelf", "k", "q"] (defScope sTellFiles) := ⟨rfl, rfl, rfl, by decide +kernel, rfl, by decide +kernel, by decide +kernel⟩
theorem ok_tellFiles {f : Addr} {fd : FuncData} (F : Fun K "tell_files" "tell_files" sTellFiles f fd) (T : Txt K mg C D) (Kn : MtAt P w K mg base D "known" ["self", "k", "q"] 1 (spKnown C D)) : FnOk P w K mg base CX0 2 f fd ["shelf", "k", "q"] (spTellFiles C D) := by
  obtain ⟨fK, fdK, mK, bK, GK⟩ := Kn
  refine F.ok scTellFiles (fun vs H Q E h => ?_) (fun cdv A outer s H vs Q E hr h => ?_)
  · obtain ⟨p, ls, os, S, k, q, rfl, _⟩ := h
    rfl
  · obtain ⟨p, ls, os, S, k, n, rfl, A0, wf, q⟩ := h
    obtain ⟨dx, hp⟩ := A0.ob
    have hsl := A0.sl
    refine ⟨_, pss_cons (ps_if (pt_cmpR op_gt (pv 1) (pe_gi T.gLastDay) (nomark _)) (pss_one (ps_ret (pe_lst (pa_cons (pe_gi T.gOut1) pa_nil)))) pss_nil)
      (pss_cons (ps_set (i := 3) scTellFiles.nd rfl (Or.inl rfl) (pe_meth (pv 0) T.clD mK GK hr bK .nil pass0 (pa_cons (pv 1) (pa_cons (pv 2) pa_nil))))
      (pss_cons (ps_if (pt_cmp (pc_isN (pv 3))) (pss_one (ps_ret (pe_lst (pa_cons (pe_gi T.gNoSlip) pa_nil)))) pss_nil)
      (pss_one (ps_ret (pe_op op_cat (pe_lst (pa_cons (pe_callB call_len_seq rfl T.bLen PySem.boot_len (pa_cons (pe_fld (pv 3) rfl) pa_nil)) pa_nil)) (pe_fld (pv 3) rfl)))))), ?_⟩
    unfold SL.stepM at q
    dsimp only at q
    refine ⟨_, rfl, _, _, rfl, rfl, _, rfl, iteB (fun e => ?_) (fun e => ?_)⟩
    · rw [if_pos (by have := of_decide_eq_true e; omega)] at q
      exact ⟨one_line, fun r hr' => ans1 q r hr'⟩
    · rw [if_neg (by have := of_decide_eq_false e; omega)] at q
      refine ⟨_, rfl, p, dx, _, rfl, hp, shf_no (by decide +kernel), _, rfl, _, rfl, p, ls, os, S, k, n, rfl, A0, fun hn => ?_, fun o sl ho hs ha => ?_⟩
      · rw [hn] at q
        refine ⟨_, rfl, _, rfl, iteT ⟨one_line, fun r hr' => ans1 q r hr'⟩⟩
      · rw [known_none hs ha] at q
        dsimp only at q
        have hS := hsl.at_ n o sl ho hs
        have h8' : sl.files.length ≤ 8 := wf.le sl (List.mem_of_getElem? hs)
        refine ⟨_, rfl, _, rfl, iteF ?_⟩
        refine ⟨_, rfl, o.a, C, o.dx, _, _, rfl, hS.ob, T.clC, T.nFiles, sf_files, o.lf, _, rfl, .inl (SqL.of hS.fl), one_line, fun l1 hl1 => ?_⟩
        have s1 : Same H (upd H l1 (.lst [V.int ((nV sl.files).length : Int)])) := same_upd hl1
        have hS1 := hS.same s1
        refine ⟨_, rfl, o.a, C, o.dx, _, _, rfl, hS1.ob, T.clC, T.nFiles, sf_files, l1, o.lf, _, _, rfl, rfl, upd_same, hS1.fl, ?_, fun r hr' => ?_⟩
        · rw [nV_len]
          refine Nat.le_of_lt (small9 ?_)
          show 1 + _ ≤ 9000
          omega
        · refine q r _ (s1.free hr') (same_put (s1.free hr') s1) ?_
          rw [upd_same, List.map_cons, nI_map, nV_len]; rfl
theorem scWaitsFor : FnScope ["shelf", "k", "q", "slip", "found", "other"] ["shelf", "k", "q"] (defScope sWaitsFor) := ⟨rfl, rfl, rfl, by decide +kernel, rfl, by decide +kernel, by decide +kernel⟩
theorem cut_q (xs : List V) (q : Nat) (h : q ≤ xs.length) : cutV xs none (some (q : Int)) = xs.take q := by
  unfold cutV
  rw [HT.sIx_none, HT.sIx_nat, List.drop_zero, Nat.sub_zero, Nat.min_eq_left h]
theorem ok_waitsFor {f : Addr} {fd : FuncData} (F : Fun K "waits_for" "waits_for" sWaitsFor f fd) (T : Txt K mg C D) (Kn : MtAt P w K mg base D "known" ["self", "k", "q"] 1 (spKnown C D)) (W : MtAt P w K mg base C "waits" ["self", "k"] 2 (spWaits C))
    (Sh : FnAt P w K mg base "share" ["files", "others"] 1 (spShare K)) (Kp : MtAt P w K mg base C "kept" ["self", "k"] 4 (spKept K C)) : FnOk P w K mg base CX0 5 f fd ["shelf", "k", "q"] (spWaitsFor C D) := by
  obtain ⟨fK, fdK, mK, bK, GK⟩ := Kn
  obtain ⟨fW, fdW, mW, bW, GW⟩ := W
  obtain ⟨fS, fdS, mS, kS', bS, GS⟩ := Sh
  obtain ⟨fP, fdP, mP, bP, GP⟩ := Kp
  refine F.ok scWaitsFor (fun vs H Q E h => ?_) (fun cdv A outer s H vs Q E hr h => ?_)
  · obtain ⟨p, ls, os, S, k, q, rfl, _⟩ := h
    rfl
  · obtain ⟨p, ls, os, S, k, n, rfl, A0, wf, q⟩ := h
    obtain ⟨dx, hp⟩ := A0.ob
    have hL := A0.lst
    have hsl := A0.sl
    have hr1 : Room 1 _ := hr.mono (by decide)
    have hr2 : Room 2 _ := hr.mono (by decide)
    refine ⟨_, pss_cons (ps_if (pt_cmpR op_gt (pv 1) (pe_gi T.gLastDay) (nomark _)) (pss_one (ps_ret (pe_lst (pa_cons (pe_gi T.gOut1) pa_nil)))) pss_nil)
      (pss_cons (ps_set (i := 3) scWaitsFor.nd rfl (Or.inr rfl) (pe_meth (pv 0) T.clD mK GK hr1 bK .nil pass0 (pa_cons (pv 1) (pa_cons (pv 2) pa_nil))))
      (pss_cons (ps_if (pt_cmp (pc_isN (pv 3))) (pss_one (ps_ret (pe_lst (pa_cons (pe_gi T.gNoSlip) pa_nil)))) pss_nil)
      (pss_cons (ps_if (pt_not (pt_val (pe_meth (pv 3) T.clC mW GW hr2 bW .nil pass0 (pa_cons (pv 1) pa_nil)))) (pss_one (ps_ret (pe_lst (pa_cons (pe_gi T.gNotSo) pa_nil)))) pss_nil)
      (pss_cons (ps_setLc (i := 4) (own := [("other", 5)]) rfl scWaitsFor.nd rfl rfl (sw_true rfl rfl rfl (by decide +kernel)) (pi_list (pe_slice sl_list (pe_fld (pv 0) rfl) po_none (po_some (pv 2)))) (blk (N := ["shelf", "k", "q", "slip", "found", "other"]) (sc := defScope sWaitsFor) rfl rfl (by decide +kernel)) (fun _ _ _ _ _ => pg_name (i := 5) scWaitsFor.nd rfl (Or.inl rfl))
        (fun _ _ _ _ _ => pts_one (pt_val (pe_call GS hr1 rfl mS kS' bS .nil pass0 (pa_cons (pe_fldK (K := K) rfl (pv 3) rfl) (pa_cons (pe_meth (pv 5) T.clC mP GP hr bP .nil pass0 (pa_cons (pv 1) pa_nil)) pa_nil))))) (fun _ _ _ _ _ => pe_fldK (K := K) rfl (pv 5) rfl))
      (pss_one (ps_ret (pe_op op_cat (pe_lst (pa_cons (pe_callB call_len_seq rfl T.bLen PySem.boot_len (pa_cons (pv 4) pa_nil)) pa_nil)) (pv 4)))))))), ?_⟩
    unfold SL.stepM at q
    dsimp only at q
    refine ⟨_, rfl, _, _, rfl, rfl, _, rfl, iteB (fun e => ?_) (fun e => ?_)⟩
    · rw [if_pos (by have := of_decide_eq_true e; omega)] at q
      exact ⟨one_line, fun r hr' => ans1 q r hr'⟩
    · rw [if_neg (by have := of_decide_eq_false e; omega)] at q
      refine ⟨_, rfl, p, dx, _, rfl, hp, shf_no (by decide +kernel), _, rfl, _, rfl, p, ls, os, S, k, n, rfl, A0, fun hn => ?_, fun o sl ho hs ha => ?_⟩
      · rw [hn] at q
        refine ⟨_, rfl, _, rfl, iteT ⟨one_line, fun r hr' => ans1 q r hr'⟩⟩
      · rw [known_none hs ha] at q
        dsimp only at q
        have hS := hsl.at_ n o sl ho hs
        have h8' : sl.files.length ≤ 8 := wf.le sl (List.mem_of_getElem? hs)
        have hn64 : n < 64 := Nat.lt_of_lt_of_le (List.getElem?_eq_some_iff.mp hs).1 wf.few
        refine ⟨_, rfl, _, rfl, iteF ?_⟩
        refine ⟨_, rfl, o.a, o.dx, _, rfl, hS.ob, sf_no (by decide +kernel), _, rfl, o, n, sl, k, rfl, hS, _, rfl, iteB (fun e2 => ?_) (fun e2 => ?_)⟩
        · rw [if_pos (by cases c : sl.waits k; rfl; rw [c] at e2; cases e2)] at q
          exact ⟨one_line, fun r hr' => ans1 q r hr'⟩
        · rw [if_neg (by intro c; rw [c] at e2; cases e2)] at q
          refine ⟨_, rfl, p, D, dx, _, _, rfl, hp, T.clD, T.nSlips, shf_slips, _, rfl, _, rfl, ls, _, rfl, SqL.of hL, fun pl hpl => ?_⟩
          rw [cut_q _ n (by rw [List.length_map]; exact Nat.le_of_lt (List.getElem?_eq_some_iff.mp ho).1), ← List.map_take]
          have s1 : Same H (upd H pl (.lst ((os.take n).map fun o => V.ref o.a))) := same_upd hpl
          refine ⟨pl, rfl, ⟨_, SqL.of upd_same⟩, fun Dn hD => lc_list (K := K) (a := pl) (xs := (os.take n).map fun o => V.ref o.a)
            (fun i H' => Same (upd H pl (.lst ((os.take n).map fun o => V.ref o.a))) H' ∧ H' Dn = some (.lst (nV (SL.waitsM S k i sl.files)))) ⟨same_upd hD, upd_same⟩ (fun i H' _ ⟨s2, _⟩ => SqL.of (s2 _ _ upd_same)) ?_ ?_⟩
          · rintro i x H' hi ⟨s2, hd2⟩
            obtain ⟨o2, ho2', rfl⟩ := refs_get hi
            have hin : i < n := by
              have := (List.getElem?_eq_some_iff.mp ho2').1
              rw [List.length_take] at this
              omega
            have ho2 : os[i]? = some o2 := by rw [List.getElem?_take_of_lt hin] at ho2'; exact ho2'
            obtain ⟨sl2, hs2, hS0⟩ := hsl.get' ho2
            have hS2 := (hS0.same s1).same s2
            have hS3 := (hS.same s1).same s2
            have h8'' : sl2.files.length ≤ 8 := wf.le sl2 (List.mem_of_getElem? hs2)
            have ew : SL.waitsM S k (i + 1) sl.files = SL.waitsM S k i sl.files ++ if (sl.files.any fun g => (sl2.kept k).contains g) = true then [i] else [] := by
              unfold SL.waitsM
              rw [List.range_succ, List.filter_append, List.filter_cons, hs2]
              show _ ++ (if (sl.files.any fun g => (sl2.kept k).contains g) = true then _ else _) = _
              rw [List.filter_nil]
            refine ⟨rfl, _, rfl, o.a, C, o.dx, _, _, rfl, hS3.ob, T.clC, T.nFiles, sf_files, _, rfl, o2.a, o2.dx, _, rfl, hS2.ob, sf_no (by decide +kernel), _, rfl, o2, i, sl2, k, rfl, hS2, h8'', fun pk H3 s3 hk3 => ?_⟩
            refine ⟨o.lf, pk, sl.files, fun g => (sl2.kept k).contains g, rfl, SqL.of (hS3.same s3).fl, Nat.le_trans h8' (by decide), .inl ⟨_, hk3, fun g => rfl⟩, fun H4 s4 => ?_⟩
            have s5 := s2.trans (s3.trans s4)
            have hd5 := (s3.trans s4) _ _ hd2
            have hS5 := hS2.same (s3.trans s4)
            refine ⟨_, rfl, iteB (fun e3 => ?_) (fun e3 => ?_)⟩
            · refine ⟨_, rfl, o2.a, C, o2.dx, _, _, rfl, hS5.ob, T.clC, T.nNumber, sf_number, _, hd5, ?_, same_put hD s5, ?_⟩
              · rw [nV_len]
                refine small9 ?_
                unfold SL.waitsM
                refine Nat.le_trans (List.length_filter_le _ _) ?_
                rw [List.length_range]; omega
              · rw [upd_same, ew, if_pos e3]
                unfold nV
                rw [List.map_append]; rfl
            · refine ⟨s5, ?_⟩
              rw [hd5, ew, if_neg (by rw [e3]; exact Bool.false_ne_true), List.append_nil]
          · rintro H2 ⟨s2, hd2⟩
            have el : ((os.take n).map fun o => V.ref o.a).length = n := by
              rw [List.length_map, List.length_take]
              have := (List.getElem?_eq_some_iff.mp ho).1
              omega
            rw [el] at hd2
            have s3 := s1.trans s2
            have hwl : (SL.waitsM S k n sl.files).length ≤ 64 := by
              unfold SL.waitsM
              refine Nat.le_trans (List.length_filter_le _ _) ?_
              rw [List.length_range]; omega
            refine ⟨_, rfl, Dn, _, rfl, .inl (SqL.of hd2), one_line, fun l1 hl1 => ?_⟩
            have nl : Dn ≠ l1 := ne_of_none hd2 hl1
            refine ⟨_, rfl, l1, Dn, _, _, rfl, rfl, upd_same, (upd_ne nl).trans hd2, ?_, fun r hr' => ?_⟩
            · rw [nV_len]
              refine Nat.le_of_lt (small9 ?_)
              show 1 + _ ≤ 9000
              omega
            · have s4 : Same H (upd H2 l1 (.lst [V.int ((nV (SL.waitsM S k n sl.files)).length : Int)])) := same_put (s3.free hl1) s3
              refine q r _ (s4.free hr') (same_put (s4.free hr') s4) ?_
              rw [upd_same, List.map_cons, nI_map, nV_len]; rfl
end
end SP
end
section
set_option Elab.async false
set_option linter.all false
set_option maxRecDepth 100000
set_option maxHeartbeats 2000000
namespace SP
open PySem PySem.Spec PyProof.Rows L2
/-! ### Late -/
def ovOf (x : Nat) (its : List (Nat × (A1 × SL.PS))) : List (Nat × Nat) := (its.map fun t => (t.2.2.due, t.1)).filter fun p => decide (p.1 < x)
theorem ov_snoc (x : Nat) (its : List (Nat × (A1 × SL.PS))) (t : Nat × (A1 × SL.PS)) : ovOf x (its ++ [t]) = ovOf x its ++ if t.2.2.due < x then [(t.2.2.due, t.1)] else [] := by
  unfold ovOf
  rw [List.map_append, List.filter_append]
  congr 1
  show List.filter _ [(t.2.2.due, t.1)] = _
  rw [List.filter_cons, List.filter_nil]
  by_cases c : t.2.2.due < x
  · rw [if_pos (decide_eq_true c), if_pos c]
  · rw [if_neg (by intro z; exact c (of_decide_eq_true z)), if_neg c]
theorem ov_is {S : SL.Sh} {os : List A1} (k x : Nat) (h : os.length = S.slips.length) : ovOf x (outP k os S.slips) = SL.overM S k x := by
  unfold ovOf SL.overM
  congr 1
  have : ∀ (os : List A1) (l : List SL.PS), os.length = l.length → (outP k os l).map (fun t => (t.2.2.due, t.1)) = l.flatMap fun s => (s.held k).map fun f => (s.due, f) := by
    intro os
    induction os with
    | nil =>
      intro l h
      cases l with
      | nil => rfl
      | cons _ _ => cases h
    | cons o os ih =>
      intro l h
      cases l with
      | nil => cases h
      | cons s l =>
        unfold outP
        rw [List.zip_cons_cons, List.flatMap_cons, List.flatMap_cons, List.map_append, List.map_map]
        have e := ih l (Nat.succ.inj h)
        unfold outP at e
        rw [e]; rfl
  exact this os S.slips h
theorem PairAt.same {H H' : Hp} {c : Addr} (h : PairAt H c) (s : Same H H') : PairAt H' c ∧ keyAt H' c = keyAt H c := by
  obtain ⟨x, y, e⟩ := h
  exact ⟨⟨x, y, s _ _ e⟩, by rw [keyAt_of e, keyAt_of (s _ _ e)]⟩
theorem keys_same {H H' : Hp} (s : Same H H') : ∀ {cs : List Addr}, (∀ c ∈ cs, PairAt H c) → cs.map (keyAt H') = cs.map (keyAt H)
  | [], _ => rfl
  | c :: cs, h => by
    rw [List.map_cons, List.map_cons, ((h c List.mem_cons_self).same s).2, keys_same s fun d hd => h d (List.mem_cons_of_mem _ hd)]
theorem crefs_get {cs : List Addr} {i : Nat} {v : V} (h : (cs.map V.ref)[i]? = some v) : ∃ c, cs[i]? = some c ∧ v = V.ref c := by
  rw [List.getElem?_map] at h
  cases e : cs[i]? with
  | none => rw [e] at h; cases h
  | some c => rw [e] at h; exact ⟨c, rfl, (Option.some.inj h).symm⟩
section
variable {P : Program} {w : World} {K : PySem.W.Frag} {mg : Str → Option Value} {base : Heap} {C D : Addr}
theorem scLate : FnScope ["shelf", "k", "x", "overdue", "f", "slip", "pair"] ["shelf", "k", "x"] (defScope sLate) := ⟨rfl, rfl, rfl, by decide +kernel, rfl, by decide +kernel, by decide +kernel⟩
theorem ok_late {f : Addr} {fd : FuncData} (F : Fun K "late" "late" sLate f fd) (T : Txt K mg C D) (O : MtAt P w K mg base D "out" ["self", "k"] 4 (spOut C D)) (Du : MtAt P w K mg base C "due" ["self"] 1 (spDue C)) : FnOk P w K mg base CX0 5 f fd ["shelf", "k", "x"] (spLate C D) := by
  obtain ⟨fO, fdO, mO, bO, GO⟩ := O
  obtain ⟨fU, fdU, mU, bU, GU⟩ := Du
  refine F.ok scLate (fun vs H Q E h => ?_) (fun cdv A outer s H vs Q E hr h => ?_)
  · obtain ⟨p, ls, os, S, k, g, rfl, _⟩ := h
    rfl
  · obtain ⟨p, ls, os, S, k, x, rfl, A0, wf, q⟩ := h
    obtain ⟨dx, hp⟩ := A0.ob
    have hL := A0.lst
    have hsl := A0.sl
    have hr1 : Room 1 _ := hr.mono (by decide)
    refine ⟨_, pss_cons (ps_if (PW.pt (pw_or (pt_cmpR op_gt (pv 1) (pe_gi T.gLastDay) (nomark _)) (pw_or1 (pt_cmpR op_gt (pv 2) (pe_gi T.gLastDay) (nomark _))))) (pss_one (ps_ret (pe_lst (pa_cons (pe_gi T.gOut1) pa_nil)))) pss_nil)
      (pss_cons (ps_set (i := 3) scLate.nd rfl (Or.inl rfl) (pe_lst pa_nil))
      (pss_cons (ps_for PassesOwn.never rfl (pi_items (pe_frz (pe_meth (pv 0) T.clD mO GO hr bO .nil pass0 (pa_cons (pv 1) pa_nil)))) (pg_tup rfl (pgs_cons (pg_name (i := 4) scLate.nd rfl (Or.inl rfl)) (pgs_cons (pg_name (i := 5) scLate.nd rfl (Or.inl rfl)) pgs_nil)))
        (pss_one (ps_if (pt_cmpR op_lt (pe_meth0 (pv 5) T.clC mU GU hr1 bU .nil pass0) (pv 2) (nomark _))
          (pss_one (ps_expr (pe_bm PySem.F.plainAttrs_list PySem.F.slot_list_append PySem.F.type_list_append mt_append (pv 3) (pa_cons (pe_tup (pa_cons (pe_meth0 (pv 5) T.clC mU GU hr1 bU .nil pass0) (pa_cons (pv 4) pa_nil))) pa_nil)))) pss_nil)))
      (pss_one (ps_ret (pe_op op_cat (pe_lst (pa_cons (pe_callB call_len_seq rfl T.bLen PySem.boot_len (pa_cons (pv 3) pa_nil)) pa_nil))
        (pe_lc (own := [("pair", 6)]) rfl scLate.nd (pi_list (pe_callB cr_sortedT rfl T.bSorted PyProof.Rows.boot_sorted (pa_cons (pv 3) pa_nil))) (blk (N := ["shelf", "k", "x", "overdue", "f", "slip", "pair"]) (sc := defScope sLate) rfl rfl (by decide +kernel)) (fun _ _ _ _ _ => pg_name (i := 6) scLate.nd rfl (Or.inl rfl))
          (fun _ _ _ _ _ => pts_nil) (fun _ _ _ _ _ => pe_ix (r := rIxT K) ix_tup (pv 6) pe_int (fun _ _ => rfl)))))))), ?_⟩
    unfold SL.stepM at q
    dsimp only at q
    have no : 292193 < k ∨ 292193 < x → AnsR H [-1] Q := fun z => by rw [if_pos z] at q; exact q
    refine ⟨_, rfl, _, _, rfl, rfl, _, rfl, iteB (fun e => iteT ⟨one_line, fun r hr' => ans1 (no (.inl (by have := of_decide_eq_true e; omega))) r hr'⟩) (fun e => ?_)⟩
    refine ⟨_, rfl, _, _, rfl, rfl, _, rfl, iteB (fun e2 => ⟨one_line, fun r hr' => ans1 (no (.inr (by have := of_decide_eq_true e2; omega))) r hr'⟩) (fun e2 => ?_)⟩
    rw [if_neg (by have h1 := of_decide_eq_false e; have h2 := of_decide_eq_false e2; omega)] at q
    refine ⟨Nat.zero_le _, fun ov hov => ?_⟩
    have s0 : Same H (upd H ov (.lst [])) := same_upd hov
    have A1' := A0.same s0
    refine ⟨_, rfl, p, dx, _, rfl, s0 _ _ hp, shf_no (by decide +kernel), _, rfl, p, ls, os, S, k, rfl, A1', wf.few, wf.le, fun d H1 hd s1 hd1 => ?_⟩
    rw [out_is k hsl.len (wf.out k)] at hd1
    refine ⟨d, _, rfl, hd1, trivial, fun od => ?_⟩
    have hdH : H d = none := s0.free hd
    have nfd : ov ≠ d := ne_of_none (upd_same (H := H) (a := ov) (o := .lst [])) hd
    have sF : Same H (upd H1 d (.frz od (.dK (outL k os S.slips)))) := same_put hdH (s0.trans s1)
    have len512 : (outP k os S.slips).length ≤ 512 := by
      have := outP_len k hsl.len wf.le
      have := wf.few
      omega
    refine ⟨d, od, _, rfl, upd_same, for_items (Pv := fun i σ H' => ∃ (v4 v5 : Option V) (cs : List Addr), σ = [some (.ref p), some (.int (k : Int)), some (.int (x : Int)), some (.ref ov), v4, v5, none] ∧
        Same H H' ∧ H' d = some (.frz od (.dK (outL k os S.slips))) ∧ H' ov = some (.lst (cs.map V.ref)) ∧ cs.length ≤ i ∧ (∀ c ∈ cs, PairAt H' c) ∧ cs.map (keyAt H') = ovOf x ((outP k os S.slips).take i))
      ⟨none, none, [], rfl, sF, upd_same, by rw [upd_ne nfd]; exact s1 _ _ upd_same, Nat.le_refl 0, fun c hc => (by cases hc), rfl⟩ (fun i σ H' _ ⟨_, _, _, _, _, h2, _⟩ => h2) ?_ ?_⟩
    · rintro i kk v Tn σ H' hi hT ⟨v4, v5, cs, rfl, s2, hd2, ho2, hz2, hc2, hk2⟩
      obtain ⟨t, ht, et⟩ : ∃ t, (outP k os S.slips)[i]? = some t ∧ (kk, v) = oK t := by
        unfold outL at hi
        rw [List.getElem?_map] at hi
        cases e : (outP k os S.slips)[i]? with
        | none => rw [e] at hi; cases hi
        | some t => rw [e] at hi; exact ⟨t, rfl, (Option.some.inj hi).symm⟩
      have e1 : kk = (Sum.inl (t.1 : Int) : Key) := congrArg Prod.fst et
      have e2' : v = V.ref t.2.1.a := congrArg Prod.snd et
      subst e1 e2'
      obtain ⟨hheld, j, hj1, hj2⟩ := outP_mem (List.mem_of_getElem? ht)
      have hS := (hsl.at_ j _ _ hj1 hj2).same s2
      have sT : Same H' (upd H' Tn (.tup [kV (Sum.inl (t.1 : Int)), V.ref t.2.1.a])) := same_upd hT
      have hS' := hS.same sT
      have hi512 : i < 512 := Nat.lt_of_lt_of_le (List.getElem?_eq_some_iff.mp ht).1 len512
      have sn : (outP k os S.slips).take (i + 1) = (outP k os S.slips).take i ++ [t] := SL.take_snoc ht
      have hov' : ov ≠ Tn := ne_of_none ho2 hT
      refine ⟨Tn, _, rfl, SqT.of upd_same, rfl, _, _, rfl, _, _, rfl, rfl, ?_⟩
      refine ⟨_, rfl, t.2.1.a, t.2.1.dx, _, rfl, hS'.ob, sf_no (by decide +kernel), t.2.1, j, t.2.2, rfl, hS', _, rfl, _, _, rfl, rfl, _, rfl, iteB (fun e3 => ?_) (fun e3 => ?_)⟩
      · have hlt : t.2.2.due < x := by
          have := of_decide_eq_true e3
          rw [due_is hheld] at this; omega
        refine ⟨_, rfl, .inl ⟨rfl, _, SqL.of (sT _ _ ho2)⟩, _, rfl, t.2.1.a, t.2.1.dx, _, rfl, hS'.ob, sf_no (by decide +kernel), t.2.1, j, t.2.2, rfl, hS', _, rfl, (by show 2 ≤ sizeLine; decide), fun c hc => ?_⟩
        have sC : Same H' (upd (upd H' Tn (.tup [kV (Sum.inl (t.1 : Int)), V.ref t.2.1.a])) c (.tup [V.int (SL.oI t.2.2.served + (t.2.2.days : Int)), kV (Sum.inl (t.1 : Int))])) := same_put (sT.free hc) sT
        have hcov : ov ≠ c := ne_of_none (sT _ _ ho2) hc
        refine ⟨ov, _, _, rfl, rfl, sC _ _ ho2, (by rw [List.length_map]; exact small9 (by omega)), ?_⟩
        have hcv : (upd (upd (upd H' Tn (.tup [kV (Sum.inl (t.1 : Int)), V.ref t.2.1.a])) c (.tup [V.int (SL.oI t.2.2.served + (t.2.2.days : Int)), kV (Sum.inl (t.1 : Int))])) ov (.lst (cs.map V.ref ++ [V.ref c]))) c = some (.tup [V.int ((t.2.2.due : Nat) : Int), V.int (t.1 : Int)]) := by
          rw [upd_ne hcov.symm, upd_same, due_is hheld]; rfl
        have keepT : ∀ b ∈ cs, PairAt (upd (upd (upd H' Tn (.tup [kV (Sum.inl (t.1 : Int)), V.ref t.2.1.a])) c (.tup [V.int (SL.oI t.2.2.served + (t.2.2.days : Int)), kV (Sum.inl (t.1 : Int))])) ov (.lst (cs.map V.ref ++ [V.ref c]))) b ∧
            keyAt (upd (upd (upd H' Tn (.tup [kV (Sum.inl (t.1 : Int)), V.ref t.2.1.a])) c (.tup [V.int (SL.oI t.2.2.served + (t.2.2.days : Int)), kV (Sum.inl (t.1 : Int))])) ov (.lst (cs.map V.ref ++ [V.ref c]))) b = keyAt H' b := fun b hb => by
          obtain ⟨y1, y2, ey⟩ := hc2 b hb
          have nb : b ≠ ov := ne_of ey ho2 (by intro z; cases z)
          have e5 := sC _ _ ey
          have e6 := (upd_ne (o := HO.lst (cs.map V.ref ++ [V.ref c])) nb).trans e5
          exact ⟨⟨y1, y2, e6⟩, by rw [keyAt_of e6, keyAt_of ey]⟩
        refine ⟨_, _, cs ++ [c], rfl, fun b u e' => ?_, ?_, ?_, ?_, fun b hb => ?_, ?_⟩
        · rw [upd_ne (ne_of_none e' hov)]; exact sC b u (s2 b u e')
        · rw [upd_ne nfd.symm]; exact sC _ _ hd2
        · rw [upd_same, List.map_append]; rfl
        · rw [List.length_append]
          show cs.length + 1 ≤ _
          omega
        · rcases List.mem_append.mp hb with z | z
          · exact (keepT b z).1
          · rw [List.mem_singleton] at z
            subst z
            exact ⟨_, _, hcv⟩
        · rw [sn, ov_snoc, if_pos hlt, List.map_append, ← hk2]
          congr 1
          · exact List.map_congr_left fun b hb => (keepT b hb).2
          · show [keyAt _ c] = _
            rw [keyAt_of hcv]
      · have hlt : ¬ t.2.2.due < x := by
          have := of_decide_eq_false e3
          rw [due_is hheld] at this; omega
        refine ⟨_, _, cs, rfl, s2.trans sT, sT _ _ hd2, sT _ _ ho2, by omega, fun c hc => ((hc2 c hc).same sT).1, ?_⟩
        rw [keys_same sT hc2, sn, ov_snoc, if_neg hlt, List.append_nil]; exact hk2
    · rintro σ H2 ⟨v4, v5, cs, rfl, s2, hd2, ho2, hz2, hc2, hk2⟩
      have el : (outL k os S.slips).length = (outP k os S.slips).length := List.length_map _
      rw [el] at hz2 hk2
      rw [List.take_length, ov_is k x hsl.len] at hk2
      have hzl : cs.length ≤ 512 := Nat.le_trans hz2 len512
      refine ⟨_, rfl, ov, _, rfl, .inl (SqL.of ho2), one_line, fun l1 hl1 => ?_⟩
      have s3 : Same H2 (upd H2 l1 (.lst [V.int ((cs.map V.ref).length : Int)])) := same_upd hl1
      refine ⟨_, rfl, ov, cs, rfl, SqL.of (s3 _ _ ho2), fun c hc => ((hc2 c hc).same s3).1, fun cs' pl hpm hso hpl => ?_⟩
      have s4 : Same H2 (upd (upd H2 l1 (.lst [V.int ((cs.map V.ref).length : Int)])) pl (.lst (cs'.map V.ref))) := same_put (s3.free hpl) s3
      have pc : ∀ c ∈ cs', PairAt H2 c := fun c hc => hc2 c (hpm.mem_iff.mp hc)
      have esort : cs'.map (keyAt H2) = SL.sortM (SL.overM S k x) := by
        rw [keys_same s3 pc] at hso
        refine SL.sorted_is ?_ hso
        rw [← hk2]
        exact hpm.map _
      have hlen' : cs'.length = cs.length := hpm.length_eq
      refine ⟨pl, rfl, ⟨_, SqL.of upd_same⟩, fun Dn hD => lc_list (K := K) (a := pl) (xs := cs'.map V.ref)
        (fun i H' => Same (upd (upd H2 l1 (.lst [V.int ((cs.map V.ref).length : Int)])) pl (.lst (cs'.map V.ref))) H' ∧ H' Dn = some (.lst (nV ((cs'.take i).map fun c => (keyAt H2 c).2)))) ⟨same_upd hD, upd_same⟩ (fun i H' _ ⟨s5, _⟩ => SqL.of (s5 _ _ upd_same)) ?_ ?_⟩
      · rintro i y H' hi ⟨s5, hd5⟩
        obtain ⟨c, hc, rfl⟩ := crefs_get hi
        obtain ⟨y1, y2, ey⟩ := pc c (List.mem_of_getElem? hc)
        have ey5 := s5 _ _ (s4 _ _ ey)
        have hi512 : i < 512 := by
          have := (List.getElem?_eq_some_iff.mp hc).1
          omega
        refine ⟨rfl, tyes ⟨_, rfl, c, _, _, _, rfl, rfl, SqT.of ey5, rfl, _, hd5, ?_, same_put hD s5, ?_⟩⟩
        · rw [nV_len, List.length_map, List.length_take]
          exact small9 (by omega)
        · rw [upd_same, SL.take_snoc hc, List.map_append]
          unfold nV
          rw [List.map_append]
          show _ = some (HO.lst (_ ++ [V.int (((keyAt H2 c).2 : Nat) : Int)]))
          rw [keyAt_of ey]
      · rintro H5 ⟨s5, hd5⟩
        rw [List.length_map, List.take_length] at hd5
        have s6 := s2.trans (s4.trans s5)
        have hl15 : H5 l1 = some (.lst [V.int ((cs.map V.ref).length : Int)]) := s5 _ _ ((upd_ne (ne_of_none (upd_same (H := H2) (a := l1)) hpl)).trans upd_same)
        refine ⟨l1, Dn, _, _, rfl, rfl, hl15, hd5, ?_, fun r hr' => ?_⟩
        · have e7 : (nV (cs'.map fun c => (keyAt H2 c).2)).length = cs'.length := by rw [nV_len, List.length_map]
          refine Nat.le_of_lt (small9 ?_)
          show 1 + (nV (cs'.map fun c => (keyAt H2 c).2)).length ≤ 9000
          rw [e7]
          omega
        · refine q r _ (s6.free hr') (same_put (s6.free hr') s6) ?_
          have e6 : (SL.overM S k x).length = cs.length := by rw [← hk2, List.length_map]
          rw [upd_same, List.map_cons, nI_map, ← esort, e6, List.map_map, List.length_map]; rfl
theorem scWhen : FnScope ["shelf", "k", "q", "x", "slip"] ["shelf", "k", "q", "x"] (defScope sWhen) := ⟨rfl, rfl, rfl, by decide +kernel, rfl, by decide +kernel, by decide +kernel⟩
theorem ok_when {f : Addr} {fd : FuncData} (F : Fun K "when" "when" sWhen f fd) (T : Txt K mg C D) (Kn : MtAt P w K mg base D "known" ["self", "k", "q"] 1 (spKnown C D)) (W : MtAt P w K mg base C "waits" ["self", "k"] 2 (spWaits C))
    (La : MtAt P w K mg base D "latest" ["self", "k", "q", "x"] 5 (spLatest C D)) : FnOk P w K mg base CX0 6 f fd ["shelf", "k", "q", "x"] (spWhen C D) := by
  obtain ⟨fK, fdK, mK, bK, GK⟩ := Kn
  obtain ⟨fW, fdW, mW, bW, GW⟩ := W
  obtain ⟨fL, fdL, mL, bL, GL⟩ := La
  refine F.ok scWhen (fun vs H Q E h => ?_) (fun cdv A outer s H vs Q E hr h => ?_)
  · obtain ⟨p, ls, os, S, k, q, x, rfl, _⟩ := h
    rfl
  · obtain ⟨p, ls, os, S, k, n, x, rfl, A0, wf, q⟩ := h
    obtain ⟨dx, hp⟩ := A0.ob
    have hsl := A0.sl
    have hr1 : Room 1 _ := hr.mono (by decide)
    have hr2 : Room 2 _ := hr.mono (by decide)
    refine ⟨_, pss_cons (ps_if (PW.pt (pw_or (pt_cmpR op_gt (pv 1) (pe_gi T.gLastDay) (nomark _)) (pw_or1 (pt_cmpR op_gt (pv 3) (pe_gi T.gLastDay) (nomark _))))) (pss_one (ps_ret (pe_lst (pa_cons (pe_gi T.gOut1) pa_nil)))) pss_nil)
      (pss_cons (ps_if (pt_cmpR op_lt (pv 3) (pv 1) (nomark _)) (pss_one (ps_ret (pe_lst (pa_cons (pe_gi T.gEarly) pa_nil)))) pss_nil)
      (pss_cons (ps_set (i := 4) scWhen.nd rfl (Or.inl rfl) (pe_meth (pv 0) T.clD mK GK hr1 bK .nil pass0 (pa_cons (pv 1) (pa_cons (pv 2) pa_nil))))
      (pss_cons (ps_if (pt_cmp (pc_isN (pv 4))) (pss_one (ps_ret (pe_lst (pa_cons (pe_gi T.gNoSlip) pa_nil)))) pss_nil)
      (pss_cons (ps_if (pt_not (pt_val (pe_meth (pv 4) T.clC mW GW hr2 bW .nil pass0 (pa_cons (pv 1) pa_nil)))) (pss_one (ps_ret (pe_lst (pa_cons (pe_gi T.gNotSo) pa_nil)))) pss_nil)
      (pss_one (ps_ret (pe_lst (pa_cons pe_int (pa_cons (pe_meth (pv 0) T.clD mL GL hr bL .nil pass0 (pa_cons (pv 1) (pa_cons (pv 2) (pa_cons (pv 3) pa_nil)))) pa_nil))))))))), ?_⟩
    unfold SL.stepM at q
    dsimp only at q
    have no : 292193 < k ∨ 292193 < x → AnsR H [-1] Q := fun z => by rw [if_pos z] at q; exact q
    refine ⟨_, rfl, _, _, rfl, rfl, _, rfl, iteB (fun e => iteT ⟨one_line, fun r hr' => ans1 (no (.inl (by have := of_decide_eq_true e; omega))) r hr'⟩) (fun e => ?_)⟩
    refine ⟨_, rfl, _, _, rfl, rfl, _, rfl, iteB (fun e2 => ⟨one_line, fun r hr' => ans1 (no (.inr (by have := of_decide_eq_true e2; omega))) r hr'⟩) (fun e2 => ?_)⟩
    rw [if_neg (by have h1 := of_decide_eq_false e; have h2 := of_decide_eq_false e2; omega)] at q
    refine ⟨_, rfl, _, rfl, _, _, rfl, rfl, _, rfl, iteB (fun e3 => ?_) (fun e3 => ?_)⟩
    · rw [if_pos (by have := of_decide_eq_true e3; omega)] at q
      exact ⟨one_line, fun r hr' => ans1 q r hr'⟩
    · rw [if_neg (by have := of_decide_eq_false e3; omega)] at q
      refine ⟨_, rfl, p, dx, _, rfl, hp, shf_no (by decide +kernel), _, rfl, _, rfl, p, ls, os, S, k, n, rfl, A0, fun hn => ?_, fun o sl ho hs ha => ?_⟩
      · rw [hn] at q
        refine ⟨_, rfl, _, rfl, iteT ⟨one_line, fun r hr' => ans1 q r hr'⟩⟩
      · rw [known_none hs ha] at q
        dsimp only at q
        have hS := hsl.at_ n o sl ho hs
        refine ⟨_, rfl, _, rfl, iteF ?_⟩
        refine ⟨_, rfl, o.a, o.dx, _, rfl, hS.ob, sf_no (by decide +kernel), _, rfl, o, n, sl, k, rfl, hS, _, rfl, iteB (fun e4 => ?_) (fun e4 => ?_)⟩
        · rw [if_pos (by cases c : sl.waits k; rfl; rw [c] at e4; cases e4)] at q
          exact ⟨one_line, fun r hr' => ans1 q r hr'⟩
        · rw [if_neg (by intro c; rw [c] at e4; cases e4)] at q
          refine ⟨_, rfl, p, dx, _, rfl, hp, shf_no (by decide +kernel), _, rfl, _, rfl, _, rfl, p, ls, os, S, k, n, x, rfl, A0, wf, fun H1 s1 => ⟨(by show 2 ≤ sizeLine; decide), fun r hr' => ?_⟩⟩
          exact q r _ (s1.free hr') (same_put (s1.free hr') s1) upd_same
end
end SP
end
section
set_option Elab.async false
set_option linter.all false
set_option maxRecDepth 100000
set_option maxHeartbeats 2000000
namespace SP
open PySem PySem.Spec PyProof.Rows L2
/-! ### The calls that enter -/
def MkAt (P : Program) (w : World) (K : PySem.W.Frag) (mg : Str → Option Value) (base : Heap) (C : Addr) (ps : List Str) (k : Nat) (sp : Sp) : Prop :=
  ∃ f fd, Mk K C f ∧ Binds K fd ps [] ∧ FnOk P w K mg base CX0 k f fd ps sp
theorem ShAt.tracked {C D : Addr} {H : Hp} {p ls : Addr} {os : List A1} {S : SL.Sh} (A : ShAt C D H p ls os S) {b : Addr} (h : InA p ls os b) : ∃ u, H b = some u := by
  rcases h with rfl | rfl | ⟨o, ho, h⟩
  · obtain ⟨dx, e⟩ := A.ob
    exact ⟨_, e⟩
  · exact ⟨_, A.lst⟩
  · obtain ⟨i, hi⟩ := List.getElem?_of_mem ho
    obtain ⟨s, _, q⟩ := A.sl.get' hi
    rcases h with rfl | rfl | rfl
    · exact ⟨_, q.ob⟩
    · exact ⟨_, q.fl⟩
    · exact ⟨_, q.rt⟩
theorem SlipsAt.snoc {C : Addr} {H' : Hp} {os : List A1} {l : List SL.PS} {o : A1} {s : SL.PS} (h : SlipsAt C H' os l) (new : SlAt C H' o l.length s) (na : ∀ o' ∈ os, o'.a ≠ o.a) (nd : ∀ o' ∈ os, o'.dr ≠ o.dr) : SlipsAt C H' (os ++ [o]) (l ++ [s]) := by
  refine ⟨by rw [List.length_append, List.length_append, h.len]; rfl, ?_, ?_, fun i o' s' h1 h2 => ?_⟩
  · rw [List.map_append]
    exact nd_snoc h.nda fun z => by
      obtain ⟨o', ho, e⟩ := List.mem_map.mp z
      exact na o' ho e
  · rw [List.map_append]
    exact nd_snoc h.ndr fun z => by
      obtain ⟨o', ho, e⟩ := List.mem_map.mp z
      exact nd o' ho e
  · by_cases c : i < os.length
    · rw [List.getElem?_append_left c] at h1
      rw [List.getElem?_append_left (by rw [← h.len]; exact c)] at h2
      exact h.at_ i o' s' h1 h2
    · rw [List.getElem?_append_right (by omega)] at h1
      rw [List.getElem?_append_right (by rw [← h.len]; omega)] at h2
      obtain ⟨hi, _⟩ := List.getElem?_eq_some_iff.mp h1
      have ei : i = os.length := by
        have : i - os.length < 1 := hi
        omega
      subst ei
      rw [Nat.sub_self] at h1
      rw [h.len, Nat.sub_self] at h2
      have e1 : o = o' := Option.some.inj h1
      have e2 : s = s' := Option.some.inj h2
      subst e1 e2
      rw [h.len]
      exact new
/-- what is not tracked when an entry is done was not tracked before -/
theorem was_free {C D : Addr} {H H' : Hp} {p ls : Addr} {os os' : List A1} {S' : SL.Sh} (A : ShAt C D H' p ls os' S') (hos : ∀ o ∈ os, o ∈ os') (k : ∀ b u, H b = some u → ¬ InA p ls os b → H' b = some u) {r : Addr} (hr : H' r = none) : H r = none := by
  cases e : H r with
  | none => rfl
  | some u =>
    by_cases c : InA p ls os r
    · have c' : InA p ls os' r := by
        rcases c with z | z | ⟨o, ho, z⟩
        · exact .inl z
        · exact .inr (.inl z)
        · exact .inr (.inr ⟨o, hos o ho, z⟩)
      obtain ⟨u', e'⟩ := A.tracked c'
      rw [hr] at e'; cases e'
    · rw [k r u e c] at hr; cases hr
def spAsk (C D : Addr) : Sp := fun vs H Q _ => ∃ (p ls lf : Addr) (os : List A1) (S : SL.Sh) (d r n : Nat) (fs : List Nat), vs = [.ref p, .int (d : Int), .int (r : Int), .int (n : Int), .ref lf] ∧ ShAt C D H p ls os S ∧ SL.Can S ∧ H lf = some (.lst (nV fs)) ∧
  AnsW C D H p ls os (SL.stepM S (.ask d r n fs)).1 (SL.stepM S (.ask d r n fs)).2 (fun b => b = lf) Q
def spBack (C D : Addr) : Sp := fun vs H Q _ => ∃ (p ls : Addr) (os : List A1) (S : SL.Sh) (d f : Nat), vs = [.ref p, .int (d : Int), .int (f : Int)] ∧ ShAt C D H p ls os S ∧ SL.Can S ∧
  AnsW C D H p ls os (SL.stepM S (.back d f)).1 (SL.stepM S (.back d f)).2 noX Q
def spDrop (C D : Addr) : Sp := fun vs H Q _ => ∃ (p ls : Addr) (os : List A1) (S : SL.Sh) (d q : Nat), vs = [.ref p, .int (d : Int), .int (q : Int)] ∧ ShAt C D H p ls os S ∧ SL.Can S ∧
  AnsW C D H p ls os (SL.stepM S (.drop d q)).1 (SL.stepM S (.drop d q)).2 noX Q
section
variable {P : Program} {w : World} {K : PySem.W.Frag} {mg : Str → Option Value} {base : Heap} {C D : Addr}
theorem scAsk : FnScope ["shelf", "d", "reader", "days", "files", "number"] ["shelf", "d", "reader", "days", "files"] (defScope sAsk) := ⟨rfl, rfl, rfl, by decide +kernel, rfl, by decide +kernel, by decide +kernel⟩
theorem ok_ask {f : Addr} {fd : FuncData} (F : Fun K "ask" "ask" sAsk f fd) (T : Txt K mg C D) (Fi : FnAt P w K mg base "slip_fits" ["reader", "days", "files"] 2 (spSlipFits K)) (Fu : MtAt P w K mg base D "full" ["self"] 1 (spFull D))
    (Mc : MkAt P w K mg base C ["self", "number", "asked", "reader", "days", "files"] 1 (spSInit C)) (En : MtAt P w K mg base D "enter" ["self", "day"] 6 (spEnter C D)) : FnOk P w K mg base CX0 7 f fd ["shelf", "d", "reader", "days", "files"] (spAsk C D) := by
  obtain ⟨fF, fdF, mF, kF, bF, GF⟩ := Fi
  obtain ⟨fU, fdU, mU, bU, GU⟩ := Fu
  obtain ⟨fI, fdI, MI, bI, GI⟩ := Mc
  obtain ⟨fE, fdE, mE, bE, GE⟩ := En
  refine F.ok scAsk (fun vs H Q E h => ?_) (fun cdv A outer s H vs Q E hr h => ?_)
  · obtain ⟨p, ls, lf, os, S, d, r, n, fs, rfl, _⟩ := h
    rfl
  · obtain ⟨p, ls, lf, os, S, d, r, n, fs, rfl, A0, can, hlf, q⟩ := h
    obtain ⟨dx, hp⟩ := A0.ob
    have hL := A0.lst
    have hsl := A0.sl
    have wf := can.wf
    have hr1 : Room 1 _ := hr.mono (by decide)
    have hr2 : Room 2 _ := hr.mono (by decide)
    refine ⟨_, pss_cons (ps_if (PW.pt (pw_or (pt_cmpR op_gt (pv 1) (pe_gi T.gLastDay) (nomark _)) (pw_or1 (pt_not (pt_val (pe_call GF hr2 rfl mF kF bF .nil pass0 (pa_cons (pv 2) (pa_cons (pv 3) (pa_cons (pv 4) pa_nil))))))))) (pss_one (ps_ret (pe_lst (pa_cons (pe_gi T.gOut1) pa_nil)))) pss_nil)
      (pss_cons (ps_if (pt_cmpR op_lt (pv 1) (pe_fld (pv 0) rfl) (nomark _)) (pss_one (ps_ret (pe_lst (pa_cons (pe_gi T.gEarly) pa_nil)))) pss_nil)
      (pss_cons (ps_set (i := 5) scAsk.nd rfl (Or.inl rfl) (pe_callB call_len_seq rfl T.bLen PySem.boot_len (pa_cons (pe_fld (pv 0) rfl) pa_nil)))
      (pss_cons (ps_if (PW.pt (pw_or (pt_cmpR op_ge (pv 5) (pe_gi T.gMostSlips) (nomark _)) (pw_or1 (pt_val (pe_meth0 (pv 0) T.clD mU GU hr1 bU .nil pass0))))) (pss_one (ps_ret (pe_lst (pa_cons (pe_gi T.gNoRoom) pa_nil)))) pss_nil)
      (pss_cons (ps_expr (pe_bm PySem.F.plainAttrs_list PySem.F.slot_list_append PySem.F.type_list_append mt_append (pe_fld (pv 0) rfl) (pa_cons (pe_make MI GI hr2 rfl T.mgC bI .nil pass0 (pa_cons (pv 5) (pa_cons (pv 1) (pa_cons (pv 2) (pa_cons (pv 3) (pa_cons (pv 4) pa_nil)))))) pa_nil)))
      (pss_cons (ps_expr (pe_meth (pv 0) T.clD mE GE hr bE .nil pass0 (pa_cons (pv 1) pa_nil)))
      (pss_one (ps_ret (pe_lst (pa_cons (pv 5) pa_nil))))))))), ?_⟩
    unfold SL.stepM at q
    dsimp only at q
    have no : 292193 < d ∨ Bd.askOk r fs n = false → AnsR H [-1] Q := fun z => by rw [if_pos z] at q; exact q.read A0
    refine ⟨_, rfl, _, _, rfl, rfl, _, rfl, iteB (fun e => iteT ⟨one_line, fun r hr' => ans1 (no (.inl (by have := of_decide_eq_true e; omega))) r hr'⟩) (fun e => ?_)⟩
    refine ⟨_, rfl, _, rfl, _, rfl, lf, r, n, fs, rfl, SqL.of hlf, _, rfl, iteB (fun e2 => ⟨one_line, fun r' hr' => ans1 (no (.inr ?_)) r' hr'⟩) (fun e2 => ?_)⟩
    · rw [← SL.slipFits_is]
      cases c : SL.slipFits r n fs with
      | false => rfl
      | true => rw [c] at e2; cases e2
    have ok : Bd.askOk r fs n = true := by
      rw [← SL.slipFits_is]
      cases c : SL.slipFits r n fs with
      | false => rw [c] at e2; cases e2
      | true => rfl
    rw [if_neg (fun z => z.elim (fun y => by have := of_decide_eq_false e; omega) fun y => by rw [ok] at y; cases y)] at q
    have fine := SL.fine_of (d := d) ok
    refine ⟨_, rfl, _, rfl, p, D, dx, _, _, rfl, hp, T.clD, T.nLast, shf_last, _, _, rfl, rfl, _, rfl, iteB (fun e3 => ?_) (fun e3 => ?_)⟩
    · rw [if_pos (by have := of_decide_eq_true e3; omega)] at q
      exact ⟨one_line, fun r hr' => ans1 (q.read A0) r hr'⟩
    rw [if_neg (by have := of_decide_eq_false e3; omega)] at q
    have el : (os.map fun o => V.ref o.a).length = S.slips.length := by rw [List.length_map, hsl.len]
    refine ⟨_, rfl, p, D, dx, _, _, rfl, hp, T.clD, T.nSlips, shf_slips, ls, _, rfl, .inl (SqL.of hL), ?_⟩
    rw [el]
    have no3 : 64 ≤ S.slips.length ∨ 512 ≤ S.entries → AnsR H [-6] Q := fun z => by rw [if_pos z] at q; exact q.read A0
    refine ⟨_, rfl, _, _, rfl, rfl, _, rfl, iteB (fun e4 => iteT ⟨one_line, fun r hr' => ans1 (no3 (.inl (by have := of_decide_eq_true e4; omega))) r hr'⟩) (fun e4 => ?_)⟩
    refine ⟨_, rfl, p, dx, _, rfl, hp, shf_no (by decide +kernel), p, dx, ls, _, _, rfl, hp, _, rfl, iteB (fun e5 => ⟨one_line, fun r hr' => ans1 (no3 (.inr (by have := of_decide_eq_true e5; omega))) r hr'⟩) (fun e5 => ?_)⟩
    have h64 : S.slips.length < 64 := by have := of_decide_eq_false e4; omega
    rw [if_neg (fun z => z.elim (fun y => by omega) fun y => by have := of_decide_eq_false e5; omega)] at q
    -- shelf.slips.append(Slip(number, d, reader, days, files))
    refine ⟨_, rfl, p, D, dx, _, _, rfl, hp, T.clD, T.nSlips, shf_slips, .inl ⟨rfl, _, SqL.of hL⟩, _, rfl, _, rfl, _, rfl, _, rfl, _, rfl, fun x dx2 nx ndx nex => ?_⟩
    refine ⟨x, dx2, lf, S.slips.length, d, r, n, rfl, upd_same, fun dr H2 hx hdr hdn kp => ⟨rfl, ?_⟩⟩
    have s1 : Same H H2 := Same.made nx ndx kp
    have ndrx : dr ≠ x := fun z => by rw [z, upd_same] at hdn; cases hdn
    have hdrH : H dr = none := by
      rw [upd_ne ndrx] at hdn
      by_cases c : dr = dx2
      · rw [c, upd_same] at hdn; cases hdn
      · rw [upd_ne c] at hdn; exact hdn
    refine ⟨ls, _, _, rfl, rfl, s1 _ _ hL, (by rw [el]; exact small9 (by omega)), ?_⟩
    have nlx : x ≠ ls := (ne_of_none hL nx).symm
    have nld : dr ≠ ls := (ne_of_none hL hdrH).symm
    have nlf : lf ≠ ls := ne_of hlf hL fun z => by
      injection z with z
      cases fs with
      | nil => exact fine.1 rfl
      | cons g fs =>
        cases os with
        | nil => cases z
        | cons o os => cases z
    have npl : p ≠ ls := ne_of hp hL (by intro z; cases z)
    have kH3 : ∀ b u, H b = some u → b ≠ ls → (upd H2 ls (.lst (os.map (fun o => V.ref o.a) ++ [V.ref x]))) b = some u := fun b u e hb => by rw [upd_ne hb]; exact s1 b u e
    have new : SlAt C (upd H2 ls (.lst (os.map (fun o => V.ref o.a) ++ [V.ref x]))) ⟨x, lf, dr, dx2⟩ S.slips.length (SL.newS d r n fs) := by
      refine ⟨?_, kH3 _ _ hlf nlf, ?_⟩
      · show (upd H2 ls _) x = _
        rw [upd_ne nlx]; exact hx fs
      · show (upd H2 ls _) dr = _
        rw [upd_ne nld]; exact hdr
    have sl3 : SlipsAt C (upd H2 ls (.lst (os.map (fun o => V.ref o.a) ++ [V.ref x]))) (os ++ [⟨x, lf, dr, dx2⟩]) (S.slips ++ [SL.newS d r n fs]) := by
      refine SlipsAt.snoc (hsl.keep (d := ls) (fun o ho => ?_) kH3) new (fun o' ho => ?_) (fun o' ho => ?_)
      · obtain ⟨i, hi⟩ := List.getElem?_of_mem ho
        obtain ⟨sl, hs, hS⟩ := hsl.get' hi
        refine ⟨ne_of hS.ob hL (by intro z; cases z), ne_of hS.fl hL fun z => ?_, ne_of hS.rt hL (by intro z; cases z)⟩
        injection z with z
        have hne := wf.ne sl (List.mem_of_getElem? hs)
        cases e6 : sl.files with
        | nil => exact hne e6
        | cons g gs =>
          rw [e6] at z
          cases os with
          | nil => cases ho
          | cons o2 os => cases z
      · obtain ⟨i, hi⟩ := List.getElem?_of_mem ho
        obtain ⟨sl, hs, hS⟩ := hsl.get' hi
        exact ne_of_none hS.ob nx
      · obtain ⟨i, hi⟩ := List.getElem?_of_mem ho
        obtain ⟨sl, hs, hS⟩ := hsl.get' hi
        exact ne_of_none hS.rt hdrH
    have A3 : ShAt C D (upd H2 ls (.lst (os.map (fun o => V.ref o.a) ++ [V.ref x]))) p ls (os ++ [⟨x, lf, dr, dx2⟩]) ⟨S.slips ++ [SL.newS d r n fs], S.entries, S.last⟩ := by
      refine ⟨⟨dx, kH3 _ _ hp npl⟩, ?_, sl3⟩
      rw [upd_same, List.map_append]; rfl
    -- shelf.enter(d)
    refine ⟨_, rfl, p, dx, _, rfl, kH3 _ _ hp npl, shf_no (by decide +kernel), _, rfl, p, ls, _, _, d, rfl, A3, ?_, ?_, fun H4 A4 k4 => ?_⟩
    · show (S.slips ++ [SL.newS d r n fs]).length ≤ 64
      rw [List.length_append]
      show S.slips.length + 1 ≤ 64
      omega
    · intro sl hs
      rcases List.mem_append.mp hs with z | z
      · exact wf.le sl z
      · rw [List.mem_singleton] at z
        subst z
        exact fine.2.2.1
    refine ⟨_, rfl, one_line, fun r' hr' => ?_⟩
    have kH4 : ∀ b u, H b = some u → ¬ InA p ls os b → H4 b = some u := fun b u e hb => by
      refine k4 b u (kH3 b u e fun z => hb (.inr (.inl z))) (fun z => hb (.inl z)) fun o ho z => ?_
      rcases List.mem_append.mp ho with y | y
      · exact hb (.inr (.inr ⟨o, y, .inl z⟩))
      · rw [List.mem_singleton] at y
        subst y
        exact ne_of_none e nx z
    have hrH : H r' = none := was_free A4 (fun o ho => List.mem_append_left _ ho) kH4 hr'
    refine q r' ls _ _ (A4.same (same_upd hr')) upd_same hrH (fun b u e hb => ?_) fun b hb => ?_
    · rw [upd_ne (ne_of_none e hrH)]
      exact kH4 b u e hb
    · rcases hb with z | z | ⟨o, ho, z⟩
      · exact .inl (.inl z)
      · exact .inl (.inr (.inl z))
      · rcases List.mem_append.mp ho with y | y
        · exact .inl (.inr (.inr ⟨o, y, z⟩))
        · rw [List.mem_singleton] at y
          subst y
          rcases z with z | z | z
          · exact .inr (.inl (by rw [z]; exact nx))
          · exact .inr (.inr z)
          · exact .inr (.inl (by rw [z]; exact hdrH))
theorem scBack : FnScope ["shelf", "d", "f", "slip"] ["shelf", "d", "f"] (defScope sBack) := ⟨rfl, rfl, rfl, by decide +kernel, rfl, by decide +kernel, by decide +kernel⟩
theorem ok_back {f : Addr} {fd : FuncData} (F : Fun K "back" "back" sBack f fd) (T : Txt K mg C D) (O : MtAt P w K mg base D "out" ["self", "k"] 4 (spOut C D)) (Fu : MtAt P w K mg base D "full" ["self"] 1 (spFull D))
    (En : MtAt P w K mg base D "enter" ["self", "day"] 6 (spEnter C D)) : FnOk P w K mg base CX0 7 f fd ["shelf", "d", "f"] (spBack C D) := by
  obtain ⟨fO, fdO, mO, bO, GO⟩ := O
  obtain ⟨fU, fdU, mU, bU, GU⟩ := Fu
  obtain ⟨fE, fdE, mE, bE, GE⟩ := En
  refine F.ok scBack (fun vs H Q E h => ?_) (fun cdv A outer s H vs Q E hr h => ?_)
  · obtain ⟨p, ls, os, S, d, g, rfl, _⟩ := h
    rfl
  · obtain ⟨p, ls, os, S, d, g, rfl, A0, can, q⟩ := h
    obtain ⟨dx, hp⟩ := A0.ob
    have hL := A0.lst
    have hsl := A0.sl
    have wf := can.wf
    have hr1 : Room 1 _ := hr.mono (by decide)
    have hr4 : Room 4 _ := hr.mono (by decide)
    refine ⟨_, pss_cons (ps_if (PW.pt (pw_or (pt_cmpR op_gt (pv 1) (pe_gi T.gLastDay) (nomark _)) (pw_or1 (pt_cmpR op_gt (pv 2) (pe_gi T.gLastFile) (nomark _))))) (pss_one (ps_ret (pe_lst (pa_cons (pe_gi T.gOut1) pa_nil)))) pss_nil)
      (pss_cons (ps_if (pt_cmpR op_lt (pv 1) (pe_fld (pv 0) rfl) (nomark _)) (pss_one (ps_ret (pe_lst (pa_cons (pe_gi T.gEarly) pa_nil)))) pss_nil)
      (pss_cons (ps_set (i := 3) scBack.nd rfl (Or.inl rfl) (pe_dget1 (hu_of hr) (pe_meth (pv 0) T.clD mO GO hr4 bO .nil pass0 (pa_cons (pv 1) pa_nil)) (pv 2) ⟨rfl, rfl, rfl, rfl⟩))
      (pss_cons (ps_if (pt_cmp (pc_isN (pv 3))) (pss_one (ps_ret (pe_lst (pa_cons (pe_gi T.gNotSo) pa_nil)))) pss_nil)
      (pss_cons (ps_if (pt_val (pe_meth0 (pv 0) T.clD mU GU hr1 bU .nil pass0)) (pss_one (ps_ret (pe_lst (pa_cons (pe_gi T.gNoRoom) pa_nil)))) pss_nil)
      (pss_cons (ps_dput (hu_of hr) (pe_fld (pv 3) rfl) (pv 2) (pv 1) rfl)
      (pss_one (ps_ret (pe_lst (pa_cons (pe_meth (pv 0) T.clD mE GE hr bE .nil pass0 (pa_cons (pv 1) pa_nil)) pa_nil))))))))), ?_⟩
    unfold SL.stepM at q
    dsimp only at q
    have no : 292193 < d ∨ 16383 < g → AnsR H [-1] Q := fun z => by rw [if_pos z] at q; exact q.read A0
    refine ⟨_, rfl, _, _, rfl, rfl, _, rfl, iteB (fun e => iteT ⟨one_line, fun r hr' => ans1 (no (.inl (by have := of_decide_eq_true e; omega))) r hr'⟩) (fun e => ?_)⟩
    refine ⟨_, rfl, _, _, rfl, rfl, _, rfl, iteB (fun e2 => ⟨one_line, fun r hr' => ans1 (no (.inr (by have := of_decide_eq_true e2; omega))) r hr'⟩) (fun e2 => ?_)⟩
    rw [if_neg (by have h1 := of_decide_eq_false e; have h2 := of_decide_eq_false e2; omega)] at q
    refine ⟨_, rfl, _, rfl, p, D, dx, _, _, rfl, hp, T.clD, T.nLast, shf_last, _, _, rfl, rfl, _, rfl, iteB (fun e3 => ?_) (fun e3 => ?_)⟩
    · rw [if_pos (by have := of_decide_eq_true e3; omega)] at q
      exact ⟨one_line, fun r hr' => ans1 (q.read A0) r hr'⟩
    have hlast : S.last ≤ d := by have := of_decide_eq_false e3; omega
    rw [if_neg (by omega)] at q
    refine ⟨_, rfl, p, dx, _, rfl, hp, shf_no (by decide +kernel), _, rfl, p, ls, os, S, d, rfl, A0, wf.few, wf.le, fun dd H1 hd s1 hd1 => ?_⟩
    refine ⟨dd, rfl, .inl ⟨_, .inl hd1⟩, _, rfl, _, DGet.k (k := Sum.inl (g : Int)) hd1, ?_⟩
    have q1 := q.after s1
    have A1' := A0.same s1
    have hp1 := s1 _ _ hp
    rcases who_val (k := d) (f := g) (hsl.same s1) (wf.out d) with ⟨ew, ev⟩ | ⟨n, o, sl, ew, ho, hs, hf, hS, ev⟩
    · rw [ev]
      rw [ew] at q1
      refine ⟨_, rfl, _, rfl, ?_⟩
      refine iteT ⟨one_line, fun r hr' => ans1 (q1.read A1') r hr'⟩
    · rw [ev]
      rw [ew] at q1
      dsimp only at q1
      rw [hs] at q1
      dsimp only at q1
      refine ⟨_, rfl, _, rfl, ?_⟩
      refine iteF ?_
      refine ⟨_, rfl, p, dx, _, rfl, hp1, shf_no (by decide +kernel), p, dx, ls, _, _, rfl, hp1, _, rfl, iteB (fun e5 => ?_) (fun e5 => ?_)⟩
      · rw [if_pos (by have := of_decide_eq_true e5; omega)] at q1
        exact ⟨one_line, fun r hr' => ans1 (q1.read A1') r hr'⟩
      rw [if_neg (by have := of_decide_eq_false e5; omega)] at q1
      have okS := can.ok hs
      have hret : (rK sl.ret).length ≤ 8 := by
        unfold rK
        rw [List.length_map]
        exact can.ret hs
      have hput : putK (rK sl.ret) (Sum.inl (g : Int) : Key) (V.int (d : Int)) = rK (sl.ret ++ [(g, d)]) := rK_put (SL.held_new okS hlast hf)
      refine ⟨_, rfl, _, rfl, o.a, C, o.dx, _, _, rfl, hS.ob, T.clC, T.nRet, sf_ret, _, rfl, o.dr, _, rfl, DPut.k (k := Sum.inl (g : Int)) hS.rt (small9 (by omega) : (rK sl.ret).length < sizeLine), ?_⟩
      have hS2 : SlAt C (upd H1 o.dr (.dK (putK (rK sl.ret) (Sum.inl (g : Int) : Key) (V.int (d : Int))))) o n (SL.backS g d sl) := by
        refine ⟨?_, ?_, ?_⟩
        · rw [upd_ne (ne_of hS.ob hS.rt (by intro z; cases z))]; exact hS.ob
        · rw [upd_ne (ne_of hS.fl hS.rt (by intro z; cases z))]; exact hS.fl
        · rw [upd_same, hput]; rfl
      have kH2 : ∀ b u, H1 b = some u → b ≠ o.dr → (upd H1 o.dr (.dK (putK (rK sl.ret) (Sum.inl (g : Int) : Key) (V.int (d : Int))))) b = some u := fun b u e hb => by rw [upd_ne hb]; exact e
      have A2 : ShAt C D (upd H1 o.dr (.dK (putK (rK sl.ret) (Sum.inl (g : Int) : Key) (V.int (d : Int))))) p ls os ⟨S.slips.set n (SL.backS g d sl), S.entries, S.last⟩ :=
        ⟨⟨dx, kH2 _ _ hp1 (ne_of hp1 hS.rt (by intro z; cases z))⟩, kH2 _ _ A1'.lst (ne_of A1'.lst hS.rt (by intro z; cases z)), A1'.sl.write ho hS2 fun b u e _ hb => kH2 b u e hb⟩
      obtain ⟨dx2, hp2⟩ := A2.ob
      refine ⟨_, rfl, p, dx2, _, rfl, hp2, shf_no (by decide +kernel), _, rfl, p, ls, os, _, d, rfl, A2, ?_, ?_, fun H4 A4 k4 => ?_⟩
      · show (S.slips.set n (SL.backS g d sl)).length ≤ 64
        rw [List.length_set]; exact wf.few
      · intro x hx
        rcases SL.mem_set_of hx with z | z
        · exact wf.le x z
        · subst z
          exact wf.le sl (List.mem_of_getElem? hs)
      have kH4 : ∀ b u, H1 b = some u → ¬ InA p ls os b → H4 b = some u := fun b u e hb => by
        refine k4 b u (kH2 b u e fun z => hb (.inr (.inr ⟨o, List.mem_of_getElem? ho, .inr (.inr z)⟩))) (fun z => hb (.inl z)) fun o' ho' z => hb (.inr (.inr ⟨o', ho', .inl z⟩))
      refine ⟨one_line, fun r' hr' => ?_⟩
      have hrH : H1 r' = none := was_free A4 (fun o ho => ho) kH4 hr'
      refine q1 r' ls os _ (A4.same (same_upd hr')) upd_same hrH (fun b u e hb => ?_) fun b hb => .inl hb
      rw [upd_ne (ne_of_none e hrH)]
      exact kH4 b u e hb
theorem scDrop : FnScope ["shelf", "d", "q", "slip"] ["shelf", "d", "q"] (defScope sDrop) := ⟨rfl, rfl, rfl, by decide +kernel, rfl, by decide +kernel, by decide +kernel⟩
theorem ok_drop {f : Addr} {fd : FuncData} (F : Fun K "drop" "drop" sDrop f fd) (T : Txt K mg C D) (Kn : MtAt P w K mg base D "known" ["self", "k", "q"] 1 (spKnown C D)) (W : MtAt P w K mg base C "waits" ["self", "k"] 2 (spWaits C)) (Fu : MtAt P w K mg base D "full" ["self"] 1 (spFull D))
    (En : MtAt P w K mg base D "enter" ["self", "day"] 6 (spEnter C D)) : FnOk P w K mg base CX0 7 f fd ["shelf", "d", "q"] (spDrop C D) := by
  obtain ⟨fK, fdK, mK, bK, GK⟩ := Kn
  obtain ⟨fW, fdW, mW, bW, GW⟩ := W
  obtain ⟨fU, fdU, mU, bU, GU⟩ := Fu
  obtain ⟨fE, fdE, mE, bE, GE⟩ := En
  refine F.ok scDrop (fun vs H Q E h => ?_) (fun cdv A outer s H vs Q E hr h => ?_)
  · obtain ⟨p, ls, os, S, d, g, rfl, _⟩ := h
    rfl
  · obtain ⟨p, ls, os, S, d, n, rfl, A0, can, q⟩ := h
    obtain ⟨dx, hp⟩ := A0.ob
    have hL := A0.lst
    have hsl := A0.sl
    have wf := can.wf
    have hr1 : Room 1 _ := hr.mono (by decide)
    have hr2 : Room 2 _ := hr.mono (by decide)
    refine ⟨_, pss_cons (ps_if (pt_cmpR op_gt (pv 1) (pe_gi T.gLastDay) (nomark _)) (pss_one (ps_ret (pe_lst (pa_cons (pe_gi T.gOut1) pa_nil)))) pss_nil)
      (pss_cons (ps_if (pt_cmpR op_lt (pv 1) (pe_fld (pv 0) rfl) (nomark _)) (pss_one (ps_ret (pe_lst (pa_cons (pe_gi T.gEarly) pa_nil)))) pss_nil)
      (pss_cons (ps_set (i := 3) scDrop.nd rfl (Or.inl rfl) (pe_meth (pv 0) T.clD mK GK hr1 bK .nil pass0 (pa_cons (pv 1) (pa_cons (pv 2) pa_nil))))
      (pss_cons (ps_if (pt_cmp (pc_isN (pv 3))) (pss_one (ps_ret (pe_lst (pa_cons (pe_gi T.gNoSlip) pa_nil)))) pss_nil)
      (pss_cons (ps_if (pt_not (pt_val (pe_meth (pv 3) T.clC mW GW hr2 bW .nil pass0 (pa_cons (pv 1) pa_nil)))) (pss_one (ps_ret (pe_lst (pa_cons (pe_gi T.gNotSo) pa_nil)))) pss_nil)
      (pss_cons (ps_if (pt_val (pe_meth0 (pv 0) T.clD mU GU hr1 bU .nil pass0)) (pss_one (ps_ret (pe_lst (pa_cons (pe_gi T.gNoRoom) pa_nil)))) pss_nil)
      (pss_cons (ps_fld (pv 3) (pv 1) rfl)
      (pss_one (ps_ret (pe_lst (pa_cons (pe_meth (pv 0) T.clD mE GE hr bE .nil pass0 (pa_cons (pv 1) pa_nil)) pa_nil)))))))))), ?_⟩
    unfold SL.stepM at q
    dsimp only at q
    refine ⟨_, rfl, _, _, rfl, rfl, _, rfl, iteB (fun e => ?_) (fun e => ?_)⟩
    · rw [if_pos (by have := of_decide_eq_true e; omega)] at q
      exact ⟨one_line, fun r hr' => ans1 (q.read A0) r hr'⟩
    rw [if_neg (by have := of_decide_eq_false e; omega)] at q
    refine ⟨_, rfl, _, rfl, p, D, dx, _, _, rfl, hp, T.clD, T.nLast, shf_last, _, _, rfl, rfl, _, rfl, iteB (fun e3 => ?_) (fun e3 => ?_)⟩
    · rw [if_pos (by have := of_decide_eq_true e3; omega)] at q
      exact ⟨one_line, fun r hr' => ans1 (q.read A0) r hr'⟩
    rw [if_neg (by have := of_decide_eq_false e3; omega)] at q
    refine ⟨_, rfl, p, dx, _, rfl, hp, shf_no (by decide +kernel), _, rfl, _, rfl, p, ls, os, S, d, n, rfl, A0, fun hn => ?_, fun o sl ho hs ha => ?_⟩
    · rw [hn] at q
      refine ⟨_, rfl, _, rfl, iteT ⟨one_line, fun r hr' => ans1 (q.read A0) r hr'⟩⟩
    · rw [known_none hs ha] at q
      dsimp only at q
      have hS := hsl.at_ n o sl ho hs
      refine ⟨_, rfl, _, rfl, iteF ?_⟩
      refine ⟨_, rfl, o.a, o.dx, _, rfl, hS.ob, sf_no (by decide +kernel), _, rfl, o, n, sl, d, rfl, hS, _, rfl, iteB (fun e4 => ?_) (fun e4 => ?_)⟩
      · rw [if_pos (by cases c : sl.waits d; rfl; rw [c] at e4; cases e4)] at q
        exact ⟨one_line, fun r hr' => ans1 (q.read A0) r hr'⟩
      rw [if_neg (by intro c; rw [c] at e4; cases e4)] at q
      refine ⟨_, rfl, p, dx, _, rfl, hp, shf_no (by decide +kernel), p, dx, ls, _, _, rfl, hp, _, rfl, iteB (fun e5 => ?_) (fun e5 => ?_)⟩
      · rw [if_pos (by have := of_decide_eq_true e5; omega)] at q
        exact ⟨one_line, fun r hr' => ans1 (q.read A0) r hr'⟩
      rw [if_neg (by have := of_decide_eq_false e5; omega)] at q
      refine ⟨_, rfl, _, rfl, o.a, C, o.dx, _, rfl, hS.ob, T.clC, T.nGone, (by show 8 < 1000; decide), ?_⟩
      have hS2 : SlAt C (upd H o.a (.ins C o.dx (putF "withdrawn" (V.int (d : Int)) (sf n sl o.lf o.dr)))) o n (SL.dropS d sl) := by
        refine ⟨by rw [upd_same, sf_setGone]; rfl, ?_, ?_⟩
        · rw [upd_ne (ne_of hS.fl hS.ob (by intro z; cases z))]; exact hS.fl
        · rw [upd_ne (ne_of hS.rt hS.ob (by intro z; cases z))]; exact hS.rt
      have kH2 : ∀ b u, H b = some u → b ≠ o.a → (upd H o.a (.ins C o.dx (putF "withdrawn" (V.int (d : Int)) (sf n sl o.lf o.dr)))) b = some u := fun b u e hb => by rw [upd_ne hb]; exact e
      have A2 : ShAt C D (upd H o.a (.ins C o.dx (putF "withdrawn" (V.int (d : Int)) (sf n sl o.lf o.dr)))) p ls os ⟨S.slips.set n (SL.dropS d sl), S.entries, S.last⟩ :=
        ⟨⟨dx, kH2 _ _ hp (ins_ne hS.ob hp).symm⟩, kH2 _ _ hL (ne_of hL hS.ob (by intro z; cases z)), hsl.write ho hS2 fun b u e hb _ => kH2 b u e hb⟩
      obtain ⟨dx2, hp2⟩ := A2.ob
      refine ⟨_, rfl, p, dx2, _, rfl, hp2, shf_no (by decide +kernel), _, rfl, p, ls, os, _, d, rfl, A2, ?_, ?_, fun H4 A4 k4 => ?_⟩
      · show (S.slips.set n (SL.dropS d sl)).length ≤ 64
        rw [List.length_set]; exact wf.few
      · intro x hx
        rcases SL.mem_set_of hx with z | z
        · exact wf.le x z
        · subst z
          exact wf.le sl (List.mem_of_getElem? hs)
      have kH4 : ∀ b u, H b = some u → ¬ InA p ls os b → H4 b = some u := fun b u e hb => by
        refine k4 b u (kH2 b u e fun z => hb (.inr (.inr ⟨o, List.mem_of_getElem? ho, .inl z⟩))) (fun z => hb (.inl z)) fun o' ho' z => hb (.inr (.inr ⟨o', ho', .inl z⟩))
      refine ⟨one_line, fun r' hr' => ?_⟩
      have hrH : H r' = none := was_free A4 (fun o ho => ho) kH4 hr'
      refine q r' ls os _ (A4.same (same_upd hr')) upd_same hrH (fun b u e hb => ?_) fun b hb => .inl hb
      rw [upd_ne (ne_of_none e hrH)]
      exact kH4 b u e hb
end
end SP
end
section
set_option Elab.async false
set_option linter.all false
set_option maxRecDepth 100000
set_option maxHeartbeats 2000000
namespace SP
open PySem PySem.Spec PyProof.Rows L2
/-! ### One call -/
theorem isC_head {u : List Int} {c : BdS.Call} (h : SL.IsC u c) : ∃ z v, u[0]? = some z ∧ lens.lookup z = some v ∧ ((z ≠ 2 ∧ ((u.length : Nat) : Int) = v) ∨ (z = 2 ∧ v = 5 ∧ ∃ m : Nat, u[4]? = some (m : Int) ∧ ((u.length : Nat) : Int) = 5 + (m : Int))) := by
  cases h with
  | begin_ => exact ⟨1, 1, rfl, rfl, .inl ⟨by decide, rfl⟩⟩
  | ask d r n fs =>
    refine ⟨2, 5, rfl, rfl, .inr ⟨rfl, rfl, fs.length, rfl, ?_⟩⟩
    show (((SL.nI fs).length + 5 : Nat) : Int) = _
    rw [SL.nI_len]
    omega
  | back d f => exact ⟨3, 3, rfl, rfl, .inl ⟨by decide, rfl⟩⟩
  | drop d q => exact ⟨4, 3, rfl, rfl, .inl ⟨by decide, rfl⟩⟩
  | count k => exact ⟨5, 2, rfl, rfl, .inl ⟨by decide, rfl⟩⟩
  | who k f => exact ⟨6, 3, rfl, rfl, .inl ⟨by decide, rfl⟩⟩
  | slip k q => exact ⟨7, 3, rfl, rfl, .inl ⟨by decide, rfl⟩⟩
  | files k q => exact ⟨8, 3, rfl, rfl, .inl ⟨by decide, rfl⟩⟩
  | waits k q => exact ⟨9, 3, rfl, rfl, .inl ⟨by decide, rfl⟩⟩
  | late k x => exact ⟨10, 3, rfl, rfl, .inl ⟨by decide, rfl⟩⟩
  | when_ k q x => exact ⟨11, 4, rfl, rfl, .inl ⟨by decide, rfl⟩⟩
theorem isC_pos {u : List Int} {c : BdS.Call} (h : SL.IsC u c) : 0 < u.length := by
  obtain ⟨z, v, h1, _⟩ := isC_head h
  exact (List.getElem?_eq_some_iff.mp h1).1
theorem at_drop {ns u t : List Int} {n j : Nat} {z : Int} (h : ns.drop n = u ++ t) (hu : u[j]? = some z) : (ns.map V.int)[n + j]? = some (V.int z) := by
  obtain ⟨hj, _⟩ := List.getElem?_eq_some_iff.mp hu
  have e : ns[n + j]? = some z := by
    rw [← List.getElem?_drop, h, List.getElem?_append_left hj]; exact hu
  rw [List.getElem?_map, e]; rfl
def spCallLength (K : PySem.W.Frag) : Sp := fun vs H Q _ => ∃ (a : Addr) (ns u t : List Int) (n : Nat) (c : BdS.Call), vs = [.ref a, .int (n : Int)] ∧ SqL K H a (ns.map V.int) ∧ ns.drop n = u ++ t ∧ SL.IsC u c ∧ Q (.int ((u.length : Nat) : Int)) H
def spAnswerOf (C D : Addr) : Sp := fun vs H Q _ => ∃ (p ls cl : Addr) (os : List A1) (S : SL.Sh) (u : List Int) (c : BdS.Call), vs = [.ref p, .ref cl] ∧ ShAt C D H p ls os S ∧ SL.Can S ∧ SL.IsC u c ∧ H cl = some (.lst (u.map V.int)) ∧
  AnsW C D H p ls os (SL.stepM S c).1 (SL.stepM S c).2 noX Q
theorem vne {i j : Int} (h : i ≠ j) : ¬ V.int i = V.int j := fun z => h (V.int.inj z)
theorem if_ne {K : PySem.W.Frag} {t u : TS} {D : Ends} {σ : L2.St} {H : Hp} {cl : Addr} {zs : List V} {z j : Int} (h1 : σ[1]? = some (some (.ref cl))) (h : H cl = some (.lst zs)) (h0 : zs[0]? = some (V.int z)) (hne : z ≠ j) (hu : u D σ H) :
    tIfS (tTest (tOp rEq (tOp (rIxL K) (tVar 1) (tC (.int 0))) (tC (.int j)))) t u D σ H := by
  refine ⟨_, h1, cl, _, _, _, rfl, rfl, SqL.of h, at_of (j := 0) rfl h0, rfl, _, rfl, ?_⟩
  rw [decide_eq_false (vne hne)]
  exact iteF hu
theorem if_eq {K : PySem.W.Frag} {t u : TS} {D : Ends} {σ : L2.St} {H : Hp} {cl : Addr} {zs : List V} {z : Int} (h1 : σ[1]? = some (some (.ref cl))) (h : H cl = some (.lst zs)) (h0 : zs[0]? = some (V.int z)) (ht : t D σ H) :
    tIfS (tTest (tOp rEq (tOp (rIxL K) (tVar 1) (tC (.int 0))) (tC (.int z)))) t u D σ H := by
  refine ⟨_, h1, cl, _, _, _, rfl, rfl, SqL.of h, at_of (j := 0) rfl h0, rfl, _, rfl, ?_⟩
  rw [decide_eq_true rfl]
  exact iteT ht
section
variable {P : Program} {w : World} {K : PySem.W.Frag} {mg : Str → Option Value} {base : Heap} {C D : Addr}
theorem scCallLength : FnScope ["calls", "at", "length"] ["calls", "at"] (defScope sCallLength) := ⟨rfl, rfl, rfl, by decide +kernel, rfl, by decide +kernel, by decide +kernel⟩
theorem ok_callLength {f : Addr} {fd : FuncData} (F : Fun K "call_length" "call_length" sCallLength f fd) (T : Txt K mg C D) : FnOk P w K mg base CX0 1 f fd ["calls", "at"] (spCallLength K) := by
  obtain ⟨aL, mL, kd⟩ := T.gLens
  refine F.ok scCallLength (fun vs H Q E h => ?_) (fun cdv A outer s H vs Q E hr h => ?_)
  · obtain ⟨a, ns, u, t, n, c, rfl, _⟩ := h
    rfl
  · obtain ⟨a, ns, u, t, n, c, rfl, hS, hdr, hC, q⟩ := h
    obtain ⟨z, v, hz, hv, hlen⟩ := isC_head hC
    have hat : atI (ns.map V.int) (n : Int) = some (V.int z) := atI_nat (by have := at_drop hdr hz; exact this)
    refine ⟨_, pss_cons (ps_set (i := 2) scCallLength.nd rfl (Or.inl rfl) (pe_kget (pe_glob (v := .ref aL) rfl mL rfl) (pe_ix ix_list (pv 0) (pv 1) (fun _ _ => rfl)) (fun _ _ => rfl)))
      (pss_cons (ps_if (pt_cmpR op_eq (pe_ix ix_list (pv 0) (pv 1) (fun _ _ => rfl)) (pe_gi T.gAsk) (nomark _))
        (pss_one (ps_aug (i := 2) scCallLength.nd rfl (Or.inl rfl) (pe_ix ix_list (pv 0) (pe_op op_sub (pe_op op_add (pv 1) (pv 2)) pe_int) (fun _ _ => rfl)) ip_add)) pss_nil)
      (pss_one (ps_ret (pv 2)))), ?_⟩
    refine ⟨_, rfl, _, rfl, a, _, _, _, rfl, rfl, hS, hat, aL, lens, z, v, rfl, rfl, kd, hv, ?_⟩
    refine ⟨_, rfl, _, rfl, a, _, _, _, rfl, rfl, hS, hat, rfl, _, rfl, iteB (fun e => ?_) (fun e => ?_)⟩
    · have ez : z = 2 := V.int.inj (of_decide_eq_true e)
      rcases hlen with ⟨h1, _⟩ | ⟨_, rfl, m, hm, hl⟩
      · exact absurd ez h1
      · refine ⟨_, rfl, _, rfl, _, rfl, _, rfl, _, _, rfl, rfl, _, _, rfl, rfl, a, _, _, _, rfl, rfl, hS, at_of (j := n + 4) (by omega) (at_drop hdr hm), _, _, rfl, rfl, ?_⟩
        rw [hl] at q
        exact ⟨_, rfl, q⟩
    · have ez : z ≠ 2 := fun y => of_decide_eq_false e (by rw [y])
      rcases hlen with ⟨_, hl⟩ | ⟨h1, _⟩
      · rw [hl] at q
        exact ⟨_, rfl, q⟩
      · exact absurd h1 ez
theorem scAnswerOf : FnScope ["shelf", "call"] ["shelf", "call"] (defScope sAnswerOf) := ⟨rfl, rfl, rfl, by decide +kernel, rfl, by decide +kernel, by decide +kernel⟩
theorem ok_answerOf {f : Addr} {fd : FuncData} (F : Fun K "answer_of" "answer_of" sAnswerOf f fd) (T : Txt K mg C D) (Be : MtAt P w K mg base D "begin" ["self"] 1 (spBegin D))
    (As : FnAt P w K mg base "ask" ["shelf", "d", "reader", "days", "files"] 7 (spAsk C D)) (Ba : FnAt P w K mg base "back" ["shelf", "d", "f"] 7 (spBack C D)) (Dr : FnAt P w K mg base "drop" ["shelf", "d", "q"] 7 (spDrop C D))
    (Co : FnAt P w K mg base "count" ["shelf", "k"] 3 (spCount C D)) (Wo : FnAt P w K mg base "who" ["shelf", "k", "f"] 5 (spWho C D)) (Ts : FnAt P w K mg base "tell_slip" ["shelf", "k", "q"] 5 (spTellSlip C D))
    (Tf : FnAt P w K mg base "tell_files" ["shelf", "k", "q"] 2 (spTellFiles C D)) (Wf : FnAt P w K mg base "waits_for" ["shelf", "k", "q"] 5 (spWaitsFor C D)) (La : FnAt P w K mg base "late" ["shelf", "k", "x"] 5 (spLate C D))
    (Wn : FnAt P w K mg base "when" ["shelf", "k", "q", "x"] 6 (spWhen C D)) : FnOk P w K mg base CX0 8 f fd ["shelf", "call"] (spAnswerOf C D) := by
  obtain ⟨f0, fd0, m0, b0, G0⟩ := Be
  obtain ⟨f1, fd1, m1, k1, b1, G1⟩ := As
  obtain ⟨f2, fd2, m2, k2, b2, G2⟩ := Ba
  obtain ⟨f3, fd3, m3, k3, b3, G3⟩ := Dr
  obtain ⟨f4, fd4, m4, k4, b4, G4⟩ := Co
  obtain ⟨f5, fd5, m5, k5, b5, G5⟩ := Wo
  obtain ⟨f6, fd6, m6, k6, b6, G6⟩ := Ts
  obtain ⟨f7, fd7, m7, k7, b7, G7⟩ := Tf
  obtain ⟨f8, fd8, m8, k8, b8, G8⟩ := Wf
  obtain ⟨f9, fd9, m9, k9, b9, G9⟩ := La
  obtain ⟨f10, fd10, m10, k10, b10, G10⟩ := Wn
  refine F.ok scAnswerOf (fun vs H Q E h => ?_) (fun cdv A outer s H vs Q E hr h => ?_)
  · obtain ⟨p, ls, cl, os, S, u, c, rfl, _⟩ := h
    rfl
  · obtain ⟨p, ls, cl, os, S, u, c, rfl, A0, can, hC, hcl, q⟩ := h
    obtain ⟨dx, hp⟩ := A0.ob
    have wf := can.wf
    have hr1 : Room 1 _ := hr.mono (by decide)
    have hr2 : Room 2 _ := hr.mono (by decide)
    have hr3 : Room 3 _ := hr.mono (by decide)
    have hr5 : Room 5 _ := hr.mono (by decide)
    have hr6 : Room 6 _ := hr.mono (by decide)
    refine ⟨_, pss_cons (ps_if (pt_cmpR op_eq (pe_ix ix_list (pv 1) pe_int (fun _ _ => rfl)) (pe_gi T.gBegin) (nomark _)) (pss_cons (ps_expr (pe_meth0 (pv 0) T.clD m0 G0 hr1 b0 .nil pass0)) (pss_one (ps_ret (pe_lst (pa_cons pe_int pa_nil))))) pss_nil)
      (pss_cons (ps_if (pt_cmpR op_eq (pe_ix ix_list (pv 1) pe_int (fun _ _ => rfl)) (pe_gi T.gAsk) (nomark _)) (pss_one (ps_ret (pe_call G1 hr rfl m1 k1 b1 .nil pass0 (pa_cons (pv 0) (pa_cons (pe_ix ix_list (pv 1) pe_int (fun _ _ => rfl)) (pa_cons (pe_ix ix_list (pv 1) pe_int (fun _ _ => rfl)) (pa_cons (pe_ix ix_list (pv 1) pe_int (fun _ _ => rfl)) (pa_cons (pe_slice sl_list (pv 1) (po_some pe_int) po_none) pa_nil)))))))) pss_nil)
      (pss_cons (ps_if (pt_cmpR op_eq (pe_ix ix_list (pv 1) pe_int (fun _ _ => rfl)) (pe_gi T.gBack) (nomark _)) (pss_one (ps_ret (pe_call G2 hr rfl m2 k2 b2 .nil pass0 (pa_cons (pv 0) (pa_cons (pe_ix ix_list (pv 1) pe_int (fun _ _ => rfl)) (pa_cons (pe_ix ix_list (pv 1) pe_int (fun _ _ => rfl)) pa_nil)))))) pss_nil)
      (pss_cons (ps_if (pt_cmpR op_eq (pe_ix ix_list (pv 1) pe_int (fun _ _ => rfl)) (pe_gi T.gDrop) (nomark _)) (pss_one (ps_ret (pe_call G3 hr rfl m3 k3 b3 .nil pass0 (pa_cons (pv 0) (pa_cons (pe_ix ix_list (pv 1) pe_int (fun _ _ => rfl)) (pa_cons (pe_ix ix_list (pv 1) pe_int (fun _ _ => rfl)) pa_nil)))))) pss_nil)
      (pss_cons (ps_if (pt_cmpR op_eq (pe_ix ix_list (pv 1) pe_int (fun _ _ => rfl)) (pe_gi T.gCount) (nomark _)) (pss_one (ps_ret (pe_call G4 hr3 rfl m4 k4 b4 .nil pass0 (pa_cons (pv 0) (pa_cons (pe_ix ix_list (pv 1) pe_int (fun _ _ => rfl)) pa_nil))))) pss_nil)
      (pss_cons (ps_if (pt_cmpR op_eq (pe_ix ix_list (pv 1) pe_int (fun _ _ => rfl)) (pe_gi T.gWho) (nomark _)) (pss_one (ps_ret (pe_call G5 hr5 rfl m5 k5 b5 .nil pass0 (pa_cons (pv 0) (pa_cons (pe_ix ix_list (pv 1) pe_int (fun _ _ => rfl)) (pa_cons (pe_ix ix_list (pv 1) pe_int (fun _ _ => rfl)) pa_nil)))))) pss_nil)
      (pss_cons (ps_if (pt_cmpR op_eq (pe_ix ix_list (pv 1) pe_int (fun _ _ => rfl)) (pe_gi T.gSlip) (nomark _)) (pss_one (ps_ret (pe_call G6 hr5 rfl m6 k6 b6 .nil pass0 (pa_cons (pv 0) (pa_cons (pe_ix ix_list (pv 1) pe_int (fun _ _ => rfl)) (pa_cons (pe_ix ix_list (pv 1) pe_int (fun _ _ => rfl)) pa_nil)))))) pss_nil)
      (pss_cons (ps_if (pt_cmpR op_eq (pe_ix ix_list (pv 1) pe_int (fun _ _ => rfl)) (pe_gi T.gFiles) (nomark _)) (pss_one (ps_ret (pe_call G7 hr2 rfl m7 k7 b7 .nil pass0 (pa_cons (pv 0) (pa_cons (pe_ix ix_list (pv 1) pe_int (fun _ _ => rfl)) (pa_cons (pe_ix ix_list (pv 1) pe_int (fun _ _ => rfl)) pa_nil)))))) pss_nil)
      (pss_cons (ps_if (pt_cmpR op_eq (pe_ix ix_list (pv 1) pe_int (fun _ _ => rfl)) (pe_gi T.gWaits) (nomark _)) (pss_one (ps_ret (pe_call G8 hr5 rfl m8 k8 b8 .nil pass0 (pa_cons (pv 0) (pa_cons (pe_ix ix_list (pv 1) pe_int (fun _ _ => rfl)) (pa_cons (pe_ix ix_list (pv 1) pe_int (fun _ _ => rfl)) pa_nil)))))) pss_nil)
      (pss_cons (ps_if (pt_cmpR op_eq (pe_ix ix_list (pv 1) pe_int (fun _ _ => rfl)) (pe_gi T.gLate) (nomark _)) (pss_one (ps_ret (pe_call G9 hr5 rfl m9 k9 b9 .nil pass0 (pa_cons (pv 0) (pa_cons (pe_ix ix_list (pv 1) pe_int (fun _ _ => rfl)) (pa_cons (pe_ix ix_list (pv 1) pe_int (fun _ _ => rfl)) pa_nil)))))) pss_nil)
      (pss_one (ps_ret (pe_call G10 hr6 rfl m10 k10 b10 .nil pass0 (pa_cons (pv 0) (pa_cons (pe_ix ix_list (pv 1) pe_int (fun _ _ => rfl)) (pa_cons (pe_ix ix_list (pv 1) pe_int (fun _ _ => rfl)) (pa_cons (pe_ix ix_list (pv 1) pe_int (fun _ _ => rfl)) pa_nil)))))))))))))))), ?_⟩
    cases hC with
    | begin_ =>
      refine if_eq rfl hcl rfl ?_
      refine ⟨_, rfl, p, dx, _, rfl, hp, shf_no (by decide +kernel), p, dx, _, rfl, hp, .inr ⟨_, _, _, rfl⟩, fun ls' H1 hls hp1 hl1 kk => ?_⟩
      refine ⟨one_line, fun r hr' => ?_⟩
      have hrH : H r = none := by
        cases e : H r with
        | none => rfl
        | some v =>
          have nrp : r ≠ p := fun z => by rw [z, hp1] at hr'; cases hr'
          rw [kk r v e nrp] at hr'; cases hr'
      have A1 : ShAt C D H1 p ls' [] ⟨[], 0, 0⟩ := ⟨⟨dx, hp1⟩, hl1, ⟨rfl, List.Pairwise.nil, List.Pairwise.nil, fun i o s h => (by cases h)⟩⟩
      refine q r ls' [] _ (A1.same (same_upd hr')) upd_same hrH (fun b v e hb => ?_) fun b hb => ?_
      · rw [upd_ne (ne_of_none e hrH)]
        exact kk b v e fun z => hb (.inl z)
      · rcases hb with z | z | ⟨o, ho, _⟩
        · exact .inl (.inl z)
        · exact .inr (.inl (by rw [z]; exact hls))
        · cases ho
    | ask d r n fs =>
      refine if_ne rfl hcl rfl (by decide) ?_
      refine if_eq rfl hcl rfl ?_
      refine ⟨_, rfl, _, rfl, cl, _, _, _, rfl, rfl, SqL.of hcl, at_of (j := 1) rfl rfl, _, rfl, cl, _, _, _, rfl, rfl, SqL.of hcl, at_of (j := 2) rfl rfl, _, rfl, cl, _, _, _, rfl, rfl, SqL.of hcl, at_of (j := 3) rfl rfl, _, rfl, _, rfl, cl, _, rfl, SqL.of hcl, fun lf hlf => ?_⟩
      have ecut : cutV ((2 :: (d : Int) :: (r : Int) :: (n : Int) :: (fs.length : Int) :: SL.nI fs).map V.int) (some 5) none = nV fs := by
        have := cut_drop ((2 :: (d : Int) :: (r : Int) :: (n : Int) :: (fs.length : Int) :: SL.nI fs).map V.int) 5 (by rw [List.length_map]; exact Nat.le_add_left 5 (SL.nI fs).length)
        refine Eq.trans this ?_
        show (SL.nI fs).map V.int = _
        exact nI_map fs
      rw [ecut]
      have s1 : Same H (upd H lf (.lst (nV fs))) := same_upd hlf
      refine ⟨p, ls, lf, os, S, d, r, n, fs, rfl, A0.same s1, can, upd_same, fun r' ls' os' H' A' h1 h2 h3 h4 => ?_⟩
      refine q r' ls' os' H' A' h1 (s1.free h2) (fun b v e hb => h3 b v (s1 b v e) hb) fun b hb => ?_
      rcases h4 b hb with z | z | z
      · exact .inl z
      · exact .inr (.inl (s1.free z))
      · exact .inr (.inl (by rw [z]; exact hlf))
    | back d g =>
      refine if_ne rfl hcl rfl (by decide) ?_
      refine if_ne rfl hcl rfl (by decide) ?_
      refine if_eq rfl hcl rfl ?_
      exact ⟨_, rfl, _, rfl, cl, _, _, _, rfl, rfl, SqL.of hcl, at_of (j := 1) rfl rfl, _, rfl, cl, _, _, _, rfl, rfl, SqL.of hcl, at_of (j := 2) rfl rfl, p, ls, os, S, d, g, rfl, A0, can, q⟩
    | drop d g =>
      refine if_ne rfl hcl rfl (by decide) ?_
      refine if_ne rfl hcl rfl (by decide) ?_
      refine if_ne rfl hcl rfl (by decide) ?_
      refine if_eq rfl hcl rfl ?_
      exact ⟨_, rfl, _, rfl, cl, _, _, _, rfl, rfl, SqL.of hcl, at_of (j := 1) rfl rfl, _, rfl, cl, _, _, _, rfl, rfl, SqL.of hcl, at_of (j := 2) rfl rfl, p, ls, os, S, d, g, rfl, A0, can, q⟩
    | count k =>
      refine if_ne rfl hcl rfl (by decide) ?_
      refine if_ne rfl hcl rfl (by decide) ?_
      refine if_ne rfl hcl rfl (by decide) ?_
      refine if_ne rfl hcl rfl (by decide) ?_
      refine if_eq rfl hcl rfl ?_
      have e1 : (SL.stepM S (.count k)).1 = S := by unfold SL.stepM; dsimp only; split <;> rfl
      rw [e1] at q
      exact ⟨_, rfl, _, rfl, cl, _, _, _, rfl, rfl, SqL.of hcl, at_of (j := 1) rfl rfl, p, ls, os, S, k, rfl, A0, wf, q.read A0⟩
    | who k g =>
      refine if_ne rfl hcl rfl (by decide) ?_
      refine if_ne rfl hcl rfl (by decide) ?_
      refine if_ne rfl hcl rfl (by decide) ?_
      refine if_ne rfl hcl rfl (by decide) ?_
      refine if_ne rfl hcl rfl (by decide) ?_
      refine if_eq rfl hcl rfl ?_
      have e1 : (SL.stepM S (.who k g)).1 = S := by
        unfold SL.stepM; dsimp only; repeat' split
        all_goals rfl
      rw [e1] at q
      exact ⟨_, rfl, _, rfl, cl, _, _, _, rfl, rfl, SqL.of hcl, at_of (j := 1) rfl rfl, _, rfl, cl, _, _, _, rfl, rfl, SqL.of hcl, at_of (j := 2) rfl rfl, p, ls, os, S, k, g, rfl, A0, wf, q.read A0⟩
    | slip k g =>
      refine if_ne rfl hcl rfl (by decide) ?_
      refine if_ne rfl hcl rfl (by decide) ?_
      refine if_ne rfl hcl rfl (by decide) ?_
      refine if_ne rfl hcl rfl (by decide) ?_
      refine if_ne rfl hcl rfl (by decide) ?_
      refine if_ne rfl hcl rfl (by decide) ?_
      refine if_eq rfl hcl rfl ?_
      have e1 : (SL.stepM S (.slip k g)).1 = S := by
        unfold SL.stepM; dsimp only; repeat' split
        all_goals rfl
      rw [e1] at q
      exact ⟨_, rfl, _, rfl, cl, _, _, _, rfl, rfl, SqL.of hcl, at_of (j := 1) rfl rfl, _, rfl, cl, _, _, _, rfl, rfl, SqL.of hcl, at_of (j := 2) rfl rfl, p, ls, os, S, k, g, rfl, A0, wf, q.read A0⟩
    | files k g =>
      refine if_ne rfl hcl rfl (by decide) ?_
      refine if_ne rfl hcl rfl (by decide) ?_
      refine if_ne rfl hcl rfl (by decide) ?_
      refine if_ne rfl hcl rfl (by decide) ?_
      refine if_ne rfl hcl rfl (by decide) ?_
      refine if_ne rfl hcl rfl (by decide) ?_
      refine if_ne rfl hcl rfl (by decide) ?_
      refine if_eq rfl hcl rfl ?_
      have e1 : (SL.stepM S (.files k g)).1 = S := by
        unfold SL.stepM; dsimp only; repeat' split
        all_goals rfl
      rw [e1] at q
      exact ⟨_, rfl, _, rfl, cl, _, _, _, rfl, rfl, SqL.of hcl, at_of (j := 1) rfl rfl, _, rfl, cl, _, _, _, rfl, rfl, SqL.of hcl, at_of (j := 2) rfl rfl, p, ls, os, S, k, g, rfl, A0, wf, q.read A0⟩
    | waits k g =>
      refine if_ne rfl hcl rfl (by decide) ?_
      refine if_ne rfl hcl rfl (by decide) ?_
      refine if_ne rfl hcl rfl (by decide) ?_
      refine if_ne rfl hcl rfl (by decide) ?_
      refine if_ne rfl hcl rfl (by decide) ?_
      refine if_ne rfl hcl rfl (by decide) ?_
      refine if_ne rfl hcl rfl (by decide) ?_
      refine if_ne rfl hcl rfl (by decide) ?_
      refine if_eq rfl hcl rfl ?_
      have e1 : (SL.stepM S (.waits k g)).1 = S := by
        unfold SL.stepM; dsimp only; repeat' split
        all_goals rfl
      rw [e1] at q
      exact ⟨_, rfl, _, rfl, cl, _, _, _, rfl, rfl, SqL.of hcl, at_of (j := 1) rfl rfl, _, rfl, cl, _, _, _, rfl, rfl, SqL.of hcl, at_of (j := 2) rfl rfl, p, ls, os, S, k, g, rfl, A0, wf, q.read A0⟩
    | late k g =>
      refine if_ne rfl hcl rfl (by decide) ?_
      refine if_ne rfl hcl rfl (by decide) ?_
      refine if_ne rfl hcl rfl (by decide) ?_
      refine if_ne rfl hcl rfl (by decide) ?_
      refine if_ne rfl hcl rfl (by decide) ?_
      refine if_ne rfl hcl rfl (by decide) ?_
      refine if_ne rfl hcl rfl (by decide) ?_
      refine if_ne rfl hcl rfl (by decide) ?_
      refine if_ne rfl hcl rfl (by decide) ?_
      refine if_eq rfl hcl rfl ?_
      have e1 : (SL.stepM S (.late k g)).1 = S := by
        unfold SL.stepM; dsimp only; repeat' split
        all_goals rfl
      rw [e1] at q
      exact ⟨_, rfl, _, rfl, cl, _, _, _, rfl, rfl, SqL.of hcl, at_of (j := 1) rfl rfl, _, rfl, cl, _, _, _, rfl, rfl, SqL.of hcl, at_of (j := 2) rfl rfl, p, ls, os, S, k, g, rfl, A0, wf, q.read A0⟩
    | when_ k g x =>
      refine if_ne rfl hcl rfl (by decide) ?_
      refine if_ne rfl hcl rfl (by decide) ?_
      refine if_ne rfl hcl rfl (by decide) ?_
      refine if_ne rfl hcl rfl (by decide) ?_
      refine if_ne rfl hcl rfl (by decide) ?_
      refine if_ne rfl hcl rfl (by decide) ?_
      refine if_ne rfl hcl rfl (by decide) ?_
      refine if_ne rfl hcl rfl (by decide) ?_
      refine if_ne rfl hcl rfl (by decide) ?_
      refine if_ne rfl hcl rfl (by decide) ?_
      have e1 : (SL.stepM S (.when_ k g x)).1 = S := by
        unfold SL.stepM; dsimp only; repeat' split
        all_goals rfl
      rw [e1] at q
      exact ⟨_, rfl, _, rfl, cl, _, _, _, rfl, rfl, SqL.of hcl, at_of (j := 1) rfl rfl, _, rfl, cl, _, _, _, rfl, rfl, SqL.of hcl, at_of (j := 2) rfl rfl, _, rfl, cl, _, _, _, rfl, rfl, SqL.of hcl, at_of (j := 3) rfl rfl, p, ls, os, S, k, g, x, rfl, A0, wf, q.read A0⟩
end
end SP
end
section
set_option Elab.async false
set_option linter.all false
set_option maxRecDepth 100000
set_option maxHeartbeats 2000000
namespace SP
open PySem PySem.Spec PyProof.Rows L2
/-! ### All calls -/
theorem parsed_nil {xs : List BdS.Call} : ∀ {l : List Int}, SL.Parsed l xs → l = [] → xs = [] := by
  intro l h e
  cases h with
  | nil => rfl
  | cons h1 h2 =>
    have := isC_pos h1
    have e2 := congrArg List.length e
    rw [List.length_append] at e2
    exact absurd e2 (by show ¬ _ = 0; omega)
theorem parsed_cons {l : List Int} {xs : List BdS.Call} (h : SL.Parsed l xs) (hn : l ≠ []) : ∃ u t x ys, l = u ++ t ∧ xs = x :: ys ∧ SL.IsC u x ∧ SL.Parsed t ys := by
  cases h with
  | nil => exact absurd rfl hn
  | cons h1 h2 => exact ⟨_, _, _, _, rfl, rfl, h1, h2⟩
theorem ShAt.keep {C D : Addr} {H H' : Hp} {p ls d : Addr} {os : List A1} {S : SL.Sh} (A : ShAt C D H p ls os S) (hd : ¬ InA p ls os d) (k : ∀ b u, H b = some u → b ≠ d → H' b = some u) : ShAt C D H' p ls os S := by
  obtain ⟨dx, hp⟩ := A.ob
  exact ⟨⟨dx, k _ _ hp fun z => hd (.inl z.symm)⟩, k _ _ A.lst fun z => hd (.inr (.inl z.symm)), A.sl.keep (fun o ho => ⟨fun z => hd (.inr (.inr ⟨o, ho, .inl z.symm⟩)), fun z => hd (.inr (.inr ⟨o, ho, .inr (.inl z.symm)⟩)), fun z => hd (.inr (.inr ⟨o, ho, .inr (.inr z.symm)⟩))⟩) k⟩
/-- between two calls -/
def Loop (C D : Addr) (H0 : Hp) (a p td : Addr) (ns due : List Int) (m : Nat) (σ : L2.St) (H' : Hp) : Prop :=
  ∃ (n : Nat) (xs : List BdS.Call) (S : SL.Sh) (ls : Addr) (os : List A1) (zs : List Int) (v4 v5 : Option V), σ = [some (.ref a), some (.ref p), some (.ref td), some (.int (n : Int)), v4, v5] ∧ m = ns.length - n ∧ n ≤ ns.length ∧ SL.Parsed (ns.drop n) xs ∧ SL.Can S ∧
    ShAt C D H' p ls os S ∧ ¬ InA p ls os td ∧ H' td = some (.lst (zs.map V.int)) ∧ xs.length ≤ 700 ∧ zs.length ≤ 601 * (700 - xs.length) ∧ zs ++ SL.toldM S xs = due ∧ Same H0 H' ∧ ∀ b, InA p ls os b → H0 b = none
def spAnswers (K : PySem.W.Frag) : Sp := fun vs H Q _ => ∃ (a : Addr) (ns : List Int), vs = [.ref a] ∧ SqL K H a (ns.map V.int) ∧ PyWqaibu.answers_asked ns = true ∧ ∀ (H' : Hp) (r : Addr), H' r = some (.lst ((PyWqaibu.answers ns).map V.int)) → Q (.ref r) H'
section
variable {P : Program} {w : World} {K : PySem.W.Frag} {mg : Str → Option Value} {base : Heap} {C D : Addr}
theorem scAnswers : FnScope ["calls", "shelf", "told", "at", "length", "answer"] ["calls"] (defScope sAnswers) := ⟨rfl, rfl, rfl, by decide +kernel, rfl, by decide +kernel, by decide +kernel⟩
theorem ok_answers {f : Addr} {fd : FuncData} (F : Fun K "answers" "answers" sAnswers f fd) (T : Txt K mg C D) (Mh : MkAt P w K mg base D ["self"] 2 (spHInit D)) (Cl : FnAt P w K mg base "call_length" ["calls", "at"] 1 (spCallLength K))
    (Ao : FnAt P w K mg base "answer_of" ["shelf", "call"] 8 (spAnswerOf C D)) : FnOk P w K mg base CX0 9 f fd ["calls"] (spAnswers K) := by
  obtain ⟨fH, fdH, MH, bH, GH⟩ := Mh
  obtain ⟨fL, fdL, mL, kL, bL, GL⟩ := Cl
  obtain ⟨fO, fdO, mO, kO, bO, GO⟩ := Ao
  refine F.ok scAnswers (fun vs H Q E h => ?_) (fun cdv A outer s H vs Q E hr h => ?_)
  · obtain ⟨a, ns, rfl, _⟩ := h
    rfl
  · obtain ⟨a, ns, rfl, hS, hask, q⟩ := h
    obtain ⟨xs0, hpar, h700, hdue⟩ := SL.request hask
    have hr1 : Room 1 _ := hr.mono (by decide)
    have hr3 : Room 3 _ := hr.mono (by decide)
    refine ⟨_, pss_cons (ps_set (i := 1) scAnswers.nd rfl (Or.inl rfl) (pe_make0 MH GH hr3 rfl T.mgD bH .nil pass0))
      (pss_cons (ps_set (i := 2) scAnswers.nd rfl (Or.inl rfl) (pe_lst pa_nil))
      (pss_cons (ps_set (i := 3) scAnswers.nd rfl (Or.inl rfl) pe_int)
      (pss_cons (ps_while PassesOwn.never (pt_cmpR op_lt (pv 3) (pe_callB call_len_seq rfl T.bLen PySem.boot_len (pa_cons (pv 0) pa_nil)) (nomark _))
        (pss_cons (ps_set (i := 4) scAnswers.nd rfl (Or.inl rfl) (pe_call GL hr1 rfl mL kL bL .nil pass0 (pa_cons (pv 0) (pa_cons (pv 3) pa_nil))))
        (pss_cons (ps_set (i := 5) scAnswers.nd rfl (Or.inl rfl) (pe_call GO hr rfl mO kO bO .nil pass0 (pa_cons (pv 1) (pa_cons (pe_slice sl_list (pv 0) (po_some (pv 3)) (po_some (pe_op op_add (pv 3) (pv 4)))) pa_nil))))
        (pss_cons (ps_expr (pe_bm PySem.F.plainAttrs_list PySem.F.slot_list_append PySem.F.type_list_append mt_append (pv 2) (pa_cons (pe_callB call_len_seq rfl T.bLen PySem.boot_len (pa_cons (pv 5) pa_nil)) pa_nil)))
        (pss_cons (ps_expr (pe_bm PySem.F.plainAttrs_list PySem.F.slot_list_extend PySem.F.type_list_extend mt_extend (pv 2) (pa_cons (pv 5) pa_nil)))
        (pss_one (ps_aug (i := 3) scAnswers.nd rfl (Or.inl rfl) (pv 4) ip_add)))))))
      (pss_one (ps_ret (pv 2)))))), ?_⟩
    intro p dx nx ndx nex
    refine ⟨p, dx, rfl, upd_same, fun ls H1 hls hp1 hl1 k1 => ⟨rfl, ?_⟩⟩
    have s1 : Same H H1 := Same.made nx ndx k1
    have hlsH : H ls = none := by
      cases e : H ls with
      | none => rfl
      | some v => rw [upd_ne (ne_of_none e nx), upd_ne (ne_of_none e ndx), e] at hls; cases hls
    refine ⟨Nat.zero_le _, fun td htd => ?_⟩
    have s2 : Same H1 (upd H1 td (.lst [])) := same_upd htd
    have A1 : ShAt C D H1 p ls [] SL.P0 := ⟨⟨dx, hp1⟩, hl1, ⟨rfl, List.Pairwise.nil, List.Pairwise.nil, fun i o s h => (by cases h)⟩⟩
    refine ⟨Loop C D H a p td ns (PyWqaibu.answers ns), ⟨ns.length, 0, xs0, SL.P0, ls, [], [], none, none, rfl, rfl, Nat.zero_le _, hpar, SL.can0, A1.same s2, ?_, upd_same, h700, Nat.zero_le _, by rw [hdue]; rfl, s1.trans s2, ?_⟩, ?_⟩
    · intro z
      obtain ⟨v, e⟩ := A1.tracked z
      rw [htd] at e; cases e
    · intro b hb
      rcases hb with rfl | rfl | ⟨o, ho, _⟩
      · exact nx
      · exact hlsH
      · cases ho
    · rintro m σ H' ⟨n, xs, S, ls', os, zs, v4, v5, rfl, rfl, hn, hpar', can, A2, htn, ht2, hx700, hzl, hz, s3, hfresh⟩
      have hS3 := s3.seq hS
      refine ⟨_, rfl, _, rfl, a, _, rfl, .inl hS3, _, _, rfl, rfl, _, rfl, iteB (fun e => ?_) (fun e => ?_)⟩
      · have hlt : n < ns.length := by
          have := of_decide_eq_true e
          rw [List.length_map] at this
          omega
        have hne : ns.drop n ≠ [] := fun z => by
          have := congrArg List.length z
          rw [List.length_drop] at this
          exact absurd this (by show ¬ _ = 0; omega)
        obtain ⟨u, t, x, ys, hdr, rfl, hC, hpt⟩ := parsed_cons hpar' hne
        have hul : u.length ≤ ns.length - n := by
          have := congrArg List.length hdr
          rw [List.length_drop, List.length_append] at this
          omega
        have hup := isC_pos hC
        refine ⟨fun σ' H'' => ∃ m', m' < ns.length - n ∧ Loop C D H a p td ns (PyWqaibu.answers ns) m' σ' H'', fun σ' H'' h => h, ?_⟩
        refine ⟨_, rfl, _, rfl, a, ns, u, t, n, x, rfl, hS3, hdr, hC, ?_⟩
        refine ⟨_, rfl, _, rfl, _, rfl, _, rfl, _, rfl, _, rfl, _, _, rfl, rfl, _, rfl, a, _, rfl, hS3, fun cl hcl => ?_⟩
        have ecut : cutV (ns.map V.int) (some (n : Int)) (some ((n : Int) + ((u.length : Nat) : Int))) = u.map V.int := by
          rw [cut_mid _ n u.length (by rw [List.length_map]; omega), ← List.map_drop, hdr, ← List.map_take, List.take_left']
          rfl
        rw [ecut]
        have s4 : Same H' (upd H' cl (.lst (u.map V.int))) := same_upd hcl
        refine ⟨p, ls', cl, os, S, u, x, rfl, A2.same s4, can, hC, upd_same, fun r ls2 os2 H2 A3 hr2 hrn k2 n2 => ?_⟩
        have ht4 := s4 _ _ ht2
        have ht5 : H2 td = some (.lst (zs.map V.int)) := k2 td _ ht4 htn
        have ntr : td ≠ r := ne_of_none ht4 hrn
        have hsh := SL.short S can.wf x
        have hzx : zs.length + 1 + (SL.stepM S x).2.length ≤ 601 * (700 - ys.length) := by
          have h1 : (x :: ys).length = ys.length + 1 := rfl
          rw [h1] at hzl hx700
          have h2 : 700 - (ys.length + 1) + 1 = 700 - ys.length := by omega
          rw [← h2, Nat.mul_add]
          omega
        have hbig : zs.length + 1 + (SL.stepM S x).2.length ≤ sizeLine := Nat.le_trans hzx (Nat.le_trans (Nat.mul_le_mul_left 601 (Nat.sub_le 700 ys.length)) (by decide))
        refine ⟨_, rfl, .inl ⟨rfl, _, SqL.of ht5⟩, _, rfl, r, _, rfl, .inl (SqL.of hr2), td, _, _, rfl, rfl, ht5, (by rw [List.length_map]; omega), ?_⟩
        refine ⟨_, rfl, .inl ⟨rfl, _, SqL.of upd_same⟩, _, rfl, td, r, _, _, rfl, rfl, upd_same, (upd_ne ntr.symm).trans hr2, ?_, ?_⟩
        · rw [List.length_append, List.length_map, List.length_map]
          exact hbig
        refine ⟨_, rfl, _, rfl, _, _, rfl, rfl, ?_⟩
        have tdn : ¬ InA p ls2 os2 td := fun z => by
          rcases n2 td z with y | y | y
          · exact htn y
          · rw [ht4] at y; cases y
          · exact y
        have hH : ∀ b v, H b = some v → (upd (upd H2 td (.lst (zs.map V.int ++ [V.int (((SL.stepM S x).2.map V.int).length : Int)]))) td (.lst (zs.map V.int ++ [V.int (((SL.stepM S x).2.map V.int).length : Int)] ++ (SL.stepM S x).2.map V.int))) b = some v := fun b v e' => by
          have e5 := s3 b v e'
          have nb : b ≠ td := fun z => by
            have htH : H td = none := by
              have := s1.free htd
              exact this
            rw [z, htH] at e'; cases e'
          rw [upd_ne nb, upd_ne nb]
          exact k2 b v (s4 b v e5) fun z => by rw [hfresh b z] at e'; cases e'
        refine ⟨ns.length - (n + u.length), by omega, n + u.length, ys, (SL.stepM S x).1, ls2, os2, zs ++ (((SL.stepM S x).2.length : Nat) : Int) :: (SL.stepM S x).2, _, _, by rw [Int.natCast_add]; rfl, rfl, by omega, ?_, can.step x, ?_, tdn, ?_, ?_, ?_, ?_, hH, ?_⟩
        · have : ns.drop (n + u.length) = t := by
            rw [← List.drop_drop, hdr, List.drop_left']
            rfl
          rw [this]; exact hpt
        · exact A3.keep tdn fun b v e' nb => by rw [upd_ne nb, upd_ne nb]; exact e'
        · rw [upd_same, List.map_append, List.append_assoc, List.length_map]; rfl
        · have h1 : (x :: ys).length = ys.length + 1 := rfl
          rw [h1] at hx700
          omega
        · rw [List.length_append, List.length_cons]
          omega
        · rw [← hz, List.append_assoc]; rfl
        · intro b hb
          rcases n2 b hb with y | y | y
          · exact hfresh b y
          · exact s3.free (s4.free y)
          · exact y.elim
      · have hge : ns.length ≤ n := by
          have := of_decide_eq_false e
          rw [List.length_map] at this
          omega
        have hx : xs = [] := parsed_nil hpar' (List.drop_eq_nil_of_le hge)
        subst hx
        have e2 : zs = PyWqaibu.answers ns := by
          rw [← hz]
          exact (List.append_nil zs).symm
        rw [e2] at ht2
        exact ⟨_, rfl, q H' td ht2⟩
end
end SP
end
set_option Elab.async false
set_option linter.all false
set_option maxRecDepth 100000
set_option maxHeartbeats 4000000
namespace SP
open PySem PySem.Spec PyProof.Rows L2
open PySem.W (Codec)
/-! ### What the top has written -/
theorem all_mk {P : Program} {w : World} {K : PySem.W.Frag} {h : Heap} {mg : Str → Option Value} {fa C D aL : Addr} {oL : Obj} {f0 f1 f2 f3 f4 f5 f6 f7 f8 f9 f10 f11 f12 f13 f14 f15 f16 f17 f18 f19 f20 f21 f22 f23 f24 f25 f26 f27 f28 f29 f30 f31 : Addr} (X : K.In h) (G : h.Ns mainGlobals mg) (hfa : mg "answers" = some (.ref fa))
    {od0 an0 od1 an1 od2 an2 od3 an3 od4 an4 od5 an5 od6 an6 od7 an7 od8 an8 od9 an9 od10 an10 od11 an11 od12 an12 od13 an13 od14 an14 od15 an15 od16 an16 od17 an17 od18 an18 od19 an19 od20 an20 od21 an21 od22 an22 od23 an23 od24 an24 od25 an25 od26 an26 od27 an27 od28 an28 od29 an29 od30 an30 od31 an31 : Option Addr} {sl0 sl1 sl2 sl3 sl4 sl5 sl6 sl7 sl8 sl9 sl10 sl11 sl12 sl13 sl14 sl15 sl16 sl17 sl18 sl19 sl20 sl21 sl22 sl23 sl24 sl25 sl26 sl27 sl28 sl29 sl30 sl31 : Array (Option Value)} {oc0 kV0 dc0 pm0 cd0 ct0 oc1 kV1 dc1 pm1 cd1 ct1 oc2 kV2 dc2 pm2 cd2 ct2 oc3 kV3 dc3 pm3 cd3 ct3 oc4 kV4 dc4 pm4 cd4 ct4 oc5 kV5 dc5 pm5 cd5 ct5 oc6 kV6 dc6 pm6 cd6 ct6 oc7 kV7 dc7 pm7 cd7 ct7 oc8 kV8 dc8 pm8 cd8 ct8 oc9 kV9 dc9 pm9 cd9 ct9 oc10 kV10 dc10 pm10 cd10 ct10 oc11 kV11 dc11 pm11 cd11 ct11 oc12 kV12 dc12 pm12 cd12 ct12 oc13 kV13 dc13 pm13 cd13 ct13 oc14 kV14 dc14 pm14 cd14 ct14 oc15 kV15 dc15 pm15 cd15 ct15 oc16 kV16 dc16 pm16 cd16 ct16 oc17 kV17 dc17 pm17 cd17 ct17 oc18 kV18 dc18 pm18 cd18 ct18 oc19 kV19 dc19 pm19 cd19 ct19 oc20 kV20 dc20 pm20 cd20 ct20 oc21 kV21 dc21 pm21 cd21 ct21 oc22 kV22 dc22 pm22 cd22 ct22 oc23 kV23 dc23 pm23 cd23 ct23 oc24 kV24 dc24 pm24 cd24 ct24 oc25 kV25 dc25 pm25 cd25 ct25 oc26 kV26 dc26 pm26 cd26 ct26 oc27 kV27 dc27 pm27 cd27 ct27 oc28 kV28 dc28 pm28 cd28 ct28 oc29 kV29 dc29 pm29 cd29 ct29 oc30 kV30 dc30 pm30 cd30 ct30 oc31 kV31 dc31 pm31 cd31 ct31 : Value} {t0 t1 t2 t3 t4 t5 t6 t7 t8 t9 t10 t11 t12 t13 t14 t15 t16 t17 t18 t19 t20 t21 t22 t23 t24 t25 t26 : Tok}
    (aC : PySem.W.nsIn K mainGlobals "Slip" = some (some (.ref C))) (aD : PySem.W.nsIn K mainGlobals "Shelf" = some (some (.ref D)))
    (a0 : PySem.W.nsIn K mainGlobals "befell" = some (some (.ref f0))) (l0 : K.lookup f0 = some ⟨oc0, od0, .func (PySem.W.fnOf "befell" "befell" (defArgs sBefell) (defBody sBefell) (defScope sBefell) .none kV0 dc0 pm0 an0 cd0 ct0), sl0⟩) (c0 : PySem.W.codeIn K cd0 "befell" = true) (k0 : PySem.W.keepIn K (.ref f0) = true)
    (a1 : PySem.W.nsIn K mainGlobals "share" = some (some (.ref f1))) (l1 : K.lookup f1 = some ⟨oc1, od1, .func (PySem.W.fnOf "share" "share" (defArgs sShare) (defBody sShare) (defScope sShare) .none kV1 dc1 pm1 an1 cd1 ct1), sl1⟩) (c1 : PySem.W.codeIn K cd1 "share" = true) (k1 : PySem.W.keepIn K (.ref f1) = true)
    (a2 : PySem.W.findIn K (.ref C) "__init__" = some (some (.ref f2))) (i2 : PySem.W.isFn K (.ref f2) = true) (l2 : K.lookup f2 = some ⟨oc2, od2, .func (PySem.W.fnOf "__init__" "Slip.__init__" (defArgs sSInit) (defBody sSInit) (defScope sSInit) .none kV2 dc2 pm2 an2 cd2 ct2), sl2⟩) (c2 : PySem.W.codeIn K cd2 "Slip.__init__" = true) (k2 : PySem.W.keepIn K (.ref f2) = true)
    (a3 : PySem.W.findIn K (.ref C) "waits" = some (some (.ref f3))) (i3 : PySem.W.isFn K (.ref f3) = true) (l3 : K.lookup f3 = some ⟨oc3, od3, .func (PySem.W.fnOf "waits" "Slip.waits" (defArgs sWaits) (defBody sWaits) (defScope sWaits) .none kV3 dc3 pm3 an3 cd3 ct3), sl3⟩) (c3 : PySem.W.codeIn K cd3 "Slip.waits" = true) (k3 : PySem.W.keepIn K (.ref f3) = true)
    (a4 : PySem.W.findIn K (.ref C) "held" = some (some (.ref f4))) (i4 : PySem.W.isFn K (.ref f4) = true) (l4 : K.lookup f4 = some ⟨oc4, od4, .func (PySem.W.fnOf "held" "Slip.held" (defArgs sHeld) (defBody sHeld) (defScope sHeld) .none kV4 dc4 pm4 an4 cd4 ct4), sl4⟩) (c4 : PySem.W.codeIn K cd4 "Slip.held" = true) (k4 : PySem.W.keepIn K (.ref f4) = true)
    (a5 : PySem.W.findIn K (.ref C) "brought" = some (some (.ref f5))) (i5 : PySem.W.isFn K (.ref f5) = true) (l5 : K.lookup f5 = some ⟨oc5, od5, .func (PySem.W.fnOf "brought" "Slip.brought" (defArgs sBrought) (defBody sBrought) (defScope sBrought) .none kV5 dc5 pm5 an5 cd5 ct5), sl5⟩) (c5 : PySem.W.codeIn K cd5 "Slip.brought" = true) (k5 : PySem.W.keepIn K (.ref f5) = true)
    (a6 : PySem.W.findIn K (.ref C) "kept" = some (some (.ref f6))) (i6 : PySem.W.isFn K (.ref f6) = true) (l6 : K.lookup f6 = some ⟨oc6, od6, .func (PySem.W.fnOf "kept" "Slip.kept" (defArgs sKept) (defBody sKept) (defScope sKept) .none kV6 dc6 pm6 an6 cd6 ct6), sl6⟩) (c6 : PySem.W.codeIn K cd6 "Slip.kept" = true) (k6 : PySem.W.keepIn K (.ref f6) = true)
    (a7 : PySem.W.findIn K (.ref C) "state" = some (some (.ref f7))) (i7 : PySem.W.isFn K (.ref f7) = true) (l7 : K.lookup f7 = some ⟨oc7, od7, .func (PySem.W.fnOf "state" "Slip.state" (defArgs sState) (defBody sState) (defScope sState) .none kV7 dc7 pm7 an7 cd7 ct7), sl7⟩) (c7 : PySem.W.codeIn K cd7 "Slip.state" = true) (k7 : PySem.W.keepIn K (.ref f7) = true)
    (a8 : PySem.W.findIn K (.ref C) "due" = some (some (.ref f8))) (i8 : PySem.W.isFn K (.ref f8) = true) (l8 : K.lookup f8 = some ⟨oc8, od8, .func (PySem.W.fnOf "due" "Slip.due" (defArgs sDue) (defBody sDue) (defScope sDue) .none kV8 dc8 pm8 an8 cd8 ct8), sl8⟩) (c8 : PySem.W.codeIn K cd8 "Slip.due" = true) (k8 : PySem.W.keepIn K (.ref f8) = true)
    (a9 : PySem.W.findIn K (.ref D) "__init__" = some (some (.ref f9))) (i9 : PySem.W.isFn K (.ref f9) = true) (l9 : K.lookup f9 = some ⟨oc9, od9, .func (PySem.W.fnOf "__init__" "Shelf.__init__" (defArgs sHInit) (defBody sHInit) (defScope sHInit) .none kV9 dc9 pm9 an9 cd9 ct9), sl9⟩) (c9 : PySem.W.codeIn K cd9 "Shelf.__init__" = true) (k9 : PySem.W.keepIn K (.ref f9) = true)
    (a10 : PySem.W.findIn K (.ref D) "begin" = some (some (.ref f10))) (i10 : PySem.W.isFn K (.ref f10) = true) (l10 : K.lookup f10 = some ⟨oc10, od10, .func (PySem.W.fnOf "begin" "Shelf.begin" (defArgs sBegin) (defBody sBegin) (defScope sBegin) .none kV10 dc10 pm10 an10 cd10 ct10), sl10⟩) (c10 : PySem.W.codeIn K cd10 "Shelf.begin" = true) (k10 : PySem.W.keepIn K (.ref f10) = true)
    (a11 : PySem.W.findIn K (.ref D) "full" = some (some (.ref f11))) (i11 : PySem.W.isFn K (.ref f11) = true) (l11 : K.lookup f11 = some ⟨oc11, od11, .func (PySem.W.fnOf "full" "Shelf.full" (defArgs sFull) (defBody sFull) (defScope sFull) .none kV11 dc11 pm11 an11 cd11 ct11), sl11⟩) (c11 : PySem.W.codeIn K cd11 "Shelf.full" = true) (k11 : PySem.W.keepIn K (.ref f11) = true)
    (a12 : PySem.W.findIn K (.ref D) "out" = some (some (.ref f12))) (i12 : PySem.W.isFn K (.ref f12) = true) (l12 : K.lookup f12 = some ⟨oc12, od12, .func (PySem.W.fnOf "out" "Shelf.out" (defArgs sOut) (defBody sOut) (defScope sOut) .none kV12 dc12 pm12 an12 cd12 ct12), sl12⟩) (c12 : PySem.W.codeIn K cd12 "Shelf.out" = true) (k12 : PySem.W.keepIn K (.ref f12) = true)
    (a13 : PySem.W.findIn K (.ref D) "known" = some (some (.ref f13))) (i13 : PySem.W.isFn K (.ref f13) = true) (l13 : K.lookup f13 = some ⟨oc13, od13, .func (PySem.W.fnOf "known" "Shelf.known" (defArgs sKnown) (defBody sKnown) (defScope sKnown) .none kV13 dc13 pm13 an13 cd13 ct13), sl13⟩) (c13 : PySem.W.codeIn K cd13 "Shelf.known" = true) (k13 : PySem.W.keepIn K (.ref f13) = true)
    (a14 : PySem.W.findIn K (.ref D) "enter" = some (some (.ref f14))) (i14 : PySem.W.isFn K (.ref f14) = true) (l14 : K.lookup f14 = some ⟨oc14, od14, .func (PySem.W.fnOf "enter" "Shelf.enter" (defArgs sEnter) (defBody sEnter) (defScope sEnter) .none kV14 dc14 pm14 an14 cd14 ct14), sl14⟩) (c14 : PySem.W.codeIn K cd14 "Shelf.enter" = true) (k14 : PySem.W.keepIn K (.ref f14) = true)
    (a15 : PySem.W.findIn K (.ref D) "serve" = some (some (.ref f15))) (i15 : PySem.W.isFn K (.ref f15) = true) (l15 : K.lookup f15 = some ⟨oc15, od15, .func (PySem.W.fnOf "serve" "Shelf.serve" (defArgs sServe) (defBody sServe) (defScope sServe) .none kV15 dc15 pm15 an15 cd15 ct15), sl15⟩) (c15 : PySem.W.codeIn K cd15 "Shelf.serve" = true) (k15 : PySem.W.keepIn K (.ref f15) = true)
    (a16 : PySem.W.findIn K (.ref D) "latest" = some (some (.ref f16))) (i16 : PySem.W.isFn K (.ref f16) = true) (l16 : K.lookup f16 = some ⟨oc16, od16, .func (PySem.W.fnOf "latest" "Shelf.latest" (defArgs sLatest) (defBody sLatest) (defScope sLatest) .none kV16 dc16 pm16 an16 cd16 ct16), sl16⟩) (c16 : PySem.W.codeIn K cd16 "Shelf.latest" = true) (k16 : PySem.W.keepIn K (.ref f16) = true)
    (a17 : PySem.W.nsIn K mainGlobals "files_fit" = some (some (.ref f17))) (l17 : K.lookup f17 = some ⟨oc17, od17, .func (PySem.W.fnOf "files_fit" "files_fit" (defArgs sFilesFit) (defBody sFilesFit) (defScope sFilesFit) .none kV17 dc17 pm17 an17 cd17 ct17), sl17⟩) (c17 : PySem.W.codeIn K cd17 "files_fit" = true) (k17 : PySem.W.keepIn K (.ref f17) = true)
    (a18 : PySem.W.nsIn K mainGlobals "slip_fits" = some (some (.ref f18))) (l18 : K.lookup f18 = some ⟨oc18, od18, .func (PySem.W.fnOf "slip_fits" "slip_fits" (defArgs sSlipFits) (defBody sSlipFits) (defScope sSlipFits) .none kV18 dc18 pm18 an18 cd18 ct18), sl18⟩) (c18 : PySem.W.codeIn K cd18 "slip_fits" = true) (k18 : PySem.W.keepIn K (.ref f18) = true)
    (a19 : PySem.W.nsIn K mainGlobals "ask" = some (some (.ref f19))) (l19 : K.lookup f19 = some ⟨oc19, od19, .func (PySem.W.fnOf "ask" "ask" (defArgs sAsk) (defBody sAsk) (defScope sAsk) .none kV19 dc19 pm19 an19 cd19 ct19), sl19⟩) (c19 : PySem.W.codeIn K cd19 "ask" = true) (k19 : PySem.W.keepIn K (.ref f19) = true)
    (a20 : PySem.W.nsIn K mainGlobals "back" = some (some (.ref f20))) (l20 : K.lookup f20 = some ⟨oc20, od20, .func (PySem.W.fnOf "back" "back" (defArgs sBack) (defBody sBack) (defScope sBack) .none kV20 dc20 pm20 an20 cd20 ct20), sl20⟩) (c20 : PySem.W.codeIn K cd20 "back" = true) (k20 : PySem.W.keepIn K (.ref f20) = true)
    (a21 : PySem.W.nsIn K mainGlobals "drop" = some (some (.ref f21))) (l21 : K.lookup f21 = some ⟨oc21, od21, .func (PySem.W.fnOf "drop" "drop" (defArgs sDrop) (defBody sDrop) (defScope sDrop) .none kV21 dc21 pm21 an21 cd21 ct21), sl21⟩) (c21 : PySem.W.codeIn K cd21 "drop" = true) (k21 : PySem.W.keepIn K (.ref f21) = true)
    (a22 : PySem.W.nsIn K mainGlobals "count" = some (some (.ref f22))) (l22 : K.lookup f22 = some ⟨oc22, od22, .func (PySem.W.fnOf "count" "count" (defArgs sCount) (defBody sCount) (defScope sCount) .none kV22 dc22 pm22 an22 cd22 ct22), sl22⟩) (c22 : PySem.W.codeIn K cd22 "count" = true) (k22 : PySem.W.keepIn K (.ref f22) = true)
    (a23 : PySem.W.nsIn K mainGlobals "who" = some (some (.ref f23))) (l23 : K.lookup f23 = some ⟨oc23, od23, .func (PySem.W.fnOf "who" "who" (defArgs sWho) (defBody sWho) (defScope sWho) .none kV23 dc23 pm23 an23 cd23 ct23), sl23⟩) (c23 : PySem.W.codeIn K cd23 "who" = true) (k23 : PySem.W.keepIn K (.ref f23) = true)
    (a24 : PySem.W.nsIn K mainGlobals "tell_slip" = some (some (.ref f24))) (l24 : K.lookup f24 = some ⟨oc24, od24, .func (PySem.W.fnOf "tell_slip" "tell_slip" (defArgs sTellSlip) (defBody sTellSlip) (defScope sTellSlip) .none kV24 dc24 pm24 an24 cd24 ct24), sl24⟩) (c24 : PySem.W.codeIn K cd24 "tell_slip" = true) (k24 : PySem.W.keepIn K (.ref f24) = true)
    (a25 : PySem.W.nsIn K mainGlobals "tell_files" = some (some (.ref f25))) (l25 : K.lookup f25 = some ⟨oc25, od25, .func (PySem.W.fnOf "tell_files" "tell_files" (defArgs sTellFiles) (defBody sTellFiles) (defScope sTellFiles) .none kV25 dc25 pm25 an25 cd25 ct25), sl25⟩) (c25 : PySem.W.codeIn K cd25 "tell_files" = true) (k25 : PySem.W.keepIn K (.ref f25) = true)
    (a26 : PySem.W.nsIn K mainGlobals "waits_for" = some (some (.ref f26))) (l26 : K.lookup f26 = some ⟨oc26, od26, .func (PySem.W.fnOf "waits_for" "waits_for" (defArgs sWaitsFor) (defBody sWaitsFor) (defScope sWaitsFor) .none kV26 dc26 pm26 an26 cd26 ct26), sl26⟩) (c26 : PySem.W.codeIn K cd26 "waits_for" = true) (k26 : PySem.W.keepIn K (.ref f26) = true)
    (a27 : PySem.W.nsIn K mainGlobals "late" = some (some (.ref f27))) (l27 : K.lookup f27 = some ⟨oc27, od27, .func (PySem.W.fnOf "late" "late" (defArgs sLate) (defBody sLate) (defScope sLate) .none kV27 dc27 pm27 an27 cd27 ct27), sl27⟩) (c27 : PySem.W.codeIn K cd27 "late" = true) (k27 : PySem.W.keepIn K (.ref f27) = true)
    (a28 : PySem.W.nsIn K mainGlobals "when" = some (some (.ref f28))) (l28 : K.lookup f28 = some ⟨oc28, od28, .func (PySem.W.fnOf "when" "when" (defArgs sWhen) (defBody sWhen) (defScope sWhen) .none kV28 dc28 pm28 an28 cd28 ct28), sl28⟩) (c28 : PySem.W.codeIn K cd28 "when" = true) (k28 : PySem.W.keepIn K (.ref f28) = true)
    (a29 : PySem.W.nsIn K mainGlobals "call_length" = some (some (.ref f29))) (l29 : K.lookup f29 = some ⟨oc29, od29, .func (PySem.W.fnOf "call_length" "call_length" (defArgs sCallLength) (defBody sCallLength) (defScope sCallLength) .none kV29 dc29 pm29 an29 cd29 ct29), sl29⟩) (c29 : PySem.W.codeIn K cd29 "call_length" = true) (k29 : PySem.W.keepIn K (.ref f29) = true)
    (a30 : PySem.W.nsIn K mainGlobals "answer_of" = some (some (.ref f30))) (l30 : K.lookup f30 = some ⟨oc30, od30, .func (PySem.W.fnOf "answer_of" "answer_of" (defArgs sAnswerOf) (defBody sAnswerOf) (defScope sAnswerOf) .none kV30 dc30 pm30 an30 cd30 ct30), sl30⟩) (c30 : PySem.W.codeIn K cd30 "answer_of" = true) (k30 : PySem.W.keepIn K (.ref f30) = true)
    (a31 : PySem.W.nsIn K mainGlobals "answers" = some (some (.ref f31))) (l31 : K.lookup f31 = some ⟨oc31, od31, .func (PySem.W.fnOf "answers" "answers" (defArgs sAnswers) (defBody sAnswers) (defScope sAnswers) .none kV31 dc31 pm31 an31 cd31 ct31), sl31⟩) (c31 : PySem.W.codeIn K cd31 "answers" = true) (k31 : PySem.W.keepIn K (.ref f31) = true)
    (pgC : PySem.W.plainGet K C Str.empty = true) (hdC : PySem.W.hasDictIn K C = true) (poC : PySem.W.plainOver K C = true) (saC : PySem.W.findIn K (.ref C) "__setattr__" = some (some (.builtin "object.__setattr__"))) (mkC : PySem.W.makesIn K C = true) (kcC : PySem.W.keepIn K (.ref C) = true)
    (pgD : PySem.W.plainGet K D Str.empty = true) (hdD : PySem.W.hasDictIn K D = true) (poD : PySem.W.plainOver K D = true) (saD : PySem.W.findIn K (.ref D) "__setattr__" = some (some (.builtin "object.__setattr__"))) (mkD : PySem.W.makesIn K D = true) (kcD : PySem.W.keepIn K (.ref D) = true)
    (nC0 : PySem.W.findIn K (.ref C) "number" = some none) (nC1 : PySem.W.findIn K (.ref C) "asked" = some none) (nC2 : PySem.W.findIn K (.ref C) "reader" = some none) (nC3 : PySem.W.findIn K (.ref C) "days" = some none) (nC4 : PySem.W.findIn K (.ref C) "files" = some none) (nC5 : PySem.W.findIn K (.ref C) "served" = some none) (nC6 : PySem.W.findIn K (.ref C) "withdrawn" = some none) (nC7 : PySem.W.findIn K (.ref C) "returned" = some none) (nD0 : PySem.W.findIn K (.ref D) "slips" = some none) (nD1 : PySem.W.findIn K (.ref D) "entries" = some none) (nD2 : PySem.W.findIn K (.ref D) "last" = some none) 
    (z0 : PySem.W.nsIn K mainGlobals "any" = some none) (z1 : PySem.W.nsIn K mainGlobals "len" = some none) (z2 : PySem.W.nsIn K mainGlobals "max" = some none) (z3 : PySem.W.nsIn K mainGlobals "sorted" = some none) 
    (cst0 : PySem.W.nsIn K mainGlobals "LAST_DAY" = some (some (.int 292193 t0)))
    (cst1 : PySem.W.nsIn K mainGlobals "LAST_READER" = some (some (.int 65535 t1)))
    (cst2 : PySem.W.nsIn K mainGlobals "LAST_FILE" = some (some (.int 16383 t2)))
    (cst3 : PySem.W.nsIn K mainGlobals "MOST_FILES" = some (some (.int 8 t3)))
    (cst4 : PySem.W.nsIn K mainGlobals "MOST_DAYS" = some (some (.int 1000 t4)))
    (cst5 : PySem.W.nsIn K mainGlobals "MOST_SLIPS" = some (some (.int 64 t5)))
    (cst6 : PySem.W.nsIn K mainGlobals "MOST_ENTRIES" = some (some (.int 512 t6)))
    (cst7 : PySem.W.nsIn K mainGlobals "OUT_OF_BOUNDS" = some (some (.int (-1) t7)))
    (cst8 : PySem.W.nsIn K mainGlobals "TOO_EARLY" = some (some (.int (-3) t8)))
    (cst9 : PySem.W.nsIn K mainGlobals "NO_SLIP" = some (some (.int (-4) t9)))
    (cst10 : PySem.W.nsIn K mainGlobals "NOT_SO" = some (some (.int (-5) t10)))
    (cst11 : PySem.W.nsIn K mainGlobals "NO_ROOM" = some (some (.int (-6) t11)))
    (cst12 : PySem.W.nsIn K mainGlobals "BEGIN" = some (some (.int 1 t12)))
    (cst13 : PySem.W.nsIn K mainGlobals "ASK" = some (some (.int 2 t13)))
    (cst14 : PySem.W.nsIn K mainGlobals "BACK" = some (some (.int 3 t14)))
    (cst15 : PySem.W.nsIn K mainGlobals "DROP" = some (some (.int 4 t15)))
    (cst16 : PySem.W.nsIn K mainGlobals "COUNT" = some (some (.int 5 t16)))
    (cst17 : PySem.W.nsIn K mainGlobals "WHO" = some (some (.int 6 t17)))
    (cst18 : PySem.W.nsIn K mainGlobals "SLIP" = some (some (.int 7 t18)))
    (cst19 : PySem.W.nsIn K mainGlobals "FILES" = some (some (.int 8 t19)))
    (cst20 : PySem.W.nsIn K mainGlobals "WAITS" = some (some (.int 9 t20)))
    (cst21 : PySem.W.nsIn K mainGlobals "LATE" = some (some (.int 10 t21)))
    (cst22 : PySem.W.nsIn K mainGlobals "WAITING" = some (some (.int 0 t22)))
    (cst23 : PySem.W.nsIn K mainGlobals "OUT" = some (some (.int 1 t23)))
    (cst24 : PySem.W.nsIn K mainGlobals "DONE" = some (some (.int 2 t24)))
    (cst25 : PySem.W.nsIn K mainGlobals "WITHDRAWN" = some (some (.int 3 t25)))
    (cst26 : PySem.W.nsIn K mainGlobals "NEVER" = some (some (.int (-1) t26)))
    (aL1 : PySem.W.nsIn K mainGlobals "CALL_LENGTHS" = some (some (.ref aL))) (aL2 : K.lookup aL = some oL) (aL3 : dictC oL lens = true) :
    ∃ fd : FuncData, (∀ (s : Shared) (us : List Value), us.length = (["calls"] : List Str).length → BindsTo s fd ⟨us, []⟩ ((["calls"] : List Str).zip us)) ∧ ∀ base : Heap, K.In base → base.Ns mainGlobals mg → FnOk P w K mg base CX0 9 fa fd ["calls"] (spAnswers K) := by
  have e := hfa.symm.trans (PySem.W.mg_of X G a31)
  cases e
  have T : Txt K mg C D := ⟨⟨pgC, hdC, poC, saC⟩, nC0, nC1, nC2, nC3, nC4, nC5, nC6, nC7, PySem.W.mg_of X G aC, ⟨pgD, hdD, poD, saD⟩, nD0, nD1, nD2, PySem.W.mg_of X G aD, PySem.W.mg_none_of X G z0, PySem.W.mg_none_of X G z1, PySem.W.mg_none_of X G z2, PySem.W.mg_none_of X G z3,
    ⟨t0, PySem.W.mg_of X G cst0⟩, ⟨t1, PySem.W.mg_of X G cst1⟩, ⟨t2, PySem.W.mg_of X G cst2⟩, ⟨t3, PySem.W.mg_of X G cst3⟩, ⟨t4, PySem.W.mg_of X G cst4⟩, ⟨t5, PySem.W.mg_of X G cst5⟩, ⟨t6, PySem.W.mg_of X G cst6⟩, ⟨t7, PySem.W.mg_of X G cst7⟩, ⟨t8, PySem.W.mg_of X G cst8⟩, ⟨t9, PySem.W.mg_of X G cst9⟩, ⟨t10, PySem.W.mg_of X G cst10⟩, ⟨t11, PySem.W.mg_of X G cst11⟩, ⟨t12, PySem.W.mg_of X G cst12⟩, ⟨t13, PySem.W.mg_of X G cst13⟩, ⟨t14, PySem.W.mg_of X G cst14⟩, ⟨t15, PySem.W.mg_of X G cst15⟩, ⟨t16, PySem.W.mg_of X G cst16⟩, ⟨t17, PySem.W.mg_of X G cst17⟩, ⟨t18, PySem.W.mg_of X G cst18⟩, ⟨t19, PySem.W.mg_of X G cst19⟩, ⟨t20, PySem.W.mg_of X G cst20⟩, ⟨t21, PySem.W.mg_of X G cst21⟩, ⟨t22, PySem.W.mg_of X G cst22⟩, ⟨t23, PySem.W.mg_of X G cst23⟩, ⟨t24, PySem.W.mg_of X G cst24⟩, ⟨t25, PySem.W.mg_of X G cst25⟩, ⟨t26, PySem.W.mg_of X G cst26⟩,
    ⟨aL, PySem.W.mg_of X G aL1, oL, aL2, aL3, by decide⟩⟩
  have F0 := fun_mk (st := sBefell) l0 c0 k0
  have F1 := fun_mk (st := sShare) l1 c1 k1
  have F2 := fun_mk (st := sSInit) l2 c2 k2
  have F3 := fun_mk (st := sWaits) l3 c3 k3
  have F4 := fun_mk (st := sHeld) l4 c4 k4
  have F5 := fun_mk (st := sBrought) l5 c5 k5
  have F6 := fun_mk (st := sKept) l6 c6 k6
  have F7 := fun_mk (st := sState) l7 c7 k7
  have F8 := fun_mk (st := sDue) l8 c8 k8
  have F9 := fun_mk (st := sHInit) l9 c9 k9
  have F10 := fun_mk (st := sBegin) l10 c10 k10
  have F11 := fun_mk (st := sFull) l11 c11 k11
  have F12 := fun_mk (st := sOut) l12 c12 k12
  have F13 := fun_mk (st := sKnown) l13 c13 k13
  have F14 := fun_mk (st := sEnter) l14 c14 k14
  have F15 := fun_mk (st := sServe) l15 c15 k15
  have F16 := fun_mk (st := sLatest) l16 c16 k16
  have F17 := fun_mk (st := sFilesFit) l17 c17 k17
  have F18 := fun_mk (st := sSlipFits) l18 c18 k18
  have F19 := fun_mk (st := sAsk) l19 c19 k19
  have F20 := fun_mk (st := sBack) l20 c20 k20
  have F21 := fun_mk (st := sDrop) l21 c21 k21
  have F22 := fun_mk (st := sCount) l22 c22 k22
  have F23 := fun_mk (st := sWho) l23 c23 k23
  have F24 := fun_mk (st := sTellSlip) l24 c24 k24
  have F25 := fun_mk (st := sTellFiles) l25 c25 k25
  have F26 := fun_mk (st := sWaitsFor) l26 c26 k26
  have F27 := fun_mk (st := sLate) l27 c27 k27
  have F28 := fun_mk (st := sWhen) l28 c28 k28
  have F29 := fun_mk (st := sCallLength) l29 c29 k29
  have F30 := fun_mk (st := sAnswerOf) l30 c30 k30
  have F31 := fun_mk (st := sAnswers) l31 c31 k31
  have b0 := F0.binds (ps := ["day", "k"]) fun _ _ _ _ _ _ us hl => match us, hl with | [_, _], _ => rfl
  have b1 := F1.binds (ps := ["files", "others"]) fun _ _ _ _ _ _ us hl => match us, hl with | [_, _], _ => rfl
  have b2 := F2.binds (ps := ["self", "number", "asked", "reader", "days", "files"]) fun _ _ _ _ _ _ us hl => match us, hl with | [_, _, _, _, _, _], _ => rfl
  have b3 := F3.binds (ps := ["self", "k"]) fun _ _ _ _ _ _ us hl => match us, hl with | [_, _], _ => rfl
  have b4 := F4.binds (ps := ["self", "k"]) fun _ _ _ _ _ _ us hl => match us, hl with | [_, _], _ => rfl
  have b5 := F5.binds (ps := ["self", "f", "k"]) fun _ _ _ _ _ _ us hl => match us, hl with | [_, _, _], _ => rfl
  have b6 := F6.binds (ps := ["self", "k"]) fun _ _ _ _ _ _ us hl => match us, hl with | [_, _], _ => rfl
  have b7 := F7.binds (ps := ["self", "k"]) fun _ _ _ _ _ _ us hl => match us, hl with | [_, _], _ => rfl
  have b8 := F8.binds (ps := ["self"]) fun _ _ _ _ _ _ us hl => match us, hl with | [_], _ => rfl
  have b9 := F9.binds (ps := ["self"]) fun _ _ _ _ _ _ us hl => match us, hl with | [_], _ => rfl
  have b10 := F10.binds (ps := ["self"]) fun _ _ _ _ _ _ us hl => match us, hl with | [_], _ => rfl
  have b11 := F11.binds (ps := ["self"]) fun _ _ _ _ _ _ us hl => match us, hl with | [_], _ => rfl
  have b12 := F12.binds (ps := ["self", "k"]) fun _ _ _ _ _ _ us hl => match us, hl with | [_, _], _ => rfl
  have b13 := F13.binds (ps := ["self", "k", "q"]) fun _ _ _ _ _ _ us hl => match us, hl with | [_, _, _], _ => rfl
  have b14 := F14.binds (ps := ["self", "day"]) fun _ _ _ _ _ _ us hl => match us, hl with | [_, _], _ => rfl
  have b15 := F15.binds (ps := ["self", "day"]) fun _ _ _ _ _ _ us hl => match us, hl with | [_, _], _ => rfl
  have b16 := F16.binds (ps := ["self", "k", "q", "x"]) fun _ _ _ _ _ _ us hl => match us, hl with | [_, _, _, _], _ => rfl
  have b17 := F17.binds (ps := ["files"]) fun _ _ _ _ _ _ us hl => match us, hl with | [_], _ => rfl
  have b18 := F18.binds (ps := ["reader", "days", "files"]) fun _ _ _ _ _ _ us hl => match us, hl with | [_, _, _], _ => rfl
  have b19 := F19.binds (ps := ["shelf", "d", "reader", "days", "files"]) fun _ _ _ _ _ _ us hl => match us, hl with | [_, _, _, _, _], _ => rfl
  have b20 := F20.binds (ps := ["shelf", "d", "f"]) fun _ _ _ _ _ _ us hl => match us, hl with | [_, _, _], _ => rfl
  have b21 := F21.binds (ps := ["shelf", "d", "q"]) fun _ _ _ _ _ _ us hl => match us, hl with | [_, _, _], _ => rfl
  have b22 := F22.binds (ps := ["shelf", "k"]) fun _ _ _ _ _ _ us hl => match us, hl with | [_, _], _ => rfl
  have b23 := F23.binds (ps := ["shelf", "k", "f"]) fun _ _ _ _ _ _ us hl => match us, hl with | [_, _, _], _ => rfl
  have b24 := F24.binds (ps := ["shelf", "k", "q"]) fun _ _ _ _ _ _ us hl => match us, hl with | [_, _, _], _ => rfl
  have b25 := F25.binds (ps := ["shelf", "k", "q"]) fun _ _ _ _ _ _ us hl => match us, hl with | [_, _, _], _ => rfl
  have b26 := F26.binds (ps := ["shelf", "k", "q"]) fun _ _ _ _ _ _ us hl => match us, hl with | [_, _, _], _ => rfl
  have b27 := F27.binds (ps := ["shelf", "k", "x"]) fun _ _ _ _ _ _ us hl => match us, hl with | [_, _, _], _ => rfl
  have b28 := F28.binds (ps := ["shelf", "k", "q", "x"]) fun _ _ _ _ _ _ us hl => match us, hl with | [_, _, _, _], _ => rfl
  have b29 := F29.binds (ps := ["calls", "at"]) fun _ _ _ _ _ _ us hl => match us, hl with | [_, _], _ => rfl
  have b30 := F30.binds (ps := ["shelf", "call"]) fun _ _ _ _ _ _ us hl => match us, hl with | [_, _], _ => rfl
  refine ⟨PySem.W.fnOf "answers" "answers" (defArgs sAnswers) (defBody sAnswers) (defScope sAnswers) .none kV31 dc31 pm31 an31 cd31 ct31, fun s us hu => match us, hu with | [_], _ => .of_eq rfl, fun base _ _ => ?_⟩
  have A0 : FnAt P w K mg base "befell" ["day", "k"] 1 spBefell := ⟨f0, _, PySem.W.mg_of X G a0, k0, b0, ok_befell F0 T⟩
  have A1 : FnAt P w K mg base "share" ["files", "others"] 1 (spShare K) := ⟨f1, _, PySem.W.mg_of X G a1, k1, b1, ok_share F1 T⟩
  have A2 : MkAt P w K mg base C ["self", "number", "asked", "reader", "days", "files"] 1 (spSInit C) := ⟨f2, _, ⟨mkC, a2, i2, kcC⟩, b2, ok_sinit F2 T⟩
  have A3 : MtAt P w K mg base C "waits" ["self", "k"] 2 (spWaits C) := ⟨f3, _, ⟨a3, i3, k3⟩, b3, ok_waits F3 T A0⟩
  have A5 : MtAt P w K mg base C "brought" ["self", "f", "k"] 2 (spBrought C) := ⟨f5, _, ⟨a5, i5, k5⟩, b5, ok_brought F5 T A0⟩
  have A4 : MtAt P w K mg base C "held" ["self", "k"] 3 (spHeld C) := ⟨f4, _, ⟨a4, i4, k4⟩, b4, ok_held F4 T A0 A5⟩
  have A6 : MtAt P w K mg base C "kept" ["self", "k"] 4 (spKept K C) := ⟨f6, _, ⟨a6, i6, k6⟩, b6, ok_kept F6 T A3 A4⟩
  have A7 : MtAt P w K mg base C "state" ["self", "k"] 4 (spState C) := ⟨f7, _, ⟨a7, i7, k7⟩, b7, ok_state F7 T A0 A3 A4⟩
  have A8 : MtAt P w K mg base C "due" ["self"] 1 (spDue C) := ⟨f8, _, ⟨a8, i8, k8⟩, b8, ok_due F8 T⟩
  have A10 : MtAt P w K mg base D "begin" ["self"] 1 (spBegin D) := ⟨f10, _, ⟨a10, i10, k10⟩, b10, ok_begin F10 T⟩
  have A9 : MkAt P w K mg base D ["self"] 2 (spHInit D) := ⟨f9, _, ⟨mkD, a9, i9, kcD⟩, b9, ok_hinit F9 T A10⟩
  have A11 : MtAt P w K mg base D "full" ["self"] 1 (spFull D) := ⟨f11, _, ⟨a11, i11, k11⟩, b11, ok_full F11 T⟩
  have A12 : MtAt P w K mg base D "out" ["self", "k"] 4 (spOut C D) := ⟨f12, _, ⟨a12, i12, k12⟩, b12, ok_out F12 T A4⟩
  have A13 : MtAt P w K mg base D "known" ["self", "k", "q"] 1 (spKnown C D) := ⟨f13, _, ⟨a13, i13, k13⟩, b13, ok_known F13 T⟩
  have A15 : MtAt P w K mg base D "serve" ["self", "day"] 5 (spServe C D) := ⟨f15, _, ⟨a15, i15, k15⟩, b15, ok_serve F15 T A12 A3 A1⟩
  have A14 : MtAt P w K mg base D "enter" ["self", "day"] 6 (spEnter C D) := ⟨f14, _, ⟨a14, i14, k14⟩, b14, ok_enter F14 T A15⟩
  have A16 : MtAt P w K mg base D "latest" ["self", "k", "q", "x"] 5 (spLatest C D) := ⟨f16, _, ⟨a16, i16, k16⟩, b16, ok_latest F16 T A12 A3 A8⟩
  have A17 : FnAt P w K mg base "files_fit" ["files"] 1 (spFilesFit K) := ⟨f17, _, PySem.W.mg_of X G a17, k17, b17, ok_filesFit F17 T⟩
  have A18 : FnAt P w K mg base "slip_fits" ["reader", "days", "files"] 2 (spSlipFits K) := ⟨f18, _, PySem.W.mg_of X G a18, k18, b18, ok_slipFits F18 T A17⟩
  have A19 : FnAt P w K mg base "ask" ["shelf", "d", "reader", "days", "files"] 7 (spAsk C D) := ⟨f19, _, PySem.W.mg_of X G a19, k19, b19, ok_ask F19 T A18 A11 A2 A14⟩
  have A20 : FnAt P w K mg base "back" ["shelf", "d", "f"] 7 (spBack C D) := ⟨f20, _, PySem.W.mg_of X G a20, k20, b20, ok_back F20 T A12 A11 A14⟩
  have A21 : FnAt P w K mg base "drop" ["shelf", "d", "q"] 7 (spDrop C D) := ⟨f21, _, PySem.W.mg_of X G a21, k21, b21, ok_drop F21 T A13 A3 A11 A14⟩
  have A22 : FnAt P w K mg base "count" ["shelf", "k"] 3 (spCount C D) := ⟨f22, _, PySem.W.mg_of X G a22, k22, b22, ok_count F22 T A3⟩
  have A23 : FnAt P w K mg base "who" ["shelf", "k", "f"] 5 (spWho C D) := ⟨f23, _, PySem.W.mg_of X G a23, k23, b23, ok_who F23 T A12 A8⟩
  have A24 : FnAt P w K mg base "tell_slip" ["shelf", "k", "q"] 5 (spTellSlip C D) := ⟨f24, _, PySem.W.mg_of X G a24, k24, b24, ok_tellSlip F24 T A13 A0 A7 A5⟩
  have A25 : FnAt P w K mg base "tell_files" ["shelf", "k", "q"] 2 (spTellFiles C D) := ⟨f25, _, PySem.W.mg_of X G a25, k25, b25, ok_tellFiles F25 T A13⟩
  have A26 : FnAt P w K mg base "waits_for" ["shelf", "k", "q"] 5 (spWaitsFor C D) := ⟨f26, _, PySem.W.mg_of X G a26, k26, b26, ok_waitsFor F26 T A13 A3 A1 A6⟩
  have A27 : FnAt P w K mg base "late" ["shelf", "k", "x"] 5 (spLate C D) := ⟨f27, _, PySem.W.mg_of X G a27, k27, b27, ok_late F27 T A12 A8⟩
  have A28 : FnAt P w K mg base "when" ["shelf", "k", "q", "x"] 6 (spWhen C D) := ⟨f28, _, PySem.W.mg_of X G a28, k28, b28, ok_when F28 T A13 A3 A16⟩
  have A29 : FnAt P w K mg base "call_length" ["calls", "at"] 1 (spCallLength K) := ⟨f29, _, PySem.W.mg_of X G a29, k29, b29, ok_callLength F29 T⟩
  have A30 : FnAt P w K mg base "answer_of" ["shelf", "call"] 8 (spAnswerOf C D) := ⟨f30, _, PySem.W.mg_of X G a30, k30, b30, ok_answerOf F30 T A10 A19 A20 A21 A22 A23 A24 A25 A26 A27 A28⟩
  exact ok_answers F31 T A9 A29 A30
end SP
open PySem PySem.W PyProof.Rows
set_option maxRecDepth 100000 in
set_option maxHeartbeats 0 in
theorem PySem.Challenge.cw_slipshelf_s01_answers_holds : PySem.Challenge.rw_slipshelf_s01_answers.Holds := by
  w_on; k_headS; (case hw => exact ⟨[.list []], by decide +kernel, by decide +kernel⟩)
  k_fillS
  refine L2.walk_specK (r := PySem.Challenge.rw_slipshelf_s01_answers) (k := 9) (CX := L2.CX0) (ps := ["calls"]) (sp := SP.spAnswers) (by decide +kernel) rfl rfl ⟨rfl, by decide, by decide⟩ (fun w h Y => PySem.W.kIn_of Y) ?F ?S (fun _ _ _ _ z => z)
  case F =>
    intro w mg fa h Y KX G hmg
    refine' SP.all_mk KX G hmg ?aC ?aD ?a0 ?l0 ?c0 ?k0 ?a1 ?l1 ?c1 ?k1 ?a2 ?i2 ?l2 ?c2 ?k2 ?a3 ?i3 ?l3 ?c3 ?k3 ?a4 ?i4 ?l4 ?c4 ?k4 ?a5 ?i5 ?l5 ?c5 ?k5 ?a6 ?i6 ?l6 ?c6 ?k6 ?a7 ?i7 ?l7 ?c7 ?k7 ?a8 ?i8 ?l8 ?c8 ?k8 ?a9 ?i9 ?l9 ?c9 ?k9 ?a10 ?i10 ?l10 ?c10 ?k10 ?a11 ?i11 ?l11 ?c11 ?k11 ?a12 ?i12 ?l12 ?c12 ?k12 ?a13 ?i13 ?l13 ?c13 ?k13 ?a14 ?i14 ?l14 ?c14 ?k14 ?a15 ?i15 ?l15 ?c15 ?k15 ?a16 ?i16 ?l16 ?c16 ?k16 ?a17 ?l17 ?c17 ?k17 ?a18 ?l18 ?c18 ?k18 ?a19 ?l19 ?c19 ?k19 ?a20 ?l20 ?c20 ?k20 ?a21 ?l21 ?c21 ?k21 ?a22 ?l22 ?c22 ?k22 ?a23 ?l23 ?c23 ?k23 ?a24 ?l24 ?c24 ?k24 ?a25 ?l25 ?c25 ?k25 ?a26 ?l26 ?c26 ?k26 ?a27 ?l27 ?c27 ?k27 ?a28 ?l28 ?c28 ?k28 ?a29 ?l29 ?c29 ?k29 ?a30 ?l30 ?c30 ?k30 ?a31 ?l31 ?c31 ?k31 ?pgC ?hdC ?poC ?saC ?mkC ?kcC ?pgD ?hdD ?poD ?saD ?mkD ?kcD ?nC0 ?nC1 ?nC2 ?nC3 ?nC4 ?nC5 ?nC6 ?nC7 ?nD0 ?nD1 ?nD2 ?z0 ?z1 ?z2 ?z3 ?cst0 ?cst1 ?cst2 ?cst3 ?cst4 ?cst5 ?cst6 ?cst7 ?cst8 ?cst9 ?cst10 ?cst11 ?cst12 ?cst13 ?cst14 ?cst15 ?cst16 ?cst17 ?cst18 ?cst19 ?cst20 ?cst21 ?cst22 ?cst23 ?cst24 ?cst25 ?cst26 ?aL1 ?aL2 ?aL3
    (case aC => k_is)
    (case aD => k_is)
    (case a0 => k_is)
    (case l0 => k_is)
    (case c0 => k_is)
    (case k0 => k_is)
    (case a1 => k_is)
    (case l1 => k_is)
    (case c1 => k_is)
    (case k1 => k_is)
    (case a2 => k_is)
    (case i2 => k_is)
    (case l2 => k_is)
    (case c2 => k_is)
    (case k2 => k_is)
    (case a3 => k_is)
    (case i3 => k_is)
    (case l3 => k_is)
    (case c3 => k_is)
    (case k3 => k_is)
    (case a4 => k_is)
    (case i4 => k_is)
    (case l4 => k_is)
    (case c4 => k_is)
    (case k4 => k_is)
    (case a5 => k_is)
    (case i5 => k_is)
    (case l5 => k_is)
    (case c5 => k_is)
    (case k5 => k_is)
    (case a6 => k_is)
    (case i6 => k_is)
    (case l6 => k_is)
    (case c6 => k_is)
    (case k6 => k_is)
    (case a7 => k_is)
    (case i7 => k_is)
    (case l7 => k_is)
    (case c7 => k_is)
    (case k7 => k_is)
    (case a8 => k_is)
    (case i8 => k_is)
    (case l8 => k_is)
    (case c8 => k_is)
    (case k8 => k_is)
    (case a9 => k_is)
    (case i9 => k_is)
    (case l9 => k_is)
    (case c9 => k_is)
    (case k9 => k_is)
    (case a10 => k_is)
    (case i10 => k_is)
    (case l10 => k_is)
    (case c10 => k_is)
    (case k10 => k_is)
    (case a11 => k_is)
    (case i11 => k_is)
    (case l11 => k_is)
    (case c11 => k_is)
    (case k11 => k_is)
    (case a12 => k_is)
    (case i12 => k_is)
    (case l12 => k_is)
    (case c12 => k_is)
    (case k12 => k_is)
    (case a13 => k_is)
    (case i13 => k_is)
    (case l13 => k_is)
    (case c13 => k_is)
    (case k13 => k_is)
    (case a14 => k_is)
    (case i14 => k_is)
    (case l14 => k_is)
    (case c14 => k_is)
    (case k14 => k_is)
    (case a15 => k_is)
    (case i15 => k_is)
    (case l15 => k_is)
    (case c15 => k_is)
    (case k15 => k_is)
    (case a16 => k_is)
    (case i16 => k_is)
    (case l16 => k_is)
    (case c16 => k_is)
    (case k16 => k_is)
    (case a17 => k_is)
    (case l17 => k_is)
    (case c17 => k_is)
    (case k17 => k_is)
    (case a18 => k_is)
    (case l18 => k_is)
    (case c18 => k_is)
    (case k18 => k_is)
    (case a19 => k_is)
    (case l19 => k_is)
    (case c19 => k_is)
    (case k19 => k_is)
    (case a20 => k_is)
    (case l20 => k_is)
    (case c20 => k_is)
    (case k20 => k_is)
    (case a21 => k_is)
    (case l21 => k_is)
    (case c21 => k_is)
    (case k21 => k_is)
    (case a22 => k_is)
    (case l22 => k_is)
    (case c22 => k_is)
    (case k22 => k_is)
    (case a23 => k_is)
    (case l23 => k_is)
    (case c23 => k_is)
    (case k23 => k_is)
    (case a24 => k_is)
    (case l24 => k_is)
    (case c24 => k_is)
    (case k24 => k_is)
    (case a25 => k_is)
    (case l25 => k_is)
    (case c25 => k_is)
    (case k25 => k_is)
    (case a26 => k_is)
    (case l26 => k_is)
    (case c26 => k_is)
    (case k26 => k_is)
    (case a27 => k_is)
    (case l27 => k_is)
    (case c27 => k_is)
    (case k27 => k_is)
    (case a28 => k_is)
    (case l28 => k_is)
    (case c28 => k_is)
    (case k28 => k_is)
    (case a29 => k_is)
    (case l29 => k_is)
    (case c29 => k_is)
    (case k29 => k_is)
    (case a30 => k_is)
    (case l30 => k_is)
    (case c30 => k_is)
    (case k30 => k_is)
    (case a31 => k_is)
    (case l31 => k_is)
    (case c31 => k_is)
    (case k31 => k_is)
    (case pgC => k_is)
    (case hdC => k_is)
    (case poC => k_is)
    (case saC => k_is)
    (case mkC => k_is)
    (case kcC => k_is)
    (case pgD => k_is)
    (case hdD => k_is)
    (case poD => k_is)
    (case saD => k_is)
    (case mkD => k_is)
    (case kcD => k_is)
    (case nC0 => k_is)
    (case nC1 => k_is)
    (case nC2 => k_is)
    (case nC3 => k_is)
    (case nC4 => k_is)
    (case nC5 => k_is)
    (case nC6 => k_is)
    (case nC7 => k_is)
    (case nD0 => k_is)
    (case nD1 => k_is)
    (case nD2 => k_is)
    (case z0 => k_is)
    (case z1 => k_is)
    (case z2 => k_is)
    (case z3 => k_is)
    (case cst0 => k_is)
    (case cst1 => k_is)
    (case cst2 => k_is)
    (case cst3 => k_is)
    (case cst4 => k_is)
    (case cst5 => k_is)
    (case cst6 => k_is)
    (case cst7 => k_is)
    (case cst8 => k_is)
    (case cst9 => k_is)
    (case cst10 => k_is)
    (case cst11 => k_is)
    (case cst12 => k_is)
    (case cst13 => k_is)
    (case cst14 => k_is)
    (case cst15 => k_is)
    (case cst16 => k_is)
    (case cst17 => k_is)
    (case cst18 => k_is)
    (case cst19 => k_is)
    (case cst20 => k_is)
    (case cst21 => k_is)
    (case cst22 => k_is)
    (case cst23 => k_is)
    (case cst24 => k_is)
    (case cst25 => k_is)
    (case cst26 => k_is)
    (case aL1 => k_is)
    (case aL2 => k_is)
    (case aL3 => decide +kernel)
  case S =>
    intro K H xs a hO hwi hask hx
    cases hx with
    | cons h1 h2 =>
      cases h2
      cases h1 with
      | lst hs ha =>
        have e := L2.ints_dw a.1 _ ha
        subst e
        exact ⟨_, a.1, rfl, hs, hask, fun H' p hp => .lst (L2.SqL.of hp) (L2.dw_ints _)⟩
#print axioms PySem.Challenge.cw_slipshelf_s01_answers_holds
