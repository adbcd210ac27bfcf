import PyProof.Rows.All
import Wide.All
import OpenK.AllK
import Wide.FinOn
import PyProof.EqAt
import PyProof.EqKinds
import PyProof.TupleCall
import KE.BitLaws
import KE.KRevIter
import KE.KRevSl
import OpenK.KTop
import Open.SpecLaws
import KE.OsHead
import KE.OsGo
import PyFlatLaws
import LlSpec
import PyWqamag
import PySem.Challenge.RW_grammarlook_s01_answers
set_option Elab.async false
set_option linter.all false
set_option maxRecDepth 100000
/-! THE HAND LAYER, for ints, bools, texts, own classes, lists, tuples, dicts, comprehensions, walks over dicts, enumerate, zip, reversed, texts, calls, loops. Paste it whole ahead of your own text; what your proof does not reach may be deleted. -/
namespace L2
open PySem PySem.Spec PyProof.Rows
/-- a key: an int or a str -/
abbrev Key := Sum Int Str
def keyIs : Key → Value → Bool
  | .inl k, v => Value.isInt k v
  | .inr x, v => Value.isStrOf x v
def keyH (w : World) : Key → Int
  | .inl k => hashInt k
  | .inr x => hashStr w x
theorem keyIs_shape : ∀ {k : Key} {v : Value}, keyIs k v = true → (∃ i t, k = Sum.inl i ∧ v = Value.int i t) ∨ (∃ x t, k = Sum.inr x ∧ v = Value.str x t)
  | .inl i, v, h => by
    obtain ⟨t, e⟩ := Value.isInt_shape (k := i) (v := v) h
    exact .inl ⟨i, t, rfl, e⟩
  | .inr x, v, h => by
    obtain ⟨t, e⟩ := Value.isStrOf_shape (x := x) (v := v) h
    exact .inr ⟨x, t, rfl, e⟩
theorem key_ll (a b : Int) : decide ((Sum.inl a : Key) = Sum.inl b) = (a == b) := by
  by_cases e : a = b
  · subst e; simp
  · have h : ¬ (Sum.inl a : Key) = Sum.inl b := fun q => e (Sum.inl.inj q)
    rw [decide_eq_false h]
    exact (beq_eq_false_iff_ne.mpr e).symm
theorem key_rr (a b : Str) : decide ((Sum.inr a : Key) = Sum.inr b) = decide (a = b) := by
  by_cases e : a = b
  · subst e; simp
  · have h : ¬ (Sum.inr a : Key) = Sum.inr b := fun q => e (Sum.inr.inj q)
    rw [decide_eq_false h, decide_eq_false e]
theorem key_lr (a : Int) (b : Str) : decide ((Sum.inl a : Key) = Sum.inr b) = false := decide_eq_false (fun q => nomatch q)
theorem key_rl (a : Str) (b : Int) : decide ((Sum.inr a : Key) = Sum.inl b) = false := decide_eq_false (fun q => nomatch q)
def mixKind (prog : Program) (w : World) : PySem.KeyKind prog w Key where
  is := keyIs
  hash := keyH w
  inj := fun v a b ha hb => by
    rcases keyIs_shape ha with ⟨i, t, rfl, rfl⟩ | ⟨x, t, rfl, rfl⟩
    · rcases keyIs_shape hb with ⟨j, u, rfl, e⟩ | ⟨y, u, rfl, e⟩
      · injection e with e1 _; rw [e1]
      · exact nomatch e
    · rcases keyIs_shape hb with ⟨j, u, rfl, e⟩ | ⟨y, u, rfl, e⟩
      · exact nomatch e
      · injection e with e1 _; rw [e1]
  byValue := fun k v h => by
    rcases keyIs_shape h with ⟨i, t, rfl, rfl⟩ | ⟨x, t, rfl, rfl⟩ <;> rfl
  pyHash := fun hv h => by
    rcases keyIs_shape hv with ⟨i, t, rfl, rfl⟩ | ⟨x, t, rfl, rfl⟩
    · exact wpAny_pyHash_int h
    · exact wpAny_pyHash_str h
  eqBool := fun hu hv h => by
    rcases keyIs_shape hu with ⟨i, t, rfl, rfl⟩ | ⟨x, t, rfl, rfl⟩
    · rcases keyIs_shape hv with ⟨j, u, rfl, rfl⟩ | ⟨y, u, rfl, rfl⟩
      · rw [key_ll] at h; exact wpAny_eqBool_int h
      · rw [key_lr] at h; exact SeqAt.EqAt.int_str i t y u _ _ _ _ h
    · rcases keyIs_shape hv with ⟨j, u, rfl, rfl⟩ | ⟨y, u, rfl, rfl⟩
      · rw [key_rl] at h; exact SeqAt.EqAt.str_int x t j u _ _ _ _ h
      · rw [key_rr] at h; exact wpAny_eqBool_str h
  «strs» := fun k x t v h => by
    rcases keyIs_shape h with ⟨i, u, rfl, e⟩ | ⟨y, u, rfl, e⟩
    · exact nomatch e
    · injection e with e1 _
      subst e1
      cases v <;> rfl
end L2
namespace L2
open PySem PySem.Spec PyProof.Rows
/-- a value, without the heap -/
inductive V where
  | non | bl (b : Bool) | int (i : Int) | str (x : Str) | byt (b : Array UInt8) | flt (b : UInt64) | ref (a : Addr) | ty (n : String)
  deriving DecidableEq
def RelV : V → Value → Prop
  | .non, u => u = Value.none
  | .bl b, u => u = Value.bool b
  | .int i, u => ∃ t, u = Value.int i t
  | .str x, u => ∃ t, u = Value.str x t
  | .byt b, u => ∃ t, u = Value.bytes b t
  | .flt b, u => ∃ t, u = Value.float b t
  | .ref a, u => u = Value.ref a
  | .ty n, u => u = Value.type n
abbrev Vals : List V → List Value → Prop := Paired RelV
theorem Vals.length {xs : List V} {us : List Value} (r : Vals xs us) : xs.length = us.length := Paired.length r
theorem Vals.get : ∀ {xs : List V} {us : List Value} {i : Nat} {x : V}, Vals xs us → xs[i]? = some x → ∃ u, us[i]? = some u ∧ RelV x u
  | _, _, _, _, .nil, e => by simp at e
  | _, _, 0, _, .cons r _, e => by simp at e; subst e; exact ⟨_, rfl, r⟩
  | _, _, i + 1, x, .cons _ t, e => by
    obtain ⟨u, h1, h2⟩ := Vals.get (i := i) (x := x) t (by simpa using e)
    exact ⟨u, by simpa using h1, h2⟩
theorem Vals.set {x : V} {u : Value} (r : RelV x u) : ∀ {xs : List V} {us : List Value} (i : Nat), Vals xs us → Vals (xs.set i x) (us.set i u)
  | _, _, _, .nil => .nil
  | _, _, 0, .cons _ t => .cons r t
  | _, _, i + 1, .cons q t => .cons q (Vals.set r i t)
theorem Vals.append : ∀ {xs ys : List V} {us ws : List Value}, Vals xs us → Vals ys ws → Vals (xs ++ ys) (us ++ ws)
  | _, _, _, _, .nil, s => s
  | _, _, _, _, .cons r t, s => .cons r (Vals.append t s)
theorem Vals.take : ∀ {xs : List V} {us : List Value} (n : Nat), Vals xs us → Vals (xs.take n) (us.take n)
  | _, _, 0, _ => .nil
  | _, _, _ + 1, .nil => .nil
  | _, _, n + 1, .cons r t => .cons r (Vals.take n t)
theorem Vals.drop : ∀ {xs : List V} {us : List Value} (n : Nat), Vals xs us → Vals (xs.drop n) (us.drop n)
  | _, _, 0, r => r
  | _, _, _ + 1, .nil => .nil
  | _, _, n + 1, .cons _ t => Vals.drop n t
def RelO : Option V → Option Value → Prop
  | some v, some u => RelV v u
  | none, none => True
  | _, _ => False
def KV {κ : Type} : List (κ × V) → List (κ × Value) → Prop := Paired fun (p : κ × V) (q : κ × Value) => p.1 = q.1 ∧ RelV p.2 q.2
/-- a key of a dict (00_mix): an int or a text -/
def kV : Key → V
  | .inl i => .int i
  | .inr x => .str x
/-- what stands at a tracked address -/
inductive HO where
  /-- a list -/
  | lst (xs : List V)
  /-- a tuple (never changes) -/
  | tup (xs : List V)
  /-- a dict whose keys are ints and texts; one whose keys are tuples of ints and texts (the empty one is both) -/
  | dK (kvs : List (Key × V)) | dT (kvs : List (List Key × V))
  /-- a set of ints: its members, its size -/
  | set (S : Int → Bool) (n : Nat)
  /-- an instance of the class at C, its dict at dx, its attributes -/
  | ins (C dx : Addr) (fs : List (Str × V))
  /-- the dict of the instance at x -/
  | own (x : Addr)
  /-- the dict of an exception -/
  | xd (fs : List (Str × V))
  /-- a bound method, f of x -/
  | met (f x : Addr)
  /-- a range object lo, lo + 1, .. below hi -/
  | rng (lo hi : Int)
  /-- a thing that is known to the object (the script; a dict while a loop walks it): read, never written while it is so -/
  | frz (o : Obj) (u : HO)
  /-- a code object's table -/
  | tbl (ps : Array Value)
  /-- any other thing, by what is true of its one object (a def of one's own: SetO a S n := HO.ext fun h => ..) -/
  | ext (φ : Heap → Prop)
abbrev Hp := Addr → Option HO
def upd (H : Hp) (a : Addr) (o : HO) : Hp := fun b => if b = a then some o else H b
theorem upd_same {H : Hp} {a : Addr} {o : HO} : upd H a o a = some o := by unfold upd; rw [if_pos rfl]
theorem upd_ne {H : Hp} {a b : Addr} {o : HO} (h : b ≠ a) : upd H a o b = H b := by unfold upd; rw [if_neg h]
theorem upd_upd {H : Hp} {a : Addr} {o u : HO} : upd (upd H a o) a u = upd H a u := by
  funext b; unfold upd; split <;> rfl
/-- two objects of different content stand apart -/
theorem ne_of {H : Hp} {a b : Addr} {o u : HO} (h : H a = some o) (h' : H b = some u) (d : o ≠ u) : a ≠ b := by
  intro e; subst e; rw [h] at h'; exact d (Option.some.inj h')
theorem ne_of_none {H : Hp} {a b : Addr} {o : HO} (h : H a = some o) (h' : H b = none) : a ≠ b := by
  intro e; subst e; rw [h] at h'; cases h'
section
variable (P : Program) (w : World)
def ObjOk (H : Hp) (h : Heap) (a : Addr) : HO → Prop
  | .lst xs => xs.length ≤ sizeLine ∧ ∃ (its : List Value) (n : Nat), Vals xs its ∧ h.get? a = some { cls := .type "list", data := .seq its.toArray n }
  | .tup xs => xs.length ≤ sizeLine ∧ ∃ its : List Value, Vals xs its ∧ IsTup h a its.toArray
  | .dK kvs => kvs.length ≤ sizeLine ∧ (a == sysModules) = false ∧ ∃ vs, KV kvs vs ∧ h.DictOf (mixKind P w) a vs
  | .dT kvs => kvs.length ≤ sizeLine ∧ (a == sysModules) = false ∧ ∃ xs : List (List Key × Addr × Value),
      Paired (fun (p : List Key × V) (q : List Key × Addr × Value) => p.1 = q.1 ∧ H q.2.1 = some (.tup (p.1.map kV)) ∧ RelV p.2 q.2.2) kvs xs ∧
      ∃ o es ep, h.get? a = some o ∧ o.ExactDict ∧ o.data = .dict es ep ∧ es.toList = xs.map (entryOfKey (tupleKind (mixKind P w))) ∧ (xs.map (·.1)).Nodup
  | .set S n => h.SetOf (intKind P w) a S n
  | .ins C dx fs => H dx = some (.own a) ∧ fs.length ≤ 1000 ∧ dx ≠ a ∧ h.get? a = some (PySem.W.instObj C dx) ∧
      ∃ mA, h.Ns1 dx mA ∧ (∀ f, RelO (fs.lookup f) (mA f)) ∧ PySem.Within mA (fs.map (·.1))
  | .own _ => ∃ o, h.get? a = some o
  | .xd fs => ∃ mA, h.Ns1 a mA ∧ ∀ f, RelO (fs.lookup f) (mA f)
  | .rng lo hi => ∃ t u v, h.get? a = some { cls := .type "range", data := .fields #[.int lo t, .int hi u, .int 1 v] }
  | .frz o u => h.get? a = some o ∧ ObjOk H h a u
  | .tbl ps => h.get? a = some { cls := .none, data := .fields ps }
  | .met f x => h.get? a = some (PySem.W.methodObj (.ref f) (.ref x))
  | .ext φ => φ h ∧ (∃ o, h.get? a = some o) ∧ ∀ h1 h2 : Heap, φ h1 → (∀ o, h1.get? a = some o → h2.get? a = some o) → φ h2
/-- the abstract heap is held -/
def HOk (H : Hp) (h : Heap) : Prop := ∀ a o, H a = some o → ObjOk P w H h a o
end
section
variable {P : Program} {w : World} {H H' : Hp} {h h' : Heap} {a : Addr} {o : HO}
theorem ObjOk.lt (x : ObjOk P w H h a o) : a < h.objs.size := by
  cases o with
  | lst xs => obtain ⟨_, _, _, _, e⟩ := x; exact Heap.lt_size e
  | tup xs => obtain ⟨_, _, _, p⟩ := x; exact p.lt
  | dK kvs => obtain ⟨_, _, _, _, o, _, _, e, _⟩ := x; exact Heap.lt_size e
  | dT kvs => obtain ⟨_, _, _, _, o, _, _, e, _⟩ := x; exact Heap.lt_size e
  | set S n => obtain ⟨o, _, _, _, e, _⟩ := x; exact Heap.lt_size e
  | ins C dx fs => obtain ⟨_, _, _, e, _⟩ := x; exact Heap.lt_size e
  | own y => obtain ⟨_, e⟩ := x; exact Heap.lt_size e
  | xd fs => obtain ⟨_, ⟨_, _, _, e, _⟩, _⟩ := x; exact Heap.lt_size e
  | rng lo hi => obtain ⟨_, _, _, e⟩ := x; exact Heap.lt_size e
  | frz ob u => obtain ⟨e, _⟩ := x; exact Heap.lt_size e
  | tbl ps => exact Heap.lt_size (show h.get? a = some _ from x)
  | met f y => exact Heap.lt_size (show h.get? a = some _ from x)
  | ext φ => obtain ⟨_, ⟨_, e⟩, _⟩ := x; exact Heap.lt_size e
theorem Paired.mapP {α β : Type} {F G : α → β → Prop} : ∀ {l₁ : List α} {l₂ : List β}, Paired F l₁ l₂ → (∀ a b, F a b → G a b) → Paired G l₁ l₂
  | _, _, .nil, _ => .nil
  | _, _, .cons r t, f => .cons (f _ _ r) (Paired.mapP t f)
/-- what an object's description leans on: its own object, its own dict, the tuples -/
theorem ObjOk.stay (x : ObjOk P w H h a o) (k : ∀ b u, (b = a ∨ H b = some (.own a)) → h.get? b = some u → h'.get? b = some u)
    (ho : ∀ b, H b = some (.own a) → H' b = some (.own a)) (ht : ∀ b xs, H b = some (.tup xs) → H' b = some (.tup xs)) : ObjOk P w H' h' a o := by
  induction o with
  | lst xs => obtain ⟨z, its, n, r, e⟩ := x; exact ⟨z, its, n, r, k _ _ (.inl rfl) e⟩
  | tup xs => obtain ⟨z, its, r, ob, e, c⟩ := x; exact ⟨z, its, r, ob, k _ _ (.inl rfl) e, c⟩
  | dK kvs => obtain ⟨z, y, vs, r, ob, es, ep, e, c⟩ := x; exact ⟨z, y, vs, r, ob, es, ep, k _ _ (.inl rfl) e, c⟩
  | dT kvs =>
    obtain ⟨z, y, xs, r, ob, es, ep, e, c⟩ := x
    exact ⟨z, y, xs, Paired.mapP r fun p q z => ⟨z.1, ht _ _ z.2.1, z.2.2⟩, ob, es, ep, k _ _ (.inl rfl) e, c⟩
  | set S n => obtain ⟨ob, es, ep, t, e, c⟩ := x; exact ⟨ob, es, ep, t, k _ _ (.inl rfl) e, c⟩
  | ins C dx fs =>
    obtain ⟨d, z, ne, e, mA, ⟨od, es, ep, e2, c⟩, r⟩ := x
    exact ⟨ho _ d, z, ne, k _ _ (.inl rfl) e, mA, ⟨od, es, ep, k _ _ (.inr d) e2, c⟩, r⟩
  | own y => obtain ⟨ob, e⟩ := x; exact ⟨ob, k _ _ (.inl rfl) e⟩
  | xd fs => obtain ⟨mA, ⟨od, es, ep, e, c⟩, r⟩ := x; exact ⟨mA, ⟨od, es, ep, k _ _ (.inl rfl) e, c⟩, r⟩
  | rng lo hi => obtain ⟨t, u, v, e⟩ := x; exact ⟨t, u, v, k _ _ (.inl rfl) e⟩
  | frz ob u ih => obtain ⟨e, q⟩ := x; exact ⟨k _ _ (.inl rfl) e, ih q⟩
  | tbl ps =>
    have e : h.get? a = some { cls := .none, data := .fields ps } := x
    show h'.get? a = some { cls := .none, data := .fields ps }
    exact k a _ (.inl rfl) e
  | met f y =>
    have e : h.get? a = some (PySem.W.methodObj (.ref f) (.ref y)) := x
    show h'.get? a = some (PySem.W.methodObj (.ref f) (.ref y))
    exact k a _ (.inl rfl) e
  | ext φ => obtain ⟨p, ⟨o, e⟩, st⟩ := x; exact ⟨st _ _ p fun o q => k _ _ (.inl rfl) q, ⟨o, k _ _ (.inl rfl) e⟩, st⟩
theorem HOk.lt (x : HOk P w H h) (e : H a = some o) : a < h.objs.size := (x a o e).lt
theorem HOk.fresh (x : HOk P w H h) (e : h.objs.size ≤ a) : H a = none := by
  cases q : H a with
  | none => rfl
  | some u => exact absurd (Nat.lt_of_lt_of_le (x.lt q) e) (Nat.lt_irrefl _)
/-- every object of the heap is kept -/
theorem HOk.kept (x : HOk P w H h) (k : ∀ b u, h.get? b = some u → h'.get? b = some u) : HOk P w H h' := fun a o e =>
  (x a o e).stay (fun b u _ q => k b u q) (fun _ q => q) fun _ _ q => q
/-- a new object is laid and tracked -/
theorem HOk.laid (x : HOk P w H h) (k : ∀ b u, h.get? b = some u → h'.get? b = some u) (hp : h.objs.size ≤ a) (new : ObjOk P w (upd H a o) h' a o) : HOk P w (upd H a o) h' := fun b u e => by
  have hn := x.fresh hp
  by_cases hb : b = a
  · subst hb; rw [upd_same] at e; cases e; exact new
  · rw [upd_ne hb] at e
    exact (x b u e).stay (fun c v _ q => k c v q) (fun c q => by rw [upd_ne (ne_of_none q hn)]; exact q) fun c xs q => by rw [upd_ne (ne_of_none q hn)]; exact q
end
/-- what may be read as u: it is u, or a known u -/
def Rd (H : Hp) (a : Addr) (u : HO) : Prop := H a = some u ∨ ∃ o, H a = some (.frz o u)
theorem Rd.ok {P : Program} {w : World} {H : Hp} {h : Heap} {a : Addr} {u : HO} (r : Rd H a u) (x : HOk P w H h) : ObjOk P w H h a u := by
  rcases r with r | ⟨o, r⟩
  · exact x a u r
  · obtain ⟨_, q⟩ := x a _ r
    exact q
/-- what may be written -/
def Mut : Option HO → Prop
  | some (.lst _) => True
  | some (.dK _) => True
  | some (.dT _) => True
  | some (.set _ _) => True
  | some (.ins _ _ _) => True
  | some (.ext _) => True
  | _ => False
section
variable {P : Program} {w : World} {H : Hp} {h h' : Heap} {x e : Addr} {o' : HO}
/-- the object at e is changed: x itself, or the dict of the instance x -/
theorem HOk.write (ok : HOk P w H h) (mu : Mut (H x)) (he : e = x ∨ H e = some (.own x)) (k : ∀ b u, b ≠ e → h.get? b = some u → h'.get? b = some u) (heo : ∃ u, h'.get? e = some u)
    (new : ObjOk P w (upd H x o') h' x o') : HOk P w (upd H x o') h' := fun b u q => by
  have nown : ∀ c y, H c = some (.own y) → c ≠ x := fun c y r z => by subst z; rw [r] at mu; exact mu
  have ntup : ∀ c xs, H c = some (.tup xs) → c ≠ x := fun c xs r z => by subst z; rw [r] at mu; exact mu
  by_cases hb : b = x
  · subst hb; rw [upd_same] at q; cases q; exact new
  · rw [upd_ne hb] at q
    by_cases hbe : b = e
    · have q' : H b = some (.own x) := by
        rcases he with z | z
        · exact absurd (hbe.trans z) hb
        · rw [hbe]; exact z
      rw [q] at q'; cases q'
      obtain ⟨v, hv⟩ := heo
      exact ⟨v, by rw [hbe]; exact hv⟩
    · refine (ok b u q).stay (fun c v hc r => k c v ?_ r) (fun c r => by rw [upd_ne (nown c b r)]; exact r) fun c xs r => by rw [upd_ne (ntup c xs r)]; exact r
      rcases hc with rfl | hc
      · exact hbe
      · rintro rfl
        rcases he with z | z
        · exact nown c b hc z
        · rw [hc] at z; cases z; exact hb rfl
end
/-! ### kept unless tracked; of the frames at fs (the callers') the slots may change (an exception that passes writes there); of the records at ex (iterators) nothing is said -/
structure Un (fs ex : List Addr) (H H' : Hp) (h h' : Heap) : Prop where
  keep : ∀ b o, h.get? b = some o → H b = none → b ∉ fs → b ∉ ex → h'.get? b = some o
  slot : ∀ b o, h.get? b = some o → H b = none → b ∈ fs → b ∉ ex → ∃ sl, h'.get? b = some { o with slots := sl }
  free : ∀ b o, h.get? b = some o → H b = none → b ∉ ex → H' b = none
  there : ∀ b o, h.get? b = some o → b ∉ ex → ∃ o', h'.get? b = some o'
  tups : ∀ b xs, H b = some (.tup xs) → H' b = some (.tup xs)
  frzs : ∀ b o u, H b = some (.frz o u) → H' b = some (.frz o u)
  tbls : ∀ b ps, H b = some (.tbl ps) → ∃ more, H' b = some (.tbl (ps ++ more))
section
variable {fs fs' ex ex' : List Addr} {H H1 H2 : Hp} {h h1 h2 h' : Heap} {a x e : Addr} {o : HO}
theorem Un.any (u : Un fs ex H H1 h h1) {b : Addr} {ob : Obj} (q : h.get? b = some ob) (n : H b = none) (hx : b ∉ ex) : ∃ sl, h1.get? b = some { ob with slots := sl } := by
  by_cases hb : b ∈ fs
  · exact u.slot b ob q n hb hx
  · exact ⟨ob.slots, u.keep b ob q n hb hx⟩
theorem Un.kept (k : ∀ b u, h.get? b = some u → h'.get? b = some u) : Un fs ex H H h h' :=
  ⟨fun b ob q _ _ _ => k b ob q, fun b ob q _ _ _ => ⟨ob.slots, k b ob q⟩, fun _ _ _ n _ => n, fun b ob q _ => ⟨ob, k b ob q⟩, fun _ _ q => q, fun _ _ _ q => q, fun _ ps q => ⟨#[], by rw [q]; simp⟩⟩
theorem Un.refl : Un fs ex H H h h := Un.kept fun _ _ q => q
theorem Un.laid (k : ∀ b u, h.get? b = some u → h'.get? b = some u) (hp : h.objs.size ≤ a) (hn : H a = none) : Un fs ex H (upd H a o) h h' where
  keep := fun b u q _ _ _ => k b u q
  slot := fun b u q _ _ _ => ⟨u.slots, k b u q⟩
  free := fun b u q n _ => by rw [upd_ne (Nat.ne_of_lt (Nat.lt_of_lt_of_le (Heap.lt_size q) hp))]; exact n
  there := fun b u q _ => ⟨u, k b u q⟩
  tups := fun b xs q => by rw [upd_ne (ne_of_none q hn)]; exact q
  frzs := fun b u xs q => by rw [upd_ne (ne_of_none q hn)]; exact q
  tbls := fun b ps q => ⟨#[], by rw [upd_ne (ne_of_none q hn), q]; simp⟩
theorem Un.write (mu : Mut (H x)) (he : e = x ∨ H e = some (.own x)) (k : ∀ b u, b ≠ e → h.get? b = some u → h'.get? b = some u) (heo : ∃ u, h'.get? e = some u) : Un fs ex H (upd H x o) h h' := by
  have hx : ∀ b, H b = none → b ≠ x := fun b n z => by subst z; rw [n] at mu; exact mu
  have hb : ∀ b, H b = none → b ≠ e := fun b n z => by
    subst z
    rcases he with r | r
    · exact hx b n r
    · rw [n] at r; cases r
  have hm : ∀ b u, H b = some u → ¬ Mut (some u) → b ≠ x := fun b u q nm z => by subst z; rw [q] at mu; exact nm mu
  refine ⟨fun b u q n _ _ => k b u (hb b n) q, fun b u q n _ _ => ⟨u.slots, k b u (hb b n) q⟩, fun b u q n _ => by rw [upd_ne (hx b n)]; exact n, fun b u q _ => ?_,
    fun b xs q => by rw [upd_ne (hm b _ q fun z => z)]; exact q, fun b u xs q => by rw [upd_ne (hm b _ q fun z => z)]; exact q, fun b ps q => ⟨#[], by rw [upd_ne (hm b _ q fun z => z), q]; simp⟩⟩
  by_cases hbe : b = e
  · subst hbe; exact heo
  · exact ⟨u, k b u hbe q⟩
end
/-! ### the heap without what is tracked -/
def trk (h : Heap) (H : Hp) : List Addr := (List.range h.objs.size).filter fun a => (H a).isSome
def hidT (h : Heap) (H : Hp) : Heap := PySem.W.hideAll h (trk h H)
theorem hidT_size (h : Heap) (H : Hp) : (hidT h H).objs.size = h.objs.size := PySem.W.hideAll_size _ _
theorem hidT_get {h : Heap} {H : Hp} {b : Addr} {o : Obj} (e : h.get? b = some o) (n : H b = none) : (hidT h H).get? b = some o :=
  PySem.W.hideAll_get _ e fun hm => by
    have q : (H b).isSome = true := (List.mem_filter.mp hm).2
    rw [n] at q; simp at q
theorem of_hidT {h : Heap} {H : Hp} {b : Addr} {o : Obj} (e : (hidT h H).get? b = some o) : h.get? b = some o ∧ H b = none := by
  have e' : h.get? b = some o := PySem.W.of_hideAll (trk h H) e
  refine ⟨e', ?_⟩
  cases q : H b with
  | none => rfl
  | some x =>
    have hm : b ∈ trk h H := List.mem_filter.mpr ⟨List.mem_range.mpr (Heap.lt_size e'), by simp [q]⟩
    have z : (hidT h H).get? b = none := PySem.W.hideAll_none (trk h H) hm
    rw [z] at e; cases e
/-! ### OpenK's ledger, filled with every new object but one -/
end L2
namespace L2
open PySem PySem.Spec PyProof.Rows
/-- the module's facts, over the base: the heap at the law's entry without what is tracked there -/
structure Mod (K : PySem.W.Frag) (mg : Str → Option Value) (base : Heap) : Prop where
  kin : K.In base
  glob : base.Ns mainGlobals mg
  blt : ∃ mb, base.Ns builtinsNs mb ∧ ∀ x : Str, x ≠ "__name__" → mb x = bootBuiltins x
  nolimit : base.NoLimit
/-- the context: a def's body (or a comprehension's block) running. base: fixed through the whole law; s₀, H₀: the entry; outer: the frames whose slots others may change (a def's callers); stack: all frames that run;
   ex: iterators that were made ahead of the entry and are walked here (a comprehension's); fn: the names whose cells were made at the entry (a def: all; a comprehension's block: its own); calm: not within an except suite; pn: pins that every state bears; xe: what is wanted of an exception that leaves the code -/
structure Cx where
  prog : Program
  w : World
  K : PySem.W.Frag
  mg : Str → Option Value
  base : Heap
  A : Around
  N : List Str
  s_0 : Shared
  H_0 : Hp
  env : Env
  outer : List Env
  stack : List Env
  ex : List Addr
  fn : Str → Bool
  calm : Bool
  pn : List (Addr × Obj)
  xe : Value → Shared → Prop
/-- the callers' frames -/
def frs (l : List Env) : List Addr := l.filterMap (·.frame)
abbrev Cx.fs (X : Cx) : List Addr := frs X.outer
def Vis (sc : Scope) (x : Str) : Prop := sc.names.lookup x = some .local ∨ sc.names.lookup x = some .cell ∨ sc.names.lookup x = some .free
def Loc (sc : Scope) (x : Str) : Prop := sc.names.lookup x = some .local ∨ sc.names.lookup x = some .cell
def Look (env : Env) (h : Heap) (m : Str → Option Value) (x : Str) (u : Value) : Prop :=
  (env.kindOf x = some .local ∧ m x = some u) ∨ ((env.kindOf x = some .cell ∨ env.kindOf x = some .free) ∧ ∃ c, env.cells.lookup x = some c ∧ h.IsCell c (some u))
structure Cx.Ok (X : Cx) : Prop where
  mod : Mod X.K X.mg X.base
  kind : X.env.scope.kind = .function
  glob : X.env.globals = mainGlobals
  blt : X.env.builtins = builtinsNs
  above : X.s_0.heap.objs.size ≤ X.env.locals
  inj : ∀ x y c, X.env.cells.lookup x = some c → X.env.cells.lookup y = some c → x = y
  has : ∀ x, (X.env.kindOf x = some .cell ∨ X.env.kindOf x = some .free) → ∃ c, X.env.cells.lookup x = some c
  cab : ∀ x c, X.fn x = true → X.env.cells.lookup x = some c → X.s_0.heap.objs.size ≤ c
  hd : X.calm = true → X.A.handled = none
  frames : X.A.frames = some X.stack
  stk : X.stack = X.outer ∨ (X.stack = X.env :: X.outer ∧ X.env.frame = some X.env.locals)
  exf : ∀ b ∈ X.ex, b ≠ X.env.locals ∧ ∀ x c, X.env.cells.lookup x = some c → c ≠ b
  bs : ∀ b o, X.base.get? b = some o → X.s_0.heap.get? b = some o ∧ X.H_0 b = none
  bsz : X.base.objs.size ≤ X.s_0.heap.objs.size
  noex : ∀ b o, X.base.get? b = some o → b ∉ X.ex
  exfs : ∀ b ∈ X.ex, b ∉ X.fs
  funs : X.s_0.heap.FunFrames X.base X.outer
  frf : ∀ b ∈ X.fs, X.H_0 b = none
structure Inv (X : Cx) (pins : List (Addr × Obj)) (σ : List (Option V)) (H : Hp) (s : Shared) : Prop where
  ok : X.Ok
  os : s.os = X.s_0.os
  bare : AllBare s.gens
  base : Un X.fs X.ex X.H_0 H X.s_0.heap s.heap
  loc : ∃ m, s.heap.Ns X.env.locals m ∧ ∀ (i : Nat) (x : Str) (v : V), X.N[i]? = some x → σ[i]? = some (some v) → Vis X.env.scope x → ∃ u, RelV v u ∧ Look X.env s.heap m x u
  cell : ∀ x c, X.env.cells.lookup x = some c → ∃ v, s.heap.IsCell c v
  free : H X.env.locals = none
  freeC : ∀ x c, X.env.cells.lookup x = some c → H c = none
  pin : ∀ p ∈ X.pn ++ pins, s.heap.get? p.1 = some p.2 ∧ H p.1 = none ∧ p.1 ≠ X.env.locals ∧ p.1 ∉ X.fs ∧ ∀ v, p.2.data ≠ .cell v
  hok : HOk X.prog X.w H s.heap
  len : σ.length = X.N.length
section
variable {X : Cx} {pins : List (Addr × Obj)} {σ : List (Option V)} {H H' : Hp} {s : Shared} {h' : Heap}
theorem Cx.Ok.nofr (ok : X.Ok) {b : Addr} {o : Obj} (e : X.base.get? b = some o) : b ∉ X.fs := fun hb => by
  have := (ok.funs.mem hb).1
  rw [e] at this; cases this
theorem Inv.bs (I : Inv X pins σ H s) : ∀ b o, X.base.get? b = some o → s.heap.get? b = some o ∧ H b = none := fun b o e =>
  ⟨I.base.keep b o (I.ok.bs b o e).1 (I.ok.bs b o e).2 (I.ok.nofr e) (I.ok.noex b o e), I.base.free b o (I.ok.bs b o e).1 (I.ok.bs b o e).2 (I.ok.noex b o e)⟩
theorem Inv.bk (I : Inv X pins σ H s) : ∀ b o, X.base.get? b = some o → s.heap.get? b = some o := fun b o e => (I.bs b o e).1
theorem Inv.mod (I : Inv X pins σ H s) : Mod X.K X.mg X.base := I.ok.mod
theorem Inv.kIn (I : Inv X pins σ H s) : X.K.In s.heap := I.ok.mod.kin.keeps I.bk
/-- the frame over the base: for OpenK's rules (K.In X.base is I.mod.kin) -/
theorem Inv.fr (I : Inv X pins σ H s) : ∃ m, Fr X.base X.env.locals s.heap m :=
  let ⟨m, hn, _⟩ := I.loc
  ⟨m, hn, I.bk, Nat.le_trans I.ok.bsz I.ok.above⟩
theorem Inv.lt (I : Inv X pins σ H s) : X.env.locals < s.heap.objs.size := let ⟨_, hn, _⟩ := I.loc; hn.lt
theorem Inv.sz (I : Inv X pins σ H s) : X.s_0.heap.objs.size ≤ s.heap.objs.size := Nat.le_trans I.ok.above (Nat.le_of_lt I.lt)
theorem Inv.nofs (I : Inv X pins σ H s) {a : Addr} (h : s.heap.objs.size ≤ a) : a ∉ X.fs := fun hb => by
  obtain ⟨_, o, ho, _⟩ := I.ok.funs.mem hb
  exact absurd (Nat.lt_of_lt_of_le (Heap.lt_size ho) (Nat.le_trans I.sz h)) (Nat.lt_irrefl _)
theorem Inv.cne (I : Inv X pins σ H s) : ∀ x c, X.env.cells.lookup x = some c → c ≠ X.env.locals := fun x c e z => by
  obtain ⟨v, o, ho, hd⟩ := I.cell x c e
  obtain ⟨m, ⟨o', es, ep, ho', hd', _⟩, _⟩ := I.loc
  rw [z, ho'] at ho; cases ho; rw [hd'] at hd; cases hd
theorem Inv.funs (I : Inv X pins σ H s) : s.heap.FunFrames X.base X.outer := by
  have all : ∀ (l : List Env), (∀ b ∈ frs l, b ∈ X.fs) → X.s_0.heap.FunFrames X.base l → s.heap.FunFrames X.base l := by
    intro l
    induction l with
    | nil => intro _ _; trivial
    | cons env r ih =>
      intro hs hl
      obtain ⟨hk, ⟨L, o, hf, hn, ho, hd⟩, hr⟩ := hl
      have hL : L ∈ X.fs := hs L (by unfold frs; rw [List.filterMap_cons, hf]; exact List.mem_cons_self)
      obtain ⟨sl, e⟩ := I.base.slot L o ho (I.ok.frf L hL) hL fun z => I.ok.exfs L z hL
      exact ⟨hk, ⟨L, _, hf, hn, e, hd⟩, ih (fun b hb => hs b (by unfold frs; rw [List.filterMap_cons, hf]; exact List.mem_cons_of_mem _ hb)) hr⟩
  exact all X.outer (fun _ hb => hb) I.ok.funs
/-- the frames that run, for a call -/
theorem Inv.stack (I : Inv X pins σ H s) : s.heap.FunFrames X.base X.stack := by
  rcases I.ok.stk with e | ⟨e, hf⟩
  · rw [e]; exact I.funs
  · rw [e]
    obtain ⟨m, hn, _⟩ := I.loc
    refine .cons (by rw [I.ok.kind]; decide) hf hn ?_ I.funs
    exact Heap.get?_none_of_le (Nat.le_trans I.ok.bsz I.ok.above)
theorem Inv.stkSub (I : Inv X pins σ H s) : ∀ b ∈ frs X.stack, b ∈ X.env.locals :: X.fs := fun b hb => by
  rcases I.ok.stk with e | ⟨e, hf⟩
  · rw [e] at hb; exact List.mem_cons_of_mem _ hb
  · rw [e] at hb
    unfold frs at hb
    rw [List.filterMap_cons, hf] at hb
    exact hb
theorem Inv.stkFree (I : Inv X pins σ H s) : ∀ b ∈ frs X.stack, H b = none := fun b hb => by
  rcases List.mem_cons.mp (I.stkSub b hb) with e | hb
  · rw [e]; exact I.free
  · obtain ⟨_, o, ho, _⟩ := I.ok.funs.mem hb
    exact I.base.free b o ho (I.ok.frf b hb) fun z => I.ok.exfs b z hb
/-- THE STEP: the untracked objects but the frame and the records at ch are kept (the callers' frames up to slots), the frame's map is kept, the new abstract heap is held -/
theorem Inv.step {g' : Array GenState} {t' : Nat} {d' : Drawn} {ch : List Addr} (I : Inv X pins σ H s)
    (hch : ∀ b ∈ ch, (b ∈ X.ex ∨ X.s_0.heap.objs.size ≤ b) ∧ b ≠ X.env.locals ∧ (∀ x c, X.env.cells.lookup x = some c → c ≠ b) ∧ ∀ p ∈ X.pn ++ pins, p.1 ≠ b)
    (keep : ∀ b o, b ≠ X.env.locals → b ∉ X.fs → b ∉ ch → s.heap.get? b = some o → H b = none → h'.get? b = some o)
    (slot : ∀ b o, b ≠ X.env.locals → b ∈ X.fs → b ∉ ch → s.heap.get? b = some o → H b = none → ∃ sl, h'.get? b = some { o with slots := sl }) (free : ∀ b o, b ∉ ch → s.heap.get? b = some o → H b = none → H' b = none)
    (there : ∀ b o, b ∉ ch → s.heap.get? b = some o → ∃ o', h'.get? b = some o')
    (tups : ∀ b xs, H b = some (.tup xs) → H' b = some (.tup xs)) (frzs : ∀ b o u, H b = some (.frz o u) → H' b = some (.frz o u)) (tbls : ∀ b ps, H b = some (.tbl ps) → ∃ more, H' b = some (.tbl (ps ++ more)))
    (ns : ∀ m, s.heap.Ns X.env.locals m → h'.Ns X.env.locals m) (hok : HOk X.prog X.w H' h') (hg : AllBare g') :
    Inv X pins σ H' { s with heap := h', gens := g', drawn := d', toks := t' } := by
  have neL : ∀ b o, X.s_0.heap.get? b = some o → b ≠ X.env.locals := fun b o e => Nat.ne_of_lt (Nat.lt_of_lt_of_le (Heap.lt_size e) I.ok.above)
  have neC : ∀ b o, X.s_0.heap.get? b = some o → b ∉ X.ex → b ∉ ch := fun b o e hx hb => by
    rcases (hch b hb).1 with z | z
    · exact hx z
    · exact absurd (Nat.lt_of_lt_of_le (Heap.lt_size e) z) (Nat.lt_irrefl _)
  have cellK : ∀ x c, X.env.cells.lookup x = some c → ∀ v, s.heap.IsCell c v → h'.IsCell c v := fun x c e v ⟨o, ho, hd⟩ => by
    have nch : c ∉ ch := fun z => (hch c z).2.2.1 x c e rfl
    by_cases hc : c ∈ X.fs
    · obtain ⟨sl, q⟩ := slot c o (I.cne x c e) hc nch ho (I.freeC x c e)
      exact ⟨_, q, hd⟩
    · exact ⟨o, keep c o (I.cne x c e) hc nch ho (I.freeC x c e), hd⟩
  refine ⟨I.ok, I.os, hg, ⟨fun b o e n hb hx => ?_, fun b o e n hb hx => ?_, fun b o e n hx => ?_, fun b o e hx => ?_, fun b xs e => tups b xs (I.base.tups b xs e), fun b o xs e => frzs b o xs (I.base.frzs b o xs e), fun b ps e => ?_⟩, ?_, fun x c e => ?_, ?_, fun x c e => ?_, fun p hp => ?_, hok, I.len⟩
  · exact keep b o (neL b o e) hb (neC b o e hx) (I.base.keep b o e n hb hx) (I.base.free b o e n hx)
  · obtain ⟨sl, e1⟩ := I.base.slot b o e n hb hx
    obtain ⟨sl', e2⟩ := slot b _ (neL b o e) hb (neC b o e hx) e1 (I.base.free b o e n hx)
    exact ⟨sl', e2⟩
  · obtain ⟨o', e1⟩ := I.base.there b o e hx
    exact free b o' (neC b o e hx) e1 (I.base.free b o e n hx)
  · obtain ⟨o', e1⟩ := I.base.there b o e hx
    exact there b o' (neC b o e hx) e1
  · obtain ⟨m1, e1⟩ := I.base.tbls b ps e
    obtain ⟨m2, e2⟩ := tbls b _ e1
    exact ⟨m1 ++ m2, by rw [e2, Array.append_assoc]⟩
  · obtain ⟨m, hn, hl⟩ := I.loc
    refine ⟨m, ns m hn, fun i x v e1 e2 e3 => ?_⟩
    obtain ⟨u, r, l⟩ := hl i x v e1 e2 e3
    refine ⟨u, r, ?_⟩
    rcases l with l | ⟨k, c, e, z⟩
    · exact .inl l
    · exact .inr ⟨k, c, e, cellK x c e _ z⟩
  · obtain ⟨v, z⟩ := I.cell x c e
    exact ⟨v, cellK x c e v z⟩
  · obtain ⟨m, ⟨o, _, _, ho, _⟩, _⟩ := I.loc
    exact free _ o (fun z => (hch _ z).2.1 rfl) ho I.free
  · obtain ⟨v, o, ho, hd⟩ := I.cell x c e
    exact free c o (fun z => (hch c z).2.2.1 x c e rfl) ho (I.freeC x c e)
  · obtain ⟨e, n, ne, nf, d⟩ := I.pin p hp
    have nch : p.1 ∉ ch := fun z => (hch p.1 z).2.2.2 p hp rfl
    exact ⟨keep p.1 p.2 ne nf nch e n, free p.1 p.2 nch e n, ne, nf, d⟩
/-- .. where the frame's own object is kept too -/
theorem Inv.un {t' : Nat} (I : Inv X pins σ H s) (u : Un X.fs [] H H' s.heap h') (hok : HOk X.prog X.w H' h') : Inv X pins σ H' { s with heap := h', toks := t' } := by
  obtain ⟨m, ⟨o, es, ep, ho, r⟩, _⟩ := id I.loc
  obtain ⟨sl, hL⟩ := u.any ho I.free (by simp)
  exact I.step (g' := s.gens) (d' := s.drawn) (ch := []) (fun _ z => nomatch z) (fun b o _ hb _ e n => u.keep b o e n hb (by simp)) (fun b o _ hb _ e n => u.slot b o e n hb (by simp)) (fun b o _ e n => u.free b o e n (by simp)) (fun b o _ e => u.there b o e (by simp)) u.tups u.frzs u.tbls (fun m' hm => by
    obtain ⟨o', es', ep', ho', r'⟩ := hm
    rw [ho] at ho'; cases ho'
    exact ⟨_, es', ep', hL, r'⟩) hok I.bare
/-- behind a call (or a comprehension's block): the slots of this frame may have changed too, the records at ch may have turned -/
theorem Inv.call {g' : Array GenState} {t' : Nat} {d' : Drawn} {ch : List Addr} (I : Inv X pins σ H s) (u : Un (frs X.stack) ch H H' s.heap h') (hok : HOk X.prog X.w H' h') (hg : AllBare g')
    (hch : ∀ b ∈ ch, (b ∈ X.ex ∨ X.s_0.heap.objs.size ≤ b) ∧ b ≠ X.env.locals ∧ (∀ x c, X.env.cells.lookup x = some c → c ≠ b) ∧ ∀ p ∈ X.pn ++ pins, p.1 ≠ b) :
    Inv X pins σ H' { s with heap := h', gens := g', drawn := d', toks := t' } := by
  obtain ⟨m, ⟨o, es, ep, ho, r⟩, _⟩ := id I.loc
  obtain ⟨sl, hL⟩ := u.any ho I.free fun z => (hch _ z).2.1 rfl
  exact I.step (ch := ch) hch (fun b o hL hb hc e n => u.keep b o e n (fun z => (List.mem_cons.mp (I.stkSub b z)).elim hL hb) hc) (fun b o _ _ hc e n => u.any e n hc) (fun b o hc e n => u.free b o e n hc) (fun b o hc e => u.there b o e hc) u.tups u.frzs u.tbls (fun m' hm => by
    obtain ⟨o', es', ep', ho', r'⟩ := hm
    rw [ho] at ho'; cases ho'
    exact ⟨_, es', ep', hL, r'⟩) hok hg
/-- an untracked record of ours (an iterator) has turned -/
theorem Inv.turned {t' : Nat} {it : Addr} (I : Inv X pins σ H s) (k : ∀ b o, b ≠ it → s.heap.get? b = some o → h'.get? b = some o) (hn : H it = none) (hL : it ≠ X.env.locals)
    (h1 : it ∈ X.ex ∨ X.s_0.heap.objs.size ≤ it) (h2 : ∀ x c, X.env.cells.lookup x = some c → c ≠ it) (h3 : ∀ p ∈ X.pn ++ pins, p.1 ≠ it) : Inv X pins σ H { s with heap := h', toks := t' } := by
  have nit : ∀ b u, H b = some u → b ≠ it := fun b u e z => by rw [z, hn] at e; cases e
  refine I.step (g' := s.gens) (d' := s.drawn) (ch := [it]) (fun b hb => ?_) (fun b o _ _ hc e _ => k b o (fun z => hc (by simp [z])) e) (fun b o _ _ hc e _ => ⟨o.slots, k b o (fun z => hc (by simp [z])) e⟩) (fun _ _ _ _ n => n)
    (fun b o hc e => ⟨o, k b o (fun z => hc (by simp [z])) e⟩) (fun _ _ e => e) (fun _ _ _ e => e) (fun b ps e => ⟨#[], by rw [e]; simp⟩) (fun m hm => ?_) (fun b u e => ?_) I.bare
  · have e : b = it := by simpa using hb
    subst e
    exact ⟨h1, hL, h2, h3⟩
  · obtain ⟨o, es, ep, ho, r⟩ := hm
    exact ⟨o, es, ep, k _ o (Ne.symm hL) ho, r⟩
  · refine (I.hok b u e).stay (fun c v hc q => k c v ?_ q) (fun _ q => q) fun _ _ q => q
    rcases hc with z | z
    · rw [z]; exact nit b u e
    · exact nit c _ z
theorem Inv.tok (I : Inv X pins σ H s) (t : Nat) : Inv X pins σ H { s with toks := t } := I.un (h' := s.heap) (t' := t) Un.refl I.hok
/-- all objects kept -/
theorem Inv.kept {t' : Nat} (I : Inv X pins σ H s) (k : ∀ b u, s.heap.get? b = some u → h'.get? b = some u) : Inv X pins σ H { s with heap := h', toks := t' } := I.un (Un.kept k) (I.hok.kept k)
/-- a new object laid and tracked -/
theorem Inv.laid {a : Addr} {o : HO} {t' : Nat} (I : Inv X pins σ H s) (k : ∀ b u, s.heap.get? b = some u → h'.get? b = some u) (hp : s.heap.objs.size ≤ a) (new : ObjOk X.prog X.w (upd H a o) h' a o) :
    Inv X pins σ (upd H a o) { s with heap := h', toks := t' } := I.un (Un.laid k hp (I.hok.fresh hp)) (I.hok.laid k hp new)
/-- an object written -/
theorem Inv.write {x e : Addr} {o : HO} {t' : Nat} (I : Inv X pins σ H s) (mu : Mut (H x)) (he : e = x ∨ H e = some (.own x)) (k : ∀ b u, b ≠ e → s.heap.get? b = some u → h'.get? b = some u) (heo : ∃ u, h'.get? e = some u)
    (new : ObjOk X.prog X.w (upd H x o) h' x o) : Inv X pins σ (upd H x o) { s with heap := h', toks := t' } := I.un (Un.write mu he k heo) (I.hok.write mu he k heo new)
/-- forgetting slots, pins -/
theorem Inv.weak {σ' : List (Option V)} (I : Inv X pins σ H s) (hl : σ'.length = σ.length) (w : ∀ (i : Nat) v, σ'[i]? = some (some v) → σ[i]? = some (some v)) : Inv X pins σ' H s :=
  ⟨I.ok, I.os, I.bare, I.base, let ⟨m, hn, hl'⟩ := I.loc; ⟨m, hn, fun i x v e1 e2 e3 => hl' i x v e1 (w i v e2) e3⟩, I.cell, I.free, I.freeC, I.pin, I.hok, hl.trans I.len⟩
theorem Inv.pins_of {pins' : List (Addr × Obj)} (I : Inv X pins σ H s) (h : ∀ p ∈ pins', s.heap.get? p.1 = some p.2 ∧ H p.1 = none ∧ p.1 ≠ X.env.locals ∧ p.1 ∉ X.fs ∧ ∀ v, p.2.data ≠ .cell v) : Inv X pins' σ H s :=
  ⟨I.ok, I.os, I.bare, I.base, I.loc, I.cell, I.free, I.freeC, fun p hp => (List.mem_append.mp hp).elim (fun z => I.pin p (List.mem_append_left _ z)) (h p), I.hok, I.len⟩
theorem nodup_ix {N : List Str} (hN : N.Nodup) {i j : Nat} {x : Str} (a : N[i]? = some x) (b : N[j]? = some x) : i = j := by
  obtain ⟨h1, e1⟩ := List.getElem?_eq_some_iff.mp a
  obtain ⟨h2, e2⟩ := List.getElem?_eq_some_iff.mp b
  exact (List.getElem_inj hN).mp (e1.trans e2.symm)
/-- a name is stored; what changed -/
theorem store_ok2 {M : Model} {A : Around} {E : Value → Shared → Prop} {i : Nat} {x : Str} {v : V} {u : Value} {Q : Unit → Shared → Prop} (I : Inv X pins σ H s) (hN : X.N.Nodup) (hi : X.N[i]? = some x) (hx : Loc X.env.scope x) (r : RelV v u)
    (h : ∀ s', Inv X pins (σ.set i (some v)) H s' → (∃ a, Heap.SameBut a s.heap s'.heap ∧ (a = X.env.locals ∨ X.env.cells.lookup x = some a)) → Q () s') (hf : X.fn x = true ∨ X.env.scope.names.lookup x = some .local := by first | exact .inl rfl | exact .inr rfl | assumption) : wpAny M A (storeName X.env x u) Q E s := by
  obtain ⟨m, hn, hl⟩ := id I.loc
  have hcls : (X.env.scope.kind == .class || (X.env.scope.kind == .module && X.env.locals != X.env.globals)) = false := by rw [I.ok.kind]; rfl
  have hiσ : i < σ.length := by rw [I.len]; exact (List.getElem?_eq_some_iff.mp hi).1
  have cne := I.cne
  have tracked : ∀ {a : Addr} {h' : Heap}, (∃ o, s.heap.get? a = some o ∧ H a = none) → Heap.SameBut a s.heap h' → HOk X.prog X.w H h' := fun {a h'} ha hs b ob e => by
    obtain ⟨_, _, hfree⟩ := ha
    refine (I.hok b ob e).stay (fun c w' hc q => (hs.2 c ?_).trans q) (fun _ q => q) fun _ _ q => q
    rintro rfl
    rcases hc with rfl | hc
    · rw [hfree] at e; cases e
    · rw [hfree] at hc; cases hc
  rcases hx with hk | hk
  · refine wpAny_storeName_local hk hn (fun h' hn' hs => ?_) hcls
    obtain ⟨oL, _, _, hoL, _⟩ := id hn
    refine h _ ⟨I.ok, I.os, I.bare, ⟨fun b o e n hb hx => ?_, fun b o e n hb hx => ?_, I.base.free, fun b o e hx => ?_, I.base.tups, I.base.frzs, I.base.tbls⟩, ⟨_, hn', fun j y v' e1 e2 e3 => ?_⟩, fun y c e => ?_, I.free, I.freeC, fun p hp => ?_, tracked ⟨oL, hoL, I.free⟩ hs, by simpa using I.len⟩ ⟨_, hs, .inl rfl⟩
    · exact (hs.2 b (Nat.ne_of_lt (Nat.lt_of_lt_of_le (Heap.lt_size e) I.ok.above))).trans (I.base.keep b o e n hb hx)
    · obtain ⟨sl, e1⟩ := I.base.slot b o e n hb hx
      exact ⟨sl, (hs.2 b (Nat.ne_of_lt (Nat.lt_of_lt_of_le (Heap.lt_size e) I.ok.above))).trans e1⟩
    · obtain ⟨o', e1⟩ := I.base.there b o e hx
      exact ⟨o', (hs.2 b (Nat.ne_of_lt (Nat.lt_of_lt_of_le (Heap.lt_size e) I.ok.above))).trans e1⟩
    · by_cases hj : j = i
      · subst hj
        rw [hi] at e1; cases e1
        rw [List.getElem?_set_self hiσ] at e2
        cases e2
        exact ⟨u, r, .inl ⟨hk, by simp⟩⟩
      · rw [List.getElem?_set_ne (Ne.symm hj)] at e2
        obtain ⟨u', r', q⟩ := hl j y v' e1 e2 e3
        refine ⟨u', r', ?_⟩
        rcases q with ⟨k, e⟩ | ⟨k, c, e, z⟩
        · refine .inl ⟨k, ?_⟩
          have : y ≠ x := fun e => hj (nodup_ix hN e1 (e ▸ hi))
          simp [this, e]
        · exact .inr ⟨k, c, e, z.sameBut hs (cne y c e)⟩
    · obtain ⟨w', z⟩ := I.cell y c e
      exact ⟨w', z.sameBut hs (cne y c e)⟩
    · obtain ⟨e, n, ne, nf, d⟩ := I.pin p hp
      exact ⟨(hs.2 p.1 ne).trans e, n, ne, nf, d⟩
  · have hfn : X.fn x = true := by
      rcases hf with z | z
      · exact z
      · rw [z] at hk; cases hk
    obtain ⟨c, hc⟩ := I.ok.has x (.inl hk)
    obtain ⟨w', z⟩ := I.cell x c hc
    refine wpAny_storeName_cell I.ok.kind hk hc z (fun h' hc' hs => ?_)
    obtain ⟨oc, hoc, hocd⟩ := id z
    refine h { s with heap := h' } ⟨I.ok, I.os, I.bare, ⟨fun b o e n hb hx => ?_, fun b o e n hb hx => ?_, I.base.free, fun b o e hx => ?_, I.base.tups, I.base.frzs, I.base.tbls⟩, ⟨m, hn.sameBut hs (Ne.symm (cne x c hc)), fun j y v' e1 e2 e3 => ?_⟩, fun y c' e => ?_, I.free, I.freeC, fun p hp => ?_, tracked ⟨oc, hoc, I.freeC x c hc⟩ hs, by simpa using I.len⟩ ⟨c, hs, .inr hc⟩
    · exact (hs.2 b (Nat.ne_of_lt (Nat.lt_of_lt_of_le (Heap.lt_size e) (I.ok.cab x c hfn hc)))).trans (I.base.keep b o e n hb hx)
    · obtain ⟨sl, e1⟩ := I.base.slot b o e n hb hx
      exact ⟨sl, (hs.2 b (Nat.ne_of_lt (Nat.lt_of_lt_of_le (Heap.lt_size e) (I.ok.cab x c hfn hc)))).trans e1⟩
    · obtain ⟨o', e1⟩ := I.base.there b o e hx
      exact ⟨o', (hs.2 b (Nat.ne_of_lt (Nat.lt_of_lt_of_le (Heap.lt_size e) (I.ok.cab x c hfn hc)))).trans e1⟩
    · by_cases hj : j = i
      · subst hj
        rw [hi] at e1; cases e1
        rw [List.getElem?_set_self hiσ] at e2
        cases e2
        exact ⟨u, r, .inr ⟨.inl hk, c, hc, hc'⟩⟩
      · rw [List.getElem?_set_ne (Ne.symm hj)] at e2
        obtain ⟨u', r', q⟩ := hl j y v' e1 e2 e3
        refine ⟨u', r', ?_⟩
        rcases q with q | ⟨k, c', e, z'⟩
        · exact .inl q
        · refine .inr ⟨k, c', e, z'.sameBut hs ?_⟩
          rintro rfl
          exact hj (nodup_ix hN e1 (I.ok.inj _ _ _ e hc ▸ hi))
    · by_cases hcc : c' = c
      · subst hcc; exact ⟨_, hc'⟩
      · obtain ⟨w2, z2⟩ := I.cell y c' e
        exact ⟨w2, z2.sameBut hs hcc⟩
    · obtain ⟨e, n, ne, nf, d⟩ := I.pin p hp
      refine ⟨(hs.2 p.1 ?_).trans e, n, ne, nf, d⟩
      intro q
      rw [q, hoc] at e
      have q' : oc = p.2 := Option.some.inj e
      exact d w' (by rw [← q']; exact hocd)
theorem store_ok {M : Model} {A : Around} {E : Value → Shared → Prop} {i : Nat} {x : Str} {v : V} {u : Value} {Q : Unit → Shared → Prop} (I : Inv X pins σ H s) (hN : X.N.Nodup) (hi : X.N[i]? = some x) (hx : Loc X.env.scope x) (r : RelV v u)
    (h : ∀ s', Inv X pins (σ.set i (some v)) H s' → Q () s') (hf : X.fn x = true ∨ X.env.scope.names.lookup x = some .local := by first | exact .inl rfl | exact .inr rfl | assumption) : wpAny M A (storeName X.env x u) Q E s :=
  store_ok2 I hN hi hx r (fun s' I' _ => h s' I') hf
/-- behind a call or a block, the state as it is -/
theorem Inv.call' {s' : Shared} {ch : List Addr} (I : Inv X pins σ H s) (ho : s'.os = s.os) (u : Un (frs X.stack) ch H H' s.heap s'.heap) (hok : HOk X.prog X.w H' s'.heap) (hg : AllBare s'.gens)
    (hch : ∀ b ∈ ch, (b ∈ X.ex ∨ X.s_0.heap.objs.size ≤ b) ∧ b ≠ X.env.locals ∧ (∀ x c, X.env.cells.lookup x = some c → c ≠ b) ∧ ∀ p ∈ X.pn ++ pins, p.1 ≠ b) : Inv X pins σ H' s' := by
  obtain ⟨h', g', d', t', o'⟩ := s'
  have e : o' = s.os := ho
  subst e
  exact I.call (g' := g') (t' := t') (d' := d') u hok hg hch
end
/-! ### the judgements -/
/-- an exception: its class, its own dict's address (where it has one), the abstract heap behind it -/
abbrev XK := Value → Option Addr → Hp → Prop
abbrev St := List (Option V)
abbrev VK := V → Hp → Prop
/-- an expression's reading; a test's; an argument list's -/
abbrev TE := St → Hp → VK → Prop
abbrev TT := St → Hp → (Bool → Hp → Prop) → Prop
abbrev TA := St → Hp → (List V → Hp → Prop) → Prop
/-- what is wanted behind a statement -/
structure Ends where
  nx : St → Hp → Prop
  rt : VK
  bk : St → Hp → Prop := fun _ _ => False
  ct : St → Hp → Prop := fun _ _ => False
abbrev TS := Ends → St → Hp → Prop
def EP (X : Cx) (pins : List (Addr × Obj)) (σ : St) (Q : VK) (u : Value) (s' : Shared) : Prop := ∃ v H', Inv X pins σ H' s' ∧ RelV v u ∧ Q v H'
def TP (X : Cx) (pins : List (Addr × Obj)) (σ : St) (Q : Bool → Hp → Prop) (b : Bool) (s' : Shared) : Prop := ∃ H', Inv X pins σ H' s' ∧ Q b H'
def AP (X : Cx) (pins : List (Addr × Obj)) (σ : St) (Q : List V → Hp → Prop) (us : List Value) (s' : Shared) : Prop := ∃ vs H', Inv X pins σ H' s' ∧ Vals vs us ∧ Q vs H'
def SP (X : Cx) (pins : List (Addr × Obj)) (D : Ends) (f : Flow) (s' : Shared) : Prop :=
  match f with
  | .next => ∃ σ' H', Inv X pins σ' H' s' ∧ D.nx σ' H'
  | .brk => ∃ σ' H', Inv X pins σ' H' s' ∧ D.bk σ' H'
  | .cont => ∃ σ' H', Inv X pins σ' H' s' ∧ D.ct σ' H'
  | .ret u => ∃ v σ' H', Inv X pins σ' H' s' ∧ RelV v u ∧ D.rt v H'
def PE (X : Cx) (e : Expr) (t : TE) : Prop :=
  ∀ (pins : List (Addr × Obj)) (s : Shared) (σ : St) (H : Hp) (Q : VK), Inv X pins σ H s → t σ H Q → wpAny (model X.prog X.w) X.A (eval e X.env) (EP X pins σ Q) X.xe s
def PT (X : Cx) (e : Expr) (t : TT) : Prop :=
  ∀ (pins : List (Addr × Obj)) (s : Shared) (σ : St) (H : Hp) (Q : Bool → Hp → Prop), Inv X pins σ H s → t σ H Q → wpAny (model X.prog X.w) X.A (isTrue e X.env (eval e X.env)) (TP X pins σ Q) X.xe s
/-- a test whatever its 'whole' is (and, or) -/
def PW (X : Cx) (e : Expr) (t : TT) : Prop :=
  ∀ (whole : Sem Value) (pins : List (Addr × Obj)) (s : Shared) (σ : St) (H : Hp) (Q : Bool → Hp → Prop), Inv X pins σ H s → t σ H Q → wpAny (model X.prog X.w) X.A (isTrue e X.env whole) (TP X pins σ Q) X.xe s
theorem PW.pt {X : Cx} {e : Expr} {t : TT} (h : PW X e t) : PT X e t := h _
/-- an argument list (no star), from the left -/
def PA (X : Cx) (es : List Expr) (t : TA) : Prop :=
  ∀ (pos : Pos) (pins : List (Addr × Obj)) (s : Shared) (σ : St) (H : Hp) (Q : List V → Hp → Prop), Inv X pins σ H s → t σ H Q → wpAny (model X.prog X.w) X.A (spliced (backTo pos (starEach es X.env))) (AP X pins σ Q) X.xe s
def PS (X : Cx) (st : Stmt) (t : TS) : Prop :=
  ∀ (pins : List (Addr × Obj)) (s : Shared) (σ : St) (H : Hp) (D : Ends), Inv X pins σ H s → t D σ H → wpAny (model X.prog X.w) X.A (exec st X.env) (SP X pins D) X.xe s
def PSs (X : Cx) (st : List Stmt) (t : TS) : Prop :=
  ∀ (pins : List (Addr × Obj)) (s : Shared) (σ : St) (H : Hp) (D : Ends), Inv X pins σ H s → t D σ H → wpAny (model X.prog X.w) X.A (execs st X.env) (SP X pins D) X.xe s
/-- weaken the end -/
theorem thn {α : Type} {t : Sem α} {Q Q' : α → Shared → Prop} {M : Model} {A : Around} {E : Value → Shared → Prop} {s : Shared} (h : wpAny M A t Q E s) (hQ : ∀ a s, Q a s → Q' a s) : wpAny M A t Q' E s := wpAny_mono h hQ fun _ _ x => x
end L2
namespace L2
open PySem PySem.Spec PyProof.Rows
section
variable {X : Cx}
/-- two expressions in a row -/
theorem bin {a b : Expr} {ta tb : TE} (ha : PE X a ta) (hb : PE X b tb) {pins : List (Addr × Obj)} {s : Shared} {σ : St} {H : Hp} {R : V → V → Hp → Prop} (I : Inv X pins σ H s) (h : ta σ H fun x H1 => tb σ H1 fun y H2 => R x y H2)
    {α : Type} {Q : α → Shared → Prop} {f : Value → Value → Sem α}
    (hf : ∀ v u s2 x y H2, Inv X pins σ H2 s2 → RelV x v → RelV y u → R x y H2 → wpAny (model X.prog X.w) X.A (f v u) Q X.xe s2) :
    wpAny (model X.prog X.w) X.A (eval a X.env) (fun v s₁ => wpAny (model X.prog X.w) X.A (eval b X.env) (fun u s₂ => wpAny (model X.prog X.w) X.A (f v u) Q X.xe s₂) X.xe s₁) X.xe s := by
  refine thn (ha pins s σ H _ I h) fun v s1 ⟨x, H1, I1, r1, q1⟩ => ?_
  refine thn (hb pins s1 σ H1 _ I1 q1) fun u s2 ⟨y, H2, I2, r2, q2⟩ => ?_
  exact hf v u s2 x y H2 I2 r1 r2 q2
/-! ### names and constants -/
def tVar (i : Nat) : TE := fun σ H Q => ∃ v, σ[i]? = some (some v) ∧ Q v H
def tC (v : V) : TE := fun _ H Q => Q v H
theorem pe_var {i : Nat} {x : Str} {pos : Pos} (hN : X.N[i]? = some x) (hv : Vis X.env.scope x) (hd : (x == ("__debug__" : Str)) = false := by decide) (hcd : (x == ("__classdict__" : Str)) = false := by decide) : PE X (.Name x pos) (tVar i) := by
  intro pins s σ H Q I h
  obtain ⟨v, e, h⟩ := h
  obtain ⟨m, hn, hl⟩ := I.loc
  obtain ⟨u, r, l⟩ := hl i x v hN e hv
  have fin : EP X pins σ Q u s := ⟨v, H, I, r, h⟩
  rcases l with ⟨hk, hm⟩ | ⟨hk, c, hc, hcell⟩
  · exact wpAny_Name (wpAny_loadName_local I.ok.kind hk hn hm fin) hd
  · rcases hk with hk | hk
    · exact wpAny_Name (wpAny_loadName_cell I.ok.kind hk hc hcell fin) hd
    · exact wpAny_Name (wpAny_loadName_free I.ok.kind hk hc hcell fin hcd) hd
theorem pe_int {i j pos} : PE X (.Constant (.int i) j pos) (tC (.int i)) := fun _ _ _ H _ I h => wpAny_Constant_int ⟨.int i, H, I.tok _, ⟨_, rfl⟩, h⟩
theorem pe_bl {b j pos} : PE X (.Constant (.bool b) j pos) (tC (.bl b)) := fun _ _ _ H _ I h => Constant_bool ⟨.bl b, H, I, rfl, h⟩
theorem pe_non {j pos} : PE X (.Constant .none j pos) (tC .non) := fun _ _ _ H _ I h => Constant_none ⟨.non, H, I, rfl, h⟩
/-- a global name of the def -/
def Gl (X : Cx) (x : Str) : Prop := X.env.kindOf x = some .globalImplicit
theorem ld_glob {E : Value → Shared → Prop} {pins : List (Addr × Obj)} {s : Shared} {σ : St} {H : Hp} {x : Str} {u : Value} {pos : Pos} {Q : Value → Shared → Prop} (I : Inv X pins σ H s) (hg : Gl X x) (hm : X.mg x = some u) (h : Q u s)
    (hd : (x == ("__debug__" : Str)) = false := by decide) : wpAny (model X.prog X.w) X.A (eval (.Name x pos) X.env) Q E s :=
  Calls.Name_function_global I.ok.kind hg (Calls.loadGlobal_global (by rw [I.ok.glob]; exact I.mod.glob.keeps I.bk) hm h) hd
theorem ld_blt {E : Value → Shared → Prop} {pins : List (Addr × Obj)} {s : Shared} {σ : St} {H : Hp} {x : Str} {u : Value} {pos : Pos} {Q : Value → Shared → Prop} (I : Inv X pins σ H s) (hg : Gl X x) (hm : X.mg x = none) (hv : bootBuiltins x = some u) (h : Q u s)
    (hn : x ≠ "__name__" := by decide) (hd : (x == ("__debug__" : Str)) = false := by decide) : wpAny (model X.prog X.w) X.A (eval (.Name x pos) X.env) Q E s := by
  obtain ⟨mb, h1, h2⟩ := I.mod.blt
  exact Calls.Name_function_global I.ok.kind hg (Calls.loadGlobal_builtin (by rw [I.ok.glob]; exact I.mod.glob.keeps I.bk) hm (by rw [I.ok.blt]; exact h1.keeps I.bk) ((h2 x hn).trans hv) h) hd
/-- a module's constant, a class, a function, as a value -/
theorem pe_glob {x : Str} {v : V} {u : Value} {pos : Pos} (hg : Gl X x) (hm : X.mg x = some u) (r : RelV v u) (hd : (x == ("__debug__" : Str)) = false := by decide) : PE X (.Name x pos) (tC v) :=
  fun _ _ _ H _ I h => ld_glob I hg hm ⟨v, H, I, r, h⟩ hd
/-! ### arithmetic -/
variable {a b : Expr} {ta tb : TE} {pos : Pos}
/-! ### comparisons -/
def PC (X : Cx) (op : CmpOp) (a b : Expr) (t : TE) : Prop :=
  ∀ (pins : List (Addr × Obj)) (s : Shared) (σ : St) (H : Hp) (Q : VK), Inv X pins σ H s → t σ H Q →
    wpAny (model X.prog X.w) X.A (eval a X.env) (fun v s₁ => wpAny (model X.prog X.w) X.A (eval b X.env) (fun u s₂ => wpAny (model X.prog X.w) X.A (compareOp op v u) (EP X pins σ Q) X.xe s₂) X.xe s₁) X.xe s
/-- a comparison as a value, as a test -/
def tB (t : TE) : TT := fun σ H Q => t σ H fun x H1 => ∃ c, x = .bl c ∧ Q c H1
theorem pt_cmp {op : CmpOp} {t : TE} (h : PC X op a b t) (h1 : behindInMarks op b = false := by first | exact nobehind _ (by decide) (by decide) | rfl) : PT X (.Compare a [op] [b] pos) (tB t) := by
  intro pins s σ H Q I hw
  refine wpAny_isTrue_Compare1 (thn (h pins s σ H _ I hw) fun v s1 h1 => thn h1 fun u s2 h2 => thn h2 fun c s3 ⟨x, H1, I1, r1, q1⟩ => ?_) h1
  obtain ⟨d, rfl, q⟩ := q1
  cases r1
  exact wpAny_truthy_bool ⟨H1, I1, q⟩
/-- an expression whose value is a bool, as a test -/
theorem pt_val {e : Expr} {t : TE} (h : PE X e t) (he : ∀ whole, isTrue e X.env whole = (do let v ← whole; standAt e.pos; holding [v] (truthy v)) := by intro _; rfl) : PT X e (tB t) := by
  intro pins s σ H Q I hw
  refine isTrue_plain (thn (h pins s σ H _ I hw) fun v s1 ⟨x, H1, I1, r1, q1⟩ => ?_) (he _)
  obtain ⟨d, rfl, q⟩ := q1
  cases r1
  exact wpAny_truthy_bool ⟨H1, I1, q⟩
/-! ### and, or, not -/
variable {tA tB' : TT} {rest : List Expr}
def tAnd (t u : TT) : TT := fun σ H Q => t σ H fun c H1 => if c = true then u σ H1 Q else Q false H1
def tOr (t u : TT) : TT := fun σ H Q => t σ H fun c H1 => if c = true then Q true H1 else u σ H1 Q
def tNot (t : TT) : TT := fun σ H Q => t σ H fun c H1 => Q (!c) H1
theorem pw_and1 (ha : PT X a tA) : PW X (.BoolOp .And [a] pos) tA := by
  intro wh pins s σ H Q I h
  refine isTrue_and (thn (ha pins s σ H Q I h) fun c s1 e => ?_)
  cases c with
  | true => exact isTrue_and_nil e
  | false => exact e
theorem pw_or1 (ha : PT X a tA) : PW X (.BoolOp .Or [a] pos) tA := by
  intro wh pins s σ H Q I h
  refine isTrue_or (thn (ha pins s σ H Q I h) fun c s1 e => ?_)
  cases c with
  | false => exact isTrue_or_nil e
  | true => exact e
theorem pw_and (ha : PT X a tA) (hb : PW X (.BoolOp .And (b :: rest) pos) tB') : PW X (.BoolOp .And (a :: b :: rest) pos) (tAnd tA tB') := by
  intro wh pins s σ H Q I h
  refine isTrue_and (thn (ha pins s σ H _ I h) fun c s1 ⟨H1, I1, q1⟩ => ?_)
  cases c with
  | true => exact hb wh pins s1 σ H1 Q I1 q1
  | false => exact ⟨H1, I1, q1⟩
theorem pw_or (ha : PT X a tA) (hb : PW X (.BoolOp .Or (b :: rest) pos) tB') : PW X (.BoolOp .Or (a :: b :: rest) pos) (tOr tA tB') := by
  intro wh pins s σ H Q I h
  refine isTrue_or (thn (ha pins s σ H _ I h) fun c s1 ⟨H1, I1, q1⟩ => ?_)
  cases c with
  | true => exact ⟨H1, I1, q1⟩
  | false => exact hb wh pins s1 σ H1 Q I1 q1
theorem pt_not (ha : PT X a tA) : PT X (.UnaryOp .Not a pos) (tNot tA) := by
  intro pins s σ H Q I h
  exact isTrue_not (ha pins s σ H (fun c H1 => Q (!c) H1) I h)
def tOrV (ta tb : TE) : TE := fun σ H Q => ta σ H fun x H1 => ∃ c, x = .bl c ∧ if c = true then Q (.bl true) H1 else tb σ H1 Q
theorem pe_one {op} {t : TE} (h : PE X a t) : PE X (.BoolOp op [a] pos) t := fun pins s σ H Q I hw => BoolOp_one (h pins s σ H Q I hw)
theorem pe_or (ha : PE X a ta) (hb : PE X (.BoolOp .Or (b :: rest) pos) tb) : PE X (.BoolOp .Or (a :: b :: rest) pos) (tOrV ta tb) := by
  intro pins s σ H Q I h
  refine BoolOp_or (thn (ha pins s σ H _ I h) fun v s1 ⟨x, H1, I1, r1, q1⟩ => ?_)
  obtain ⟨c, rfl, q1⟩ := q1
  cases r1
  refine wpAny_truthy_bool ?_
  cases c with
  | false => exact hb pins s1 σ H1 Q I1 q1
  | true => exact ⟨.bl true, H1, I1, rfl, q1⟩
/-- a if t else b -/
def tIf (t : TT) (ta tb : TE) : TE := fun σ H Q => t σ H fun c H1 => if c = true then ta σ H1 Q else tb σ H1 Q
theorem pe_ifExp {c : Expr} (hc : PT X c tA) (ha : PE X a ta) (hb : PE X b tb) : PE X (.IfExp c a b pos) (tIf tA ta tb) := by
  intro pins s σ H Q I h
  refine wpAny_IfExp (thn (hc pins s σ H _ I h) fun d s1 ⟨H1, I1, q1⟩ => ?_)
  cases d with
  | true => exact ha pins s1 σ H1 Q I1 q1
  | false => exact hb pins s1 σ H1 Q I1 q1
end
end L2
namespace L2
open PySem PySem.Spec PyProof.Rows
/-! ### a list, a tuple that is read: tracked, frozen, or an object of the module -/
def SqL (K : PySem.W.Frag) (H : Hp) (a : Addr) (xs : List V) : Prop :=
  Rd H a (.lst xs) ∨
    ∃ (o : Obj) (its : Array Value) (n : Nat), K.lookup a = some o ∧ o.cls = .type "list" ∧ o.dict = none ∧ o.data = .seq its n ∧ its.size ≤ sizeLine ∧ Vals xs its.toList
def SqT (K : PySem.W.Frag) (H : Hp) (a : Addr) (xs : List V) : Prop :=
  Rd H a (.tup xs) ∨
    ∃ (o : Obj) (its : Array Value) (n : Nat), K.lookup a = some o ∧ o.cls = .type "tuple" ∧ o.data = .seq its n ∧ its.size ≤ sizeLine ∧ Vals xs its.toList
def absV : Value → Option V
  | .none => some .non
  | .bool b => some (.bl b)
  | .int i _ => some (.int i)
  | .str x _ => some (.str x)
  | .bytes b _ => some (.byt b)
  | .float b _ => some (.flt b)
  | .ref a => some (.ref a)
  | .type n => some (.ty n)
  | _ => none
theorem RelV.abs {x : V} {u : Value} (r : RelV x u) : absV u = some x := by
  cases x with
  | non => cases r; rfl
  | bl _ => cases r; rfl
  | int _ => obtain ⟨t, rfl⟩ := r; rfl
  | str _ => obtain ⟨t, rfl⟩ := r; rfl
  | byt _ => obtain ⟨t, rfl⟩ := r; rfl
  | flt _ => obtain ⟨t, rfl⟩ := r; rfl
  | ref _ => cases r; rfl
  | ty _ => cases r; rfl
theorem RelV.inj {x y : V} {u : Value} (r : RelV x u) (q : RelV y u) : x = y := Option.some.inj (r.abs.symm.trans q.abs)
theorem Vals.inj : ∀ {xs ys : List V} {us : List Value}, Vals xs us → Vals ys us → xs = ys
  | _, _, _, .nil, .nil => rfl
  | _, _, _, .cons r t, .cons r' t' => by rw [r.inj r', Vals.inj t t']
section
variable {X : Cx} {pins : List (Addr × Obj)} {σ : St} {H : Hp} {s : Shared} {a : Addr} {xs ys : List V}
theorem SqL.of {K : PySem.W.Frag} (h : H a = some (.lst xs)) : SqL K H a xs := .inl (.inl h)
theorem SqT.of {K : PySem.W.Frag} (h : H a = some (.tup xs)) : SqT K H a xs := .inl (.inl h)
theorem Inv.list (I : Inv X pins σ H s) (h : SqL X.K H a xs) : ∃ its : List Value, Vals xs its ∧ PlainL s.heap a its.toArray ∧ xs.length ≤ sizeLine := by
  rcases h with h | ⟨o, its, n, hk, hc, hd, hs, hz, r⟩
  · obtain ⟨z, its, n, r, e⟩ := h.ok I.hok
    exact ⟨its, r, ⟨_, n, e, rfl, rfl, rfl⟩, z⟩
  · refine ⟨its.toList, r, ⟨o, n, I.kIn a o hk, hc, hd, by simpa using hs⟩, ?_⟩
    have e := r.length
    simp only [Array.length_toList] at e
    omega
theorem Inv.tuple (I : Inv X pins σ H s) (h : SqT X.K H a xs) : ∃ its : List Value, Vals xs its ∧ IsTup s.heap a its.toArray ∧ xs.length ≤ sizeLine := by
  rcases h with h | ⟨o, its, n, hk, hc, hs, hz, r⟩
  · obtain ⟨z, its, r, p⟩ := h.ok I.hok
    exact ⟨its, r, p, z⟩
  · refine ⟨its.toList, r, ⟨o, I.kIn a o hk, hc, n, by simpa using hs⟩, ?_⟩
    have e := r.length
    simp only [Array.length_toList] at e
    omega
theorem Inv.list_inj (I : Inv X pins σ H s) (h : SqL X.K H a xs) (h' : SqL X.K H a ys) : xs = ys := by
  obtain ⟨its, r, ⟨o, n, e, _, _, d⟩, _⟩ := I.list h
  obtain ⟨its', r', ⟨o', n', e', _, _, d'⟩, _⟩ := I.list h'
  rw [e] at e'; cases e'
  rw [d] at d'
  injection d' with d1 _
  have : its = its' := by simpa using congrArg Array.toList d1
  subst this
  exact r.inj r'
theorem Inv.tuple_inj (I : Inv X pins σ H s) (h : SqT X.K H a xs) (h' : SqT X.K H a ys) : xs = ys := by
  obtain ⟨its, r, ⟨o, e, _, n, d⟩, _⟩ := I.tuple h
  obtain ⟨its', r', ⟨o', e', _, n', d'⟩, _⟩ := I.tuple h'
  rw [e] at e'; cases e'
  rw [d] at d'
  injection d' with d1 _
  have : its = its' := by simpa using congrArg Array.toList d1
  subst this
  exact r.inj r'
end
/-! ### another wish about exceptions -/
abbrev Cx.wish (X : Cx) (E : Value → Shared → Prop) : Cx := { X with xe := E }
/-- no exception leaves -/
abbrev Cx.nox (X : Cx) : Cx := X.wish fun _ _ => False
theorem Cx.Ok.wish {X : Cx} (ok : X.Ok) (E : Value → Shared → Prop) : (X.wish E).Ok :=
  ⟨ok.mod, ok.kind, ok.glob, ok.blt, ok.above, ok.inj, ok.has, ok.cab, ok.hd, ok.frames, ok.stk, ok.exf, ok.bs, ok.bsz, ok.noex, ok.exfs, ok.funs, ok.frf⟩
theorem Cx.Ok.unwish {X : Cx} {E : Value → Shared → Prop} (ok : (X.wish E).Ok) : X.Ok :=
  ⟨ok.mod, ok.kind, ok.glob, ok.blt, ok.above, ok.inj, ok.has, ok.cab, ok.hd, ok.frames, ok.stk, ok.exf, ok.bs, ok.bsz, ok.noex, ok.exfs, ok.funs, ok.frf⟩
section
variable {X : Cx} {pins : List (Addr × Obj)} {σ : St} {H : Hp} {s : Shared} {E : Value → Shared → Prop}
theorem Inv.wish (I : Inv X pins σ H s) (E : Value → Shared → Prop) : Inv (X.wish E) pins σ H s := ⟨I.ok.wish E, I.os, I.bare, I.base, I.loc, I.cell, I.free, I.freeC, I.pin, I.hok, I.len⟩
theorem Inv.unwish (I : Inv (X.wish E) pins σ H s) : Inv X pins σ H s := ⟨I.ok.unwish, I.os, I.bare, I.base, I.loc, I.cell, I.free, I.freeC, I.pin, I.hok, I.len⟩
theorem SP.unwish {D : Ends} {f : Flow} {s' : Shared} (h : SP (X.wish E) pins D f s') : SP X pins D f s' := by
  cases f with
  | next => obtain ⟨σ', H', I, q⟩ := h; exact ⟨σ', H', I.unwish, q⟩
  | brk => obtain ⟨σ', H', I, q⟩ := h; exact ⟨σ', H', I.unwish, q⟩
  | cont => obtain ⟨σ', H', I, q⟩ := h; exact ⟨σ', H', I.unwish, q⟩
  | ret u => obtain ⟨v, σ', H', I, r, q⟩ := h; exact ⟨v, σ', H', I.unwish, r, q⟩
theorem PSs.nox {st : List Stmt} {t : TS} (h : PSs X.nox st t) : PSs X st t := fun pins s σ H D I hw =>
  wpAny_mono (h pins s σ H D (I.wish _) hw) (fun _ _ q => q.unwish) fun _ _ z => False.elim z
end
/-! ### blocks and small statements -/
section
variable {X : Cx} {st : Stmt} {rest : List Stmt} {t u : TS} {e : Expr} {te : TE} {pos : Pos}
def tNext : TS := fun D σ H => D.nx σ H
def tSeq (t u : TS) : TS := fun D σ H => t { D with nx := u D } σ H
theorem pss_nil : PSs X [] tNext := fun _ _ σ H _ I h => wpAny_execs_nil ⟨σ, H, I, h⟩
theorem pss_cons (h1 : PS X st t) (h2 : PSs X rest u) : PSs X (st :: rest) (tSeq t u) := by
  intro pins s σ H D I h
  refine wpAny_execs_cons (thn (h1 pins s σ H { D with nx := u D } I h) fun f s1 q => ?_)
  cases f with
  | next =>
    obtain ⟨σ', H', I', q⟩ := q
    exact h2 pins s1 σ' H' D I' q
  | ret v => exact q
  | brk => exact q
  | cont => exact q
theorem pss_one (h1 : PS X st t) : PSs X [st] t := by
  intro pins s σ H D I h
  refine wpAny_execs_cons (thn (h1 pins s σ H D I h) fun f s1 q => ?_)
  cases f with
  | next => exact wpAny_execs_nil q
  | ret v => exact q
  | brk => exact q
  | cont => exact q
/-- in a def's body nothing is shown -/
theorem Inv.quiet {pins : List (Addr × Obj)} {σ : St} {H : Hp} {s : Shared} (I : Inv X pins σ H s) : interactive X.env = false := by simp [interactive, I.ok.kind]
/-- an expression whose value is dropped -/
def tDrop (te : TE) : TS := fun D σ H => te σ H fun _ H1 => D.nx σ H1
theorem ps_expr (he : PE X e te) (hs : swapsWith e none pos.line X.env = pure false := by rfl) : PS X (.Expr e pos) (tDrop te) := by
  intro pins s σ H D I h
  exact wpAny_Expr_any (thn (he pins s σ H _ I h) fun v s1 ⟨x, H1, I1, r1, q1⟩ => ⟨σ, H1, I1, q1⟩) I.quiet hs
def tRet (te : TE) : TS := fun D σ H => te σ H D.rt
theorem ps_ret (he : PE X e te) : PS X (.Return (some e) pos) (tRet te) := by
  intro pins s σ H D I h
  exact wpAny_Return_some (thn (he pins s σ H _ I h) fun v s1 ⟨x, H1, I1, r1, q1⟩ => ⟨x, σ, H1, I1, r1, q1⟩)
def tIfS (c : TT) (t u : TS) : TS := fun D σ H => c σ H fun b H1 => if b = true then t D σ H1 else u D σ H1
theorem ps_if {c : Expr} {a b : List Stmt} {tc : TT} (hc : PT X c tc) (ha : PSs X a t) (hb : PSs X b u) : PS X (.If c a b pos) (tIfS tc t u) := by
  intro pins s σ H D I h
  refine wpAny_If (thn (hc pins s σ H _ I h) fun d s1 ⟨H1, I1, q1⟩ => ?_)
  cases d with
  | true => exact ha pins s1 σ H1 D I1 q1
  | false => exact hb pins s1 σ H1 D I1 q1
end
/-! ### targets -/
abbrev TG := V → St → Hp → (St → Hp → Prop) → Prop
abbrev TGs := List V → St → Hp → (St → Hp → Prop) → Prop
def PG (X : Cx) (target : Expr) (t : TG) : Prop :=
  ∀ (pins : List (Addr × Obj)) (s : Shared) (σ : St) (H : Hp) (v : V) (u : Value) (Q : St → Hp → Prop), Inv X pins σ H s → RelV v u → t v σ H Q →
    wpAny (model X.prog X.w) X.A (assign target X.env u) (fun _ s' => ∃ σ' H', Inv X pins σ' H' s' ∧ Q σ' H') X.xe s
/-- several targets, one after another -/
def PGs (X : Cx) (ts : List Expr) (t : TGs) : Prop :=
  ∀ (pins : List (Addr × Obj)) (s : Shared) (σ : St) (H : Hp) (vs : List V) (us : List Value) (Q : St → Hp → Prop), Inv X pins σ H s → Vals vs us → t vs σ H Q →
    wpAny (model X.prog X.w) X.A (assignInOrder ((assignEach ts X.env).map (·.2)) us) (fun _ s' => ∃ σ' H', Inv X pins σ' H' s' ∧ Q σ' H') X.xe s
/-- o[i] = v, by values -/
abbrev TSet := V → V → V → Hp → (Hp → Prop) → Prop
def PSet (X : Cx) (t : TSet) : Prop :=
  ∀ (pins : List (Addr × Obj)) (s : Shared) (σ : St) (H : Hp) (o i v : V) (ov iv u : Value) (Q : Hp → Prop), Inv X pins σ H s → RelV o ov → RelV i iv → RelV v u → t o i v H Q →
    wpAny (model X.prog X.w) X.A (setItem ov iv u) (fun _ s' => ∃ H', Inv X pins σ H' s' ∧ Q H') X.xe s
section
variable {X : Cx} {pos : Pos}
def gName (i : Nat) : TG := fun v σ H Q => Q (σ.set i (some v)) H
theorem pg_name {i : Nat} {x : Str} (hN : X.N.Nodup) (hi : X.N[i]? = some x) (hx : Loc X.env.scope x) (hf : X.fn x = true ∨ X.env.scope.names.lookup x = some .local := by first | exact .inl rfl | exact .inr rfl | assumption) : PG X (.Name x pos) (gName i) := by
  intro pins s σ H v u Q I r h
  exact wpAny_assign_Name (store_ok I hN hi hx r (fun s' I' => ⟨_, H, I', h⟩) hf)
def gNil : TGs := fun vs σ H Q => vs = [] ∧ Q σ H
def gCons (t : TG) (u : TGs) : TGs := fun vs σ H Q => ∃ v r, vs = v :: r ∧ t v σ H fun σ' H' => u r σ' H' Q
theorem pgs_nil : PGs X [] gNil := by
  intro pins s σ H vs us Q I r h
  obtain ⟨e, h⟩ := h
  subst e
  cases r
  exact assignInOrder_nil ⟨σ, H, I, h⟩
theorem pgs_cons {e : Expr} {es : List Expr} {t : TG} {u : TGs} (h1 : PG X e t) (h2 : PGs X es u)
    (hs : (assignEach (e :: es) X.env).map (·.2) = assign e X.env :: (assignEach es X.env).map (·.2) := by rfl) : PGs X (e :: es) (gCons t u) := by
  intro pins s σ H vs us Q I r h
  obtain ⟨v, vr, e1, h⟩ := h
  subst e1
  cases r with
  | cons r rr =>
    rw [hs]
    refine assignInOrder_cons (thn (h1 pins s σ H _ _ _ I r h) fun _ s1 ⟨σ1, H1, I1, q1⟩ => ?_)
    exact h2 pins s1 σ1 H1 _ _ Q I1 rr q1
/-- (a, b, ..) = a tuple of that length -/
def gTup (K : PySem.W.Frag) (n : Nat) (t : TGs) : TG := fun v σ H Q => ∃ a xs, v = .ref a ∧ SqT K H a xs ∧ xs.length = n ∧ t xs σ H Q
theorem pg_tup {es : List Expr} {k : Nat} {t : TGs} {n : Nat} (hc : X.calm = true) (h : PGs X es t)
    (hn : (assignEach es X.env).length = n := by rfl) (hst : (assignEach es X.env).findIdx? (·.1) = none := by rfl) : PG X (.Tuple es k pos) (gTup X.K n t) := by
  intro pins s σ H v u Q I r hw
  obtain ⟨a, xs, e1, hq, hl, hw⟩ := hw
  subst e1
  cases r
  obtain ⟨its, rv, ht, hz⟩ := I.tuple hq
  refine assign_Tuple_tuple (I.ok.hd hc) ht (by simp [hn, ← hl, rv.length]) hst fun h' hx => ?_
  have I1 : Inv X pins σ H { s with heap := h' } := I.kept (t' := s.toks) fun b o e => hx b o (Nat.ne_of_lt (Heap.lt_size e)) e
  exact h pins _ σ H xs _ Q I1 (by simpa using rv) hw
/-- o[i] = .. -/
def gSub (to ti : TE) (t : TSet) : TG := fun v σ H Q => to σ H fun o H1 => ti σ H1 fun i H2 => t o i v H2 fun H3 => Q σ H3
theorem pg_sub {o i : Expr} {to ti : TE} {t : TSet} (ho : PE X o to) (hi : PE X i ti) (hs : PSet X t)
    (ha : ∀ v, assign (.Subscript o i pos) X.env v = (do
      let ov ← holding [v] (eval o X.env)
      let iv ← holding [v, ov] (eval i X.env)
      standAt pos
      holding [v, ov, iv] (setItem ov iv v)
      release [v, ov, iv] []) := by intro _; rfl) : PG X (.Subscript o i pos) (gSub to ti t) := by
  intro pins s σ H v u Q I r h
  rw [ha]
  refine wpAny_bind (wpAny_holding (thn (ho pins s σ H _ I h) fun ov s1 ⟨x, H1, I1, r1, q1⟩ => ?_))
  refine wpAny_bind (wpAny_holding (thn (hi pins s1 σ H1 _ I1 q1) fun iv s2 ⟨y, H2, I2, r2, q2⟩ => ?_))
  refine wpAny_bind (wpAny_standAt (wpAny_bind (wpAny_holding (thn (hs pins s2 σ H2 x y v ov iv u _ I2 r1 r2 r q2) fun _ s3 ⟨H3, I3, q3⟩ => ?_))))
  exact wpAny_release ⟨σ, H3, I3, q3⟩
/-- target = value -/
def tAsg (te : TE) (g : TG) : TS := fun D σ H => te σ H fun x H1 => g x σ H1 D.nx
theorem ps_asg {tg e : Expr} {te : TE} {g : TG} (he : PE X e te) (hg : PG X tg g) (hs : swapsWithSole [tg] e pos.line X.env = pure false := by rfl) (hw : swappedStores [tg] e X.env = pure none := by rfl)
    (h1 : (assignEach [tg] X.env).map (·.2) = [assign tg X.env] := by rfl) : PS X (.Assign [tg] e pos) (tAsg te g) := by
  intro pins s σ H D I h
  refine wpAny_Assign_stores (thn (he pins s σ H _ I h) fun v s1 ⟨x, H1, I1, r1, q1⟩ => ?_) hs hw
  rw [h1]
  exact thn (hg pins s1 σ H1 x v _ I1 r1 q1) fun _ s2 q => q
/-- name = value -/
theorem ps_set {i : Nat} {x : Str} {e : Expr} {te : TE} {pos' : Pos} (hN : X.N.Nodup) (hi : X.N[i]? = some x) (hx : Loc X.env.scope x) (he : PE X e te) (hs : swapsWith e (some (.Name x pos')) pos.line X.env = pure false := by rfl) (hf : X.fn x = true ∨ X.env.scope.names.lookup x = some .local := by first | exact .inl rfl | exact .inr rfl | assumption) :
    PS X (.Assign [.Name x pos'] e pos) (tAsg te (gName i)) := by
  intro pins s σ H D I h
  refine wpAny_Assign_Name (thn (he pins s σ H _ I h) fun v s1 ⟨y, H1, I1, r1, q1⟩ => ?_) hs
  exact store_ok I1 hN hi hx r1 (fun s2 I2 => ⟨_, H1, I2, q1⟩) hf
end
/-! ### while -/
section
variable {X : Cx} {pos : Pos}
/-- the invariant W with its measure -/
def tWhile (c : TT) (tb : TS) : TS := fun D σ H => ∃ W : Nat → St → Hp → Prop, (∃ m, W m σ H) ∧ ∀ m σ H, W m σ H →
  c σ H fun b H1 => if b = true then ∃ N : St → Hp → Prop, (∀ σ' H', N σ' H' → ∃ m', m' < m ∧ W m' σ' H') ∧ tb { D with nx := N, ct := N, bk := D.nx } σ H1 else D.nx σ H1
theorem ps_while {c : Expr} {body : List Stmt} {tc : TT} {tb : TS} (hp : PassesOwn (model X.prog X.w) X.A X.env X.xe) (hc : PT X c tc) (hb : PSs X body tb) : PS X (.While c body [] pos) (tWhile tc tb) := by
  intro pins s σ H D I h
  obtain ⟨W, ⟨m0, w0⟩, turn⟩ := h
  refine wpAny_While (codeAny_whileLoop (fun n s' => ∃ σ' H', Inv X pins σ' H' s' ∧ W n σ' H') ?_ m0 ⟨σ, H, I, w0⟩)
  rintro n s1 ⟨σ1, H1, I1, w1⟩
  refine wpAny_passesOwn hp (thn (hc pins s1 σ1 H1 _ I1 (turn n σ1 H1 w1)) fun b s2 ⟨H2, I2, q2⟩ => ?_)
  cases b with
  | true =>
    obtain ⟨N, hN, q2⟩ := q2
    rw [if_pos rfl]
    refine wpAny_passesOwn hp (thn (hb pins s2 σ1 H2 _ I2 q2) fun f s3 q3 => ?_)
    cases f with
    | next =>
      obtain ⟨σ3, H3, I3, n3⟩ := q3
      obtain ⟨m', hm, w3⟩ := hN σ3 H3 n3
      exact ⟨m', hm, σ3, H3, I3, w3⟩
    | cont =>
      obtain ⟨σ3, H3, I3, n3⟩ := q3
      obtain ⟨m', hm, w3⟩ := hN σ3 H3 n3
      exact ⟨m', hm, σ3, H3, I3, w3⟩
    | brk => exact q3
    | ret v => exact q3
  | false =>
    rw [if_neg Bool.false_ne_true]
    exact wpAny_execs_nil ⟨σ1, H2, I2, q2⟩
end
/-! ### what a loop or a comprehension walks -/
/-- at turn i: it yields x (the heap may grow), or it stops -/
structure It where
  go : Nat → Hp → Prop
  yld : Nat → Hp → V → Hp → Prop
  stop : Nat → Hp → Prop
/-- the iterator's own objects may turn: they are not the frame's, not pinned, younger than the entry (or a comprehension's own) -/
def FpOk (X : Cx) (pins : List (Addr × Obj)) (H : Hp) (b : Addr) : Prop :=
  H b = none ∧ b ≠ X.env.locals ∧ b ∉ X.fs ∧ (b ∈ X.ex ∨ X.s_0.heap.objs.size ≤ b) ∧ (∀ x c, X.env.cells.lookup x = some c → c ≠ b) ∧ ∀ p ∈ X.pn ++ pins, p.1 ≠ b
theorem Inv.fpOk {X : Cx} {pins : List (Addr × Obj)} {σ : St} {H H' : Hp} {s : Shared} {b : Addr} (I : Inv X pins σ H s) (hb : s.heap.objs.size ≤ b) (hn : H' b = none) : FpOk X pins H' b := by
  refine ⟨hn, Nat.ne_of_gt (Nat.lt_of_lt_of_le I.lt hb), I.nofs hb, .inr (Nat.le_trans I.sz hb), fun x c e z => ?_, fun p hp z => ?_⟩
  · obtain ⟨v, q⟩ := I.cell x c e
    exact absurd (Nat.lt_of_lt_of_le q.lt (by rw [z]; exact hb)) (Nat.lt_irrefl _)
  · exact absurd (Nat.lt_of_lt_of_le (Heap.lt_size (I.pin p hp).1) (by rw [z]; exact hb)) (Nat.lt_irrefl _)
structure Turn (P : Program) (w : World) (K : PySem.W.Frag) (tg : Expr) (J : It) (fp : List Addr) (it : Addr) (tn : Nat → Heap → Prop) : Prop where
  mem : it ∈ fp
  obj : ∀ i h, tn i h → ∀ b ∈ fp, ∃ o, h.get? b = some o ∧ ∀ v, o.data ≠ .cell v
  keep : ∀ i h h', tn i h → (∀ b ∈ fp, ∀ o, h.get? b = some o → h'.get? b = some o) → tn i h'
  item : ∀ (X : Cx), X.prog = P → X.w = w → X.K = K → X.calm = true → ∀ (i : Nat) (pins : List (Addr × Obj)) (s : Shared) (σ : St) (H : Hp) (E : Value → Shared → Prop), Inv X pins σ H s → (∀ b ∈ fp, FpOk X pins H b) → tn i s.heap → J.go i H →
    wpAny (model P w) X.A (pyNext (.ref it)) (fun r s1 => ∃ u, r = some u ∧
      wpAny (model P w) X.A (letOwnedTupleGo tg (.ref it) u) (fun _ s2 => ∃ x H', Inv X pins σ H' s2 ∧ RelV x u ∧ J.yld i H x H' ∧ tn (i + 1) s2.heap ∧ ∀ b ∈ fp, H' b = none) E s1) E s
  done : ∀ (X : Cx), X.prog = P → X.w = w → X.K = K → X.calm = true → ∀ (i : Nat) (pins : List (Addr × Obj)) (s : Shared) (σ : St) (H : Hp) (E : Value → Shared → Prop), Inv X pins σ H s → (∀ b ∈ fp, FpOk X pins H b) → tn i s.heap → J.stop i H →
    wpAny (model P w) X.A (pyNext (.ref it)) (fun r s1 => r = none ∧ Inv X pins σ H s1) E s
  self : ∀ (A : Around) (i : Nat) (s : Shared) (Q : Value → Shared → Prop) (E : Value → Shared → Prop), tn i s.heap → Q (.ref it) s → wpAny (model P w) A (pyIter (.ref it)) Q E s
abbrev TI := St → Hp → (It → Hp → Prop) → Prop
/-- an iterator has come -/
def PIE (X : Cx) (pins : List (Addr × Obj)) (σ : St) (tg : Expr) (R : It → Hp → Prop) (itv : Value) (s2 : Shared) : Prop :=
  ∃ (it : Addr) (fp : List Addr) (tn : Nat → Heap → Prop) (J : It) (H' : Hp), itv = .ref it ∧ Inv X pins σ H' s2 ∧ Turn X.prog X.w X.K tg J fp it tn ∧ tn 0 s2.heap ∧ (∀ b ∈ fp, FpOk X pins H' b) ∧ R J H'
def PI (X : Cx) (tg iter : Expr) (wi : TI) : Prop :=
  ∀ (pins : List (Addr × Obj)) (s : Shared) (σ : St) (H : Hp) (R : It → Hp → Prop), Inv X pins σ H s → wi σ H R →
    wpAny (model X.prog X.w) X.A (eval iter X.env) (fun v s1 => wpAny (model X.prog X.w) X.A (pyIter v) (PIE X pins σ tg R) X.xe s1) X.xe s
/-- the step ahead of the store is nothing for an iterator that keeps no tuple -/
theorem go_of {M : Model} {A : Around} {E : Value → Shared → Prop} {s : Shared} {tg : Expr} {it : Addr} {u : Value} {o : Obj} {n : String} {vs : Array Value} {Q : Unit → Shared → Prop} (ho : s.heap.get? it = some o) (hc : o.cls = .type n) (hd : o.data = .fields vs)
    (hn : ["enumerate", "zip", "dict_itemiterator", "dict_reverseitemiterator", "odict_iterator", "itertools.zip_longest", "itertools.pairwise"].contains n = false) (hQ : Q () s) : wpAny M A (letOwnedTupleGo tg (.ref it) u) Q E s := by
  unfold letOwnedTupleGo
  cases tg <;> first
    | exact wpAny_pure hQ
    | (cases u <;> first
        | exact wpAny_pure hQ
        | (refine wpAny_bind (wpAny_load ho ?_)
           rw [hc, hd]
           show wpAny M A (if (["enumerate", "zip", "dict_itemiterator", "dict_reverseitemiterator", "odict_iterator", "itertools.zip_longest", "itertools.pairwise"].contains n && vs[0]? == some (rawInt _)) = true then _ else _) Q E s
           rw [if_neg (by intro h; rw [hn, Bool.false_and] at h; cases h)]
           exact wpAny_pure hQ))
/-- the list at a, as it stands at each turn (a loop may append to it) -/
def Itl (K : PySem.W.Frag) (a : Addr) : It :=
  ⟨fun i H => ∃ xs x, SqL K H a xs ∧ xs[i]? = some x, fun i H x H' => H' = H ∧ ∀ xs, SqL K H a xs → xs[i]? = some x, fun i H => ∃ xs, SqL K H a xs ∧ xs.length ≤ i⟩
def Itt (K : PySem.W.Frag) (a : Addr) : It :=
  ⟨fun i H => ∃ xs x, SqT K H a xs ∧ xs[i]? = some x, fun i H x H' => H' = H ∧ ∀ xs, SqT K H a xs → xs[i]? = some x, fun i H => ∃ xs, SqT K H a xs ∧ xs.length ≤ i⟩
/-- lo, lo + 1, .. (n of them) -/
def Itr (lo : Int) (n : Nat) : It := ⟨fun i _ => i < n, fun i H x H' => H' = H ∧ x = .int (lo + i), fun i _ => n ≤ i⟩
theorem turn_list {P : Program} {w : World} {K : PySem.W.Frag} {tg : Expr} (a it : Addr) : Turn P w K tg (Itl K a) [it] it (fun i h => h.IsListIter it a i) where
  mem := by simp
  obj := fun i h st b hb => by
    have e : b = it := by simpa using hb
    subst e
    obtain ⟨o, e, c, d⟩ := st
    exact ⟨o, e, fun v z => by rw [d] at z; cases z⟩
  keep := fun i h h' st k => st.at fun o e => k it (by simp) o e
  item := by
    intro X hP hw hK hc i pins s σ H E I hf st hg
    subst hP hw hK
    obtain ⟨xs, x, hq, hx⟩ := hg
    obtain ⟨its, rv, p, hz⟩ := I.list hq
    obtain ⟨u, hu, ru⟩ := rv.get hx
    obtain ⟨f0, f1, f2, f3, f4, f5⟩ := hf it (by simp)
    refine wpAny_pyNext_list_item st p.isList (x := u) (by simpa using hu) fun h' st' sb => ?_
    have I1 : Inv X pins σ H { s with heap := h' } := I.turned (t' := s.toks) (fun b o hb e => (sb.2 b hb).trans e) f0 f1 f3 f4 f5
    obtain ⟨o, e, c, d⟩ := id st'
    exact ⟨u, rfl, go_of (s := { s with heap := h' }) e c d (by decide) ⟨x, H, I1, ru, ⟨rfl, fun ys hy => by rw [I.list_inj hy hq]; exact hx⟩, st', fun b hb => (hf b hb).1⟩⟩
  done := by
    intro X hP hw hK hc i pins s σ H E I hf st hg
    subst hP hw hK
    obtain ⟨xs, hq, hx⟩ := hg
    obtain ⟨its, rv, p, hz⟩ := I.list hq
    obtain ⟨f0, f1, f2, f3, f4, f5⟩ := hf it (by simp)
    have hl := rv.length
    exact wpAny_pyNext_list_end (I.ok.hd hc) st p.isList (by simp; omega) fun h' eb => ⟨rfl, I.turned (t' := s.toks) (fun b o hb e => eb b o hb e) f0 f1 f3 f4 f5⟩
  self := fun _ _ _ _ _ st h => wpAny_pyIter_listiter st h
theorem turn_tuple {P : Program} {w : World} {K : PySem.W.Frag} {tg : Expr} (a it : Addr) : Turn P w K tg (Itt K a) [it] it (fun i h => h.IsTupleIter it a i) where
  mem := by simp
  obj := fun i h st b hb => by
    have e : b = it := by simpa using hb
    subst e
    obtain ⟨o, e, c, d⟩ := st
    exact ⟨o, e, fun v z => by rw [d] at z; cases z⟩
  keep := fun i h h' st k => st.at fun o e => k it (by simp) o e
  item := by
    intro X hP hw hK hc i pins s σ H E I hf st hg
    subst hP hw hK
    obtain ⟨xs, x, hq, hx⟩ := hg
    obtain ⟨its, rv, p, hz⟩ := I.tuple hq
    obtain ⟨u, hu, ru⟩ := rv.get hx
    obtain ⟨f0, f1, f2, f3, f4, f5⟩ := hf it (by simp)
    refine wpAny_pyNext_tuple_item st (show s.heap.IsTuple a its.toArray from p) (x := u) (by simpa using hu) fun h' st' sb => ?_
    have I1 : Inv X pins σ H { s with heap := h' } := I.turned (t' := s.toks) (fun b o hb e => (sb.2 b hb).trans e) f0 f1 f3 f4 f5
    obtain ⟨o, e, c, d⟩ := id st'
    exact ⟨u, rfl, go_of (s := { s with heap := h' }) e c d (by decide) ⟨x, H, I1, ru, ⟨rfl, fun ys hy => by rw [I.tuple_inj hy hq]; exact hx⟩, st', fun b hb => (hf b hb).1⟩⟩
  done := by
    intro X hP hw hK hc i pins s σ H E I hf st hg
    subst hP hw hK
    obtain ⟨xs, hq, hx⟩ := hg
    obtain ⟨its, rv, p, hz⟩ := I.tuple hq
    obtain ⟨f0, f1, f2, f3, f4, f5⟩ := hf it (by simp)
    have hl := rv.length
    exact wpAny_pyNext_tuple_end (I.ok.hd hc) st (show s.heap.IsTuple a its.toArray from p) (by simp; omega) fun h' eb => ⟨rfl, I.turned (t' := s.toks) (fun b o hb e => eb b o hb e) f0 f1 f3 f4 f5⟩
  self := fun _ _ _ _ _ st h => wpAny_pyIter_tupleiter st h
theorem turn_range {P : Program} {w : World} {K : PySem.W.Frag} {tg : Expr} (it : Addr) (lo : Int) (n : Nat) : Turn P w K tg (Itr lo n) [it] it (fun i h => IsRangeIter h it (lo + (i : Nat) * 1) ((n : Int) - (i : Nat)) 1) where
  mem := by simp
  obj := fun i h st b hb => by
    have e : b = it := by simpa using hb
    subst e
    exact ⟨_, st, fun v z => by
      have z' : Data.fields _ = Data.cell v := z
      cases z'⟩
  keep := fun i h h' st k => k it (by simp) _ st
  item := by
    intro X hP hw hK hc i pins s σ H E I hf st hg
    subst hP hw hK
    obtain ⟨f0, f1, f2, f3, f4, f5⟩ := hf it (by simp)
    have W := Walks.range (prog := X.prog) (w := X.w) (I.ok.hd hc) it lo 1 n
    refine W.item i s _ _ hg st fun v h' tk hv st' kk => ?_
    obtain ⟨t, rfl⟩ := hv
    have I1 : Inv X pins σ H { s with heap := h', toks := tk } := I.turned (fun b o hb e => kk b o (by simpa using hb) e) f0 f1 f3 f4 f5
    refine ⟨_, rfl, go_of (s := { s with heap := h', toks := tk }) (n := "range_iterator") st' rfl rfl (by decide) ⟨.int (lo + i), H, I1, ⟨t, ?_⟩, ⟨rfl, rfl⟩, st', fun b hb => (hf b hb).1⟩⟩
    rw [Int.mul_one]
  done := by
    intro X hP hw hK hc i pins s σ H E I hf st hg
    subst hP hw hK
    obtain ⟨f0, f1, f2, f3, f4, f5⟩ := hf it (by simp)
    exact wpAny_pyNext_range_end (I.ok.hd hc) st (by have : n ≤ i := hg; omega) fun h' eb => ⟨rfl, I.turned (t' := s.toks) (fun b o hb e => eb b o hb e) f0 f1 f3 f4 f5⟩
  self := fun _ _ _ _ _ st h => wpAny_pyIter_rangeiter st h
end L2
namespace L2
open PySem PySem.Spec PyProof.Rows
section
variable {X : Cx} {tg : Expr}
def iList (K : PySem.W.Frag) (tl : TE) : TI := fun σ H R => tl σ H fun x H1 => ∃ a, x = .ref a ∧ (∃ xs, SqL K H1 a xs) ∧ R (Itl K a) H1
def iTup (K : PySem.W.Frag) (tl : TE) : TI := fun σ H R => tl σ H fun x H1 => ∃ a, x = .ref a ∧ (∃ xs, SqT K H1 a xs) ∧ R (Itt K a) H1
theorem pi_list {l : Expr} {tl : TE} (hl : PE X l tl) : PI X tg l (iList X.K tl) := by
  intro pins s σ H R I h
  refine thn (hl pins s σ H _ I h) fun v s1 ⟨x, H1, I1, r1, q1⟩ => ?_
  obtain ⟨a, e, ⟨xs, hq⟩, q⟩ := q1
  subst e
  cases r1
  obtain ⟨its, rv, p, hz⟩ := I1.list hq
  refine wpAny_pyIter_list p.isList ?_
  refine ⟨s1.heap.objs.size, [s1.heap.objs.size], _, _, H1, rfl, I1.kept (t' := s1.toks) fun b o e => Heap.get?_push_of_some _ e, turn_list a _, ⟨_, Heap.get?_push_size _ rfl, rfl, rfl⟩, fun b hb => ?_, q⟩
  have e : b = s1.heap.objs.size := by simpa using hb
  subst e
  exact I1.fpOk (Nat.le_refl _) (I1.hok.fresh (Nat.le_refl _))
theorem pi_tup {l : Expr} {tl : TE} (hl : PE X l tl) : PI X tg l (iTup X.K tl) := by
  intro pins s σ H R I h
  refine thn (hl pins s σ H _ I h) fun v s1 ⟨x, H1, I1, r1, q1⟩ => ?_
  obtain ⟨a, e, ⟨xs, hq⟩, q⟩ := q1
  subst e
  cases r1
  obtain ⟨its, rv, p, hz⟩ := I1.tuple hq
  refine wpAny_pyIter_tuple (show s1.heap.IsTuple a its.toArray from p) ?_
  refine ⟨s1.heap.objs.size, [s1.heap.objs.size], _, _, H1, rfl, I1.kept (t' := s1.toks) fun b o e => Heap.get?_push_of_some _ e, turn_tuple a _, ⟨_, Heap.get?_push_size _ rfl, rfl, rfl⟩, fun b hb => ?_, q⟩
  have e : b = s1.heap.objs.size := by simpa using hb
  subst e
  exact I1.fpOk (Nat.le_refl _) (I1.hok.fresh (Nat.le_refl _))
/-- a range object just made, walked -/
theorem range_it {pins : List (Addr × Obj)} {σ : St} {H : Hp} {s : Shared} {R : It → Hp → Prop} {E : Value → Shared → Prop} {lo hi : Int} {t u v : Tok} {tk : Nat} (I : Inv X pins σ H s) (h1 : -(2 ^ 62) ≤ lo) (h2 : lo < 2 ^ 62) (h3 : -(2 ^ 62) ≤ hi) (h4 : hi < 2 ^ 62)
    (q : R (Itr lo (hi - lo).toNat) H) : wpAny (model X.prog X.w) X.A (pyIter (.ref s.heap.objs.size)) (PIE X pins σ tg R) E { s with heap := s.heap.push { cls := .type "range", data := .fields #[.int lo t, .int hi u, .int 1 v] }, toks := tk } := by
  refine wpAny_pyIter_range (IsRange.new ..) (small_one h1 h2 h3 h4) ?_
  have I1 : Inv X pins σ H { s with heap := s.heap.push { cls := .type "range", data := .fields #[.int lo t, .int hi u, .int 1 v] }, toks := tk } := I.kept fun b o e => Heap.get?_push_of_some _ e
  refine ⟨(s.heap.push { cls := .type "range", data := .fields #[.int lo t, .int hi u, .int 1 v] }).objs.size, [(s.heap.push { cls := .type "range", data := .fields #[.int lo t, .int hi u, .int 1 v] }).objs.size], _, _, H, rfl,
    I1.kept (t' := tk) fun b o e => Heap.get?_push_of_some _ e, turn_range _ lo (hi - lo).toNat, ?_, fun b hb => ?_, q⟩
  · have e1 : lo + ((0 : Nat) : Int) * 1 = lo := by simp
    have e2 : (((hi - lo).toNat : Nat) : Int) - ((0 : Nat) : Int) = Builtin.Range.rangeSize lo hi 1 := by rw [rangeSize_one]; split <;> omega
    show IsRangeIter _ _ (lo + ((0 : Nat) : Int) * 1) ((((hi - lo).toNat : Nat) : Int) - ((0 : Nat) : Int)) 1
    rw [e1, e2]
    exact Heap.get?_push_size _ rfl
  · have e : b = (s.heap.push { cls := .type "range", data := .fields #[.int lo t, .int hi u, .int 1 v] }).objs.size := by simpa using hb
    subst e
    exact I1.fpOk (Nat.le_refl _) (I1.hok.fresh (Nat.le_refl _))
def iRng1 (ta : TA) : TI := fun σ H R => ta σ H fun vs H1 => ∃ j : Int, vs = [.int j] ∧ -(2 ^ 62) ≤ j ∧ j < 2 ^ 62 ∧ R (Itr 0 j.toNat) H1
theorem pi_range1 {a : Expr} {ta : TA} {p pos : Pos} (hg : Gl X "range") (hm : X.mg "range" = none) (ha : PA X [a] ta) (hs : starEach [a] X.env = [(false, eval a X.env)] := by rfl) : PI X tg (.Call (.Name "range" p) [a] [] pos) (iRng1 ta) := by
  intro pins s σ H R I h
  refine Call_ (ld_blt I hg hm boot_range (PyProof.Rows.callWith_type1 (thn (ha pos pins s σ H _ I h) fun us s1 ⟨vs, H1, I1, r1, q1⟩ => ?_) hs rfl))
  obtain ⟨j, e, q1, q2, q⟩ := q1
  subst e
  cases r1 with
  | cons r rr =>
    cases rr
    obtain ⟨t, rfl⟩ := r
    exact call_range_1 (range_it I1 (by omega) (by omega) q1 q2 (by simpa using q))
/-! ### for -/
/-- W: the invariant by the turn and a measure; N: what the body is to reach -/
def tFor (wi : TI) (g : TG) (tb : TS) : TS := fun D σ H => wi σ H fun J H1 => ∃ W : Nat → Nat → St → Hp → Prop, (∃ m, W 0 m σ H1) ∧ ∀ i m σ H, W i m σ H →
  (J.stop i H ∧ D.nx σ H) ∨ (J.go i H ∧ ∃ N : St → Hp → Prop, (∀ σ' H', N σ' H' → ∃ m', m' < m ∧ W (i + 1) m' σ' H') ∧ ∀ x H', J.yld i H x H' → g x σ H' fun σ2 H2 => tb { D with nx := N, ct := N, bk := D.nx } σ2 H2)
/-- the records at fp as they stand -/
def pinsAt (fp : List Addr) (h : Heap) : List (Addr × Obj) := fp.filterMap fun b => (h.get? b).map fun o => (b, o)
theorem mem_pinsAt {fp : List Addr} {h : Heap} {b : Addr} {o : Obj} (hb : b ∈ fp) (e : h.get? b = some o) : (b, o) ∈ pinsAt fp h := List.mem_filterMap.mpr ⟨b, hb, by rw [e]; rfl⟩
theorem of_pinsAt {fp : List Addr} {h : Heap} {p : Addr × Obj} (hp : p ∈ pinsAt fp h) : p.1 ∈ fp ∧ h.get? p.1 = some p.2 := by
  obtain ⟨b, hb, e⟩ := List.mem_filterMap.mp hp
  cases q : h.get? b with
  | none => rw [q] at e; cases e
  | some o =>
    rw [q] at e
    have e' : (b, o) = p := Option.some.inj e
    subst e'
    exact ⟨hb, q⟩
theorem Inv.pinned {pins : List (Addr × Obj)} {σ : St} {H : Hp} {s : Shared} {fp : List Addr} (I : Inv X pins σ H s) (hf : ∀ b ∈ fp, FpOk X pins H b) (ho : ∀ b ∈ fp, ∃ o, s.heap.get? b = some o ∧ ∀ v, o.data ≠ .cell v) : Inv X (pins ++ pinsAt fp s.heap) σ H s :=
  I.pins_of fun p hp => (List.mem_append.mp hp).elim (fun z => I.pin p (List.mem_append_right _ z)) fun z => by
    obtain ⟨hb, e⟩ := of_pinsAt z
    obtain ⟨f0, f1, f2, _⟩ := hf p.1 hb
    obtain ⟨o, e', d⟩ := ho p.1 hb
    rw [e] at e'; cases e'
    exact ⟨e, f0, f1, f2, d⟩
theorem Inv.unpinned {pins pl : List (Addr × Obj)} {σ : St} {H : Hp} {s : Shared} (I : Inv X (pins ++ pl) σ H s) : Inv X pins σ H s := I.pins_of fun p hp => I.pin p (List.mem_append_right _ (List.mem_append_left _ hp))
theorem ps_for {iter : Expr} {body : List Stmt} {wi : TI} {g : TG} {tb : TS} {pos : Pos} (hp : PassesOwn (model X.prog X.w) X.A X.env X.xe) (hc : X.calm = true) (hi : PI X tg iter wi) (hg : PG X tg g) (hb : PSs X body tb)
    (hs : ∀ x, foldedSetIterable iter X.env x = pure x := by intro _; rfl) : PS X (.For tg iter body [] pos) (tFor wi g tb) := by
  intro pins s σ H D I h
  refine wpAny_For (thn (hi pins s σ H _ I h) fun v s1 h1 => thn h1 fun itv s2 h2 => ?_) hs
  obtain ⟨it, fp, tn, J, H2, e, I2, T, st2, f2, W, ⟨m0, w0⟩, turn⟩ := h2
  subst e
  -- what stays true of the iterator's objects through the loop
  have stat : ∀ {H' : Hp}, (∀ b ∈ fp, H' b = none) → ∀ b ∈ fp, FpOk X pins H' b := fun hn b hb => ⟨hn b hb, (f2 b hb).2⟩
  refine codeAny_forLoop_any (fun n s' => ∃ i σ' H', Inv X pins σ' H' s' ∧ tn i s'.heap ∧ (∀ b ∈ fp, H' b = none) ∧ W i n σ' H') ?_ m0 ⟨0, σ, H2, I2, st2, fun b hb => (f2 b hb).1, w0⟩
  rintro n s3 ⟨i, σ3, H3, I3, st3, fr3, w3⟩
  rcases turn i n σ3 H3 w3 with ⟨stop, qn⟩ | ⟨go, N, hN, step⟩
  · refine wpAny_passesOwn hp (thn (T.done X rfl rfl rfl hc i pins s3 σ3 H3 X.xe I3 (stat fr3) st3 stop) fun r s4 ⟨hr, I4⟩ => ?_)
    subst hr
    exact wpAny_execs_nil ⟨σ3, H3, I4, qn⟩
  · refine wpAny_passesOwn hp (thn (T.item X rfl rfl rfl hc i pins s3 σ3 H3 X.xe I3 (stat fr3) st3 go) fun r s4 ⟨u, hr, h4⟩ => ?_)
    subst hr
    refine wpAny_passesOwn hp (thn h4 fun _ s5 ⟨x, H5, I5, r5, y5, st5, fr5⟩ => ?_)
    have I5' := I5.pinned (stat fr5) (T.obj _ _ st5)
    refine wpAny_passesOwn hp (thn (hg _ s5 σ3 H5 x u _ I5' r5 (step x H5 y5)) fun _ s6 ⟨σ6, H6, I6, q6⟩ => ?_)
    refine wpAny_passesOwn hp (thn (hb _ s6 σ6 H6 _ I6 q6) fun f s7 q7 => ?_)
    have again : ∀ {σ7 : St} {H7 : Hp}, Inv X (pins ++ pinsAt fp s5.heap) σ7 H7 s7 → N σ7 H7 → ∃ m, m < n ∧ ∃ i σ' H', Inv X pins σ' H' s7 ∧ tn i s7.heap ∧ (∀ b ∈ fp, H' b = none) ∧ W i m σ' H' := fun {σ7 H7} I7 n7 => by
      obtain ⟨m', hm, w7⟩ := hN σ7 H7 n7
      refine ⟨m', hm, i + 1, σ7, H7, I7.unpinned, T.keep _ _ _ st5 fun b hb o e => (I7.pin (b, o) (List.mem_append_right _ (List.mem_append_right _ (mem_pinsAt hb e)))).1, fun b hb => ?_, w7⟩
      obtain ⟨o, e, d⟩ := T.obj _ _ st5 b hb
      exact (I7.pin (b, o) (List.mem_append_right _ (List.mem_append_right _ (mem_pinsAt hb e)))).2.1
    cases f with
    | next => obtain ⟨σ7, H7, I7, n7⟩ := q7; exact again I7 n7
    | cont => obtain ⟨σ7, H7, I7, n7⟩ := q7; exact again I7 n7
    | brk => obtain ⟨σ7, H7, I7, q7⟩ := q7; exact ⟨σ7, H7, I7.unpinned, q7⟩
    | ret v => obtain ⟨x7, σ7, H7, I7, r7, q7⟩ := q7; exact ⟨x7, σ7, H7, I7.unpinned, r7, q7⟩
end
/-! ### the forms one uses -/
/-- over a list that the body leaves as it is -/
theorem for_list {K : PySem.W.Frag} {a : Addr} {xs : List V} {g : TG} {tb : TS} {D : Ends} {σ : St} {H : Hp} (Pv : Nat → St → Hp → Prop) (h0 : Pv 0 σ H) (hl : ∀ i σ H, i ≤ xs.length → Pv i σ H → SqL K H a xs)
    (hs : ∀ i x σ H, xs[i]? = some x → Pv i σ H → g x σ H fun σ2 H2 => tb { D with nx := Pv (i + 1), ct := Pv (i + 1), bk := D.nx } σ2 H2) (hd : ∀ σ H, Pv xs.length σ H → D.nx σ H) :
    ∃ W : Nat → Nat → St → Hp → Prop, (∃ m, W 0 m σ H) ∧ ∀ i m σ H, W i m σ H →
      ((Itl K a).stop i H ∧ D.nx σ H) ∨ ((Itl K a).go i H ∧ ∃ N : St → Hp → Prop, (∀ σ' H', N σ' H' → ∃ m', m' < m ∧ W (i + 1) m' σ' H') ∧ ∀ x H', (Itl K a).yld i H x H' → g x σ H' fun σ2 H2 => tb { D with nx := N, ct := N, bk := D.nx } σ2 H2) := by
  refine ⟨fun i m σ H => m = xs.length - i ∧ i ≤ xs.length ∧ Pv i σ H, ⟨xs.length, by simp, Nat.zero_le _, h0⟩, ?_⟩
  rintro i m σ H ⟨rfl, hi, p⟩
  have q := hl i σ H hi p
  by_cases hlt : i < xs.length
  · refine .inr ⟨⟨xs, xs[i], q, by simp [hlt]⟩, Pv (i + 1), fun σ' H' p' => ⟨xs.length - (i + 1), by omega, rfl, hlt, p'⟩, fun x H' y => ?_⟩
    obtain ⟨e, y⟩ := y
    subst e
    exact hs i x σ _ (y xs q) p
  · have e : i = xs.length := by omega
    subst e
    exact .inl ⟨⟨xs, q, Nat.le_refl _⟩, hd σ H p⟩
theorem for_tup {K : PySem.W.Frag} {a : Addr} {xs : List V} {g : TG} {tb : TS} {D : Ends} {σ : St} {H : Hp} (Pv : Nat → St → Hp → Prop) (h0 : Pv 0 σ H) (hl : ∀ i σ H, i ≤ xs.length → Pv i σ H → SqT K H a xs)
    (hs : ∀ i x σ H, xs[i]? = some x → Pv i σ H → g x σ H fun σ2 H2 => tb { D with nx := Pv (i + 1), ct := Pv (i + 1), bk := D.nx } σ2 H2) (hd : ∀ σ H, Pv xs.length σ H → D.nx σ H) :
    ∃ W : Nat → Nat → St → Hp → Prop, (∃ m, W 0 m σ H) ∧ ∀ i m σ H, W i m σ H →
      ((Itt K a).stop i H ∧ D.nx σ H) ∨ ((Itt K a).go i H ∧ ∃ N : St → Hp → Prop, (∀ σ' H', N σ' H' → ∃ m', m' < m ∧ W (i + 1) m' σ' H') ∧ ∀ x H', (Itt K a).yld i H x H' → g x σ H' fun σ2 H2 => tb { D with nx := N, ct := N, bk := D.nx } σ2 H2) := by
  refine ⟨fun i m σ H => m = xs.length - i ∧ i ≤ xs.length ∧ Pv i σ H, ⟨xs.length, by simp, Nat.zero_le _, h0⟩, ?_⟩
  rintro i m σ H ⟨rfl, hi, p⟩
  have q := hl i σ H hi p
  by_cases hlt : i < xs.length
  · refine .inr ⟨⟨xs, xs[i], q, by simp [hlt]⟩, Pv (i + 1), fun σ' H' p' => ⟨xs.length - (i + 1), by omega, rfl, hlt, p'⟩, fun x H' y => ?_⟩
    obtain ⟨e, y⟩ := y
    subst e
    exact hs i x σ _ (y xs q) p
  · have e : i = xs.length := by omega
    subst e
    exact .inl ⟨⟨xs, q, Nat.le_refl _⟩, hd σ H p⟩
theorem for_range {lo : Int} {n : Nat} {g : TG} {tb : TS} {D : Ends} {σ : St} {H : Hp} (Pv : Nat → St → Hp → Prop) (h0 : Pv 0 σ H)
    (hs : ∀ i σ H, i < n → Pv i σ H → g (.int (lo + i)) σ H fun σ2 H2 => tb { D with nx := Pv (i + 1), ct := Pv (i + 1), bk := D.nx } σ2 H2) (hd : ∀ σ H, Pv n σ H → D.nx σ H) :
    ∃ W : Nat → Nat → St → Hp → Prop, (∃ m, W 0 m σ H) ∧ ∀ i m σ H, W i m σ H →
      ((Itr lo n).stop i H ∧ D.nx σ H) ∨ ((Itr lo n).go i H ∧ ∃ N : St → Hp → Prop, (∀ σ' H', N σ' H' → ∃ m', m' < m ∧ W (i + 1) m' σ' H') ∧ ∀ x H', (Itr lo n).yld i H x H' → g x σ H' fun σ2 H2 => tb { D with nx := N, ct := N, bk := D.nx } σ2 H2) := by
  refine ⟨fun i m σ H => m = n - i ∧ i ≤ n ∧ Pv i σ H, ⟨n, by simp, Nat.zero_le _, h0⟩, ?_⟩
  rintro i m σ H ⟨rfl, hi, p⟩
  by_cases hlt : i < n
  · refine .inr ⟨hlt, Pv (i + 1), fun σ' H' p' => ⟨n - (i + 1), by omega, rfl, hlt, p'⟩, fun x H' y => ?_⟩
    obtain ⟨e, y⟩ := y
    subst e y
    exact hs i σ _ hlt p
  · have e : i = n := by omega
    subst e
    exact .inl ⟨Nat.le_refl _, hd σ H p⟩
end L2
namespace L2
open PySem PySem.Spec PyProof.Rows
abbrev R2 := V → V → Hp → VK → Prop
/-- a two-place operation on values: f is binaryOp op, inplaceOp op or compareOp op -/
def OpR (X : Cx) (f : Value → Value → Sem Value) (r : R2) : Prop :=
  ∀ (pins : List (Addr × Obj)) (s : Shared) (σ : St) (H : Hp) (x y : V) (v u : Value) (Q : VK), Inv X pins σ H s → RelV x v → RelV y u → r x y H Q →
    wpAny (model X.prog X.w) X.A (f v u) (EP X pins σ Q) X.xe s
/-- a one-place operation -/
def UnR (X : Cx) (f : Value → Sem Value) (r : V → Hp → VK → Prop) : Prop :=
  ∀ (pins : List (Addr × Obj)) (s : Shared) (σ : St) (H : Hp) (x : V) (v : Value) (Q : VK), Inv X pins σ H s → RelV x v → r x H Q →
    wpAny (model X.prog X.w) X.A (f v) (EP X pins σ Q) X.xe s
/-- a call of a value that is known (a builtin, a type) with values -/
def CallR (X : Cx) (f : Value) (r : List V → Hp → VK → Prop) : Prop :=
  ∀ (pins : List (Addr × Obj)) (s : Shared) (σ : St) (H : Hp) (xs : List V) (us : List Value) (Q : VK), Inv X pins σ H s → Vals xs us → r xs H Q →
    wpAny (model X.prog X.w) X.A (call f us) (EP X pins σ Q) X.xe s
def tOp (r : R2) (ta tb : TE) : TE := fun σ H Q => ta σ H fun x H1 => tb σ H1 fun y H2 => r x y H2 Q
def tUn (r : V → Hp → VK → Prop) (ta : TE) : TE := fun σ H Q => ta σ H fun x H1 => r x H1 Q
/-- ints in, under C, and a value out -/
def rI (C : Int → Int → Prop) (g : Int → Int → V) : R2 := fun x y H Q => ∃ i j, x = .int i ∧ y = .int j ∧ C i j ∧ Q (g i j) H
def rI0 (g : Int → Int → V) : R2 := fun x y H Q => ∃ i j, x = .int i ∧ y = .int j ∧ Q (g i j) H
def rU (g : Int → V) : V → Hp → VK → Prop := fun x H Q => ∃ i, x = .int i ∧ Q (g i) H
section
variable {X : Cx} {a b c : Expr} {ta tb tc : TE} {pos : Pos}
theorem binT (ha : PE X a ta) (hb : PE X b tb) {pins : List (Addr × Obj)} {s : Shared} {σ : St} {H : Hp} {R : V → V → Hp → Prop} (I : Inv X pins σ H s)
    (h : ta σ H fun x H1 => tb σ H1 fun y H2 => R x y H2) {Q : Value → Shared → Prop} {f : Value → Value → Sem Value}
    (hf : ∀ v u s2 x y H2, Inv X pins σ H2 s2 → RelV x v → RelV y u → R x y H2 → wpAny (model X.prog X.w) X.A (f v u) Q X.xe s2) :
    wpAny (model X.prog X.w) X.A (eval a X.env) (fun v s₁ => wpAny (model X.prog X.w) X.A (eval b X.env) (fun u s₂ => wpAny (model X.prog X.w) X.A (f v u) Q X.xe s₂) X.xe s₁) X.xe s := by
  refine thn (ha pins s σ H _ I h) fun v s1 ⟨x, H1, I1, r1, q1⟩ => ?_
  refine thn (hb pins s1 σ H1 _ I1 q1) fun u s2 ⟨y, H2, I2, r2, q2⟩ => ?_
  exact hf v u s2 x y H2 I2 r1 r2 q2
theorem pe_op {op : Operator} {r : R2} (ho : OpR X (binaryOp op) r) (ha : PE X a ta) (hb : PE X b tb) : PE X (.BinOp a op b pos) (tOp r ta tb) := by
  intro pins s σ H Q I h
  exact wpAny_BinOp (binT ha hb I h fun v u s2 x y H2 I2 rx ry q => ho pins s2 σ H2 x y v u Q I2 rx ry q)
theorem pe_un {op : UnaryOp} {r : V → Hp → VK → Prop} (ho : UnR X (unaryOp op) r) (ha : PE X a ta) : PE X (.UnaryOp op a pos) (tUn r ta) := by
  intro pins s σ H Q I h
  exact UnaryOp_ (thn (ha pins s σ H _ I h) fun v s1 ⟨x, H1, I1, r1, q1⟩ => ho pins s1 σ H1 x v Q I1 r1 q1)
/-! ### ints -/
theorem opI {f : Value → Value → Sem Value} {C : Int → Int → Prop} {g : Int → Int → Int}
    (rule : ∀ (i j : Int) (t u : Tok) (s : Shared) (Q : Value → Shared → Prop) (E : Value → Shared → Prop), C i j → Q (.int (g i j) s.toks) { s with toks := s.toks + 1 } → wpAny (model X.prog X.w) X.A (f (.int i t) (.int j u)) Q E s) :
    OpR X f (rI C fun i j => .int (g i j)) := by
  intro pins s σ H x y v u Q I rx ry h
  obtain ⟨i, j, rfl, rfl, hc, q⟩ := h
  obtain ⟨t, rfl⟩ := rx
  obtain ⟨t', rfl⟩ := ry
  exact rule i j t t' s _ _ hc ⟨.int (g i j), H, I.tok _, ⟨_, rfl⟩, q⟩
theorem opI0 {f : Value → Value → Sem Value} {g : Int → Int → Int}
    (rule : ∀ (i j : Int) (t u : Tok) (s : Shared) (Q : Value → Shared → Prop) (E : Value → Shared → Prop), Q (.int (g i j) s.toks) { s with toks := s.toks + 1 } → wpAny (model X.prog X.w) X.A (f (.int i t) (.int j u)) Q E s) :
    OpR X f (rI0 fun i j => .int (g i j)) := by
  intro pins s σ H x y v u Q I rx ry h
  obtain ⟨i, j, rfl, rfl, q⟩ := h
  obtain ⟨t, rfl⟩ := rx
  obtain ⟨t', rfl⟩ := ry
  exact rule i j t t' s _ _ ⟨.int (g i j), H, I.tok _, ⟨_, rfl⟩, q⟩
theorem opB0 {f : Value → Value → Sem Value} {g : Int → Int → Bool}
    (rule : ∀ (i j : Int) (t u : Tok) (s : Shared) (Q : Value → Shared → Prop) (E : Value → Shared → Prop), Q (.bool (g i j)) s → wpAny (model X.prog X.w) X.A (f (.int i t) (.int j u)) Q E s) :
    OpR X f (rI0 fun i j => .bl (g i j)) := by
  intro pins s σ H x y v u Q I rx ry h
  obtain ⟨i, j, rfl, rfl, q⟩ := h
  obtain ⟨t, rfl⟩ := rx
  obtain ⟨t', rfl⟩ := ry
  exact rule i j t t' s _ _ ⟨.bl (g i j), H, I, rfl, q⟩
def CPow (i j : Int) : Prop := 0 ≤ j ∧ j ≤ 1000000 ∧ i.natAbs < 2 ^ 64
theorem two_pow_nn (k : Nat) : (0 : Int) ≤ 2 ^ k := by
  rw [two_pow_cast]
  exact Int.natCast_nonneg _
theorem op_add : OpR X (binaryOp .Add) (rI0 fun i j => .int (i + j)) := opI0 fun _ _ _ _ _ _ _ q => add_int q
theorem op_sub : OpR X (binaryOp .Sub) (rI0 fun i j => .int (i - j)) := opI0 fun _ _ _ _ _ _ _ q => sub_int q
theorem op_shl : OpR X (binaryOp .LShift) (rI CPow fun i j => .int (i * 2 ^ j.toNat)) := opI fun _ _ _ _ _ _ _ hc q => lshift_int_small hc.1 hc.2.1 hc.2.2 q
theorem op_shr : OpR X (binaryOp .RShift) (rI (fun _ j => 0 ≤ j) fun i j => .int (i / 2 ^ j.toNat)) := opI fun i j _ _ _ _ _ hc q =>
  rshift_int hc (by rw [Int.fdiv_eq_ediv_of_nonneg i (two_pow_nn _)]; exact q)
theorem op_and : OpR X (binaryOp .BitAnd) (rI0 fun i j => .int (Builtin.bitAnd i j)) := opI0 fun _ _ _ _ _ _ _ q => and_int q
theorem op_or : OpR X (binaryOp .BitOr) (rI0 fun i j => .int (Builtin.bitOr i j)) := opI0 fun _ _ _ _ _ _ _ q => or_int q
theorem unI {f : Value → Sem Value} {g : Int → Int}
    (rule : ∀ (i : Int) (t : Tok) (s : Shared) (Q : Value → Shared → Prop) (E : Value → Shared → Prop), Q (.int (g i) s.toks) { s with toks := s.toks + 1 } → wpAny (model X.prog X.w) X.A (f (.int i t)) Q E s) :
    UnR X f (rU fun i => .int (g i)) := by
  intro pins s σ H x v Q I rx h
  obtain ⟨i, rfl, q⟩ := h
  obtain ⟨t, rfl⟩ := rx
  exact rule i t s _ _ ⟨.int (g i), H, I.tok _, ⟨_, rfl⟩, q⟩
theorem un_neg : UnR X (unaryOp .USub) (rU fun i => .int (-i)) := unI fun _ _ _ _ _ q => neg_int q
/-! ### bools among ints: n += (a < b) -/
end
/-! ### comparisons -/
/-- the scalars that == tells apart as data does -/
def scal : V → V → Bool
  | .non, .non => true | .non, .int _ => true | .int _, .non => true | .non, .bl _ => true | .bl _, .non => true | .non, .str _ => true | .str _, .non => true
  | .int _, .int _ => true | .bl _, .bl _ => true | .str _, .str _ => true | .byt _, .byt _ => true
  | .int _, .str _ => true | .str _, .int _ => true | .bl _, .str _ => true | .str _, .bl _ => true
  | _, _ => false
def rEq : R2 := fun x y H Q => scal x y = true ∧ Q (.bl (decide (x = y))) H
def rNe : R2 := fun x y H Q => scal x y = true ∧ Q (.bl (!decide (x = y))) H
theorem dec_int {i j : Int} : decide (V.int i = V.int j) = (i == j) := by
  rw [Bool.eq_iff_iff]
  simp
theorem dec_bl {i j : Bool} : decide (V.bl i = V.bl j) = (i == j) := by
  rw [Bool.eq_iff_iff]
  simp
theorem dec_str {i j : Str} : decide (V.str i = V.str j) = (i == j) := by
  rw [Bool.eq_iff_iff]
  simp
theorem dec_byt {i j : Array UInt8} : decide (V.byt i = V.byt j) = (i.toList == j.toList) := by
  rw [Bool.eq_iff_iff]
  cases i
  cases j
  simp
section
variable {X : Cx} {a b c : Expr} {ta tb tc : TE} {pos : Pos}
theorem fin_bl {pins : List (Addr × Obj)} {σ : St} {H : Hp} {s : Shared} {Q : VK} {k k' : Bool} (I : Inv X pins σ H s) (q : Q (.bl k) H) (e : k = k') : EP X pins σ Q (.bool k') s := by
  subst e
  exact ⟨.bl k, H, I, rfl, q⟩
theorem op_eq : OpR X (compareOp .Eq) rEq := by
  intro pins s σ H x y v u Q I rx ry h
  obtain ⟨hs, q⟩ := h
  cases x with
  | non =>
    cases rx
    cases y with
    | non => cases ry; exact PySem.EqNone.eq_none_none (fin_bl I q (by simp))
    | bl j => cases ry; exact PySem.EqNone.eq_none_bool (fin_bl I q (by simp))
    | int j => obtain ⟨t', rfl⟩ := ry; exact PySem.EqNone.eq_none_int (fin_bl I q (by simp))
    | str j => obtain ⟨t', rfl⟩ := ry; exact PySem.EqNone.eq_none_str (fin_bl I q (by simp))
    | _ => exact absurd (show false = true from hs) Bool.false_ne_true
  | bl i =>
    cases rx
    cases y with
    | non => cases ry; exact PySem.EqNone.eq_bool_none (fin_bl I q (by simp))
    | bl j => cases ry; exact eq_bool (fin_bl I q dec_bl)
    | str j => obtain ⟨t', rfl⟩ := ry; exact PySem.EqMixed.eq_bool_str (fin_bl I q (by simp))
    | _ => exact absurd (show false = true from hs) Bool.false_ne_true
  | int i =>
    obtain ⟨t, rfl⟩ := rx
    cases y with
    | non => cases ry; exact PySem.EqNone.eq_int_none (fin_bl I q (by simp))
    | int j => obtain ⟨t', rfl⟩ := ry; exact eq_int (fin_bl I q dec_int)
    | str j => obtain ⟨t', rfl⟩ := ry; exact PySem.EqMixed.eq_int_str (fin_bl I q (by simp))
    | _ => exact absurd (show false = true from hs) Bool.false_ne_true
  | str i =>
    obtain ⟨t, rfl⟩ := rx
    cases y with
    | non => cases ry; exact PySem.EqNone.eq_str_none (fin_bl I q (by simp))
    | bl j => cases ry; exact PySem.EqMixed.eq_str_bool (fin_bl I q (by simp))
    | int j => obtain ⟨t', rfl⟩ := ry; exact PySem.EqMixed.eq_str_int (fin_bl I q (by simp))
    | str j => obtain ⟨t', rfl⟩ := ry; exact eq_str (fin_bl I q dec_str)
    | _ => exact absurd (show false = true from hs) Bool.false_ne_true
  | byt i =>
    obtain ⟨t, rfl⟩ := rx
    cases y with
    | byt j => obtain ⟨t', rfl⟩ := ry; exact PySem.W.eq_bytes (fin_bl I q dec_byt)
    | _ => exact absurd (show false = true from hs) Bool.false_ne_true
  | _ => cases y <;> exact absurd (show false = true from hs) Bool.false_ne_true
theorem op_ne : OpR X (compareOp .NotEq) rNe := by
  intro pins s σ H x y v u Q I rx ry h
  obtain ⟨hs, q⟩ := h
  cases x with
  | non =>
    cases rx
    cases y with
    | non => cases ry; exact PySem.EqNone.ne_none_none (fin_bl I q (by simp))
    | bl j => cases ry; exact PySem.EqNone.ne_none_bool (fin_bl I q (by simp))
    | int j => obtain ⟨t', rfl⟩ := ry; exact PySem.EqNone.ne_none_int (fin_bl I q (by simp))
    | str j => obtain ⟨t', rfl⟩ := ry; exact PySem.EqNone.ne_none_str (fin_bl I q (by simp))
    | _ => exact absurd (show false = true from hs) Bool.false_ne_true
  | bl i =>
    cases rx
    cases y with
    | non => cases ry; exact PySem.EqNone.ne_bool_none (fin_bl I q (by simp))
    | bl j => cases ry; exact ne_bool (fin_bl I q (congrArg not dec_bl))
    | str j => obtain ⟨t', rfl⟩ := ry; exact PySem.EqMixed.ne_bool_str (fin_bl I q (by simp))
    | _ => exact absurd (show false = true from hs) Bool.false_ne_true
  | int i =>
    obtain ⟨t, rfl⟩ := rx
    cases y with
    | non => cases ry; exact PySem.EqNone.ne_int_none (fin_bl I q (by simp))
    | int j => obtain ⟨t', rfl⟩ := ry; exact ne_int (fin_bl I q (congrArg not dec_int))
    | str j => obtain ⟨t', rfl⟩ := ry; exact PySem.EqMixed.ne_int_str (fin_bl I q (by simp))
    | _ => exact absurd (show false = true from hs) Bool.false_ne_true
  | str i =>
    obtain ⟨t, rfl⟩ := rx
    cases y with
    | non => cases ry; exact PySem.EqNone.ne_str_none (fin_bl I q (by simp))
    | bl j => cases ry; exact PySem.EqMixed.ne_str_bool (fin_bl I q (by simp))
    | int j => obtain ⟨t', rfl⟩ := ry; exact PySem.EqMixed.ne_str_int (fin_bl I q (by simp))
    | str j => obtain ⟨t', rfl⟩ := ry; exact ne_str (fin_bl I q (congrArg not dec_str))
    | _ => exact absurd (show false = true from hs) Bool.false_ne_true
  | byt i =>
    obtain ⟨t, rfl⟩ := rx
    cases y with
    | byt j => obtain ⟨t', rfl⟩ := ry; exact PySem.W.ne_bytes (fin_bl I q (congrArg not dec_byt))
    | _ => exact absurd (show false = true from hs) Bool.false_ne_true
  | _ => cases y <;> exact absurd (show false = true from hs) Bool.false_ne_true
theorem op_lt : OpR X (compareOp .Lt) (rI0 fun i j => .bl (decide (i < j))) := opB0 fun _ _ _ _ _ _ _ q => lt_int q
theorem op_le : OpR X (compareOp .LtE) (rI0 fun i j => .bl (decide (i ≤ j))) := opB0 fun _ _ _ _ _ _ _ q => le_int q
theorem op_gt : OpR X (compareOp .Gt) (rI0 fun i j => .bl (decide (j < i))) := opB0 fun _ _ _ _ _ _ _ q => gt_int q
theorem op_ge : OpR X (compareOp .GtE) (rI0 fun i j => .bl (decide (j ≤ i))) := opB0 fun _ _ _ _ _ _ _ q => ge_int q
/-- is None, is not None: the right side a value none -/
theorem op_isN : OpR X (compareOp .Is) (fun x y H Q => y = .non ∧ Q (.bl (decide (x = .non))) H) := by
  intro pins s σ H x y v u Q I rx ry h
  obtain ⟨rfl, q⟩ := h
  cases ry
  refine is_none_gen (fin_bl I q ?_)
  cases x <;> first
    | (cases rx; rfl)
    | (obtain ⟨t, rfl⟩ := rx; rfl)
theorem nomark (b : Expr) {op : CmpOp} (h : op ≠ .In := by decide) (h2 : op ≠ .NotIn := by decide) : behindInMarks op b = false := by
  have e1 : (op == CmpOp.In) = false := by cases op <;> first | rfl | exact absurd rfl h
  have e2 : (op == CmpOp.NotIn) = false := by cases op <;> first | rfl | exact absurd rfl h2
  cases b <;> simp [behindInMarks, e1, e2]
/-- a comparison as a value; hm: nomark b, or (for in, not in) by with_unfolding_all rfl -/
theorem pe_cmpR {op : CmpOp} {r : R2} (ho : OpR X (compareOp op) r) (ha : PE X a ta) (hb : PE X b tb) (hm : behindInMarks op b = false) : PE X (.Compare a [op] [b] pos) (tOp r ta tb) := by
  intro pins s σ H Q I h
  exact wpAny_Compare1 (binT ha hb I h fun v u s2 x y H2 I2 rx ry q => ho pins s2 σ H2 x y v u Q I2 rx ry q) hm
/-- a reading of a value as a test -/
def tTest (t : TE) : TT := fun σ H Q => t σ H fun x H' => ∃ k, x = .bl k ∧ Q k H'
theorem pt_cmpR {op : CmpOp} {r : R2} (ho : OpR X (compareOp op) r) (ha : PE X a ta) (hb : PE X b tb) (hm : behindInMarks op b = false) : PT X (.Compare a [op] [b] pos) (tTest (tOp r ta tb)) := by
  intro pins s σ H Q I h
  refine wpAny_isTrue_Compare1 (thn (ha pins s σ H _ I h) fun v s1 ⟨x, H1, I1, r1, q1⟩ => thn (hb pins s1 σ H1 _ I1 q1) fun u s2 ⟨y, H2, I2, r2, q2⟩ =>
    thn (ho pins s2 σ H2 x y v u _ I2 r1 r2 q2) fun c s3 ⟨z, H3, I3, r3, k, e, q3⟩ => ?_) hm
  subst e
  cases r3
  exact wpAny_truthy_bool ⟨H3, I3, q3⟩
/-! ### truth -/
theorem line63 : (sizeLine : Nat) < 2 ^ 63 := by rw [sizeLine_eq]; decide
/-! ### strs and bytes -/
/-! ### scalar builtins, by CallR -/
theorem vals1 {x : V} {us : List Value} (r : Vals [x] us) : ∃ u, us = [u] ∧ RelV x u := by
  cases r with
  | cons r1 r2 => cases r2; exact ⟨_, rfl, r1⟩
end
end L2
namespace L2
open PySem PySem.Spec PyProof.Rows
/-! ### an instance, its attributes a map -/
structure ObjM (h : Heap) (x dx C : Addr) (mA : Str → Option Value) : Prop where
  obj : h.get? x = some (PySem.W.instObj C dx)
  ns : h.Ns1 dx mA
  ne : dx ≠ x
theorem lookIn_ns {h : Heap} {dx : Addr} {mA : Str → Option Value} (n : h.Ns1 dx mA) : ∃ od, h.get? dx = some od ∧ ∀ name, PySem.W.lookIn name od = some (mA name) := by
  obtain ⟨o, es, ep, ho, hd, hk, _, hm⟩ := n
  refine ⟨o, ho, fun name => ?_⟩
  have e := hm name
  unfold nsFind findBy at e
  rw [← Array.find?_toList] at e
  unfold PySem.W.lookIn
  rw [hd]
  dsimp only
  split
  · rename_i y q
    rw [q] at e
    exact congrArg some e
  · rename_i q
    rw [q] at e
    have a : es.toList.any (·.refKey) = false := by
      rw [List.any_eq_false]
      intro y hy
      obtain ⟨z, t, hkey⟩ := hk y (Array.mem_toList_iff.mp hy)
      simp [DictEntry.refKey, hkey]
    have a' : ¬ es.toList.any (·.refKey) = true := by rw [a]; exact Bool.false_ne_true
    rw [if_neg a']
    exact congrArg some e
theorem ObjM.look {h : Heap} {x dx C : Addr} {mA : Str → Option Value} (I : ObjM h x dx C mA) : ∃ od, PySem.W.InstAt h x (PySem.W.instObj C dx) C (some od) ∧ ∀ name, PySem.W.lookIn name od = some (mA name) :=
  let ⟨od, ho, hl⟩ := lookIn_ns I.ns
  ⟨od, ⟨I.obj, rfl, rfl, ho⟩, hl⟩
section
variable {prog : Program} {w : World} {A : Around} {E : Value → Shared → Prop} {s : Shared} {K : PySem.W.Frag} {x dx C f : Addr} {mA : Str → Option Value} {name : Str} {v : Value}
theorem get_map {expr : Bool} {Q : Value → Shared → Prop} (X : K.In s.heap) (I : ObjM s.heap x dx C mA) (hg : PySem.W.plainGet K C name = true) (hh : PySem.W.hasDictIn K C = true)
    (ha : PySem.W.findIn K (.ref C) name = some none) (hv : mA name = some v) (hv' : PySem.W.handedIn v = true) (h : Q v { s with toks := s.toks + 1 }) :
    wpAny (model prog w) A (getAttr (.ref x) name expr) Q E s := by
  obtain ⟨od, J, hl⟩ := I.look
  exact PySem.W.get_value X J (PySem.W.plainGet_of hg).1 (PySem.W.findObj_own hh ha rfl (by rw [hl, hv])) hv' h
theorem get_meth {pl : Sem Bool} {Q : Value × List Value → Shared → Prop} (X : K.In s.heap) (I : ObjM s.heap x dx C mA) (hg : PySem.W.plainGet K C name = true)
    (hf : PySem.W.findIn K (.ref C) name = some (some (.ref f))) (ht : PySem.W.isFn K (.ref f) = true) (hv : mA name = none) (h : Q (.ref f, [.ref x]) s) :
    wpAny (model prog w) A (getMethod (.ref x) name pl) Q E s := by
  obtain ⟨od, J, hl⟩ := I.look
  exact PySem.W.method_fn X J (PySem.W.plainGet_of hg).1 (PySem.W.plainGet_of hg).2 hf (beq_iff_eq.mp ht) (by show (PySem.W.lookIn name od).map (·.isSome) = some false; rw [hl, hv]; rfl) h
theorem set_map {ns : List Str} {Q : Unit → Shared → Prop} (X : K.In s.heap) (I : ObjM s.heap x dx C mA)
    (hs : PySem.W.findIn K (.ref C) "__setattr__" = some (some (.builtin "object.__setattr__"))) (hp : PySem.W.plainOver K C = true) (ht : PySem.W.takerIn K C name = some none) (hh : PySem.W.hasDictIn K C = true)
    (hw : PySem.Within mA ns) (hsz : ns.length ≤ sizeLine)
    (h : ∀ h', ObjM h' x dx C (fun y => if y = name then some v else mA y) → Heap.SameBut dx s.heap h' → Q () { s with heap := h', toks := s.toks + 2 }) :
    wpAny (model prog w) A (setAttr (.ref x) name v) Q E s := by
  obtain ⟨od, J, hl⟩ := I.look
  refine PySem.W.set_plain X J hs (PySem.W.osa_open (s := { s with toks := s.toks + 1 }) (r := none) X J hp ht fun b => ?_)
  obtain ⟨cd, hc, hd'⟩ := PySem.W.any_some hh
  have hx : s.heap.get? x = some ⟨.ref C, some dx, .plain, #[]⟩ := I.obj
  refine wpAny_bind (wpAny_pure (wpAny_bind (wpAny_bind (wpAny_loadPart hx (wpAny_bind (PySem.W.Looks.here (s := { s with toks := s.toks + 1 }) (PySem.W.looks_clsIn X hc) ?_))))))
  rw [hd']
  refine wpAny_pure (a := some dx) (wpAny_bind (wpAny_pure (wpAny_bind ?_)))
  refine wpAny_nsSet1 (s := { s with toks := s.toks + 1 }) I.ns fun h' hn2 hs2 => ?_
  obtain ⟨oD, esD, epD, hoD, hdD, hcD⟩ := hn2.count (PySem.Within.cons name v hw)
  refine wpAny_bind (wpAny_lookBehind hoD (by rw [hdD]; exact pastItsLine_dict (Nat.le_trans hcD (by rw [List.length_cons]; omega))) ?_)
  exact wpAny_pure (h _ ⟨(hs2.2 _ (Ne.symm I.ne)).trans I.obj, hn2, I.ne⟩ hs2)
/-- C(..): the dict at the heap's end, the instance behind it; then its __init__ -/
theorem make_map {R : Result → Shared → Prop} {vs : List Value} {kw : List (Str × Value)} (X : K.In s.heap) (hm : PySem.W.makesIn K C = true)
    (hi : PySem.W.findIn K (.ref C) "__init__" = some (some (.ref f))) (hf : PySem.W.typeIn K (.ref f) = some (.type "function"))
    (h : codeAny (model prog w) (A.under (.builtin "type.__call__" ⟨.ref C :: vs, kw⟩)) (.call (.ref f) ⟨.ref (s.heap.objs.size + 1) :: vs, kw⟩) (PySem.W.InitBack (s.heap.objs.size + 1) R)
      { s with heap := (s.heap.push PySem.W.emptyDict).push (PySem.W.instObj C s.heap.objs.size) }) :
    codeAny (model prog w) A (.call (.ref C) ⟨vs, kw⟩) R s := by
  obtain ⟨hh, g, d, t, os⟩ := s
  exact PySem.W.make_core (PySem.W.makes_of X hm) (PySem.W.looks_findIn X hi) (fun self => PySem.W.bind_fn X self hf) (.inl rfl) h
end
/-! ### the attributes as a list of pairs -/
def putF (f : Str) (v : V) : List (Str × V) → List (Str × V)
  | [] => [(f, v)]
  | (g, x) :: r => if g = f then (g, v) :: r else (g, x) :: putF f v r
theorem lookup_putF (f g : Str) (v : V) : ∀ fs : List (Str × V), (putF f v fs).lookup g = if g = f then some v else fs.lookup g
  | [] => by
    show List.lookup g [(f, v)] = _
    by_cases h : g = f
    · have hb : (g == f) = true := beq_iff_eq.mpr h
      simp only [List.lookup, hb, if_pos h]
    · have hb : (g == f) = false := beq_eq_false_iff_ne.mpr h
      simp only [List.lookup, hb, if_neg h]
  | (k, x) :: r => by
    have ih := lookup_putF f g v r
    rw [show putF f v ((k, x) :: r) = (if k = f then (k, v) :: r else (k, x) :: putF f v r) from rfl]
    by_cases hk : k = f
    · rw [if_pos hk]
      by_cases h : g = k
      · have hb : (g == k) = true := beq_iff_eq.mpr h
        simp only [List.lookup, hb, if_pos (h.trans hk)]
      · have hb : (g == k) = false := beq_eq_false_iff_ne.mpr h
        simp only [List.lookup, hb, if_neg (fun e : g = f => h (e.trans hk.symm))]
    · rw [if_neg hk]
      by_cases h : g = k
      · have hb : (g == k) = true := beq_iff_eq.mpr h
        simp only [List.lookup, hb, if_neg (fun e : g = f => hk (h.symm.trans e))]
      · have hb : (g == k) = false := beq_eq_false_iff_ne.mpr h
        simp only [List.lookup, hb]
        exact ih
theorem keys_putF (f : Str) (v : V) : ∀ fs : List (Str × V), f ∈ (putF f v fs).map (·.1) ∧ ∀ g, g ∈ fs.map (·.1) → g ∈ (putF f v fs).map (·.1)
  | [] => ⟨by simp [putF], fun g h => by simp at h⟩
  | (k, x) :: r => by
    obtain ⟨i1, i2⟩ := keys_putF f v r
    rw [show putF f v ((k, x) :: r) = (if k = f then (k, v) :: r else (k, x) :: putF f v r) from rfl]
    by_cases hk : k = f
    · rw [if_pos hk]
      subst hk
      exact ⟨by simp, fun g h => by simpa using h⟩
    · rw [if_neg hk]
      refine ⟨?_, fun g h => ?_⟩
      · rw [List.map_cons]
        exact List.mem_cons_of_mem _ i1
      · rw [List.map_cons] at h ⊢
        rcases List.mem_cons.mp h with e | e
        · exact List.mem_cons.mpr (.inl e)
        · exact List.mem_cons_of_mem _ (i2 g e)
theorem length_putF (f : Str) (v : V) : ∀ fs : List (Str × V), (putF f v fs).length ≤ fs.length + 1
  | [] => by simp [putF]
  | (k, x) :: r => by
    have ih := length_putF f v r
    rw [show putF f v ((k, x) :: r) = (if k = f then (k, v) :: r else (k, x) :: putF f v r) from rfl]
    by_cases hk : k = f
    · rw [if_pos hk, List.length_cons, List.length_cons]; omega
    · rw [if_neg hk, List.length_cons, List.length_cons]; omega
theorem RelO.some_of {v : V} {o : Option Value} (r : RelO (some v) o) : ∃ u, o = some u ∧ RelV v u := by
  cases o with
  | none => exact (show False from r).elim
  | some u => exact ⟨u, rfl, r⟩
theorem RelO.none_of {o : Option Value} (r : RelO none o) : o = none := by
  cases o with
  | none => rfl
  | some u => exact (show False from r).elim
theorem handed_of {v : V} {u : Value} (r : RelV v u) : PySem.W.handedIn u = true := by
  cases v with
  | non => cases (show u = Value.none from r); rfl
  | bl b => cases (show u = Value.bool b from r); rfl
  | int i => obtain ⟨t, e⟩ := (show ∃ t, u = Value.int i t from r); cases e; rfl
  | str x => obtain ⟨t, e⟩ := (show ∃ t, u = Value.str x t from r); cases e; rfl
  | byt b => obtain ⟨t, e⟩ := (show ∃ t, u = Value.bytes b t from r); cases e; rfl
  | flt b => obtain ⟨t, e⟩ := (show ∃ t, u = Value.float b t from r); cases e; rfl
  | ref a => cases (show u = Value.ref a from r); rfl
  | ty n => cases (show u = Value.type n from r); rfl
section
variable {P : Program} {w : World} {H H' : Hp} {h h' : Heap} {a C dx : Addr} {fs fs' : List (Str × V)}
theorem ins_get (hok : HOk P w H h) (e : H a = some (.ins C dx fs)) : ∃ mA, ObjM h a dx C mA ∧ (∀ f, RelO (fs.lookup f) (mA f)) ∧ PySem.Within mA (fs.map (·.1)) ∧ fs.length ≤ 1000 ∧ H dx = some (.own a) := by
  obtain ⟨d, z, ne, ob, mA, n, r, q⟩ := (show ObjOk P w H h a (.ins C dx fs) from hok a _ e)
  exact ⟨mA, ⟨ob, n, ne⟩, r, q, z, d⟩
end
/-! ### what of the text a class must have -/
structure Cls (K : PySem.W.Frag) (C : Addr) : Prop where
  pg : PySem.W.plainGet K C Str.empty = true
  hd : PySem.W.hasDictIn K C = true
  po : PySem.W.plainOver K C = true
  sa : PySem.W.findIn K (.ref C) "__setattr__" = some (some (.builtin "object.__setattr__"))
theorem Cls.get {K : PySem.W.Frag} {C : Addr} (c : Cls K C) (f : Str) : PySem.W.plainGet K C f = true := c.pg
/-- no class of it has the name -/
def NoAttr (K : PySem.W.Frag) (C : Addr) (f : Str) : Prop := PySem.W.findIn K (.ref C) f = some none
theorem NoAttr.taker {K : PySem.W.Frag} {C : Addr} {f : Str} (n : NoAttr K C f) : PySem.W.takerIn K C f = some none := by
  unfold PySem.W.takerIn
  rw [show PySem.W.findIn K (.ref C) f = some none from n]
  rfl
/-- a method: a plain def of the class or of one above it -/
structure Meth (K : PySem.W.Frag) (C : Addr) (m : Str) (f : Addr) : Prop where
  at_ : PySem.W.findIn K (.ref C) m = some (some (.ref f))
  fn : PySem.W.isFn K (.ref f) = true
  kp : PySem.W.keepIn K (.ref f) = true
section
variable {X : Cx} {pins : List (Addr × Obj)} {σ : St} {H : Hp} {s : Shared} {a C dx : Addr} {fs : List (Str × V)} {f : Str} {v : V} {A : Around} {E : Value → Shared → Prop}
theorem getattr_ok {b : Bool} {Q : Value → Shared → Prop} (I : Inv X pins σ H s) (e : H a = some (.ins C dx fs)) (c : Cls X.K C) (n : NoAttr X.K C f) (l : fs.lookup f = some v)
    (h : ∀ u s', Inv X pins σ H s' → RelV v u → Q u s') : wpAny (model X.prog X.w) A (getAttr (.ref a) f b) Q E s := by
  obtain ⟨mA, O, r, _, _, _⟩ := ins_get I.hok e
  obtain ⟨u, hu, ru⟩ := RelO.some_of (v := v) (o := mA f) (by rw [← l]; exact r f)
  exact get_map I.kIn O (c.get f) c.hd n hu (handed_of ru) (h u _ (I.tok _) ru)
theorem getmeth_ok {m : Str} {g : Addr} {pl : Sem Bool} {Q : Value × List Value → Shared → Prop} (I : Inv X pins σ H s) (e : H a = some (.ins C dx fs)) (c : Cls X.K C) (k : Meth X.K C m g) (l : fs.lookup m = none)
    (h : Q (.ref g, [.ref a]) s) : wpAny (model X.prog X.w) A (getMethod (.ref a) m pl) Q E s := by
  obtain ⟨mA, O, r, _, _, _⟩ := ins_get I.hok e
  have hn : mA m = none := RelO.none_of (by rw [← l]; exact r m)
  exact get_meth I.kIn O (c.get m) k.at_ k.fn hn h
theorem setattr_ok {y : V} {u : Value} {Q : Unit → Shared → Prop} (I : Inv X pins σ H s) (e : H a = some (.ins C dx fs)) (c : Cls X.K C) (n : NoAttr X.K C f) (hl : fs.length < 1000) (ry : RelV y u)
    (h : ∀ s', Inv X pins σ (upd H a (.ins C dx (putF f y fs))) s' → Q () s') : wpAny (model X.prog X.w) A (setAttr (.ref a) f u) Q E s := by
  obtain ⟨mA, O, r, wi, _, ho⟩ := ins_get I.hok e
  have hz : (fs.map (·.1)).length ≤ sizeLine := by rw [List.length_map, sizeLine_eq]; omega
  refine set_map I.kIn O c.sa c.po n.taker c.hd wi hz fun h' O' sb => h _ ?_
  have hd : ∃ o, h'.get? dx = some o := let ⟨o, _, _, e', _⟩ := O'.ns; ⟨o, e'⟩
  refine I.write (x := a) (e := dx) (by rw [e]; exact True.intro) (.inr ho) (fun b q hb z => (sb.2 b hb).trans z) hd ?_
  refine ⟨by rw [upd_ne O.ne]; exact ho, ?_, O.ne, O'.obj, _, O'.ns, fun g => ?_, fun g hg => ?_⟩
  · have := length_putF f y fs; omega
  · show RelO ((putF f y fs).lookup g) (if g = f then some u else mA g)
    rw [lookup_putF]
    by_cases q : g = f
    · rw [if_pos q, if_pos q]; exact ry
    · rw [if_neg q, if_neg q]; exact r g
  · by_cases q : g = f
    · rw [q]; exact (keys_putF f y fs).1
    · refine (keys_putF f y fs).2 g (wi g fun z => hg ?_)
      show (if g = f then some u else mA g) = none
      rw [if_neg q]; exact z
/-- a new instance, tracked, without attributes -/
theorem Inv.made (I : Inv X pins σ H s) : Inv X pins σ (upd (upd H s.heap.objs.size (.own (s.heap.objs.size + 1))) (s.heap.objs.size + 1) (.ins C s.heap.objs.size []))
    { s with heap := (s.heap.push PySem.W.emptyDict).push (PySem.W.instObj C s.heap.objs.size) } := by
  have e1 : (s.heap.push PySem.W.emptyDict).get? s.heap.objs.size = some PySem.W.emptyDict := Heap.get?_push_size s.heap rfl
  have e2 : ((s.heap.push PySem.W.emptyDict).push (PySem.W.instObj C s.heap.objs.size)).get? (s.heap.objs.size + 1) = some (PySem.W.instObj C s.heap.objs.size) := by
    have := Heap.get?_push_size (s.heap.push PySem.W.emptyDict) (o := PySem.W.instObj C s.heap.objs.size) rfl
    rwa [Heap.size_push] at this
  have e3 : (s.heap.push PySem.W.emptyDict).Ns s.heap.objs.size (fun _ => none) := ⟨PySem.W.emptyDict, #[], _, e1, rfl, (fun e he => absurd he (by simp)), fun _ => rfl⟩
  have I1 := I.laid (a := s.heap.objs.size) (o := .own (s.heap.objs.size + 1)) (h' := s.heap.push PySem.W.emptyDict) (t' := s.toks) (fun b u q => Heap.get?_push_of_some _ q) (Nat.le_refl _) ⟨_, e1⟩
  refine I1.laid (a := s.heap.objs.size + 1) (o := .ins C s.heap.objs.size []) (t' := s.toks) (fun b u q => Heap.get?_push_of_some _ q) (Nat.le_of_eq (Heap.size_push _ _)) ?_
  have ne : s.heap.objs.size ≠ s.heap.objs.size + 1 := Nat.ne_of_lt (Nat.lt_succ_self _)
  refine ⟨by rw [upd_ne ne, upd_same], Nat.zero_le _, ne, e2, fun _ => none, (Heap.Ns1.of_empty e3).at fun o q => Heap.get?_push_of_some _ q, fun _ => True.intro, fun y hy => absurd rfl hy⟩
/-- e.f where nothing but the object is asked: through attributeBase (super) and the last hold -/
theorem attr_of {prog : Program} {w : World} {env : Env} {e : Expr} {f : Str} {pos : Pos} {s : Shared} {Q : Value → Shared → Prop} (hb : attributeBase e f env (eval e env) = eval e env)
    (h : wpAny (model prog w) A (eval e env) (fun o s₁ => wpAny (model prog w) A (getAttr o f true) Q E s₁) E s) : wpAny (model prog w) A (eval (.Attribute e f pos) env) Q E s :=
  Attribute_any_ h (by rw [arm_eval_Attribute, hb])
end
/-! ### readings and rules -/
/-- e.f, an attribute of the instance -/
def tFld (K : PySem.W.Frag) (ta : TE) (f : Str) : TE := fun σ H Q => ta σ H fun x H1 => ∃ a C dx fs v, x = .ref a ∧ H1 a = some (.ins C dx fs) ∧ Cls K C ∧ NoAttr K C f ∧ fs.lookup f = some v ∧ Q v H1
/-- e.f = value -/
def sFld (K : PySem.W.Frag) (ta tv : TE) (f : Str) : TS := fun D σ H => tv σ H fun y H1 => ta σ H1 fun x H2 => ∃ a C dx fs, x = .ref a ∧ H2 a = some (.ins C dx fs) ∧ Cls K C ∧ NoAttr K C f ∧ fs.length < 1000 ∧
  D.nx σ (upd H2 a (.ins C dx (putF f y fs)))
section
variable {X : Cx} {o e value : Expr} {f : Str} {pos pos' tpos : Pos} {ta tv : TE}
theorem pe_fld (he : PE X e ta) (hb : attributeBase e f X.env (eval e X.env) = eval e X.env) : PE X (.Attribute e f pos) (tFld X.K ta f) := by
  intro pins s σ H Q I h
  refine attr_of hb (thn (he pins s σ H _ I h) fun u s1 ⟨x, H1, I1, rx, a, C, dx, fs, v, ex, ea, c, n, l, q⟩ => ?_)
  subst ex
  obtain rfl : u = Value.ref a := rx
  exact getattr_ok I1 ea c n l fun u' s2 I2 ru => ⟨v, H1, I2, ru, q⟩
theorem ps_fld (ha : PE X o ta) (hv : PE X value tv) (hs : swapsWith value (some (.Attribute o f pos')) pos.line X.env = pure false) : PS X (.Assign [.Attribute o f pos'] value pos) (sFld X.K ta tv f) := by
  intro pins s σ H D I h
  refine plainObj_wpAny_Assign_Attribute (thn (hv pins s σ H _ I h) fun u s1 ⟨y, H1, I1, ry, q⟩ => thn (ha pins s1 σ H1 _ I1 q) fun ov s2 ⟨x, H2, I2, rx, a, C, dx, fs, ex, ea, c, n, l, q2⟩ => ?_) hs
  subst ex
  obtain rfl : ov = Value.ref a := rx
  exact setattr_ok I2 ea c n l ry fun s3 I3 => ⟨σ, _, I3, q2⟩
/-- what is between an instance and its method: the tree of a method call -/
theorem methcall_of {pl : Sem Bool} {m : Str} {apos : Pos} {args : List Expr} {pins : List (Addr × Obj)} {s : Shared} {σ : St} {H : Hp} {Q : Value → Shared → Prop} {te : TE} (he : PE X e te) (I : Inv X pins σ H s)
    (h : te σ H fun x H1 => ∃ a C dx fs g, x = .ref a ∧ H1 a = some (.ins C dx fs) ∧ Cls X.K C ∧ Meth X.K C m g ∧ fs.lookup m = none ∧
      ∀ s1, Inv X pins σ H1 s1 → wpAny (model X.prog X.w) X.A (callWith pos (.ref g) [.ref a] (backTo pos (starEach args X.env)) (backToKw pos (keywordEach [] X.env))) Q X.xe s1)
    (ht : eval (.Call (.Attribute e m apos) args [] pos) X.env = (do
      let ov ← eval e X.env
      standAt apos.atName
      let (f, first) ← holding [ov] (getMethod ov m pl)
      callWith pos f first (backTo pos (starEach args X.env)) (backToKw pos (keywordEach [] X.env)))) :
    wpAny (model X.prog X.w) X.A (eval (.Call (.Attribute e m apos) args [] pos) X.env) Q X.xe s := by
  refine PySem.W.methodCall_KW (pl := pl) (thn (he pins s σ H _ I h) fun u s1 ⟨x, H1, I1, rx, a, C, dx, fs, g, ex, ea, c, k, l, q⟩ => ?_) ht
  subst ex
  obtain rfl : u = Value.ref a := rx
  exact getmeth_ok I1 ea c k l (q s1 I1)
end
/-! ### isinstance -/
section
variable {X : Cx} {pins : List (Addr × Obj)} {σ : St} {H : Hp} {s : Shared} {A : Around} {E : Value → Shared → Prop} {Q : Value → Shared → Prop} {c : Value} {b : Bool}
end
end L2
namespace L2
open PySem PySem.Spec PyProof.Rows
/-! ### room -/
structure Room (k : Nat) (A : Around) : Prop where
  hd : A.handled = none
  dp : A.depth + 3 * k + 5 < recursionLimit
  un : A.units + 16 * k + 200 < cLine
theorem Room.mono {j k : Nat} {A : Around} (r : Room k A) (h : j ≤ k) : Room j A := ⟨r.hd, by have := r.dp; omega, by have := r.un; omega⟩
theorem Room.deeper {k : Nat} {A : Around} (r : Room (k + 1) A) (env : Env) : Room k (A.deeper env) :=
  ⟨r.hd, by have := r.dp; show A.depth + 1 + 3 * k + 5 < _; omega, by have := r.un; show A.units + 3 + 16 * k + 200 < _; omega⟩
theorem make_depth {A : Around} {C : Addr} {us : List Value} {kw : List (Str × Value)} : (A.under (.builtin "type.__call__" ⟨.ref C :: us, kw⟩)).depth = A.depth + 1 := by
  first | rfl | simp [Around.under, Code.weight, Code.isCreation, Code.isGuard, Code.isCaller, Code.frames, Code.isFrame, guardIds]
theorem make_units {A : Around} {C : Addr} {us : List Value} {kw : List (Str × Value)} : (A.under (.builtin "type.__call__" ⟨.ref C :: us, kw⟩)).units = A.units + 1 := by
  first | rfl | simp [Around.under, Code.cUnits, Code.frames, Code.isFrame]
theorem Room.make {k : Nat} {A : Around} (r : Room (k + 1) A) (C : Addr) (us : List Value) (kw : List (Str × Value)) : Room k (A.under (.builtin "type.__call__" ⟨.ref C :: us, kw⟩)) :=
  ⟨r.hd, by have := r.dp; rw [make_depth]; omega, by have := r.un; rw [make_units]; omega⟩
theorem Room.depth {k : Nat} {A : Around} (r : Room k A) : A.depth < recursionLimit := by have := r.dp; omega
/-! ### argument lists and displays -/
def tNil : TA := fun _ H Q => Q [] H
def tCons (ta : TE) (tr : TA) : TA := fun σ H Q => ta σ H fun x H1 => tr σ H1 fun xs H2 => Q (x :: xs) H2
section
variable {X : Cx} {e : Expr} {es : List Expr} {te : TE} {t : TA} {pos : Pos}
theorem pa_nil : PA X [] tNil := fun _ _ _ _ H Q I h => Calls.spliced_nil ⟨[], H, I, .nil, h⟩
theorem pa_cons (ha : PE X e te) (hr : PA X es t) (hs : starEach (e :: es) X.env = (false, eval e X.env) :: starEach es X.env := by rfl) : PA X (e :: es) (tCons te t) := by
  intro pos pins s σ H Q I h
  rw [hs]
  show wpAny _ _ (spliced ((false, eval e X.env) :: backTo pos (starEach es X.env))) _ _ s
  refine Calls.spliced_cons (thn (ha pins s σ H _ I h) fun u s1 ⟨x, H1, I1, r1, q1⟩ => ?_)
  exact thn (hr pos pins s1 σ H1 _ I1 q1) fun us s2 ⟨xs, H2, I2, r2, q2⟩ => ⟨x :: xs, H2, I2, .cons r1 r2, q2⟩
/-- a tuple, a list of written items -/
def tTup (t : TA) : TE := fun σ H Q => t σ H fun xs H1 => xs.length ≤ sizeLine ∧ ∀ p, H1 p = none → Q (.ref p) (upd H1 p (.tup xs))
def tLst (t : TA) : TE := fun σ H Q => t σ H fun xs H1 => xs.length ≤ sizeLine ∧ ∀ p, H1 p = none → Q (.ref p) (upd H1 p (.lst xs))
theorem pe_tup {x1} (h : PA X es t) : PE X (.Tuple es x1 pos) (tTup t) := by
  intro pins s σ H Q I hq
  refine wpAny_Tuple_spliced (thn (h pos pins s σ H _ I hq) fun us s1 ⟨xs, H1, I1, r, z, q⟩ => ⟨by rw [← r.length]; exact z, ?_⟩)
  have hf : H1 s1.heap.objs.size = none := I1.hok.fresh (Nat.le_refl _)
  refine ⟨.ref s1.heap.objs.size, upd H1 s1.heap.objs.size (.tup xs), I1.laid (t' := s1.toks) (fun b u e => Heap.get?_push_of_some _ e) (Nat.le_refl _) ?_, rfl, q _ hf⟩
  exact ⟨z, us, r, ⟨_, Heap.get?_push_size _ rfl, rfl, _, rfl⟩⟩
theorem pe_lst (h : PA X es t) : PE X (.List es pos) (tLst t) := by
  intro pins s σ H Q I hq
  refine wpAny_List_spliced (thn (h pos pins s σ H _ I hq) fun us s1 ⟨xs, H1, I1, r, z, q⟩ => ⟨by rw [← r.length]; exact z, ?_⟩)
  have hf : H1 s1.heap.objs.size = none := I1.hok.fresh (Nat.le_refl _)
  refine ⟨.ref s1.heap.objs.size, upd H1 s1.heap.objs.size (.lst xs), I1.laid (t' := s1.toks) (fun b u e => Heap.get?_push_of_some _ e) (Nat.le_refl _) ?_, rfl, q _ hf⟩
  exact ⟨z, us, 0, r, Heap.get?_push_size _ rfl⟩
end
/-! ### what a def promises -/
/-- a def's promise: the bound arguments in the parameters' order, the heap, the wanted end, the wanted exception -/
abbrev Sp := List V → Hp → VK → XK → Prop
/-- how an exception lies behind a call (file 08 gives it): the callers' frames, abstract heap and state ahead of the call, the wish, the exception, the state -/
abbrev CXT := List Env → Hp → Shared → XK → Value → Shared → Prop
/-- the state at a call -/
structure Env0 (P : Program) (w : World) (K : PySem.W.Frag) (mg : Str → Option Value) (base : Heap) (A : Around) (outer : List Env) (s : Shared) (H : Hp) : Prop where
  frames : A.frames = some outer
  mod : Mod K mg base
  bs : ∀ b o, base.get? b = some o → s.heap.get? b = some o ∧ H b = none
  bsz : base.objs.size ≤ s.heap.objs.size
  funs : s.heap.FunFrames base outer
  frf : ∀ b ∈ frs outer, H b = none
  hok : HOk P w H s.heap
  bare : AllBare s.gens
/-- a call's end -/
def CE (outer : List Env) (P : Program) (w : World) (H : Hp) (s : Shared) (Q : VK) (u : Value) (s' : Shared) : Prop :=
  ∃ v H', s'.os = s.os ∧ AllBare s'.gens ∧ Un (frs outer) [] H H' s.heap s'.heap ∧ HOk P w H' s'.heap ∧ RelV v u ∧ Q v H'
def CR (CX : CXT) (outer : List Env) (P : Program) (w : World) (H : Hp) (s : Shared) (Q : VK) (E : XK) (r : Result) (s' : Shared) : Prop :=
  match r with
  | .ok (.ret u) => CE outer P w H s Q u s'
  | .ok _ => False
  | .error e => CX outer H s E e s'
structure FnOk (P : Program) (w : World) (K : PySem.W.Frag) (mg : Str → Option Value) (base : Heap) (CX : CXT) (k : Nat) (f : Addr) (fd : FuncData) (ps : List Str) (sp : Sp) : Prop where
  len : ∀ vs H Q E, sp vs H Q E → vs.length = ps.length
  run : ∀ (A : Around) (outer : List Env) (s : Shared) (H : Hp) (args : Args) (us : List Value) (vs : List V) (Q : VK) (E : XK), Room k A → Env0 P w K mg base A outer s H → BindsTo s fd args (ps.zip us) → Vals vs us → sp vs H Q E →
    codeAny (model P w) A (.call (.ref f) args) (CR CX outer P w H s Q E) s
theorem FnOk.mono {P : Program} {w : World} {K : PySem.W.Frag} {mg : Str → Option Value} {base : Heap} {CX : CXT} {j k : Nat} {f : Addr} {fd : FuncData} {ps : List Str} {sp : Sp} (F : FnOk P w K mg base CX j f fd ps sp) (h : j ≤ k) :
    FnOk P w K mg base CX k f fd ps sp := ⟨F.len, fun A outer s H args us vs Q E hr => F.run A outer s H args us vs Q E (hr.mono h)⟩
theorem Env0.make {P : Program} {w : World} {K : PySem.W.Frag} {mg : Str → Option Value} {base : Heap} {A : Around} {outer : List Env} {s : Shared} {H : Hp} (e : Env0 P w K mg base A outer s H) (C : Addr) (us : List Value) (kw : List (Str × Value)) :
    Env0 P w K mg base (A.under (.builtin "type.__call__" ⟨.ref C :: us, kw⟩)) outer s H := ⟨by first | exact e.frames | (simpa [Around.under, Code.envs, Code.isFrame, pushEnvs] using e.frames), e.mod, e.bs, e.bsz, e.funs, e.frf, e.hok, e.bare⟩
section
variable {X : Cx} {pins : List (Addr × Obj)} {σ : St} {H : Hp} {s s' : Shared}
/-- from a body: what a callee wants -/
theorem Inv.env0 (I : Inv X pins σ H s) : Env0 X.prog X.w X.K X.mg X.base X.A X.stack s H :=
  ⟨I.ok.frames, I.ok.mod, I.bs, Nat.le_trans I.ok.bsz I.sz, I.stack, I.stkFree, I.hok, I.bare⟩
/-- behind a call -/
theorem Inv.after {Q : VK} {u : Value} (I : Inv X pins σ H s) (h : CE X.stack X.prog X.w H s Q u s') : EP X pins σ Q u s' := by
  obtain ⟨v, H', os, bare, un, hok, r, q⟩ := h
  obtain ⟨hh, g, d, t, os'⟩ := s'
  obtain rfl : os' = s.os := os
  exact ⟨v, H', I.call (h' := hh) (g' := g) (d' := d) (t' := t) (ch := []) un hok bare (fun b z => absurd z (by simp)), r, q⟩
end
/-! ### calls -/
/-- f(..): the written arguments, then the defaults dvs; E: what is wanted of an exception -/
def tCall (sp : Sp) (dvs : List V) (E : XK) (t : TA) : TE := fun σ H Q => t σ H fun vs H1 => sp (vs ++ dvs) H1 Q E
/-- o.m(..) of an instance of the class at C -/
def tMeth (C : Addr) (m : Str) (sp : Sp) (dvs : List V) (E : XK) (ta : TE) (t : TA) : TE := fun σ H Q => ta σ H fun x H1 => ∃ a dx fs, x = .ref a ∧ H1 a = some (.ins C dx fs) ∧ fs.lookup m = none ∧
  t σ H1 fun vs H2 => sp (x :: (vs ++ dvs)) H2 Q E
/-- C(..): a new instance and its dict, then __init__ -/
def tMake (C : Addr) (sp : Sp) (dvs : List V) (E : XK) (t : TA) : TE := fun σ H Q => t σ H fun vs H1 => ∀ x dx, H1 x = none → H1 dx = none → dx ≠ x →
  sp (.ref x :: (vs ++ dvs)) (upd (upd H1 dx (.own x)) x (.ins C dx [])) (fun v H2 => v = .non ∧ Q (.ref x) H2) E
/-- how the parameters are bound: us the positional arguments, kw the keywords' values by name, ds the defaults that fill up -/
def Binds (K : PySem.W.Frag) (fd : FuncData) (ps : List Str) (ds : List Value) : Prop :=
  ∀ (s : Shared) (us : List Value), K.In s.heap → (us ++ ds).length = ps.length → BindsTo s fd ⟨us, []⟩ (ps.zip (us ++ ds))
/-- every parameter is given -/
theorem Binds.all {K : PySem.W.Frag} {fd : FuncData} {ps : List Str} (h : ∀ us : List Value, us.length = ps.length → bindArgs fd ⟨us, []⟩ = pure (ps.zip us)) : Binds K fd ps [] := fun s us _ hl => by
  rw [List.append_nil] at hl ⊢
  exact .of_eq (h us hl)
/-- an exception of a callee reaches what this body wants of exceptions -/
def Passes (CX : CXT) (X : Cx) (E : XK) : Prop := ∀ (pins : List (Addr × Obj)) (σ : St) (H : Hp) (s : Shared) (e : Value) (s' : Shared), Inv X pins σ H s → CX X.stack H s E e s' → X.xe e s'
section
variable {X : Cx} {CX : CXT} {k : Nat} {f C : Addr} {fd : FuncData} {ps : List Str} {sp : Sp} {dvs : List V} {ds : List Value} {E : XK} {x m : Str} {p pos apos : Pos} {e o : Expr} {es : List Expr} {ta : TE} {t : TA}
/-- the callee runs -/
theorem run_fn {pins : List (Addr × Obj)} {σ : St} {H : Hp} {s : Shared} {Q : VK} {us : List Value} {vs : List V} (F : FnOk X.prog X.w X.K X.mg X.base CX k f fd ps sp) (hr : Room k X.A) (hb : Binds X.K fd ps ds) (hd : Vals dvs ds) (hx : Passes CX X E)
    (I : Inv X pins σ H s) (r : Vals vs us) (h : sp (vs ++ dvs) H Q E) : wpAny (model X.prog X.w) X.A (call (.ref f) us) (EP X pins σ Q) X.xe s := by
  have r2 : Vals (vs ++ dvs) (us ++ ds) := r.append hd
  have hl : (us ++ ds).length = ps.length := by rw [← r2.length]; exact F.len _ _ _ _ h
  refine wpAny_call (codeAny_mono (F.run X.A X.stack s H ⟨us, []⟩ (us ++ ds) (vs ++ dvs) Q E hr I.env0 (hb s us I.kIn hl) r2 h) fun r s' hq => ?_)
  cases r with
  | error e => exact hx pins σ H s e s' I hq
  | ok fl =>
    cases fl with
    | ret u => exact I.after hq
    | next => exact False.elim hq
    | brk => exact False.elim hq
    | cont => exact False.elim hq
theorem pe_call (F : FnOk X.prog X.w X.K X.mg X.base CX k f fd ps sp) (hr : Room k X.A) (hg : Gl X x) (hm : X.mg x = some (.ref f)) (hk : PySem.W.keepIn X.K (.ref f) = true) (hb : Binds X.K fd ps ds) (hd : Vals dvs ds) (hx : Passes CX X E)
    (ha : PA X (e :: es) t) (hdb : (x == ("__debug__" : Str)) = false := by decide) (he : starEach (e :: es) X.env = (false, eval e X.env) :: starEach es X.env := by rfl) (hpl : (backTo pos (starEach es X.env)).any (·.1) = false := by rfl) :
    PE X (.Call (.Name x p) (e :: es) [] pos) (tCall sp dvs E t) := by
  intro pins s σ H Q I h
  refine wpAny_Call_Name_kw (ld_glob I hg hm ?_ hdb)
  refine PySem.W.callWith_K (h₀ := X.base) I.ok.mod.kin hk (thn (ha pos pins s σ H _ I h) fun us s1 ⟨vs, H1, I1, r, q⟩ => ⟨I1.kIn, ?_⟩) he hpl
  exact run_fn F hr hb hd hx I1 r q
/-- o.m(e, ..) -/
theorem pe_meth {pl : Sem Bool} (he : PE X o ta) (c : Cls X.K C) (hm : Meth X.K C m f) (F : FnOk X.prog X.w X.K X.mg X.base CX k f fd ps sp) (hr : Room k X.A) (hb : Binds X.K fd ps ds) (hd : Vals dvs ds) (hx : Passes CX X E) (ha : PA X (e :: es) t)
    (hst : starEach (e :: es) X.env = (false, eval e X.env) :: starEach es X.env := by rfl) (hpl : (backTo pos (starEach es X.env)).any (·.1) = false := by rfl)
    (ht : eval (.Call (.Attribute o m apos) (e :: es) [] pos) X.env = (do
      let ov ← eval o X.env
      standAt apos.atName
      let (f, first) ← holding [ov] (getMethod ov m pl)
      callWith pos f first (backTo pos (starEach (e :: es) X.env)) (backToKw pos (keywordEach [] X.env))) := by rfl) :
    PE X (.Call (.Attribute o m apos) (e :: es) [] pos) (tMeth C m sp dvs E ta t) := by
  intro pins s σ H Q I h
  refine PySem.W.methodCall_KW (pl := pl) (thn (he pins s σ H _ I h) fun u s1 ⟨x, H1, I1, rx, a, dx, fs, ex, ea, l, q⟩ => ?_) ht
  subst ex
  obtain rfl : u = Value.ref a := rx
  refine getmeth_ok I1 ea c hm l ?_
  refine PySem.W.callWith_K (first := [.ref a]) (h₀ := X.base) I.ok.mod.kin hm.kp (thn (ha pos pins s1 σ H1 _ I1 q) fun us s2 ⟨vs, H2, I2, r, q2⟩ => ⟨I2.kIn, ?_⟩) hst hpl
  exact run_fn (us := .ref a :: us) (vs := .ref a :: vs) F hr hb hd hx I2 (.cons rfl r) q2
/-- o.m() -/
theorem pe_meth0 {pl : Sem Bool} (he : PE X o ta) (c : Cls X.K C) (hm : Meth X.K C m f) (F : FnOk X.prog X.w X.K X.mg X.base CX k f fd ps sp) (hr : Room k X.A) (hb : Binds X.K fd ps ds) (hd : Vals dvs ds) (hx : Passes CX X E)
    (ht : eval (.Call (.Attribute o m apos) [] [] pos) X.env = (do
      let ov ← eval o X.env
      standAt apos.atName
      let (f, first) ← holding [ov] (getMethod ov m pl)
      callWith pos f first (backTo pos (starEach [] X.env)) (backToKw pos (keywordEach [] X.env))) := by rfl) :
    PE X (.Call (.Attribute o m apos) [] [] pos) (tMeth C m sp dvs E ta tNil) := by
  intro pins s σ H Q I h
  refine PySem.W.methodCall_KW (pl := pl) (thn (he pins s σ H _ I h) fun u s1 ⟨x, H1, I1, rx, a, dx, fs, ex, ea, l, q⟩ => ?_) ht
  subst ex
  obtain rfl : u = Value.ref a := rx
  refine getmeth_ok I1 ea c hm l ?_
  exact PySem.W.callWith_K0 (first := [.ref a]) I1.kIn hm.kp (run_fn (us := [.ref a]) (vs := [.ref a]) F hr hb hd hx I1 (.cons rfl .nil) q)
/-- what a class must have to be made -/
structure Mk (K : PySem.W.Frag) (C f : Addr) : Prop where
  makes : PySem.W.makesIn K C = true
  init : PySem.W.findIn K (.ref C) "__init__" = some (some (.ref f))
  fn : PySem.W.isFn K (.ref f) = true
  kp : PySem.W.keepIn K (.ref C) = true
theorem run_make {pins : List (Addr × Obj)} {σ : St} {H : Hp} {s : Shared} {Q : VK} {us : List Value} {vs : List V} (M : Mk X.K C f) (F : FnOk X.prog X.w X.K X.mg X.base CX k f fd ps sp) (hr : Room (k + 1) X.A) (hb : Binds X.K fd ps ds) (hd : Vals dvs ds)
    (hx : Passes CX X E) (I : Inv X pins σ H s) (r : Vals vs us)
    (h : ∀ x dx, H x = none → H dx = none → dx ≠ x → sp (.ref x :: (vs ++ dvs)) (upd (upd H dx (.own x)) x (.ins C dx [])) (fun v H2 => v = .non ∧ Q (.ref x) H2) E) :
    wpAny (model X.prog X.w) X.A (call (.ref C) us) (EP X pins σ Q) X.xe s := by
  have hq := h (s.heap.objs.size + 1) s.heap.objs.size (I.hok.fresh (Nat.le_succ _)) (I.hok.fresh (Nat.le_refl _)) (Nat.ne_of_lt (Nat.lt_succ_self _))
  have I2 := Inv.made (C := C) I
  have r2 : Vals (V.ref (s.heap.objs.size + 1) :: (vs ++ dvs)) (Value.ref (s.heap.objs.size + 1) :: (us ++ ds)) := .cons rfl (r.append hd)
  have hl : (Value.ref (s.heap.objs.size + 1) :: us ++ ds).length = ps.length := by
    have e := r2.length
    rw [F.len _ _ _ _ hq] at e
    exact e.symm
  refine wpAny_call (make_map (f := f) I.kIn M.makes M.init (beq_iff_eq.mp M.fn) (codeAny_mono (F.run _ X.stack _ _ ⟨Value.ref (s.heap.objs.size + 1) :: us, []⟩ (Value.ref (s.heap.objs.size + 1) :: (us ++ ds)) _ _ E (hr.make C us [])
    (I2.env0.make C us []) (hb _ (Value.ref (s.heap.objs.size + 1) :: us) I2.kIn hl) r2 hq) fun r s' hq' => ?_))
  cases r with
  | error e => exact hx pins σ _ _ e s' I2 hq'
  | ok fl =>
    cases fl with
    | ret u =>
      obtain ⟨v, H', I3, rv, ev, q3⟩ := I2.after hq'
      subst ev
      exact ⟨rv, ⟨V.ref (s.heap.objs.size + 1), H', I3, rfl, q3⟩⟩
    | next => exact False.elim hq'
    | brk => exact False.elim hq'
    | cont => exact False.elim hq'
theorem pe_make0 (M : Mk X.K C f) (F : FnOk X.prog X.w X.K X.mg X.base CX k f fd ps sp) (hr : Room (k + 1) X.A) (hg : Gl X x) (hm : X.mg x = some (.ref C)) (hb : Binds X.K fd ps ds) (hd : Vals dvs ds) (hx : Passes CX X E)
    (hdb : (x == ("__debug__" : Str)) = false := by decide) : PE X (.Call (.Name x p) [] [] pos) (tMake C sp dvs E tNil) := by
  intro pins s σ H Q I h
  refine wpAny_Call_Name_kw (ld_glob I hg hm ?_ hdb)
  exact PySem.W.callWith_K0 I.kIn M.kp (run_make (us := []) M F hr hb hd hx I .nil h)
end
/-! ### keywords -/
section
variable {X : Cx} {CX : CXT} {k : Nat} {f C : Addr} {fd : FuncData} {ps ks : List Str} {sp : Sp} {E : XK} {x m : Str} {p pos apos kpos : Pos} {e o : Expr} {es : List Expr} {kws : List Keyword} {te ta : TE} {t tk : TA} {nm : Option Str}
variable {g : List Value → List Value → List Value} {gV : List V → List V → List V}
end
/-! ### a def's body keeps its promise -/
/-- names: the parameters first -/
structure FnScope (N P : List Str) (sc : Scope) : Prop where
  kind : sc.kind = .function
  co : sc.isCoroutine = false
  gen : sc.isGenerator = false
  nd : N.Nodup
  pre : N.take P.length = P
  par : ∀ x ∈ P, sc.names.lookup x = some .local ∨ sc.names.lookup x = some .cell
  nofree : ∀ y ∈ sc.names, y.2 ≠ .free
theorem bindL_out {kindOf : Str → Option NameKind} {x : Str} : ∀ {binds : List (Str × Value)} {m : Str → Option Value}, (∀ v, (x, v) ∉ binds) → bindL kindOf binds m x = m x
  | [], _, _ => rfl
  | (n, v) :: r, m, h => by
    unfold bindL
    rw [bindL_out fun w hw => h w (List.mem_cons_of_mem _ hw)]
    split
    · have : x ≠ n := by rintro rfl; exact h v List.mem_cons_self
      simp [this]
    · rfl
theorem bindC_out {kindOf : Str → Option NameKind} {x : Str} : ∀ {binds : List (Str × Value)} {m : Str → Option Value}, (∀ v, (x, v) ∉ binds) → bindC kindOf binds m x = m x
  | [], _, _ => rfl
  | (n, v) :: r, m, h => by
    unfold bindC
    rw [bindC_out fun w hw => h w (List.mem_cons_of_mem _ hw)]
    split
    · rfl
    · have : x ≠ n := by rintro rfl; exact h v List.mem_cons_self
      simp [this]
theorem bindL_get {kindOf : Str → Option NameKind} {x : Str} {v : Value} : ∀ {P : List Str} {vs : List Value} {i : Nat} {m : Str → Option Value}, P.Nodup → P[i]? = some x → vs[i]? = some v → kindOf x = some .local →
    bindL kindOf (P.zip vs) m x = some v
  | [], _, _, _, _, h, _, _ => by simp at h
  | _ :: _, [], _, _, _, _, h, _ => by simp at h
  | p :: P, w :: vs, 0, m, nd, h1, h2, hk => by
    simp at h1 h2; subst h1; subst h2
    show bindL kindOf ((p, w) :: P.zip vs) m p = _
    unfold bindL
    rw [bindL_out fun v hv => (List.nodup_cons.mp nd).1 (List.of_mem_zip hv).1, if_pos hk]
    simp
  | p :: P, w :: vs, i + 1, m, nd, h1, h2, hk => by
    show bindL kindOf ((p, w) :: P.zip vs) m x = _
    unfold bindL
    exact bindL_get (i := i) (List.nodup_cons.mp nd).2 (by simpa using h1) (by simpa using h2) hk
theorem bindC_get {kindOf : Str → Option NameKind} {x : Str} {v : Value} : ∀ {P : List Str} {vs : List Value} {i : Nat} {m : Str → Option Value}, P.Nodup → P[i]? = some x → vs[i]? = some v → kindOf x ≠ some .local →
    bindC kindOf (P.zip vs) m x = some v
  | [], _, _, _, _, h, _, _ => by simp at h
  | _ :: _, [], _, _, _, _, h, _ => by simp at h
  | p :: P, w :: vs, 0, m, nd, h1, h2, hk => by
    simp at h1 h2; subst h1; subst h2
    show bindC kindOf ((p, w) :: P.zip vs) m p = _
    unfold bindC
    rw [bindC_out fun v hv => (List.nodup_cons.mp nd).1 (List.of_mem_zip hv).1, if_neg hk]
    simp
  | p :: P, w :: vs, i + 1, m, nd, h1, h2, hk => by
    show bindC kindOf ((p, w) :: P.zip vs) m x = _
    unfold bindC
    exact bindC_get (i := i) (List.nodup_cons.mp nd).2 (by simpa using h1) (by simpa using h2) hk
/-- the names' values at the entry -/
def start (N : List Str) (vs : List V) : St := vs.map some ++ List.replicate (N.length - vs.length) none
/-- the context of a def's body, at its entry; an exception leaves the frame, then lies as CX says -/
def cxOf (CX : CXT) (P : Program) (w : World) (K : PySem.W.Frag) (mg : Str → Option Value) (base : Heap) (N : List Str) (qual : Str) (scope : Scope) (f : Addr) (cd : Value) (A : Around) (outer : List Env) (s : Shared) (H : Hp) (E : XK) : Cx where
  prog := P
  w := w
  K := K
  mg := mg
  base := base
  A := A.deeper (envOfC qual scope s.heap.objs.size f cd)
  N := N
  s_0 := s
  H_0 := H
  env := envOfC qual scope s.heap.objs.size f cd
  outer := outer
  stack := envOfC qual scope s.heap.objs.size f cd :: outer
  ex := []
  calm := true
  fn := fun _ => true
  pn := []
  xe := fun e s' => wpAny (model P w) (A.deeper (envOfC qual scope s.heap.objs.size f cd)) (leaving (envOfC qual scope s.heap.objs.size f cd) e) (fun _ s'' => CX outer H s E e s'') (fun e' s'' => CX outer H s E e' s'') s'
theorem cell_has {sc : Scope} {n : Nat} {x : Str} (h : sc.names.lookup x = some .cell) : ∃ c, (cellsFrom n sc.names []).lookup x = some c := by
  have q := PySem.W.cellsFrom_some sc.names n [] (.inl h)
  exact Option.isSome_iff_exists.mp q
theorem inv_start {CX : CXT} {P : Program} {w : World} {K : PySem.W.Frag} {mg : Str → Option Value} {base : Heap} {N ps : List Str} {qual : Str} {scope : Scope} {f : Addr} {cd : Value} {A : Around} {outer : List Env} {s s1 : Shared} {H : Hp} {E : XK} {us : List Value} {vs : List V}
    (S : FnScope N ps scope) (hd : A.handled = none) (e0 : Env0 P w K mg base A outer s H) (hl : vs.length = ps.length) (r : Vals vs us)
    (x : InCallC s s.heap.objs.size (bindL (envOfC qual scope s.heap.objs.size f cd).kindOf (ps.zip us) fun _ => none) (cellsFrom (s.heap.objs.size + 1) scope.names []) (bindC (envOfC qual scope s.heap.objs.size f cd).kindOf (ps.zip us) fun _ => none) s1) :
    Inv (cxOf CX P w K mg base N qual scope f cd A outer s H E) [] (start N vs) H s1 := by
  have hpl : ps.length ≤ N.length := by have := congrArg List.length S.pre; rw [List.length_take] at this; omega
  obtain ⟨h1, tk, rfl, hk⟩ := x.done
  have noA : ∀ b : Addr, b ∉ (cxOf CX P w K mg base N qual scope f cd A outer s H E).ex := fun b z => absurd (show b ∈ ([] : List Addr) from z) (by simp)
  refine ⟨⟨e0.mod, S.kind, rfl, rfl, Nat.le_refl _, fun y z c h1 h2 => ?_, fun y hy => ?_, fun y c _ h => ?_, fun _ => hd, Around.frames_deeper e0.frames, .inr ⟨rfl, rfl⟩, fun b z => absurd z (noA b), e0.bs, e0.bsz, fun b _ _ => noA b, fun b z => absurd z (noA b), e0.funs, e0.frf⟩,
    rfl, e0.bare, Un.kept hk, ⟨_, x.toInCall.ns, fun i y v h1 h2 h3 => ?_⟩, fun y c h => ⟨_, x.cell y c h⟩, e0.hok.fresh (Nat.le_refl _), fun y c h => ?_, fun p hp => absurd (show p ∈ ([] : List (Addr × Obj)) from hp) (by simp), e0.hok.kept hk, ?_⟩
  · exact name_of_addr x.apart (PySem.mem_of_lookup h1) (PySem.mem_of_lookup h2)
  · have hy : scope.names.lookup y = some .cell ∨ scope.names.lookup y = some .free := hy
    rcases hy with hy | hy
    · exact cell_has hy
    · exact absurd rfl (S.nofree _ (PySem.mem_of_lookup hy))
  · exact Nat.le_of_lt (x.above y c (PySem.mem_of_lookup h))
  · have hi : i < vs.length := by
      unfold start at h2
      by_cases hi : i < vs.length
      · exact hi
      · rw [List.getElem?_append_right (by simpa using hi)] at h2
        rw [List.getElem?_replicate] at h2
        split at h2 <;> cases h2
    have ha : vs[i]? = some v := by
      unfold start at h2
      rw [List.getElem?_append_left (by simpa using hi), List.getElem?_map] at h2
      cases e : vs[i]? with
      | none => rw [e] at h2; cases h2
      | some a => rw [e] at h2; cases h2; rfl
    obtain ⟨u, hu, rv⟩ := r.get ha
    have hp : ps[i]? = some y := by
      rw [← S.pre, List.getElem?_take_of_lt (by omega)]; exact h1
    have ndP : ps.Nodup := by rw [← S.pre]; exact S.nd.sublist (List.take_sublist _ _)
    refine ⟨u, rv, ?_⟩
    rcases S.par y (List.mem_of_getElem? hp) with k | k
    · exact .inl ⟨k, bindL_get ndP hp hu k⟩
    · obtain ⟨c, e⟩ := cell_has (n := s.heap.objs.size + 1) k
      refine .inr ⟨.inl k, c, e, ?_⟩
      have q := x.cell y c e
      rw [bindC_get ndP hp hu (by show scope.names.lookup y ≠ _; rw [k]; decide)] at q
      exact q
  · exact e0.hok.fresh (Nat.le_of_lt (x.above y c (PySem.mem_of_lookup h)))
  · unfold start
    show _ = N.length
    rw [List.length_append, List.length_map, List.length_replicate]
    omega
/-- THE RULE: a def (or a method) of the text, by its body. The body's reading t is chosen for each entry; it is run at the parameters' values -/
theorem fn_of {CX : CXT} {P : Program} {w : World} {K : PySem.W.Frag} {mg : Str → Option Value} {base : Heap} {k : Nat} {f : Addr} {name qual : Str} {params : Arguments} {body : List Stmt} {scope : Scope} {dV kV doc pm cdv ct oc : Value} {an od : Option Addr}
    {osl : Array (Option Value)} {N ps : List Str} {sp : Sp} (lk : K.lookup f = some ⟨oc, od, .func (PySem.W.fnOf name qual params body scope dV kV doc pm an cdv ct), osl⟩) (hcd : PySem.W.codeIn K cdv qual = true) (S : FnScope N ps scope)
    (len : ∀ vs H Q E, sp vs H Q E → vs.length = ps.length)
    (hbody : ∀ (A : Around) (outer : List Env) (s : Shared) (H : Hp) (vs : List V) (Q : VK) (E : XK), Room k (A.deeper (envOfC qual scope s.heap.objs.size f cdv)) → sp vs H Q E →
      ∃ t, PSs (cxOf CX P w K mg base N qual scope f cdv A outer s H E) body t ∧ t { nx := fun _ H' => Q .non H', rt := Q } (start N vs) H) :
    FnOk P w K mg base CX (k + 1) f (PySem.W.fnOf name qual params body scope dV kV doc pm an cdv ct) ps sp := by
  refine ⟨len, fun A outer s H args us vs Q E hr e0 hb r hsp => ?_⟩
  have hl := len _ _ _ _ hsp
  have KX : K.In s.heap := e0.mod.kin.keeps fun b o e => (e0.bs b o e).1
  have lim : s.heap.NoLimit := e0.mod.nolimit.keeps fun b o e => (e0.bs b o e).1
  have hkind : ∀ y ∈ ps.zip us, scope.names.lookup y.1 = some .local ∨ (scope.names.lookup y.1 = some .cell ∧ ((cellsFrom (s.heap.objs.size + 1) scope.names []).lookup y.1).isSome = true) := fun ⟨n, v⟩ hy => by
    rcases S.par n (List.of_mem_zip hy).1 with q | q
    · exact .inl q
    · exact .inr ⟨q, PySem.W.cellsFrom_some _ _ _ (.inl q)⟩
  refine codeAny_call_function hr.depth (KX _ _ lk) rfl S.co S.gen rfl (PySem.W.codeRec_of KX hcd) (hb _ _ _ _ ?_)
  refine wpAny_newFunctionEnv_cells S.kind hkind fun env he s1 x => ?_
  subst he
  refine ⟨lim.keeps x.toInCall.keep, codeAny_func ?_⟩
  obtain ⟨t, ht, hq⟩ := hbody A outer s H vs Q E (hr.deeper _) hsp
  have I : Inv (cxOf CX P w K mg base N qual scope f cdv A outer s H E) [] (start N vs) H s1 := inv_start S hr.hd e0 hl r x
  refine wpAny_mono (ht [] s1 (start N vs) H _ I hq) (fun fl s' hs => ?_) fun e s' hs => hs
  have fin : ∀ {σ' : St} {H' : Hp} {v : V} {u : Value}, Inv (cxOf CX P w K mg base N qual scope f cdv A outer s H E) [] σ' H' s' → RelV v u → Q v H' → CE outer P w H s Q u s' :=
    fun {σ' H' v u} J rv q => ⟨v, H', J.os, J.bare, J.base, J.hok, rv, q⟩
  cases fl with
  | ret u =>
    obtain ⟨v, σ', H', J, rv, q⟩ := hs
    exact fin J rv q
  | next =>
    obtain ⟨σ', H', J, q⟩ := hs
    exact fin (v := V.non) (u := Value.none) J rfl q
  | brk =>
    obtain ⟨_, _, _, q⟩ := hs
    exact False.elim q
  | cont =>
    obtain ⟨_, _, _, q⟩ := hs
    exact False.elim q
end L2
namespace L2
open PySem PySem.Spec PyProof.Rows
section
variable {X : Cx} {x : Str} {p pos : Pos} {e : Expr} {es : List Expr} {t : TA} {id T : String} {r : List V → Hp → VK → Prop}
def tCB (r : List V → Hp → VK → Prop) (t : TA) : TE := fun σ H Q => t σ H fun vs H1 => r vs H1 Q
/-- f(e, ..), f a built-in function -/
theorem pe_callB (hc : CallR X (.builtin id) r) (hg : Gl X x) (hm : X.mg x = none) (hv : bootBuiltins x = some (.builtin id)) (ha : PA X (e :: es) t) (hn : x ≠ "__name__" := by decide) (hdb : (x == ("__debug__" : Str)) = false := by decide)
    (he : starEach (e :: es) X.env = (false, eval e X.env) :: starEach es X.env := by rfl) (hpl : (backTo pos (starEach es X.env)).any (·.1) = false := by rfl) : PE X (.Call (.Name x p) (e :: es) [] pos) (tCB r t) := by
  intro pins s σ H Q I h
  refine wpAny_Call_Name_kw (ld_blt I hg hm hv ?_ hn hdb)
  exact PyProof.Rows.callWith_builtin1 (thn (ha pos pins s σ H _ I h) fun us s1 ⟨vs, H1, I1, r1, q1⟩ => hc pins s1 σ H1 vs us Q I1 r1 q1) he hpl
/-- T(e, ..), T a built-in type -/
theorem pe_callTy (hc : CallR X (.type T) r) (hg : Gl X x) (hm : X.mg x = none) (hv : bootBuiltins x = some (.type T)) (ha : PA X (e :: es) t) (hn : x ≠ "__name__" := by decide) (hdb : (x == ("__debug__" : Str)) = false := by decide)
    (he : starEach (e :: es) X.env = (false, eval e X.env) :: starEach es X.env := by rfl) (hpl : (backTo pos (starEach es X.env)).any (·.1) = false := by rfl) : PE X (.Call (.Name x p) (e :: es) [] pos) (tCB r t) := by
  intro pins s σ H Q I h
  refine wpAny_Call_Name_kw (ld_blt I hg hm hv ?_ hn hdb)
  exact PyProof.Rows.callWith_type1 (thn (ha pos pins s σ H _ I h) fun us s1 ⟨vs, H1, I1, r1, q1⟩ => hc pins s1 σ H1 vs us Q I1 r1 q1) he hpl
end
end L2
namespace HT
open PySem PyProof.Rows
section
open PySem.SeqAt
open PySem.AutoSeq1 (wpAny_loadPart')
open PySem.MeetsSeq PySem.MeetsSeq2 PySem.MeetsSeq3
end
section
variable {prog : Program} {w : World} {A : Around} {E : Value → Shared → Prop} {s : Shared}
/-! ### t[a:b], not the whole -/
/-- a slice's bound as a place among n (d where it is left out) -/
def sIx (n d : Nat) : Option Int → Nat
  | none => d
  | some v => if v < 0 then (v + (n : Int)).toNat else min v.toNat n
theorem sIx_nat (n d k : Nat) : sIx n d (some (k : Int)) = min k n := by
  show (if (k : Int) < 0 then ((k : Int) + (n : Int)).toNat else min (k : Int).toNat n) = min k n
  rw [if_neg (by omega), Int.toNat_natCast]
theorem slicePart_ {v : Value} {o : Option Int} {Q : Option Int → Shared → Prop} (p : IsPart v o) (h : Q o s) : wpAny (model prog w) A (Builtin.Slice.slicePartIndex v) Q E s := by
  cases p with
  | none => exact slicePart_none h
  | int i t => exact slicePart_int h
end
end HT
namespace L2
open PySem PySem.Spec PyProof.Rows
/-! ### the parts of a slice -/
abbrev TO := St → Hp → (Option Int → Hp → Prop) → Prop
/-- a slice's part (left out, or an int) -/
def PO (X : Cx) (e : Option Expr) (t : TO) : Prop :=
  ∀ (pins : List (Addr × Obj)) (s : Shared) (σ : St) (H : Hp) (Q : Option Int → Hp → Prop), Inv X pins σ H s → t σ H Q →
    wpAny (model X.prog X.w) X.A (evalPart e X.env) (fun u s' => ∃ o H', Inv X pins σ H' s' ∧ IsPart u o ∧ Q o H') X.xe s
def tNoPart : TO := fun _ H Q => Q none H
def tPart (t : TE) : TO := fun σ H Q => t σ H fun x H1 => ∃ i, x = .int i ∧ Q (some i) H1
section
variable {X : Cx} {e : Expr} {te : TE} {lo hi : Option Expr} {tl th : TO} {pos p2 : Pos}
theorem po_none : PO X none tNoPart := by
  intro pins s σ H Q I h
  rw [evalPart_none]
  exact wpAny_pure ⟨none, H, I, .none, h⟩
theorem po_some (h : PE X e te) : PO X (some e) (tPart te) := by
  intro pins s σ H Q I hw
  rw [evalPart_some]
  refine thn (h pins s σ H _ I hw) fun u s1 ⟨x, H1, I1, r1, q1⟩ => ?_
  obtain ⟨i, rfl, q⟩ := q1
  obtain ⟨t, rfl⟩ := r1
  exact ⟨some i, H1, I1, .int i t, q⟩
/-- what a slice of a value is, by values: the slice object stands at sl -/
def SlR (X : Cx) (r : V → Option Int → Option Int → Hp → VK → Prop) : Prop :=
  ∀ (pins : List (Addr × Obj)) (s : Shared) (σ : St) (H : Hp) (x : V) (v vl vu : Value) (lo hi : Option Int) (sl : Addr) (Q : VK), Inv X pins σ H s → RelV x v → s.heap.IsSliceOf sl vl vu .none → IsPart vl lo → IsPart vu hi → r x lo hi H Q →
    ∃ T id, typeLookup (.type T) "__getitem__" = pure (some (.builtin id)) ∧ s.TypeIs v T ∧ wpAny (model X.prog X.w) X.A (getItem v (.ref sl)) (EP X pins σ Q) X.xe s
def tSl (r : V → Option Int → Option Int → Hp → VK → Prop) (te : TE) (tl th : TO) : TE := fun σ H Q => te σ H fun x H1 => tl σ H1 fun l H2 => th σ H2 fun u H3 => r x l u H3 Q
/-- a[lo:hi], any a -/
theorem pe_slice {r : V → Option Int → Option Int → Hp → VK → Prop} (hr : SlR X r) (he : PE X e te) (hl : PO X lo tl) (hu : PO X hi th) : PE X (.Subscript e (.Slice lo hi none p2) pos) (tSl r te tl th) := by
  intro pins s σ H Q I h
  refine Subscript_ (thn (he pins s σ H _ I h) fun v s1 ⟨x, H1, I1, r1, q1⟩ => ?_)
  refine wpAny_Slice (thn (hl pins s1 σ H1 _ I1 q1) fun vl s2 ⟨l, H2, I2, pl, q2⟩ => thn (hu pins s2 σ H2 _ I2 q2) fun vu s3 ⟨u, H3, I3, pu, q3⟩ => ?_)
  rw [evalPart_none]
  refine wpAny_pure ?_
  have I4 : Inv X pins σ H3 { s3 with heap := s3.heap.push { cls := .type "slice", data := .fields #[vl, vu, .none] } } := I3.kept (t' := s3.toks) fun b ob q => Heap.get?_push_of_some _ q
  obtain ⟨T, id, hT, ht, hg⟩ := hr pins { s3 with heap := s3.heap.push { cls := .type "slice", data := .fields #[vl, vu, .none] } } σ H3 x v vl vu l u s3.heap.objs.size Q I4 r1 (Heap.IsSliceOf.new ..) pl pu q3
  show wpAny (model X.prog X.w) X.A (subscriptTail e (.Slice lo hi none p2) v (.ref s3.heap.objs.size)) (EP X pins σ Q) X.xe { s3 with heap := s3.heap.push { cls := .type "slice", data := .fields #[vl, vu, .none] } }
  exact tail_any (ops := [.ref s3.heap.objs.size, v]) ht hT hg (by with_unfolding_all rfl)
/-- the items of xs[lo:hi] -/
def cutV (xs : List V) (lo hi : Option Int) : List V := (xs.drop (HT.sIx xs.length 0 lo)).take (HT.sIx xs.length xs.length hi - HT.sIx xs.length 0 lo)
theorem cutV_length (xs : List V) (lo hi : Option Int) : (cutV xs lo hi).length ≤ xs.length := by
  unfold cutV
  rw [List.length_take, List.length_drop]
  omega
/-! ### t < u, t + u -/
end
end L2
namespace L2
open PySem PySem.Spec PyProof.Rows
/-! ### places -/
/-- the place that an index of any sign means -/
def ixN (n : Nat) (i : Int) : Option Nat := if 0 ≤ i then (if i < n then some i.toNat else none) else if -(n : Int) ≤ i then some (i + n).toNat else none
def atI {α : Type} (xs : List α) (i : Int) : Option α := (ixN xs.length i).bind fun j => xs[j]?
theorem ixN_seq {n : Nat} {i : Int} {j : Nat} (h : ixN n i = some j) : seqIndex? i n = some j ∧ j < n ∧ -(n : Int) ≤ i ∧ i < n := by
  unfold ixN at h
  by_cases h0 : 0 ≤ i
  · rw [if_pos h0] at h
    by_cases h1 : i < n
    · rw [if_pos h1] at h
      have e : i.toNat = j := Option.some.inj h
      exact ⟨by rw [seqIndex_of h0 h1, e], by omega, by omega, h1⟩
    · rw [if_neg h1] at h; cases h
  · rw [if_neg h0] at h
    by_cases h1 : -(n : Int) ≤ i
    · rw [if_pos h1] at h
      have e : (i + n).toNat = j := Option.some.inj h
      exact ⟨by rw [seqIndex_neg (by omega) h1, e], by omega, h1, by omega⟩
    · rw [if_neg h1] at h; cases h
theorem atI_get {α : Type} {xs : List α} {i : Int} {v : α} (h : atI xs i = some v) : ∃ j, seqIndex? i xs.length = some j ∧ xs[j]? = some v ∧ j < xs.length ∧ -(xs.length : Int) ≤ i ∧ i < xs.length := by
  unfold atI at h
  cases e : ixN xs.length i with
  | none => rw [e] at h; cases h
  | some j =>
    rw [e] at h
    obtain ⟨h1, h2, h3, h4⟩ := ixN_seq e
    exact ⟨j, h1, h, h2, h3, h4⟩
theorem atI_nat {α : Type} {xs : List α} {j : Nat} {v : α} (h : xs[j]? = some v) : atI xs (j : Int) = some v := by
  have hj : j < xs.length := (List.getElem?_eq_some_iff.mp h).1
  have e : ixN xs.length (j : Int) = some j := by
    unfold ixN
    rw [if_pos (by omega), if_pos (by omega)]; simp
  unfold atI; rw [e]; exact h
/-! ### what may be subscripted -/
/-- what stands as an index of a plain subscript -/
def PlainIx (b : Expr) : Prop := ∀ o i, subscripted b false o i = operate [o, i] (getItem o i)
/-- a subscript by values -/
def IxR (X : Cx) (r : R2) : Prop :=
  ∀ (value slice : Expr) (pins : List (Addr × Obj)) (s : Shared) (σ : St) (H : Hp) (x y : V) (v u : Value) (Q : VK), Inv X pins σ H s → RelV x v → RelV y u → r x y H Q →
    subscripted slice false v u = operate [v, u] (getItem v u) → wpAny (model X.prog X.w) X.A (subscriptTail value slice v u) (EP X pins σ Q) X.xe s
/-- a call of a builtin's method by values: the receiver, the arguments -/
def MtR (X : Cx) (id : String) (r : V → List V → Hp → VK → Prop) : Prop :=
  ∀ (pins : List (Addr × Obj)) (s : Shared) (σ : St) (H : Hp) (x : V) (xs : List V) (v : Value) (us : List Value) (Q : VK), Inv X pins σ H s → RelV x v → Vals xs us → r x xs H Q →
    wpAny (model X.prog X.w) X.A (call (.builtin id) (v :: us)) (EP X pins σ Q) X.xe s
section
variable {X : Cx} {a b : Expr} {ta tb : TE} {pos : Pos}
/-- a[b] -/
theorem pe_ix {r : R2} (hr : IxR X r) (ha : PE X a ta) (hb : PE X b tb) (hs : PlainIx b) : PE X (.Subscript a b pos) (tOp r ta tb) := by
  intro pins s σ H Q I h
  exact Subscript_ (binT ha hb I h fun v u s2 x y H2 I2 rx ry q => hr a b pins s2 σ H2 x y v u Q I2 rx ry q (hs _ _))
def rIxL (K : PySem.W.Frag) : R2 := fun x y H Q => ∃ p xs i v, x = .ref p ∧ y = .int i ∧ SqL K H p xs ∧ atI xs i = some v ∧ Q v H
def rIxT (K : PySem.W.Frag) : R2 := fun x y H Q => ∃ p xs i v, x = .ref p ∧ y = .int i ∧ SqT K H p xs ∧ atI xs i = some v ∧ Q v H
theorem ix_list : IxR X (rIxL X.K) := by
  intro value slice pins s σ H x y v u Q I rx ry h hs
  obtain ⟨p, xs, i, z, rfl, rfl, hq, he, q⟩ := h
  cases rx
  obtain ⟨t, rfl⟩ := ry
  obtain ⟨its, r, pl, hz⟩ := I.list hq
  obtain ⟨j, h1, h2, h3, h4, h5⟩ := atI_get he
  obtain ⟨w, ew, rw'⟩ := r.get h2
  have hl := r.length
  have hn := line63
  have fin : EP X pins σ Q w s := ⟨z, H, I, rw', q⟩
  by_cases h0 : 0 ≤ i
  · have hj : i.toNat = j := by
      rw [seqIndex_of h0 h5] at h1
      exact Option.some.inj h1
    exact item_listR pl.isList h0 (by omega) (by rw [hj]; simpa using ew) fin hs
  · have hj : (i + (its.toArray.size : Int)).toNat = j := by
      rw [seqIndex_neg (by omega) h4] at h1
      rw [List.size_toArray, ← hl]
      exact Option.some.inj h1
    exact subscriptTail_builtinR (x := w) pl.isList.typeIs slot_list_getitem.lookup
      (wpAny_getItem_list_neg (Q := fun r s' => r = w ∧ EP X pins σ Q r s') pl.isList (by omega) (by rw [List.size_toArray] <;> omega) (by omega) (by rw [hj]; simpa using ew) ⟨rfl, fin⟩) hs
theorem ix_tup : IxR X (rIxT X.K) := by
  intro value slice pins s σ H x y v u Q I rx ry h hs
  obtain ⟨p, xs, i, z, rfl, rfl, hq, he, q⟩ := h
  cases rx
  obtain ⟨t, rfl⟩ := ry
  obtain ⟨its, r, pl, hz⟩ := I.tuple hq
  obtain ⟨j, h1, h2, h3, h4, h5⟩ := atI_get he
  obtain ⟨w, ew, rw'⟩ := r.get h2
  have hl := r.length
  have hn := line63
  have fin : EP X pins σ Q w s := ⟨z, H, I, rw', q⟩
  exact subscriptTail_builtinR (x := w) pl.typeIs slot_tuple_getitem.lookup
    (getItem_tuple (j := j) (Q := fun r s' => r = w ∧ EP X pins σ Q r s') pl (by omega) (by omega) (by rw [List.size_toArray, ← hl]; exact h1) (by simpa using ew) ⟨rfl, fin⟩) hs
/-! ### xs[i] = v, any sign -/
/-- the list's object behind a store -/
theorem mapSeq_set (its : List Value) (n j : Nat) (u : Value) : Obj.mapSeq (·.setIfInBounds j u) { cls := .type "list", data := .seq its.toArray n } = { cls := .type "list", data := .seq (its.set j u).toArray n } := by
  simp [Obj.mapSeq]
theorem Inv.lst {pins : List (Addr × Obj)} {σ : St} {H : Hp} {s : Shared} {p : Addr} {xs : List V} (I : Inv X pins σ H s) (h : H p = some (.lst xs)) :
    ∃ (its : List Value) (n : Nat), Vals xs its ∧ s.heap.get? p = some { cls := .type "list", data := .seq its.toArray n } ∧ xs.length ≤ sizeLine := by
  obtain ⟨z, its, n, r, e⟩ := I.hok p _ h
  exact ⟨its, n, r, e, z⟩
/-- the list at p is written by an update of its object -/
theorem Inv.lstUpd {pins : List (Addr × Obj)} {σ : St} {H : Hp} {s : Shared} {p : Addr} {xs ys : List V} {its its' : List Value} {n n' : Nat} {f : Obj → Obj} (I : Inv X pins σ H s) (h : H p = some (.lst xs))
    (ho : s.heap.get? p = some { cls := .type "list", data := .seq its.toArray n }) (hf : f { cls := .type "list", data := .seq its.toArray n } = { cls := .type "list", data := .seq its'.toArray n' }) (r : Vals ys its') (hz : ys.length ≤ sizeLine) (t : Nat) :
    Inv X pins σ (upd H p (.lst ys)) { s with heap := s.heap.update p f, toks := t } := by
  have e : (s.heap.update p f).get? p = some { cls := .type "list", data := .seq its'.toArray n' } := by
    rw [Heap.get?_update_self f ho (by rw [hf] <;> rfl), hf]
  refine I.write (x := p) (e := p) (by rw [h]; trivial) (.inl rfl) (fun b u hb q => (Heap.get?_update_other _ _ (Ne.symm hb)).trans q) ⟨_, e⟩ ?_
  exact ⟨hz, its', n', r, e⟩
def rSetL : V → V → V → Hp → (Hp → Prop) → Prop := fun o i v H Q => ∃ p xs k j, o = .ref p ∧ i = .int k ∧ H p = some (.lst xs) ∧ ixN xs.length k = some j ∧ Q (upd H p (.lst (xs.set j v)))
theorem set_list : PSet X rSetL := by
  intro pins s σ H o i v ov iv u Q I ro ri rv h
  obtain ⟨p, xs, k, j, rfl, rfl, hp, hj, q⟩ := h
  cases ro
  obtain ⟨t, rfl⟩ := ri
  obtain ⟨its, n, r, ho, hz⟩ := I.lst hp
  obtain ⟨h1, h2, h3, h4⟩ := ixN_seq hj
  have hl := r.length
  have hn := line63
  have I' : Inv X pins σ (upd H p (.lst (xs.set j v))) { s with heap := s.heap.update p (Obj.mapSeq (·.setIfInBounds j u)) } :=
    I.lstUpd hp ho (mapSeq_set its n j u) (r.set rv j) (by rw [List.length_set]; exact hz) s.toks
  by_cases h0 : 0 ≤ k
  · have hk : k.toNat = j := by
      rw [seqIndex_of h0 h4] at h1
      exact Option.some.inj h1
    exact PySem.W.ki_setAt ho h0 (by omega) (by rw [List.size_toArray, ← hl]; exact h4) (by rw [hk]; exact ⟨_, I', q⟩)
  · have hk : (k + (its.toArray.size : Int)).toNat = j := by
      rw [seqIndex_neg (by omega) h3] at h1
      rw [List.size_toArray, ← hl]
      exact Option.some.inj h1
    exact PySem.W.ki_setBack ho (by omega) (by rw [List.size_toArray, ← hl]; exact h3) (by omega) (by rw [hk]; exact ⟨_, I', q⟩)
/-! ### slices -/
theorem slice_bounds (lo hi : Option Int) (n : Nat) : (sliceBounds lo hi none n).1 = ((HT.sIx n 0 lo : Nat) : Int) ∧ (sliceBounds lo hi none n).2.1 = ((HT.sIx n n hi : Nat) : Int) ∧ (sliceBounds lo hi none n).2.2 = 1 := by
  refine ⟨?_, ?_, rfl⟩
  · cases lo with
    | none => simp [sliceBounds, HT.sIx]
    | some i =>
      simp only [sliceBounds, HT.sIx, Option.getD_none, show (1 : Int) > 0 by decide, if_true]
      by_cases h : i < 0
      · simp only [h, if_true] <;> omega
      · simp only [h, if_false] <;> omega
  · cases hi with
    | none => simp [sliceBounds, HT.sIx]
    | some i =>
      simp only [sliceBounds, HT.sIx, Option.getD_none, show (1 : Int) > 0 by decide, if_true]
      by_cases h : i < 0
      · simp only [h, if_true] <;> omega
      · simp only [h, if_false] <;> omega
theorem slicePick_cut (its : List Value) (lo hi : Option Int) : slicePick its.toArray lo hi none = ((its.drop (HT.sIx its.length 0 lo)).take (HT.sIx its.length its.length hi - HT.sIx its.length 0 lo)).toArray := by
  obtain ⟨h1, h2, h3⟩ := slice_bounds lo hi its.toArray.size
  unfold slicePick
  rw [h1, h2, h3]
  simp only [sliceRange_one, pick_run, List.size_toArray] <;> rfl
/-- xs[lo:hi] of a list: a new list -/
def rSlL (K : PySem.W.Frag) : V → Option Int → Option Int → Hp → VK → Prop := fun x lo hi H Q => ∃ a xs, x = .ref a ∧ SqL K H a xs ∧ ∀ p, H p = none → Q (.ref p) (upd H p (.lst (cutV xs lo hi)))
theorem sl_list : SlR X (rSlL X.K) := by
  intro pins s σ H x v vl vu lo hi sl Q I rx hs pl pu h
  obtain ⟨a, xs, rfl, hx, q⟩ := h
  cases rx
  obtain ⟨its, r, ht, hz⟩ := I.list hx
  have hlen := r.length
  refine ⟨"list", _, slot_list_getitem.lookup, ht.isList.typeIs, ?_⟩
  refine wpAny_getItem_list_slice ht.isList hs pl pu .none (by simp) ?_ (by rw [List.size_toArray] <;> omega)
  rw [slicePick_cut, ← hlen]
  refine ⟨.ref s.heap.objs.size, _, I.laid (t' := s.toks) (o := .lst (cutV xs lo hi)) (fun b ob q => Heap.get?_push_of_some _ q) (Nat.le_refl _) ?_, rfl, q _ (I.hok.fresh (Nat.le_refl _))⟩
  exact ⟨Nat.le_trans (cutV_length xs lo hi) hz, _, 0, (r.drop (HT.sIx xs.length 0 lo)).take (HT.sIx xs.length xs.length hi - HT.sIx xs.length 0 lo), Heap.get?_push_size _ rfl⟩
/-! ### in, not in: flat items -/
/-! ### len, list(x), tuple(x) of any list or tuple that is read -/
theorem call_len_seq : CallR X (.builtin "len") (fun xs H Q => ∃ p ys, xs = [.ref p] ∧ (SqL X.K H p ys ∨ SqT X.K H p ys) ∧ Q (.int ys.length) H) := by
  intro pins s σ H xs us Q I r h
  obtain ⟨p, ys, rfl, hq, q⟩ := h
  obtain ⟨u, rfl, rx⟩ := vals1 r
  cases rx
  have hn := line63
  rcases hq with hq | hq
  · obtain ⟨its, r', pl, hz⟩ := I.list hq
    have hlen := r'.length
    exact Calls.call_len_list pl.isList (by simp only [List.size_toArray] <;> omega) ⟨.int ys.length, H, I.tok _, ⟨s.toks + 1, by rw [List.size_toArray, hlen]⟩, q⟩
  · obtain ⟨its, r', pl, hz⟩ := I.tuple hq
    have hlen := r'.length
    exact len_tuple pl (by simp only [List.size_toArray] <;> omega) ⟨.int ys.length, H, I.tok _, ⟨s.toks + 1, by rw [List.size_toArray, hlen]⟩, q⟩
theorem call_list_of : CallR X (.type "list") (fun xs H Q => ∃ p ys, xs = [.ref p] ∧ (SqL X.K H p ys ∨ SqT X.K H p ys) ∧ ∀ l, H l = none → Q (.ref l) (upd H l (.lst ys))) := by
  intro pins s σ H xs us Q I r h
  obtain ⟨p, ys, rfl, hq, q⟩ := h
  obtain ⟨u, rfl, rx⟩ := vals1 r
  cases rx
  have fin : ∀ (its : List Value), Vals ys its → ys.length ≤ sizeLine → ∀ (h' : Heap) (c' : Nat), (∀ b o', s.heap.get? b = some o' → h'.get? b = some o') →
      h'.get? s.heap.objs.size = some { cls := .type "list", dict := none, data := .seq its.toArray c', slots := #[] } → EP X pins σ Q (.ref s.heap.objs.size) { s with heap := h' } := fun its r' hz h' c' kp e =>
    ⟨.ref s.heap.objs.size, _, I.laid (t' := s.toks) kp (Nat.le_refl _) (show ObjOk X.prog X.w _ h' _ (.lst ys) from ⟨hz, its, c', r', e⟩), rfl, q _ (I.hok.fresh (Nat.le_refl _))⟩
  rcases hq with hq | hq
  · obtain ⟨its, r', pl, hz⟩ := I.list hq
    have hlen := r'.length
    obtain ⟨o, ho, hc, n, hd⟩ := pl.isList
    exact call_list_seq p (.inl rfl) ho hc hd (fun h' c' kp e => fin its r' hz h' c' kp e) (by simp only [List.size_toArray] <;> omega)
  · obtain ⟨its, r', pl, hz⟩ := I.tuple hq
    have hlen := r'.length
    obtain ⟨o, ho, hc, n, hd⟩ := pl
    exact call_list_seq p (.inr rfl) ho hc hd (fun h' c' kp e => fin its r' hz h' c' kp e) (by simp only [List.size_toArray] <;> omega)
theorem call_tuple_of : CallR X (.type "tuple") (fun xs H Q => ∃ p ys, xs = [.ref p] ∧ ((SqL X.K H p ys ∧ ∀ l, H l = none → Q (.ref l) (upd H l (.tup ys))) ∨ (SqT X.K H p ys ∧ Q (.ref p) H))) := by
  intro pins s σ H xs us Q I r h
  obtain ⟨p, ys, rfl, h⟩ := h
  obtain ⟨u, rfl, rx⟩ := vals1 r
  cases rx
  rcases h with ⟨hq, q⟩ | ⟨hq, q⟩
  · obtain ⟨its, r', pl, hz⟩ := I.list hq
    have hlen := r'.length
    refine call_tuple_list pl.isList (fun h' kp => ?_) (by simp only [List.size_toArray] <;> omega)
    have I1 : Inv X pins σ H { s with heap := h' } := I.kept (t' := s.toks) kp
    have I2 : Inv X pins σ (upd H h'.objs.size (.tup ys)) { s with heap := h'.push { cls := .type "tuple", data := .seq its.toArray } } :=
      I1.laid (t' := s.toks) (fun b o e => Heap.get?_push_of_some _ e) (Nat.le_refl _) (show ObjOk X.prog X.w _ _ _ (.tup ys) from ⟨hz, its, r', IsTup.new _ _⟩)
    exact ⟨.ref h'.objs.size, _, I2, rfl, q _ (I1.hok.fresh (Nat.le_refl _))⟩
  · obtain ⟨its, r', pl, hz⟩ := I.tuple hq
    exact call_tuple_same pl ⟨.ref p, H, I, rfl, q⟩
/-! ### the call of a builtin's method: o.m(..) -/
/-- the value is of that builtin type -/
def tyV (K : PySem.W.Frag) (T : String) (x : V) (H : Hp) : Prop := match x with
  | .str _ => T = "str"
  | .int _ => T = "int"
  | .ref p => (T = "list" ∧ ∃ xs, SqL K H p xs) ∨ (T = "tuple" ∧ ∃ o, K.lookup p = some o ∧ o.cls = .type "tuple" ∧ o.dict = none) ∨
      (T = "dict" ∧ ((∃ kvs, H p = some (.dK kvs)) ∨ ∃ kvs, H p = some (.dT kvs))) ∨ (T = "set" ∧ ∃ S n, H p = some (.set S n))
  | _ => False
theorem tyV_is {pins : List (Addr × Obj)} {σ : St} {H : Hp} {s : Shared} {T : String} {x : V} {v : Value} (I : Inv X pins σ H s) (r : RelV x v) (ty : tyV X.K T x H) :
    s.TypeIs v T ∧ ∀ a, v = .ref a → ∃ ob, s.heap.get? a = some ob ∧ ob.dict = none := by
  cases x with
  | str z =>
    obtain ⟨t, rfl⟩ := r
    cases (show T = "str" from ty)
    exact ⟨typeIs_str s z t, fun _ e => nomatch e⟩
  | int i =>
    obtain ⟨t, rfl⟩ := r
    cases (show T = "int" from ty)
    exact ⟨typeIs_int s i t, fun _ e => nomatch e⟩
  | ref p =>
    cases r
    rcases ty with ⟨rfl, xs, hq⟩ | ⟨rfl, o, hk, hc, hd⟩ | ⟨rfl, hk⟩ | ⟨rfl, S, n, hk⟩
    · obtain ⟨its, _, pl, _⟩ := I.list hq
      refine ⟨pl.isList.typeIs, fun a e => ?_⟩
      cases e
      obtain ⟨o, n, e, c, hd, _⟩ := pl
      exact ⟨o, e, hd⟩
    · refine ⟨⟨o, I.kIn p o hk, hc⟩, fun a e => ?_⟩
      cases e
      exact ⟨o, I.kIn _ o hk, hd⟩
    · have z : ∃ o, s.heap.get? p = some o ∧ o.ExactDict := by
        rcases hk with ⟨kvs, hk⟩ | ⟨kvs, hk⟩
        · obtain ⟨_, _, _, _, o, _, _, e, ex, _⟩ := I.hok p _ hk
          exact ⟨o, e, ex⟩
        · obtain ⟨_, _, _, _, o, _, _, e, ex, _⟩ := I.hok p _ hk
          exact ⟨o, e, ex⟩
      obtain ⟨o, e, ex⟩ := z
      refine ⟨⟨o, e, ex.1⟩, fun a e2 => ?_⟩
      cases e2
      exact ⟨o, e, ex.2.1⟩
    · obtain ⟨o, _, _, _, e, ex, _⟩ := I.hok p _ hk
      refine ⟨⟨o, e, ex.1⟩, fun a e2 => ?_⟩
      cases e2
      exact ⟨o, e, ex.2.1⟩
  | _ => exact False.elim ty
def tBM0 (K : PySem.W.Frag) (T : String) (r : V → List V → Hp → VK → Prop) (to : TE) : TE := fun σ H Q => to σ H fun x H1 => tyV K T x H1 ∧ r x [] H1 Q
def tBM (K : PySem.W.Frag) (T : String) (r : V → List V → Hp → VK → Prop) (to : TE) (t : TA) : TE := fun σ H Q => to σ H fun x H1 => tyV K T x H1 ∧ t σ H1 fun xs H2 => r x xs H2 Q
variable {o e : Expr} {es : List Expr} {to : TE} {t : TA} {name : Str} {apos cpos : Pos} {T id : String} {r : V → List V → Hp → VK → Prop}
theorem pe_bm0 (pa : PlainAttrs T) (slot : Slot T name id) (hty : typeOf (.builtin id) = pure (.type "method_descriptor")) (hm : MtR X id r) (ho : PE X o to)
    (hbase : attributeBase o name X.env (eval o X.env) = eval o X.env := by rfl) (hline : (apos.endLine == cpos.line) = true := by rfl) : PE X (.Call (.Attribute o name apos) [] [] cpos) (tBM0 X.K T r to) := by
  intro pins s σ H Q I h
  refine wpAny_Call_method0_late hbase hline (thn (ho pins s σ H _ I h) fun v s1 ⟨x, H1, I1, r1, ty, q1⟩ => ?_)
  obtain ⟨h1, h2⟩ := tyV_is I1 r1 ty
  exact ⟨T, id, pa, slot, hty, h1, h2, Calls.callWith_builtin rfl (PySem.evalArgs_none (hm pins s1 σ H1 x [] v [] Q I1 r1 .nil q1))⟩
theorem pe_bm (pa : PlainAttrs T) (slot : Slot T name id) (hty : typeOf (.builtin id) = pure (.type "method_descriptor")) (hm : MtR X id r) (ho : PE X o to) (ha : PA X (e :: es) t)
    (hbase : attributeBase o name X.env (eval o X.env) = eval o X.env := by rfl)
    (hfew : ((backTo cpos (starEach (e :: es) X.env)).all (fun x => !x.1) && (backToKw cpos (keywordEach [] X.env)).all (fun x => x.1.isSome)
      && decide ((e :: es).length + ([] : List Keyword).length + (if ([] : List Keyword).isEmpty then 0 else 1) < 30)) = true := by rfl)
    (hline : (apos.endLine == cpos.line) = true := by rfl) (hs : starEach (e :: es) X.env = (false, eval e X.env) :: starEach es X.env := by rfl) (hplain : (backTo cpos (starEach es X.env)).any (·.1) = false := by rfl) :
    PE X (.Call (.Attribute o name apos) (e :: es) [] cpos) (tBM X.K T r to t) := by
  intro pins s σ H Q I h
  refine wpAny_Call_method_late hbase hfew hline rfl (thn (ho pins s σ H _ I h) fun v s1 ⟨x, H1, I1, r1, ty, q1⟩ => ?_)
  obtain ⟨h1, h2⟩ := tyV_is I1 r1 ty
  refine ⟨T, id, pa, slot, hty, h1, h2, ?_⟩
  have hA := ha cpos pins s1 σ H1 _ I1 q1
  rw [hs] at hA ⊢
  refine Calls.callWith_builtin (by show (false || (backTo cpos (starEach es X.env)).any (·.1)) = false; rw [hplain] <;> rfl) (Calls.evalArgs_plain ?_)
  exact thn hA fun us s2 ⟨vs, H2, I2, r2, q2⟩ => hm pins s2 σ H2 x vs v us Q I2 r1 r2 q2
/- xs.append(e), list.index on a module's tuple .. are MtR facts of 06m -/
end
end L2
namespace L2
open PySem PySem.Spec PyProof.Rows
def MtM (X : Cx) (id : String) (r : V → List V → Hp → VK → Prop) : Prop :=
  ∀ (pins : List (Addr × Obj)) (s : Shared) (σ : St) (H : Hp) (x : V) (xs : List V) (v : Value) (us : List Value) (Q : VK), Inv X pins σ H s → RelV x v → Vals xs us → r x xs H Q →
    wpAny (model X.prog X.w) X.A (call (.builtin id) (v :: us)) (EP X pins σ Q) X.xe s
/-! ### lists of values -/
theorem Vals.one : ∀ {x : V} {us : List Value}, Vals [x] us → ∃ u, us = [u] ∧ RelV x u
  | _, _, .cons r .nil => ⟨_, rfl, r⟩
theorem Vals.zero : ∀ {us : List Value}, Vals [] us → us = []
  | _, .nil => rfl
theorem Vals.dropLast {xs : List V} {us : List Value} (h : Vals xs us) : Vals xs.dropLast us.dropLast := by
  induction h with
  | nil => exact .nil
  | cons r t ih =>
    cases t with
    | nil => exact .nil
    | cons q t' => exact .cons r ih
theorem Vals.rep {xs : List V} {us : List Value} (h : Vals xs us) : ∀ k : Nat, Vals (List.replicate k xs).flatten (List.replicate k us).flatten
  | 0 => .nil
  | k + 1 => by
    rw [List.replicate_succ, List.replicate_succ, List.flatten_cons, List.flatten_cons]
    exact Vals.append h (Vals.rep h k)
theorem erase_last {α : Type} (l : List α) : l.eraseIdx (l.length - 1) = l.dropLast := by
  induction l with
  | nil => rfl
  | cons a r ih =>
    cases r with
    | nil => rfl
    | cons b r =>
      have e : (a :: b :: r).length - 1 = ((b :: r).length - 1) + 1 := by
        have h1 : (a :: b :: r).length = r.length + 2 := rfl
        have h2 : (b :: r).length = r.length + 1 := rfl
        omega
      rw [e, List.eraseIdx_cons_succ, ih]
      all_goals rfl
theorem foldl_rep (its : List Value) : ∀ (k : Nat) (acc : List Value),
    List.foldl (fun x1 x2 => x1 ++ x2) acc.toArray (List.replicate k its.toArray) = (acc ++ (List.replicate k its).flatten).toArray
  | 0, acc => by simp
  | k + 1, acc => by
    have e : acc.toArray ++ its.toArray = (acc ++ its).toArray := by simp
    have e2 : (acc ++ its) ++ (List.replicate k its).flatten = acc ++ (List.replicate (k + 1) its).flatten := by
      rw [List.replicate_succ, List.flatten_cons, List.append_assoc]
    rw [← e2, ← foldl_rep its k (acc ++ its), ← e, List.replicate_succ, List.foldl_cons]
section
variable {X : Cx} {pins : List (Addr × Obj)} {σ : St} {H : Hp} {s : Shared} {l b : Addr} {xs ys zs : List V}
/-! ### the two steps: a tracked list is rewritten, a new list is laid -/
theorem Inv.lset {its its' : List Value} {n : Nat} {f : Array Value → Array Value} {t' : Nat} (I : Inv X pins σ H s) (hH : H l = some (.lst xs))
    (e : s.heap.get? l = some { cls := .type "list", data := .seq its.toArray n }) (hf : f its.toArray = its'.toArray) (hv : Vals ys its') (hz : ys.length ≤ sizeLine) :
    Inv X pins σ (upd H l (.lst ys)) { s with heap := s.heap.update l (Obj.mapSeq f), toks := t' } := by
  have q := PySem.IsL.update e f
  rw [hf] at q
  refine I.write (x := l) (e := l) (by rw [hH]; exact trivial) (.inl rfl) (fun b' u hb hu => (Heap.get?_update_other s.heap (Obj.mapSeq f) (Ne.symm hb)).trans hu) ⟨_, q⟩ ?_
  exact ⟨hz, its', _, hv, q⟩
theorem Inv.lnew {its : List Value} {t' : Nat} (I : Inv X pins σ H s) (hv : Vals ys its) (hz : ys.length ≤ sizeLine) :
    Inv X pins σ (upd H s.heap.objs.size (.lst ys)) { s with heap := s.heap.push { cls := .type "list", data := .seq its.toArray }, toks := t' } :=
  I.laid (fun _ _ q => Heap.get?_push_of_some _ q) (Nat.le_refl _) ⟨hz, its, 0, hv, Heap.get?_push_size _ rfl⟩
theorem Inv.fresh (I : Inv X pins σ H s) : H s.heap.objs.size = none := I.hok.fresh (Nat.le_refl _)
theorem Inv.lstM (I : Inv X pins σ H s) (hH : H l = some (.lst xs)) : xs.length ≤ sizeLine ∧ ∃ (its : List Value) (n : Nat), Vals xs its ∧ xs.length = its.length ∧ s.heap.get? l = some { cls := .type "list", data := .seq its.toArray n } := by
  obtain ⟨z, its, n, r, e⟩ := I.hok l _ hH
  exact ⟨z, its, n, r, r.length, e⟩
theorem notLongL {n : Nat} (h : n ≤ sizeLine) : Builtin.List.listTooLong n = false := by
  unfold Builtin.List.listTooLong
  exact decide_eq_false (by omega)
end
section
variable {X : Cx}
/-! ### methods -/
def rAppend : V → List V → Hp → VK → Prop := fun x vs H Q => ∃ l xs y, x = .ref l ∧ vs = [y] ∧ H l = some (.lst xs) ∧ xs.length < sizeLine ∧ Q .non (upd H l (.lst (xs ++ [y])))
theorem mt_append : MtM X "list.append" rAppend := by
  intro pins s σ H x vs v us Q I rx rv h
  obtain ⟨l, xs, y, rfl, rfl, hH, hz, q⟩ := h
  cases rx
  obtain ⟨u, rfl, ru⟩ := rv.one
  obtain ⟨z, its, n, r, hl, e⟩ := I.lstM hH
  refine call_meets F.slot_list_append ⟨_, e, rfl⟩ F.entry_list_append (F.args_list_append_2 _ _) (PySem.list_append l its.toArray n u (by rw [List.size_toArray]; omega)) ⟨e, ?_⟩
  refine ⟨.non, _, I.lset (its' := its ++ [u]) hH e (by simp) (r.append (.cons ru .nil)) ?_, rfl, q⟩
  rw [List.length_append, List.length_singleton]
  omega
def rExtend : V → List V → Hp → VK → Prop := fun x vs H Q => ∃ l b xs zs, x = .ref l ∧ vs = [.ref b] ∧ H l = some (.lst xs) ∧ H b = some (.lst zs) ∧ xs.length + zs.length ≤ sizeLine ∧ Q .non (upd H l (.lst (xs ++ zs)))
theorem mt_extend : MtM X "list.extend" rExtend := by
  intro pins s σ H x vs v us Q I rx rv h
  obtain ⟨l, b, xs, zs, rfl, rfl, hH, hB, hz, q⟩ := h
  cases rx
  obtain ⟨u, rfl, ru⟩ := rv.one
  cases ru
  obtain ⟨z, its, n, r, hl, e⟩ := I.lstM hH
  obtain ⟨z2, its2, n2, r2, hl2, e2⟩ := I.lstM hB
  have hsz : its.toArray.size + its2.toArray.size ≤ sizeLine := by rw [List.size_toArray, List.size_toArray]; omega
  have hlong : ¬ (!its.toArray.isEmpty && Builtin.List.listTooLong (its.toArray.size + its2.toArray.size)) = true := by
    rw [notLongL hsz, Bool.and_false]
    exact Bool.false_ne_true
  refine call_meets F.slot_list_extend ⟨_, e, rfl⟩ F.entry_list_extend (F.args_list_extend_2 _ _)
    (AutoSeq1.list_extend_list_list_0 l its.toArray n b its2.toArray n2 hlong (by rw [List.size_toArray]; omega) (by omega)) ⟨e, e2, ?_⟩
  refine ⟨.non, _, I.lset (its' := its ++ its2) hH e (by simp) (r.append r2) ?_, rfl, q⟩
  rw [List.length_append]
  omega
def rPop : V → List V → Hp → VK → Prop := fun x vs H Q => ∃ l xs y, x = .ref l ∧ vs = [] ∧ H l = some (.lst xs) ∧ xs[xs.length - 1]? = some y ∧ Q y (upd H l (.lst xs.dropLast))
theorem mt_pop : MtM X "list.pop" rPop := by
  intro pins s σ H x vs v us Q I rx rv h
  obtain ⟨l, xs, y, rfl, rfl, hH, hy, q⟩ := h
  cases rx
  have hus := rv.zero
  subst hus
  obtain ⟨z, its, n, r, hl, e⟩ := I.lstM hH
  obtain ⟨u, hu, ru⟩ := r.get hy
  have hy' : its.toArray[its.toArray.size - 1]? = some u := by
    show its.toArray[its.length - 1]? = some u
    rw [← Array.getElem?_toList, ← hl]
    exact hu
  refine call_meets F.slot_list_pop ⟨_, e, rfl⟩ F.entry_list_pop (F.args_list_pop_1 _) (MeetsSeq.list_pop_last l its.toArray n u hy' (by rw [List.size_toArray]; omega)) ⟨e, ?_⟩
  refine ⟨y, _, I.lset (its' := its.dropLast) hH e ?_ r.dropLast ?_, ru, q⟩
  · show its.toArray.eraseIdxIfInBounds (its.toArray.size - 1) = its.dropLast.toArray
    rw [List.size_toArray, List.eraseIdxIfInBounds_toArray, erase_last]
  · rw [List.length_dropLast]
    omega
/-! ### list + list, list += list, list * int -/
def rCat : R2 := fun x y H Q => ∃ l b xs zs, x = .ref l ∧ y = .ref b ∧ H l = some (.lst xs) ∧ H b = some (.lst zs) ∧ xs.length + zs.length ≤ sizeLine ∧ ∀ p, H p = none → Q (.ref p) (upd H p (.lst (xs ++ zs)))
theorem op_cat : OpR X (binaryOp .Add) rCat := by
  intro pins s σ H x y v u Q I rx ry h
  obtain ⟨l, b, xs, zs, rfl, rfl, hH, hB, hz, q⟩ := h
  cases rx
  cases ry
  obtain ⟨z, its, n, r, hl, e⟩ := I.lstM hH
  obtain ⟨z2, its2, n2, r2, hl2, e2⟩ := I.lstM hB
  refine PySem.P.add_list e e2 ?_ (by rw [List.size_toArray, List.size_toArray]; omega)
  have ea : its.toArray ++ its2.toArray = (its ++ its2).toArray := by simp
  rw [ea]
  exact ⟨.ref _, _, I.lnew (t' := s.toks) (r.append r2) (by rw [List.length_append]; omega), rfl, q _ I.fresh⟩
/-- a list times an int (a negative one is nothing) -/
def rRep : R2 := fun x y H Q => ∃ l k xs, x = .ref l ∧ y = .int k ∧ H l = some (.lst xs) ∧ -(2 ^ 63) ≤ k ∧ k < 2 ^ 63 ∧ xs.length * k.toNat ≤ sizeLine ∧
  ∀ p, H p = none → Q (.ref p) (upd H p (.lst (List.replicate k.toNat xs).flatten))
theorem len_rep {α : Type} (xs : List α) (k : Nat) : (List.replicate k xs).flatten.length = k * xs.length := by
  induction k with
  | zero => simp
  | succ k ih => rw [List.replicate_succ, List.flatten_cons, List.length_append, ih, Nat.succ_mul, Nat.add_comm]
theorem op_rep : OpR X (binaryOp .Mult) rRep := by
  intro pins s σ H x y v u Q I rx ry h
  obtain ⟨l, k, xs, rfl, rfl, hH, h1, h2, hz, q⟩ := h
  cases rx
  obtain ⟨t, rfl⟩ := ry
  obtain ⟨z, its, n, r, hl, e⟩ := I.lstM hH
  have hlen : its.toArray.size * k.toNat ≤ sizeLine := by rw [List.size_toArray, ← hl]; exact hz
  have hcap : ¬ its.toArray.size * k.toNat > (2 ^ 63 - 1) / 8 := by
    have : (sizeLine : Nat) ≤ (2 ^ 63 - 1) / 8 := by decide
    omega
  have hfit : ¬ (!Builtin.List.listFitsIndex k) = true := by
    rw [fitsIndex_both h1 h2]
    exact Bool.false_ne_true
  have hlong : ¬ Builtin.List.listTooLong (its.toArray.size * k.toNat) = true := by
    rw [notLongL hlen]
    exact Bool.false_ne_true
  have hnew : List.foldl (fun x1 x2 => x1 ++ x2) #[] (List.replicate (if its.toArray.isEmpty = true then 0 else k.toNat) its.toArray) = (List.replicate k.toNat its).flatten.toArray := by
    have f0 : ∀ m : Nat, List.foldl (fun x1 x2 => x1 ++ x2) #[] (List.replicate m its.toArray) = (List.replicate m its).flatten.toArray := fun m => by
      have := foldl_rep its m []
      rw [List.nil_append] at this
      exact this
    rw [f0]
    cases its with
    | nil => simp
    | cons a r' => rw [if_neg (by simp)]
  refine wpAny_binaryOp_repeat_ref (T := "list") (U := "int") (by decide) ⟨_, e, rfl⟩ (fun s' => typeIs_int s' k t) noFill_list_mul F.fills_int_mul F.slot_int_rmul repeat_list F.slot_int_index.lookup
    (call_meets F.slot_int_rmul (typeIs_int s k t) F.entry_int_rmul (F.args_int_rmul_2 _ _) (int___rmul___int_list k t l its.toArray n)
      ⟨e, rfl, ⟨_, e, rfl⟩, call_meets F.slot_list_mul ⟨_, e, rfl⟩ F.entry_list_mul (F.args_list_mul_2 _ _) (AutoListH.list___mul___list_int_3 l its.toArray n k t hfit hcap hlong) ⟨e, ?_⟩⟩)
  rw [hnew]
  exact ⟨.ref _, _, I.lnew (t' := s.toks) (r.rep k.toNat) (by rw [len_rep, Nat.mul_comm]; exact hz), rfl, q _ I.fresh⟩
/-! ### del xs[i] -/
end
/-! ### xs[a:b] = ys -/
section
variable {prog : Program} {w : World} {A : Around} {E : Value → Shared → Prop} {s : Shared}
set_option maxRecDepth 100000 in
end
section
variable {X : Cx}
end
end L2
namespace L2
open PySem PySem.Spec PyProof.Rows
/-! ### the library's walks over a list of ints, kept objects alone -/
section
variable {prog : Program} {w : World} {A : Around} {E : Value → Shared → Prop} {s : Shared} {l : Addr} {its : List Value} {ns : List Int} {Q : Value → Shared → Prop}
end
/-! ### the calls, by values (CallR of 03t; MtR of 06l) -/
section
variable {X : Cx}
/-! sorted, sort (fewer than 64 items: the library's own bound) -/
end
/-! ### list.index, flat items -/
section
variable {X : Cx}
end
/-! ### type(x) of an own instance; is, is not of a module's class -/
section
variable {X : Cx}
end
/-! ### any(xs), all(xs) of a list of bools -/
section
variable {X : Cx}
end
/-! ### == and != of data at any depth: none, bools, ints, texts, lists, tuples -/
section
variable {X : Cx} {pins : List (Addr × Obj)} {σ : St} {H : Hp} {s : Shared}
end
section
variable {X : Cx}
end
end L2
namespace L2
open PySem PySem.Spec PyProof.Rows
abbrev CellAt (h : Heap) (c : Addr) (v : Option Value) : Prop := h.IsCell c v
def relS (scope sc : Scope) : Scope :=
  { scope with names := scope.names.map fun (n, k) => if (k == .free && sc.kind == .function && sc.names.lookup n == some .cell) then (n, .cell) else (n, k) }
def cloFrom (cells : List (Str × Addr)) : List (Str × NameKind) → List (Str × Addr) → List (Str × Addr)
  | [], acc => acc
  | (n, k) :: r, acc => if k == .free then cloFrom cells r ((n, (cells.lookup n).getD 0) :: acc) else cloFrom cells r acc
theorem closure_loop (env : Env) (f : Str × NameKind → List (Str × Addr) → Sem (ForInStep (List (Str × Addr))))
    (hf : ∀ n k c, f (n, k) c = if k == .free then (do let a ← cellOf env n; pure (.yield ((n, a) :: c))) else pure (.yield c)) :
    ∀ (names : List (Str × NameKind)) (acc : List (Str × Addr)), (∀ y ∈ names, y.2 = .free → ∃ c, env.cells.lookup y.1 = some c) → forIn names acc f = pure (cloFrom env.cells names acc)
  | [], acc, _ => by rw [List.forIn_nil]; rfl
  | (n, k) :: r, acc, h => by
    rw [List.forIn_cons, hf]
    have ih := fun acc => closure_loop env f hf r acc fun y hy => h y (List.mem_cons_of_mem _ hy)
    unfold cloFrom
    by_cases hk : (k == NameKind.free) = true
    · rw [if_pos hk, if_pos hk]
      obtain ⟨c, hc⟩ := h (n, k) List.mem_cons_self (by simpa using hk)
      have e : cellOf env n = pure c := by unfold cellOf; rw [hc]
      rw [e]
      have e2 : (env.cells.lookup n).getD 0 = c := by rw [hc]; rfl
      rw [e2]
      exact ih _
    · rw [if_neg hk, if_neg hk]
      exact ih _
theorem closure_ok {scope : Scope} {env : Env} (h : ∀ y ∈ scope.names, y.2 = .free → ∃ c, env.cells.lookup y.1 = some c) : closureFor scope env = pure (cloFrom env.cells scope.names []) := by
  simp only [closureFor]
  rw [closure_loop env _ (fun n k c => rfl) scope.names [] h]
  rfl
theorem mem_lookup {α : Type} : ∀ {l : List (Str × α)} {n : Str} {c : α}, (n, c) ∈ l → ∃ c', l.lookup n = some c'
  | (k, v) :: r, n, c, h => by
    rw [List.lookup_cons]
    cases hb : n == k with
    | true => exact ⟨_, rfl⟩
    | false =>
      rcases List.mem_cons.mp h with e | h
      · cases e; simp at hb
      · exact mem_lookup h
theorem cloFrom_mem {cells : List (Str × Addr)} : ∀ {names : List (Str × NameKind)} {acc : List (Str × Addr)} {n : Str} {c : Addr}, (n, c) ∈ cloFrom cells names acc → (n, c) ∈ acc ∨ ((n, .free) ∈ names ∧ c = (cells.lookup n).getD 0)
  | [], _, _, _, h => .inl h
  | (m, k) :: r, acc, n, c, h => by
    unfold cloFrom at h
    split at h
    · rename_i hk
      have hk : k = .free := by simpa using hk
      rcases cloFrom_mem h with h | ⟨h1, h2⟩
      · rcases List.mem_cons.mp h with e | h
        · cases e; exact .inr ⟨hk ▸ List.mem_cons_self, rfl⟩
        · exact .inl h
      · exact .inr ⟨List.mem_cons_of_mem _ h1, h2⟩
    · rcases cloFrom_mem h with h | ⟨h1, h2⟩
      · exact .inl h
      · exact .inr ⟨List.mem_cons_of_mem _ h1, h2⟩
theorem cloFrom_acc {cells : List (Str × Addr)} : ∀ {names : List (Str × NameKind)} {acc : List (Str × Addr)} {p : Str × Addr}, p ∈ acc → p ∈ cloFrom cells names acc
  | [], _, _, h => h
  | (m, k) :: r, acc, p, h => by
    unfold cloFrom
    split
    · exact cloFrom_acc (List.mem_cons_of_mem _ h)
    · exact cloFrom_acc h
theorem cloFrom_has {cells : List (Str × Addr)} : ∀ {names : List (Str × NameKind)} {acc : List (Str × Addr)} {n : Str}, (n, .free) ∈ names → (n, (cells.lookup n).getD 0) ∈ cloFrom cells names acc
  | (m, k) :: r, acc, n, h => by
    unfold cloFrom
    rcases List.mem_cons.mp h with e | h
    · cases e
      exact cloFrom_acc List.mem_cons_self
    · split
      · exact cloFrom_has h
      · exact cloFrom_has h
theorem cells_mem : ∀ {names : List (Str × NameKind)} {h : Heap} {acc : List (Str × Addr)} {x : Str} {c : Addr}, (x, c) ∈ cellsFrom h.objs.size names acc →
    (x, c) ∈ acc ∨ ((x, .cell) ∈ names ∧ h.objs.size ≤ c ∧ CellAt (pushCells h names) c none)
  | [], _, _, _, _, h => .inl h
  | (n, k) :: r, h, acc, x, c, hm => by
    unfold cellsFrom at hm
    unfold pushCells
    split at hm
    · rename_i hk
      rw [if_pos hk]
      have hk : k = .cell := by simpa using hk
      rw [← Heap.size_push h { cls := .type "cell", data := .cell none }] at hm
      rcases cells_mem hm with hm | ⟨h1, h2, h3⟩
      · rcases List.mem_cons.mp hm with e | hm
        · cases e
          exact .inr ⟨hk ▸ List.mem_cons_self, Nat.le_refl _, _, pushCells_keeps r _ _ _ (Heap.get?_push_size _ rfl), rfl⟩
        · exact .inl hm
      · rw [Heap.size_push] at h2
        exact .inr ⟨List.mem_cons_of_mem _ h1, Nat.le_of_succ_le h2, h3⟩
    · rename_i hk
      rw [if_neg hk]
      rcases cells_mem hm with hm | ⟨h1, h2, h3⟩
      · exact .inl hm
      · exact .inr ⟨List.mem_cons_of_mem _ h1, h2, h3⟩
theorem cells_acc : ∀ {names : List (Str × NameKind)} {n : Nat} {acc : List (Str × Addr)} {p : Str × Addr}, p ∈ acc → p ∈ cellsFrom n names acc
  | [], _, _, _, h => h
  | (m, k) :: r, n, acc, p, h => by
    unfold cellsFrom
    split
    · exact cells_acc (List.mem_cons_of_mem _ h)
    · exact cells_acc h
theorem cells_has : ∀ {names : List (Str × NameKind)} {n : Nat} {acc : List (Str × Addr)} {x : Str}, (x, .cell) ∈ names → ∃ c, (x, c) ∈ cellsFrom n names acc
  | (m, k) :: r, n, acc, x, h => by
    unfold cellsFrom
    rcases List.mem_cons.mp h with e | h
    · cases e
      exact ⟨n, cells_acc List.mem_cons_self⟩
    · split
      · exact cells_has h
      · exact cells_has h
theorem cells_inj : ∀ {names : List (Str × NameKind)} {h : Heap} {acc : List (Str × Addr)} {x y : Str} {c : Addr}, (∀ p ∈ acc, p.2 < h.objs.size) → (∀ x y c, (x, c) ∈ acc → (y, c) ∈ acc → x = y) →
    (x, c) ∈ cellsFrom h.objs.size names acc → (y, c) ∈ cellsFrom h.objs.size names acc → x = y
  | [], _, _, _, _, _, _, hi, h1, h2 => hi _ _ _ h1 h2
  | (n, k) :: r, h, acc, x, y, c, hl, hi, h1, h2 => by
    unfold cellsFrom at h1 h2
    split at h1
    · rename_i hk
      rw [if_pos hk] at h2
      rw [← Heap.size_push h { cls := .type "cell", data := .cell none }] at h1 h2
      refine cells_inj (h := h.push _) (fun p hp => ?_) (fun x y c a b => ?_) h1 h2
      · rw [Heap.size_push]
        rcases List.mem_cons.mp hp with rfl | hp
        · exact Nat.lt_succ_self _
        · exact Nat.lt_succ_of_lt (hl p hp)
      · rcases List.mem_cons.mp a with e | a <;> rcases List.mem_cons.mp b with e' | b
        · cases e; cases e'; rfl
        · cases e; exact absurd (hl _ b) (Nat.lt_irrefl _)
        · cases e'; exact absurd (hl _ a) (Nat.lt_irrefl _)
        · exact hi _ _ _ a b
    · rename_i hk
      rw [if_neg hk] at h2
      exact cells_inj hl hi h1 h2
theorem newEnv_comp {M : Model} {A : Around} {E : Value → Shared → Prop} {s : Shared} {scope : Scope} {globals : Addr} {closure : List (Str × Addr)} {qual : Str} {func : Option Addr} {code : Value} {around : Env} {builtins : Addr} {Q : Env → Shared → Prop}
    (h : Q (newEnv scope s.heap.objs.size globals (cellsFrom (s.heap.objs.size + 1) scope.names closure) qual func code (some around) builtins)
      { s with heap := pushCells (s.heap.push { cls := .type "dict", data := .dict #[] }) scope.names }) :
    wpAny M A (newFunctionEnv scope globals closure [] qual func code (some around) builtins) Q E s := by
  simp only [newFunctionEnv, Option.isSome_some, if_true]
  refine wpAny_bind (wpAny_alloc ?_)
  refine wpAny_bind (wpAny_layCells _ (fun n k c => rfl) scope.names closure _ _ ?_)
  rw [show ({ s with heap := s.heap.push { cls := .type "dict", data := .dict #[] } } : Shared).heap.objs.size = s.heap.objs.size + 1 from Heap.size_push ..]
  rw [List.forIn_nil]
  exact wpAny_bind (wpAny_pure (wpAny_pure h))
/-- every name of the written scope, in the scope that runs -/
theorem lookup_relS {sc : Scope} : ∀ {names : List (Str × NameKind)} {x : Str} {k : NameKind},
    (names.map fun (n, k) => if (k == NameKind.free && sc.kind == .function && sc.names.lookup n == some .cell) then (n, NameKind.cell) else (n, k)).lookup x = some k →
    ∃ k', names.lookup x = some k' ∧ (k = k' ∨ (k' = .free ∧ k = .cell))
  | [], _, _, h => by simp at h
  | (n, k₀) :: r, x, k, h => by
    have ih := @lookup_relS sc r x k
    have h' : List.lookup x ((if (k₀ == NameKind.free && sc.kind == .function && sc.names.lookup n == some .cell) = true then (n, NameKind.cell) else (n, k₀)) :: (r.map _)) = some k := h
    cases hx : x == n with
    | true =>
      simp only [List.lookup_cons, hx]
      by_cases hc : (k₀ == NameKind.free && sc.kind == .function && sc.names.lookup n == some .cell) = true
      · rw [if_pos hc] at h'
        simp only [List.lookup_cons, hx] at h'
        cases h'
        simp only [Bool.and_eq_true, beq_iff_eq] at hc
        exact ⟨k₀, rfl, .inr ⟨hc.1.1, rfl⟩⟩
      · rw [if_neg hc] at h'
        simp only [List.lookup_cons, hx] at h'
        cases h'
        exact ⟨_, rfl, .inl rfl⟩
    | false =>
      simp only [List.lookup_cons, hx]
      by_cases hc : (k₀ == NameKind.free && sc.kind == .function && sc.names.lookup n == some .cell) = true
      · rw [if_pos hc] at h'
        simp only [List.lookup_cons, hx] at h'
        exact ih h'
      · rw [if_neg hc] at h'
        simp only [List.lookup_cons, hx] at h'
        exact ih h'
/-- the names of a comprehension's block: its own (with their places in N), or captured -/
structure BlkOk (N : List Str) (sc scope : Scope) (own : List (Str × Nat)) : Prop where
  kind : scope.kind = .function
  uniq : ∀ y ∈ scope.names, scope.names.lookup y.1 = some y.2
  ix : ∀ p ∈ own, N[p.2]? = some p.1
  free : ∀ y ∈ scope.names, y.2 = .free → sc.names.lookup y.1 = some .cell ∨ sc.names.lookup y.1 = some .free
  own : ∀ y ∈ scope.names, y.2 = .local ∨ y.2 = .cell → y.1 ∈ own.map (·.1) ∨ y.1 ∉ N
/-- the slots of the block's own names forgotten -/
def wipe (σ : St) : List Nat → St
  | [] => σ
  | v :: vs => (wipe σ vs).set v none
theorem wipe_length (σ : St) : ∀ vs : List Nat, (wipe σ vs).length = σ.length
  | [] => rfl
  | v :: vs => by unfold wipe; rw [List.length_set, wipe_length σ vs]
theorem wipe_some {σ : St} {i : Nat} {x : V} : ∀ {vs : List Nat}, (wipe σ vs)[i]? = some (some x) → σ[i]? = some (some x) ∧ i ∉ vs
  | [], h => ⟨h, by simp⟩
  | v :: vs, h => by
    unfold wipe at h
    by_cases hi : v = i
    · subst hi
      by_cases hv : v < (wipe σ vs).length
      · rw [List.getElem?_set_self hv] at h; cases h
      · rw [List.getElem?_eq_none (by simpa using hv)] at h; cases h
    · rw [List.getElem?_set_ne hi] at h
      obtain ⟨h1, h2⟩ := wipe_some h
      exact ⟨h1, by simp only [List.mem_cons, not_or]; exact ⟨fun e => hi e.symm, h2⟩⟩
/-- the context of a block that starts at s, its iterator's objects at fp -/
abbrev Cx.blk (X : Cx) (s : Shared) (H : Hp) (scope : Scope) (cenv : Env) (fp : List Addr) : Cx := { X with s_0 := s, H_0 := H, env := cenv, outer := X.stack, ex := fp, fn := fun x => scope.names.lookup x == some .cell, pn := [], xe := fun _ _ => False }
section
variable {X : Cx} {pins : List (Addr × Obj)} {σ : St} {H : Hp} {s : Shared}
theorem block_start {scope : Scope} {own : List (Str × Nat)} {fp : List Addr} (I : Inv X pins σ H s) (ok : BlkOk X.N X.env.scope scope own) (hN : X.N.Nodup) (hfp : ∀ b ∈ fp, FpOk X pins H b ∧ b < s.heap.objs.size) :
    Inv (X.blk s H scope (compEnvC scope (cellsFrom (s.heap.objs.size + 1) scope.names (cloFrom X.env.cells scope.names [])) s.heap.objs.size X.env) fp) [] (wipe σ (own.map (·.2))) H { s with heap := pushCells (s.heap.push { cls := .type "dict", data := .dict #[] }) scope.names } := by
  have hfree : ∀ y ∈ scope.names, y.2 = .free → ∃ c, X.env.cells.lookup y.1 = some c := fun y hy e => by
    rcases ok.free y hy e with k | k
    · exact I.ok.has _ (.inl k)
    · exact I.ok.has _ (.inr k)
  generalize hcenv : compEnvC scope (cellsFrom (s.heap.objs.size + 1) scope.names (cloFrom X.env.cells scope.names [])) s.heap.objs.size X.env = cenv
  have kp : ∀ b o, s.heap.get? b = some o → (pushCells (s.heap.push { cls := .type "dict", data := .dict #[] }) scope.names).get? b = some o := fun b o e => pushCells_keeps _ _ _ _ (Heap.get?_push_of_some _ e)
  have hL : cenv.locals = s.heap.objs.size := by rw [← hcenv]; rfl
  have hcl : cenv.cells = cellsFrom (s.heap.objs.size + 1) scope.names (cloFrom X.env.cells scope.names []) := by rw [← hcenv]; rfl
  have hsc : cenv.scope = relS scope X.env.scope := by rw [← hcenv]; rfl
  rw [← Heap.size_push s.heap { cls := .type "dict", data := .dict #[] }] at hcl
  have cm : ∀ {y c}, (y, c) ∈ cloFrom X.env.cells scope.names [] → X.env.cells.lookup y = some c ∧ c < s.heap.objs.size := fun {y c} hm => by
    rcases cloFrom_mem hm with hm | ⟨h1, rfl⟩
    · cases hm
    · obtain ⟨c, hc⟩ := hfree _ h1 rfl
      rw [hc]
      obtain ⟨w, z⟩ := I.cell _ _ hc
      exact ⟨rfl, z.lt⟩
  have mem : ∀ {y c}, cenv.cells.lookup y = some c → (X.env.cells.lookup y = some c ∧ c < s.heap.objs.size) ∨ (s.heap.objs.size + 1 ≤ c ∧ CellAt (pushCells (s.heap.push { cls := .type "dict", data := .dict #[] }) scope.names) c none) := fun {y c} e => by
    rw [hcl] at e
    rcases cells_mem (PySem.mem_of_lookup e) with hm | ⟨_, h2, h3⟩
    · exact .inl (cm hm)
    · rw [Heap.size_push] at h2; exact .inr ⟨h2, h3⟩
  have look : ∀ {y}, scope.names.lookup y = some .free → ∃ c, cenv.cells.lookup y = some c ∧ X.env.cells.lookup y = some c := fun {y} hl => by
    have hy : (y, NameKind.free) ∈ scope.names := PySem.mem_of_lookup hl
    obtain ⟨c', e'⟩ := mem_lookup (cells_acc (names := scope.names) (n := (s.heap.push { cls := .type "dict", data := .dict #[] }).objs.size) (cloFrom_has (cells := X.env.cells) (acc := []) hy))
    rw [← hcl] at e'
    refine ⟨c', e', ?_⟩
    rw [hcl] at e'
    rcases cells_mem (PySem.mem_of_lookup e') with hm | ⟨h1, _, _⟩
    · exact (cm hm).1
    · have := ok.uniq _ h1
      rw [hl] at this; cases this
  have okB : (X.blk s H scope cenv fp).Ok := by
    refine ⟨I.ok.mod, by show cenv.scope.kind = _; rw [hsc]; exact ok.kind, by show cenv.globals = _; rw [← hcenv]; exact I.ok.glob, by show cenv.builtins = _; rw [← hcenv]; exact I.ok.blt, by show s.heap.objs.size ≤ cenv.locals; rw [hL]; exact Nat.le_refl _,
      fun y z c e1 e2 => ?_, fun y hy => ?_, fun y c z e => ?_, I.ok.hd, I.ok.frames, .inl rfl, fun b hb => ⟨?_, fun y c e z => ?_⟩, I.bs, Nat.le_trans I.ok.bsz I.sz, fun b o e hb => ?_, fun b hb z => ?_, I.stack, I.stkFree⟩
    · have e1 : cenv.cells.lookup y = some c := e1
      have e2 : cenv.cells.lookup z = some c := e2
      rw [hcl] at e1 e2
      refine cells_inj (fun p hp => ?_) (fun y z c a b => I.ok.inj y z c (cm a).1 (cm b).1) (PySem.mem_of_lookup e1) (PySem.mem_of_lookup e2)
      rw [Heap.size_push]
      exact Nat.lt_succ_of_lt (cm (y := p.1) (c := p.2) hp).2
    · show ∃ c, cenv.cells.lookup y = some c
      have key : ∀ k, cenv.kindOf y = some k → (k = .cell ∨ k = .free) → ∃ c, cenv.cells.lookup y = some c := fun k hk hk' => by
        unfold Env.kindOf at hk
        rw [hsc] at hk
        obtain ⟨k', e, r⟩ := lookup_relS hk
        have : k' = .cell ∨ k' = .free := by
          rcases r with rfl | ⟨rfl, _⟩
          · exact hk'
          · exact .inr rfl
        rcases this with rfl | rfl
        · obtain ⟨c, hm⟩ := cells_has (n := (s.heap.push { cls := .type "dict", data := .dict #[] }).objs.size) (acc := cloFrom X.env.cells scope.names []) (PySem.mem_of_lookup e)
          obtain ⟨c', e'⟩ := mem_lookup hm
          exact ⟨c', by rw [hcl]; exact e'⟩
        · obtain ⟨c, h1, _⟩ := look e
          exact ⟨c, h1⟩
      rcases hy with hy | hy
      · exact key _ hy (.inl rfl)
      · exact key _ hy (.inr rfl)
    · have z : (scope.names.lookup y == some NameKind.cell) = true := z
      have z : scope.names.lookup y = some .cell := by simpa using z
      have e : cenv.cells.lookup y = some c := e
      rw [hcl] at e
      rcases cells_mem (PySem.mem_of_lookup e) with hm | ⟨_, h2, _⟩
      · rcases cloFrom_mem hm with hm | ⟨h1, _⟩
        · cases hm
        · have q := ok.uniq _ h1
          rw [z] at q; cases q
      · rw [Heap.size_push] at h2
        exact Nat.le_of_succ_le h2
    · show b ≠ cenv.locals
      rw [hL]; exact Nat.ne_of_lt (hfp b hb).2
    · have e : cenv.cells.lookup y = some c := e
      rcases mem e with ⟨h1, _⟩ | ⟨h1, _⟩
      · exact (hfp b hb).1.2.2.2.2.1 y c h1 z
      · have h2 : s.heap.objs.size + 1 ≤ b := by rw [← z]; exact h1
        exact absurd (Nat.lt_of_lt_of_le (hfp b hb).2 (Nat.le_of_succ_le h2)) (Nat.lt_irrefl _)
    · rcases (hfp b hb).1.2.2.2.1 with z | z
      · exact I.ok.noex b o e z
      · exact absurd (Nat.lt_of_lt_of_le (Heap.lt_size e) (Nat.le_trans I.ok.bsz z)) (Nat.lt_irrefl _)
    · rcases List.mem_cons.mp (I.stkSub b z) with z | z
      · exact (hfp b hb).1.2.1 z
      · exact (hfp b hb).1.2.2.1 z
  refine ⟨okB, rfl, I.bare, Un.kept kp, ⟨fun _ => none, ?_, fun i y av e1 e2 e3 => ?_⟩, fun y c e => ?_, ?_, fun y c e => ?_, fun p hp => ?_, I.hok.kept kp, by rw [wipe_length]; exact I.len⟩
  · show Heap.Ns _ cenv.locals _
    rw [hL]
    exact Heap.Ns.keeps (Heap.Ns.new ..) fun b o e => pushCells_keeps _ _ _ _ e
  · obtain ⟨e2, hne⟩ := wipe_some e2
    have hfr : scope.names.lookup y = some .free ∧ (cenv.kindOf y = some .cell ∨ cenv.kindOf y = some .free) := by
      have key : ∀ k, cenv.scope.names.lookup y = some k → k = .local ∨ k = .cell ∨ k = .free → scope.names.lookup y = some .free ∧ (cenv.kindOf y = some .cell ∨ cenv.kindOf y = some .free) := fun k hk hk' => by
        have hk0 := hk
        rw [hsc] at hk
        obtain ⟨k', e, r⟩ := lookup_relS hk
        have no : ¬ (k' = .local ∨ k' = .cell) := fun hh => by
          rcases ok.own _ (PySem.mem_of_lookup e) hh with e' | e'
          · obtain ⟨p, hp, hpy⟩ := List.mem_map.mp e'
            have e3 := ok.ix p hp
            have : p.1 = y := hpy
            rw [this] at e3
            exact hne (List.mem_map.mpr ⟨p, hp, nodup_ix hN e3 e1⟩)
          · exact e' (List.mem_of_getElem? e1)
        rcases r with rfl | ⟨rfl, rfl⟩
        · rcases hk' with rfl | rfl | rfl
          · exact absurd (.inl rfl) no
          · exact absurd (.inr rfl) no
          · exact ⟨e, .inr hk0⟩
        · exact ⟨e, .inl hk0⟩
      have e3 : Vis cenv.scope y := e3
      rcases e3 with e3 | e3 | e3
      · exact key _ e3 (.inl rfl)
      · exact key _ e3 (.inr (.inl rfl))
      · exact key _ e3 (.inr (.inr rfl))
    obtain ⟨m, hn, hl⟩ := I.loc
    have hvis : Vis X.env.scope y := (ok.free _ (PySem.mem_of_lookup hfr.1) rfl).elim (fun k => .inr (.inl k)) (fun k => .inr (.inr k))
    obtain ⟨w, r, q⟩ := hl i y av e1 e2 hvis
    refine ⟨w, r, .inr ⟨hfr.2, ?_⟩⟩
    obtain ⟨c, h1, h2⟩ := look hfr.1
    rcases q with ⟨k, _⟩ | ⟨_, c', e', z⟩
    · have k : X.env.scope.names.lookup y = some .local := k
      rcases ok.free _ (PySem.mem_of_lookup hfr.1) rfl with k' | k' <;> rw [show X.env.scope.names.lookup y = _ from k'] at k <;> cases k
    · rw [h2] at e'; cases e'
      exact ⟨c, h1, z.keeps kp⟩
  · have e : cenv.cells.lookup y = some c := e
    rcases mem e with ⟨h1, _⟩ | ⟨_, z⟩
    · obtain ⟨w, z⟩ := I.cell y c h1
      exact ⟨w, z.keeps kp⟩
    · exact ⟨_, z⟩
  · show H cenv.locals = none
    rw [hL]; exact I.hok.fresh (Nat.le_refl _)
  · have e : cenv.cells.lookup y = some c := e
    rcases mem e with ⟨h1, _⟩ | ⟨h1, _⟩
    · exact I.freeC y c h1
    · exact I.hok.fresh (Nat.le_of_succ_le h1)
  · exact absurd (show p ∈ ([] : List (Addr × Obj)) ++ [] from hp) (by simp)
/-- an item appended to a tracked list -/
theorem app_ok {E : Value → Shared → Prop} {D : Addr} {xs : List V} {y : V} {v : Value} {Q : Value → Shared → Prop} (I : Inv X pins σ H s) (hD : H D = some (.lst xs)) (hz : xs.length < sizeLine) (r : RelV y v)
    (h : ∀ s', Inv X pins σ (upd H D (.lst (xs ++ [y]))) s' → Q .none s') : wpAny (model X.prog X.w) X.A (call (.builtin "list.append") [.ref D, v]) Q E s := by
  obtain ⟨hz', its, n, ri, e⟩ := I.hok D _ hD
  have hl := ri.length
  refine append_at (hsz := by rw [List.size_toArray]; omega) e fun h' sb ho' => ?_
  refine h { s with heap := h' } (I.write (t' := s.toks) (by rw [hD]; trivial) (.inl rfl) (fun b u hb q => (sb.2 b hb).trans q) ⟨_, ho'⟩ ⟨by rw [List.length_append]; exact hz, its ++ [v], n + 1, ri.append (.cons r .nil), ?_⟩)
  rw [ho']
  simp
/-- a clause's tests -/
def PTs (X : Cx) (ifs : List Expr) (t : TT) : Prop :=
  ∀ (pins : List (Addr × Obj)) (s : Shared) (σ : St) (H : Hp) (Q : Bool → Hp → Prop), Inv X pins σ H s → t σ H Q →
    wpAny (model X.prog X.w) X.A (forIn ifs true fun c r => if r = true then do let ok ← isTrue c X.env (eval c X.env); pure (ForInStep.yield ok) else pure (ForInStep.yield r)) (TP X pins σ Q) X.xe s
def tYes : TT := fun _ H Q => Q true H
theorem pts_nil : PTs X [] tYes := fun _ _ _ H _ I h => wpAny_tests_nil ⟨H, I, h⟩
theorem pts_one {c : Expr} {t : TT} (h : PT X c t) : PTs X [c] t := fun pins s σ H Q I hw => wpAny_tests_one (h pins s σ H Q I hw)
end
theorem thnF {α : Type} {t : Sem α} {Q Q' : α → Shared → Prop} {M : Model} {A : Around} {E : Value → Shared → Prop} {s : Shared} (h : wpAny M A t Q (fun _ _ => False) s) (hQ : ∀ a s, Q a s → Q' a s) : wpAny M A t Q' E s := wpAny_mono h hQ fun _ _ z => False.elim z
/-- the loop of a list comprehension's block, the target of any form (codeAny_compLoop_tests asks a target that no tuple goes to; statement and proof follow it, PyProof/CompMap.lean:41-61, with the step letOwnedTupleGo kept) -/
theorem compLoop_any {prog : Program} {w : World} {A : Around} {R : Result → Shared → Prop} {s : Shared} {elt target iter : Expr} {ifs : List Expr} {scope : Scope} {pos : Pos} {it acc : Value} {env : Env} (I : Nat → Shared → Prop)
    (turn : ∀ n s, I n s → wpAny (model prog w) A (pyNext it) (fun r s₁ => match r with
      | none => R (.ok .next) s₁
      | some v => wpAny (model prog w) A (letOwnedTupleGo target it v) (fun _ s₁' => wpAny (model prog w) A (assign target env v) (fun _ s₂ =>
          wpAny (model prog w) A (forIn ifs true fun c r => if r = true then do let ok ← isTrue c env (eval c env); pure (ForInStep.yield ok) else pure (ForInStep.yield r)) (fun ok s₃ =>
            if ok = true then wpAny (model prog w) A (eval elt env) (fun x s₄ =>
              wpAny (model prog w) A (call (.builtin "list.append") [acc, x]) (fun _ s₅ => ∃ m, m < n ∧ I m s₅) (notedBy (model prog w) A env fun e s' => R (.error e) s') s₄) (notedBy (model prog w) A env fun e s' => R (.error e) s') s₃
            else ∃ m, m < n ∧ I m s₃) (notedBy (model prog w) A env fun e s' => R (.error e) s') s₂) (notedBy (model prog w) A env fun e s' => R (.error e) s') s₁') (notedBy (model prog w) A env fun e s' => R (.error e) s') s₁) (notedBy (model prog w) A env fun e s' => R (.error e) s') s)
    (n : Nat) (h : I n s) :
    codeAny (model prog w) A (.compLoop (.ListComp elt [⟨target, iter, ifs, 0⟩] scope pos) 0 it acc env) R s := by
  refine codeAny_loop rfl I (fun n s hI => ?_) n h
  show wpAny _ A ((compTurn (.ListComp elt [⟨target, iter, ifs, 0⟩] scope pos) 0 it acc env).onRaise (fun x => do noteFrame x env; theTreesLotGoes x)) _ _ s
  refine wpAny_noted ?_
  rw [compTurn_list]
  refine wpAny_bind (wpAny_standAt (wpAny_bind (wpAny_mono (turn n s hI) (fun r s₁ h₁ => ?_) fun _ _ h' => h')))
  cases r with
  | none => exact wpAny_pure h₁
  | some v =>
    refine wpAny_bind (wpAny_mono h₁ (fun _ s₁' h₁' => ?_) fun _ _ h' => h')
    refine wpAny_bind (wpAny_mono h₁' (fun _ s₂ h₂ => wpAny_bind (wpAny_mono h₂ (fun ok s₃ h₃ => ?_) fun _ _ h' => h')) fun _ _ h' => h')
    cases ok with
    | false => exact wpAny_pure ⟨rfl, h₃⟩
    | true =>
      exact wpAny_bind (wpAny_bind (wpAny_mono h₃ (fun x s₄ h₄ => wpAny_bind (wpAny_mono h₄ (fun _ s₅ h₅ => wpAny_pure (wpAny_pure ⟨rfl, h₅⟩)) fun _ _ h' => h')) fun _ _ h' => h'))
section
variable {X : Cx}
/-- [elt for target in iter if ..]: D the new list; W by the turn and a measure, Nx what a turn is to reach -/
def tLc (wi : TI) (g : TG) (tt : TT) (te : TE) (vs : List Nat) : TE := fun σ H Q => wi σ H fun J H1 => ∀ D, H1 D = none → ∃ W : Nat → Nat → Hp → Prop, (∃ m, W 0 m (upd H1 D (.lst []))) ∧ ∀ i m H, W i m H →
  (J.stop i H ∧ Q (.ref D) H) ∨ (J.go i H ∧ ∃ Nx : Hp → Prop, (∀ H', Nx H' → ∃ m', m' < m ∧ W (i + 1) m' H') ∧ ∀ x H', J.yld i H x H' → g x (wipe σ vs) H' fun σ2 H2 => wipe σ2 vs = wipe σ vs ∧ tt σ2 H2 fun b H3 =>
    if b = true then te σ2 H3 fun y H4 => ∃ acc, H4 D = some (.lst acc) ∧ acc.length < sizeLine ∧ Nx (upd H4 D (.lst (acc ++ [y]))) else Nx H3)
theorem lc_core {pins : List (Addr × Obj)} {s : Shared} {σ : St} {H : Hp} {Q : VK} {elt tg iter : Expr} {ifs : List Expr} {scope : Scope} {own : List (Str × Nat)} {pos pos' : Pos} {wi : TI} {g : TG} {tt : TT} {te : TE} {use : Option (Value → Sem Unit)} {Qf : Value → Shared → Prop}
    (hc : X.calm = true) (hN : X.N.Nodup) (I : Inv X pins σ H s) (hi : PI X tg iter wi) (ok : BlkOk X.N X.env.scope scope own)
    (hg : ∀ (s : Shared) (H : Hp) (C : Addr) (cl : List (Str × Addr)) (fp : List Addr), PG (X.blk s H scope (compEnvC scope cl C X.env) fp) tg g) (ht : ∀ (s : Shared) (H : Hp) (C : Addr) (cl : List (Str × Addr)) (fp : List Addr), PTs (X.blk s H scope (compEnvC scope cl C X.env) fp) ifs tt)
    (he : ∀ (s : Shared) (H : Hp) (C : Addr) (cl : List (Str × Addr)) (fp : List Addr), PE (X.blk s H scope (compEnvC scope cl C X.env) fp) elt te) (hs : ∀ x, foldedSetIterable iter X.env x = pure x)
    (h : tLc wi g tt te (own.map (·.2)) σ H Q)
    (hRR : ∀ D C s' m H', Inv X pins σ H' s' → Q (.ref D) H' → s'.heap.Ns C m → FpOk X pins H' C → compPost (model X.prog X.w) X.A X.xe use Qf (.ref D) C (.ok .next) s') :
    wpAny (model X.prog X.w) X.A (comprehension (.ListComp elt [⟨tg, iter, ifs, 0⟩] scope pos) scope X.env pos' (newList []) false (eval iter X.env) use) Qf X.xe s := by
  have hfree : ∀ y ∈ scope.names, y.2 = .free → ∃ c, X.env.cells.lookup y.1 = some c := fun y hy e => by
    rcases ok.free y hy e with k | k
    · exact I.ok.has _ (.inl k)
    · exact I.ok.has _ (.inr k)
  refine wpAny_comprehension_free (use := use) rfl hs (closure_ok hfree) ok.kind (fun y hy e => by rw [ok.uniq y hy, e])
    (thn (hi pins s σ H _ I h) fun xv s1 hx => thn hx fun itv s2 h2 => ?_)
  obtain ⟨it, fp, tn, J, H2, e, I2, T, st2, f2, q⟩ := h2
  subst e
  refine wpAny_newObj_type (newEnv_comp ?_) (by show 0 ≤ sizeLine; decide)
  generalize hD : s2.heap.objs.size = D
  have hDn : H2 D = none := I2.hok.fresh (Nat.le_of_eq hD)
  obtain ⟨W, ⟨m0, w0⟩, turn⟩ := q D hDn
  -- the new list
  generalize hs3 : ({ s2 with heap := s2.heap.push { cls := .type "list", data := .seq ([] : List Value).toArray } } : Shared) = s3
  have I3 : Inv X pins σ (upd H2 D (.lst [])) s3 := by
    rw [← hs3]
    refine I2.laid (t' := s2.toks) (fun b o e => Heap.get?_push_of_some _ e) (Nat.le_of_eq hD) ⟨Nat.zero_le _, [], 0, .nil, ?_⟩
    rw [← hD]
    exact Heap.get?_push_size _ rfl
  have h3 : s3.heap = s2.heap.push { cls := .type "list", data := .seq ([] : List Value).toArray } := by rw [← hs3]
  have sz : ∀ b ∈ fp, b < s2.heap.objs.size := fun b hb => by
    obtain ⟨o, e, _⟩ := T.obj _ _ st2 b hb
    exact Heap.lt_size e
  have f3 : ∀ b ∈ fp, FpOk X pins (upd H2 D (.lst [])) b ∧ b < s3.heap.objs.size := fun b hb => by
    have hlt := sz b hb
    refine ⟨⟨?_, (f2 b hb).2⟩, by rw [h3, Heap.size_push]; exact Nat.lt_succ_of_lt hlt⟩
    rw [upd_ne (by rw [← hD]; exact Nat.ne_of_lt hlt)]
    exact (f2 b hb).1
  have st3 : tn 0 s3.heap := T.keep _ _ _ st2 fun b _ o e => by rw [h3]; exact Heap.get?_push_of_some _ e
  have I4 := block_start I3 ok hN f3
  have pg := hg s3 (upd H2 D (.lst [])) s3.heap.objs.size (cellsFrom (s3.heap.objs.size + 1) scope.names (cloFrom X.env.cells scope.names [])) fp
  have pt := ht s3 (upd H2 D (.lst [])) s3.heap.objs.size (cellsFrom (s3.heap.objs.size + 1) scope.names (cloFrom X.env.cells scope.names [])) fp
  have pe := he s3 (upd H2 D (.lst [])) s3.heap.objs.size (cellsFrom (s3.heap.objs.size + 1) scope.names (cloFrom X.env.cells scope.names [])) fp
  show codeAny _ _ (.compStart (.ListComp elt [⟨tg, iter, ifs, 0⟩] scope pos) 0 (.ref it) (.ref D) (compEnvC scope (cellsFrom (s3.heap.objs.size + 1) scope.names (cloFrom X.env.cells scope.names [])) s3.heap.objs.size X.env)) (compPost (model X.prog X.w) X.A X.xe use Qf (.ref D) s3.heap.objs.size) { s3 with heap := pushCells (s3.heap.push { cls := .type "dict", data := .dict #[] }) scope.names }
  have nfp : ∀ b ∈ fp, (upd H2 D (.lst [])) b = none := fun b hb => (f3 b hb).1.1
  generalize hce : compEnvC scope (cellsFrom (s3.heap.objs.size + 1) scope.names (cloFrom X.env.cells scope.names [])) s3.heap.objs.size X.env = ce at I4 pg pt pe ⊢
  have cL : ce.locals = s3.heap.objs.size := by subst hce; rfl
  generalize hH3 : upd H2 D (.lst []) = H3 at I3 I4 pg pt pe w0 nfp f3
  generalize hs4 : ({ s3 with heap := pushCells (s3.heap.push { cls := .type "dict", data := .dict #[] }) scope.names } : Shared) = s4 at I4 ⊢
  have st4 : tn 0 s4.heap := T.keep _ _ _ st3 fun b _ o e => by rw [← hs4]; exact pushCells_keeps _ _ _ _ (Heap.get?_push_of_some _ e)
  have stat : ∀ {σ' : St} {H' : Hp} {s' : Shared}, Inv (X.blk s3 H3 scope ce fp) [] σ' H' s' → (∀ b ∈ fp, H' b = none) → ∀ b ∈ fp, FpOk (X.blk s3 H3 scope ce fp) [] H' b := fun {σ' H' s'} I' hn b hb =>
    ⟨hn b hb, (I'.ok.exf b hb).1, I'.ok.exfs b hb, .inl hb, fun x c e => (I'.ok.exf b hb).2 x c e, fun p hp => absurd (show p ∈ ([] : List (Addr × Obj)) ++ [] from hp) (by simp)⟩
  have loop : codeAny (model X.prog X.w) X.A (.compLoop (.ListComp elt [⟨tg, iter, ifs, 0⟩] scope pos) 0 (.ref it) (.ref D) ce) (compPost (model X.prog X.w) X.A X.xe use Qf (.ref D) s3.heap.objs.size) s4 := by
    refine compLoop_any (fun n s' => ∃ i H', Inv (X.blk s3 H3 scope ce fp) [] (wipe σ (own.map (·.2))) H' s' ∧ tn i s'.heap ∧ (∀ b ∈ fp, H' b = none) ∧ W i n H') ?_ m0 ⟨0, H3, I4, st4, nfp, w0⟩
    rintro n s5 ⟨i, H5, I5, st5, n5, w5⟩
    rcases turn i n H5 w5 with ⟨stop, qq⟩ | ⟨go, Nx, hNx, step⟩
    · have td := T.done (X.blk s3 H3 scope ce fp) rfl rfl rfl hc i [] s5 _ H5 (fun _ _ => False) I5 (stat I5 n5) st5 stop
      refine thnF td fun r s6 ⟨hr, I6⟩ => ?_
      subst hr
      -- back in the def's context
      have I7 : Inv X pins σ H5 s6 := I3.call' (ch := fp) I6.os I6.base I6.hok I6.bare fun b hb => ⟨(f3 b hb).1.2.2.2.1, (f3 b hb).1.2.1, (f3 b hb).1.2.2.2.2.1, (f3 b hb).1.2.2.2.2.2⟩
      have nC : H5 s3.heap.objs.size = none := by
        have z : H5 ce.locals = none := I6.free
        rw [cL] at z
        exact z
      obtain ⟨m, hn, _⟩ := I6.loc
      have hn : s6.heap.Ns ce.locals m := hn
      rw [cL] at hn
      exact hRR D s3.heap.objs.size s6 m H5 I7 qq hn (I3.fpOk (Nat.le_refl _) nC)
    · have ti := T.item (X.blk s3 H3 scope ce fp) rfl rfl rfl hc i [] s5 _ H5 (fun _ _ => False) I5 (stat I5 n5) st5 go
      refine thnF ti fun r s6 ⟨u, hr, h6⟩ => ?_
      subst hr
      refine thnF h6 fun _ s7 ⟨x, H7, I7, r7, y7, st7, n7⟩ => ?_
      have I7' := I7.pinned (stat I7 n7) (T.obj _ _ st7)
      refine thnF (pg _ s7 _ H7 x u _ I7' r7 (step x H7 y7)) fun _ s8 ⟨σ8, H8, I8, hw8, q8⟩ => ?_
      refine thnF (pt _ s8 σ8 H8 _ I8 q8) fun b s9 ⟨H9, I9, q9⟩ => ?_
      -- the turn's end
      have fin : ∀ {s' : Shared} {H' : Hp}, Inv (X.blk s3 H3 scope ce fp) ([] ++ pinsAt fp s7.heap) σ8 H' s' → Nx H' → ∃ m, m < n ∧ ∃ i H', Inv (X.blk s3 H3 scope ce fp) [] (wipe σ (own.map (·.2))) H' s' ∧ tn i s'.heap ∧ (∀ b ∈ fp, H' b = none) ∧ W i m H' := fun {s' H'} I' nx => by
        obtain ⟨m', hm, w'⟩ := hNx H' nx
        have pin' : ∀ b ∈ fp, ∀ o, s7.heap.get? b = some o → s'.heap.get? b = some o ∧ H' b = none := fun b hb o e =>
          let z := I'.pin (b, o) (List.mem_append_right _ (List.mem_append_right _ (mem_pinsAt hb e)))
          ⟨z.1, z.2.1⟩
        have hl : (wipe σ (own.map (·.2))).length = σ8.length := by rw [← hw8, wipe_length]
        refine ⟨m', hm, i + 1, H', (I'.unpinned (pins := [])).weak hl (fun j v e => ?_), T.keep _ _ _ st7 fun b hb o e => (pin' b hb o e).1, fun b hb => ?_, w'⟩
        · rw [← hw8] at e
          exact (wipe_some e).1
        · obtain ⟨o, e, _⟩ := T.obj _ _ st7 b hb
          exact (pin' b hb o e).2
      cases b with
      | false =>
        simp only [Bool.false_eq_true, if_false] at q9 ⊢
        exact fin I9 q9
      | true =>
        simp only [if_true] at q9 ⊢
        refine thnF (pe _ s9 σ8 H9 _ I9 q9) fun z s10 ⟨yv, H10, I10, r10, acc, hD10, hz10, nx⟩ => ?_
        exact app_ok (X := X.blk s3 H3 scope ce fp) I10 hD10 hz10 r10 fun s11 I11 => fin I11 nx
  exact codeAny_compStart_list loop (T.self X.A 0 _ _ _ st4 loop)
/-- as a value -/
theorem pe_lc {elt tg iter : Expr} {ifs : List Expr} {scope : Scope} {own : List (Str × Nat)} {pos : Pos} {wi : TI} {g : TG} {tt : TT} {te : TE} (hc : X.calm = true) (hN : X.N.Nodup) (hi : PI X tg iter wi) (ok : BlkOk X.N X.env.scope scope own)
    (hg : ∀ (s : Shared) (H : Hp) (C : Addr) (cl : List (Str × Addr)) (fp : List Addr), PG (X.blk s H scope (compEnvC scope cl C X.env) fp) tg g) (ht : ∀ (s : Shared) (H : Hp) (C : Addr) (cl : List (Str × Addr)) (fp : List Addr), PTs (X.blk s H scope (compEnvC scope cl C X.env) fp) ifs tt)
    (he : ∀ (s : Shared) (H : Hp) (C : Addr) (cl : List (Str × Addr)) (fp : List Addr), PE (X.blk s H scope (compEnvC scope cl C X.env) fp) elt te) (hs : ∀ x, foldedSetIterable iter X.env x = pure x := by intro _; rfl) :
    PE X (.ListComp elt [⟨tg, iter, ifs, 0⟩] scope pos) (tLc wi g tt te (own.map (·.2))) := by
  intro pins s σ H Q I h
  rw [eval_ListComp]
  refine lc_core hc hN I hi ok hg ht he hs h fun D C s' m H' I' q hn f => ⟨m, hn, fun h'' sb => ?_⟩
  obtain ⟨f0, f1, f2, f3, f4, f5⟩ := f
  exact ⟨.ref D, H', I'.turned (t' := s'.toks) (fun b o hb e => (sb.2 b hb).trans e) f0 f1 f3 f4 f5, rfl, q⟩
end
/-! ### the forms one uses -/
/-- over a range: Pv by the turn and the heap (the new list at D within) -/
theorem lc_range {lo : Int} {n : Nat} {g : TG} {tt : TT} {te : TE} {vs : List Nat} {σ : St} {H1 : Hp} {D : Addr} {Qd : Hp → Prop} (Pv : Nat → Hp → Prop) (h0 : Pv 0 (upd H1 D (.lst [])))
    (hs : ∀ i H, i < n → Pv i H → g (.int (lo + i)) (wipe σ vs) H fun σ2 H2 => wipe σ2 vs = wipe σ vs ∧ tt σ2 H2 fun b H3 =>
      if b = true then te σ2 H3 fun y H4 => ∃ acc, H4 D = some (.lst acc) ∧ acc.length < sizeLine ∧ Pv (i + 1) (upd H4 D (.lst (acc ++ [y]))) else Pv (i + 1) H3) (hd : ∀ H, Pv n H → Qd H) :
    ∃ W : Nat → Nat → Hp → Prop, (∃ m, W 0 m (upd H1 D (.lst []))) ∧ ∀ i m H, W i m H →
      ((Itr lo n).stop i H ∧ Qd H) ∨ ((Itr lo n).go i H ∧ ∃ Nx : Hp → Prop, (∀ H', Nx H' → ∃ m', m' < m ∧ W (i + 1) m' H') ∧ ∀ x H', (Itr lo n).yld i H x H' → g x (wipe σ vs) H' fun σ2 H2 => wipe σ2 vs = wipe σ vs ∧ tt σ2 H2 fun b H3 =>
        if b = true then te σ2 H3 fun y H4 => ∃ acc, H4 D = some (.lst acc) ∧ acc.length < sizeLine ∧ Nx (upd H4 D (.lst (acc ++ [y]))) else Nx H3) := by
  refine ⟨fun i m H => m = n - i ∧ i ≤ n ∧ Pv i H, ⟨n, by simp, Nat.zero_le _, h0⟩, ?_⟩
  rintro i m H ⟨rfl, hi, p⟩
  by_cases hlt : i < n
  · refine .inr ⟨hlt, Pv (i + 1), fun H' p' => ⟨n - (i + 1), by omega, rfl, hlt, p'⟩, fun x H' y => ?_⟩
    obtain ⟨e, y⟩ := y
    subst e y
    exact hs i _ hlt p
  · have e : i = n := by omega
    subst e
    exact .inl ⟨Nat.le_refl _, hd H p⟩
end L2
namespace L2
open PySem PySem.Spec PyProof.Rows
section
variable {prog : Program} {w : World} {A : Around} {R : Result → Shared → Prop} {s : Shared} {elt t0 i0 t1 i1 : Expr} {ifs0 ifs1 : List Expr} {scope : Scope} {pos : Pos} {it acc : Value} {env : Env}
end
section
variable {X : Cx}
end
end L2
namespace L2
open PySem PySem.Spec PyProof.Rows
/-! ### lists of pairs as tables -/
section
variable {κ : Type} [DecidableEq κ]
end
/-! ### a tracked dict, its keys ints and texts or tuples of these -/
section
variable {P : Program} {w : World} {H : Hp} {h : Heap} {a : Addr}
end
section
variable {X : Cx} {pins : List (Addr × Obj)} {σ : St} {H : Hp} {s : Shared} {a : Addr} {y v : V} {u r : Value} {o : Option V} {A : Around} {E : Value → Shared → Prop}
end
section
variable {X : Cx} {pins : List (Addr × Obj)} {σ : St} {H : Hp} {s : Shared} {a : Addr} {kvs : List (Key × V)} {k : Key} {u : Value} {A : Around} {E : Value → Shared → Prop}
end
/-! ### readings and rules -/
/-- the element of a subscription, not a slice -/
def NoSl (i : Expr) : Prop := ∀ ov iv, subscripted i false ov iv = operate [ov, iv] (getItem ov iv)
theorem subD_of {prog : Program} {w : World} {A : Around} {E : Value → Shared → Prop} {s : Shared} {env : Env} {value slice : Expr} {pos : Pos} {T id : String} {Q : Value → Shared → Prop}
    (hl : typeLookup (.type T) "__getitem__" = pure (some (.builtin id))) (hs : NoSl slice)
    (h : wpAny (model prog w) A (eval value env) (fun o s₁ => wpAny (model prog w) A (eval slice env) (fun i s₂ => s₂.TypeIs o T ∧ wpAny (model prog w) A (getItem o i) Q E s₂) E s₁) E s) :
    wpAny (model prog w) A (eval (.Subscript value slice pos) env) Q E s := by
  refine Subscript_ (wpAny_mono h (fun o s₁ h₁ => wpAny_mono h₁ (fun i s₂ h₂ => ?_) fun _ _ x => x) fun _ _ x => x)
  obtain ⟨hT, h₂⟩ := h₂
  unfold subscriptTail
  refine wpAny_bind ?_
  rw [getitemInPython_of_ne hT.not_modules]
  refine wpAny_bind (wpAny_specialOf hT hl ?_)
  have fin : wpAny (model prog w) A (subscripted slice false o i) (fun r s₃ => wpAny (model prog w) A (letTemporaryGo value o r >>= fun _ => pure r) Q E s₃) E s₂ := by
    rw [hs o i]
    exact wpAny_operating (wpAny_mono h₂ (fun r s₃ h₃ => wpAny_bind (wpAny_letTemporaryGo (wpAny_pure h₃))) fun _ _ x => x)
  first
    | exact wpAny_pure (wpAny_bind fin)
    | exact wpAny_bind (wpAny_pure (wpAny_bind fin))
    | exact wpAny_bind fin
section
variable {X : Cx} {o i e value : Expr} {pos pos' tpos : Pos} {td ty tv : TE}
end
/-! ### displays -/
section
variable {X : Cx} {pos : Pos}
end
/-! ### methods -/
section
variable {X : Cx} {pins : List (Addr × Obj)} {σ : St} {H : Hp} {s : Shared} {a : Addr} {y d : V} {u r : Value} {o : Option V} {A : Around} {E : Value → Shared → Prop}
end
section
variable {X : Cx} {o e f : Expr} {apos cpos : Pos} {td ty tx : TE}
end
/-! ### dict(d): a copy -/
section
variable {X : Cx} {pins : List (Addr × Obj)} {σ : St} {H : Hp} {s : Shared} {a : Addr} {kvs : List (Key × V)} {A : Around} {E : Value → Shared → Prop}
end
section
variable {X : Cx} {pins : List (Addr × Obj)} {σ : St} {H : Hp} {s : Shared} {a : Addr} {y : V} {u : Value} {A : Around} {E : Value → Shared → Prop}
end
end L2
namespace L2
open PySem PySem.Spec PyProof.Rows
section
variable {prog : Program} {w : World} {A : Around} {E : Value → Shared → Prop}
end
section
variable {X : Cx}
end
end L2
namespace L2
open PySem PySem.Spec PyProof.Rows
theorem boot_reversed5 : bootBuiltins "reversed" = some (.type "reversed") := by decide +kernel
section
variable {X : Cx} {pins : List (Addr × Obj)} {σ : St} {H : Hp} {s : Shared} {h' : Heap}
/-- .. and one new object is laid -/
theorem Inv.turnedNew {t' : Nat} {ch : List Addr} {T : Addr} {ob : HO} (I : Inv X pins σ H s) (k : ∀ b o, b ∉ ch → s.heap.get? b = some o → h'.get? b = some o) (hf : ∀ b ∈ ch, FpOk X pins H b) (hT : s.heap.objs.size ≤ T)
    (new : ObjOk X.prog X.w (upd H T ob) h' T ob) : Inv X pins σ (upd H T ob) { s with heap := h', toks := t' } := by
  have hn : H T = none := I.hok.fresh hT
  have nit : ∀ b u, H b = some u → b ∉ ch := fun b u e z => by
    have q := (hf b z).1
    rw [q] at e; cases e
  refine I.step (g' := s.gens) (d' := s.drawn) (ch := ch) (fun b hb => ⟨(hf b hb).2.2.2.1, (hf b hb).2.1, (hf b hb).2.2.2.2.1, (hf b hb).2.2.2.2.2⟩) (fun b o _ _ hc e _ => k b o hc e) (fun b o _ _ hc e _ => ⟨o.slots, k b o hc e⟩)
    (fun b o _ e n => ?_) (fun b o hc e => ⟨o, k b o hc e⟩) (fun b xs e => ?_) (fun b o u e => ?_) (fun b ps e => ⟨#[], ?_⟩) (fun m hm => ?_) (fun b u e => ?_) I.bare
  · rw [upd_ne (Nat.ne_of_lt (Nat.lt_of_lt_of_le (Heap.lt_size e) hT))]; exact n
  · rw [upd_ne (ne_of_none e hn)]; exact e
  · rw [upd_ne (ne_of_none e hn)]; exact e
  · rw [upd_ne (ne_of_none e hn), e]; simp
  · obtain ⟨o, es, ep, ho, r⟩ := hm
    exact ⟨o, es, ep, k _ o (fun z => (hf _ z).2.1 rfl) ho, r⟩
  · by_cases hb : b = T
    · subst hb
      rw [upd_same] at e
      cases e
      exact new
    · rw [upd_ne hb] at e
      refine (I.hok b u e).stay (fun c v hc q => k c v ?_ q) (fun c q => by rw [upd_ne (ne_of_none q hn)]; exact q) fun c xs q => by rw [upd_ne (ne_of_none q hn)]; exact q
      rcases hc with z | z
      · rw [z]; exact nit b u e
      · exact nit c _ z
/-! ### locking a thing while a statement runs -/
theorem Inv.lock {d : Addr} {u : HO} (I : Inv X pins σ H s) (h : H d = some u) (mu : Mut (some u)) : ∃ od, Inv X pins σ (upd H d (.frz od u)) s := by
  have x := I.hok d u h
  have ex : ∃ od, s.heap.get? d = some od := by
    cases u with
    | lst xs => obtain ⟨_, _, _, _, e⟩ := x; exact ⟨_, e⟩
    | dK kvs => obtain ⟨_, _, _, _, o, _, _, e, _⟩ := x; exact ⟨o, e⟩
    | dT kvs => obtain ⟨_, _, _, _, o, _, _, e, _⟩ := x; exact ⟨o, e⟩
    | set S n => obtain ⟨o, _, _, _, e, _⟩ := x; exact ⟨o, e⟩
    | ins C dx fs => obtain ⟨_, _, _, e, _⟩ := x; exact ⟨_, e⟩
    | ext φ => obtain ⟨_, ⟨_, e⟩, _⟩ := x; exact ⟨_, e⟩
    | _ => exact False.elim mu
  obtain ⟨od, e⟩ := ex
  have new : ObjOk X.prog X.w (upd H d (.frz od u)) s.heap d (.frz od u) := by
    refine ⟨e, x.stay (fun b v _ q => q) (fun b q => ?_) fun b xs q => ?_⟩
    · rw [upd_ne (fun z => by rw [z, h] at q; cases q; exact mu)]; exact q
    · rw [upd_ne (fun z => by rw [z, h] at q; cases q; exact mu)]; exact q
  exact ⟨od, I.write (x := d) (e := d) (t' := s.toks) (h' := s.heap) (by rw [h]; exact mu) (.inl rfl) (fun b v _ q => q) ⟨od, e⟩ new⟩
theorem Inv.nofrz {d : Addr} {u : HO} (I : Inv X pins σ H s) (h : H d = some u) (mu : Mut (some u)) : ∀ o' u', X.H_0 d ≠ some (.frz o' u') := fun o' u' e => by
  have q := I.base.frzs d o' u' e
  rw [h] at q
  cases q
  exact mu
theorem Inv.unlock {d : Addr} {od : Obj} {u : HO} (I : Inv X pins σ H s) (h : H d = some (.frz od u)) (hn : ∀ o' u', X.H_0 d ≠ some (.frz o' u')) : Inv X pins σ (upd H d u) s := by
  have neH : ∀ b o, H b = some o → (∀ o' u', o ≠ .frz o' u') → b ≠ d := fun b o e hne z => by
    rw [z, h] at e
    cases e
    exact hne _ _ rfl
  have neN : ∀ b, H b = none → b ≠ d := fun b e z => by rw [z, h] at e; cases e
  refine ⟨I.ok, I.os, I.bare, ⟨I.base.keep, I.base.slot, fun b o e n hx => ?_, I.base.there, fun b xs e => ?_, fun b o x e => ?_, fun b ps e => ?_⟩, I.loc, I.cell, ?_, fun x c e => ?_, fun p hp => ?_, fun b o e => ?_, I.len⟩
  · rw [upd_ne (neN b (I.base.free b o e n hx))]; exact I.base.free b o e n hx
  · have q := I.base.tups b xs e
    rw [upd_ne (neH b _ q (fun _ _ z => nomatch z))]; exact q
  · have q := I.base.frzs b o x e
    rw [upd_ne (fun z => by rw [z] at e; exact hn _ _ e)]; exact q
  · obtain ⟨m, q⟩ := I.base.tbls b ps e
    exact ⟨m, by rw [upd_ne (neH b _ q (fun _ _ z => nomatch z))]; exact q⟩
  · rw [upd_ne (neN _ I.free)]; exact I.free
  · rw [upd_ne (neN c (I.freeC x c e))]; exact I.freeC x c e
  · obtain ⟨e, n, r⟩ := I.pin p hp
    exact ⟨e, by rw [upd_ne (neN _ n)]; exact n, r⟩
  · by_cases hb : b = d
    · rw [hb, upd_same] at e
      cases e
      rw [hb]
      obtain ⟨_, x⟩ := I.hok d _ h
      exact x.stay (fun c v _ q => q) (fun c q => by rw [upd_ne (neH c _ q (fun _ _ z => nomatch z))]; exact q) fun c xs q => by rw [upd_ne (neH c _ q (fun _ _ z => nomatch z))]; exact q
    · rw [upd_ne hb] at e
      exact (I.hok b o e).stay (fun c v _ q => q) (fun c q => by rw [upd_ne (neH c _ q (fun _ _ z => nomatch z))]; exact q) fun c xs q => by rw [upd_ne (neH c _ q (fun _ _ z => nomatch z))]; exact q
end
def tLockE (t : TE) : TE := fun σ H Q => ∃ d u, H d = some u ∧ Mut (some u) ∧ ∀ od, t σ (upd H d (.frz od u)) fun v H' => H' d = some (.frz od u) ∧ Q v (upd H' d u)
section
variable {X : Cx}
theorem pe_lock {e : Expr} {t : TE} (h : PE X e t) : PE X e (tLockE t) := by
  intro pins s σ H Q I hw
  obtain ⟨d, u, hd, mu, hw⟩ := hw
  obtain ⟨od, I1⟩ := I.lock hd mu
  refine thn (h pins s σ _ _ I1 (hw od)) fun v s1 ⟨x, H1, I2, r, e2, q⟩ => ?_
  exact ⟨x, _, I2.unlock e2 (I.nofrz hd mu), r, q⟩
/-! ### one iterator just laid -/
theorem pi_one {tg : Expr} {pins : List (Addr × Obj)} {σ : St} {H : Hp} {s : Shared} {R : It → Hp → Prop} {J : It} {tn : Nat → Heap → Prop} {tk : Nat} (I : Inv X pins σ H s) (o : Obj)
    (T : Turn X.prog X.w X.K tg J [s.heap.objs.size] s.heap.objs.size tn) (st : tn 0 (s.heap.push o)) (q : R J H) : PIE X pins σ tg R (.ref s.heap.objs.size) { s with heap := s.heap.push o, toks := tk } := by
  refine ⟨s.heap.objs.size, [s.heap.objs.size], tn, J, H, rfl, I.kept fun b ob e => Heap.get?_push_of_some _ e, T, st, fun b hb => ?_, q⟩
  have e : b = s.heap.objs.size := by simpa using hb
  subst e
  exact I.fpOk (Nat.le_refl _) (I.hok.fresh (Nat.le_refl _))
end
/-! ### range with a step -/
section
variable {X : Cx} {tg : Expr}
end
/-! ### reversed(list) -/
section
variable {X : Cx} {tg : Expr}
end
/-! ### a str -/
/-! ### a dict's keys: any dict's entries -/
section
variable {prog : Program} {w : World} {A : Around} {E : Value → Shared → Prop} {s : Shared}
end
/-! ### a locked dict -/
section
variable {X : Cx} {pins : List (Addr × Obj)} {σ : St} {H : Hp} {s : Shared} {d : Addr} {o : Obj}
end
section
variable {P : Program} {w : World} {K : PySem.W.Frag} {tg : Expr} {d : Addr} {o : Obj} {es : Array DictEntry} {ep : Nat}
end
/-! ### for k in d, d.keys(), d.values(), d.items() -/
section
variable {X : Cx} {tg e : Expr} {td : TE} {apos cpos : Pos}
end
/-! ### enumerate(list) -/
/-- the list at a as it stands at each turn, each item in a new pair -/
def Ite (K : PySem.W.Frag) (a : Addr) : It :=
  ⟨fun i H => ∃ (xs : List V) (x : V), SqL K H a xs ∧ xs[i]? = some x, fun i H v H' => ∃ T x, v = .ref T ∧ H T = none ∧ H' = upd H T (.tup [.int (i : Nat), x]) ∧ ∀ xs, SqL K H a xs → xs[i]? = some x, fun i H => ∃ xs : List V, SqL K H a xs ∧ xs.length ≤ i⟩
theorem turn_enum {P : Program} {w : World} {K : PySem.W.Frag} {elts : List Expr} {kk : Nat} {tpos : Pos} (a e it : Addr) :
    Turn P w K (.Tuple elts kk tpos) (Ite K a) [e, it] e (fun i h => (∃ old, IsEnum h e it ((i : Nat) : Int) old) ∧ h.IsListIter it a i ∧ e ≠ it) where
  mem := by simp
  obj := fun i h st b hb => by
    obtain ⟨⟨old, he⟩, ⟨o, ho, hc, hd⟩, _⟩ := st
    have e' : b = e ∨ b = it := by simpa using hb
    rcases e' with z | z
    · rw [z]; exact ⟨_, he, fun v q => nomatch q⟩
    · rw [z]; exact ⟨o, ho, fun v q => by rw [hd] at q; cases q⟩
  keep := fun i h h' st k => let ⟨⟨old, he⟩, hi, hne⟩ := st; ⟨⟨old, k e (by simp) _ he⟩, hi.at fun o q => k it (by simp) o q, hne⟩
  item := by
    intro X hP hw hK hc i pins s σ H E I hf st hg
    subst hP hw hK
    obtain ⟨⟨old, he⟩, hit, hne⟩ := st
    obtain ⟨xs, x, hq, hx⟩ := hg
    obtain ⟨its, rv, p, hz⟩ := I.list hq
    obtain ⟨u, hu, ru⟩ := rv.get hx
    have hel : e < s.heap.objs.size := Heap.lt_size he
    have hil : it < s.heap.objs.size := by obtain ⟨_, q, _⟩ := hit; exact Heap.lt_size q
    refine wpAny_pyNext_enum_item he hit p.isList (x := u) (by simpa using hu) hne fun h' ho hit' hT hsz hk => ?_
    refine ⟨_, rfl, wpAny_letOwnedTupleGo_enum (s := { s with heap := h', toks := s.toks + 1 }) ho fun h'' he' sb => ?_⟩
    have hT2 : h''.get? s.heap.objs.size = some { cls := .type "tuple", data := .seq #[.int i s.toks, u] } := (sb.2 _ (Nat.ne_of_gt hel)).trans hT
    have new : ObjOk X.prog X.w (upd H s.heap.objs.size (.tup [.int (i : Nat), x])) h'' s.heap.objs.size (.tup [.int (i : Nat), x]) :=
      ⟨by show 2 ≤ sizeLine; decide, [.int i s.toks, u], .cons ⟨_, rfl⟩ (.cons ru .nil), ⟨_, hT2, rfl, _, rfl⟩⟩
    have I1 : Inv X pins σ (upd H s.heap.objs.size (.tup [.int (i : Nat), x])) { s with heap := h'', toks := s.toks + 1 } :=
      I.turnedNew (ch := [e, it]) (fun b ob hb q => (sb.2 b (fun z => hb (by simp [z]))).trans (hk b ob (fun z => hb (by simp [z])) (fun z => hb (by simp [z])) q)) hf (Nat.le_refl _) new
    refine ⟨.ref s.heap.objs.size, _, I1, rfl, ⟨_, x, rfl, I.hok.fresh (Nat.le_refl _), rfl, fun ys hy => by rw [I.list_inj hy hq]; exact hx⟩, ⟨⟨u, ?_⟩, hit'.at fun o q => (sb.2 it (Ne.symm hne)).trans q, hne⟩, fun b hb => ?_⟩
    · have e1 : ((i + 1 : Nat) : Int) = (i : Int) + 1 := by omega
      rw [e1]; exact he'
    · have hb' : b < s.heap.objs.size := by
        have e' : b = e ∨ b = it := by simpa using hb
        rcases e' with z | z
        · rw [z]; exact hel
        · rw [z]; exact hil
      rw [upd_ne (Nat.ne_of_lt hb')]
      exact (hf b hb).1
  done := by
    intro X hP hw hK hc i pins s σ H E I hf st hg
    subst hP hw hK
    obtain ⟨⟨old, he⟩, hit, hne⟩ := st
    obtain ⟨xs, hq, hx⟩ := hg
    obtain ⟨its, rv, p, hz⟩ := I.list hq
    obtain ⟨f0, f1, f2, f3, f4, f5⟩ := hf it (by simp)
    have hl := rv.length
    exact wpAny_pyNext_enum_end (I.ok.hd hc) he hit p.isList (by simp; omega) fun h' eb => ⟨rfl, I.turned (t' := s.toks) (fun b o hb q => eb b o hb q) f0 f1 f3 f4 f5⟩
  self := fun A i s Q E st h => let ⟨⟨_, he⟩, _⟩ := st; wpAny_pyIter_enum he h
def iEnum (K : PySem.W.Frag) (ta : TA) : TI := fun σ H R => ta σ H fun vs H1 => ∃ a xs, vs = [.ref a] ∧ SqL K H1 a xs ∧ R (Ite K a) H1
theorem pi_enum {X : Cx} {e : Expr} {ta : TA} {p pos tpos : Pos} {elts : List Expr} {kk : Nat} (hg : Gl X "enumerate") (hm : X.mg "enumerate" = none) (ha : PA X [e] ta) (hs : starEach [e] X.env = [(false, eval e X.env)] := by rfl) :
    PI X (.Tuple elts kk tpos) (.Call (.Name "enumerate" p) [e] [] pos) (iEnum X.K ta) := by
  intro pins s σ H R I h
  refine Call_ (ld_blt I hg hm boot_enumerate (PyProof.Rows.callWith_type1 (thn (ha pos pins s σ H _ I h) fun us s1 ⟨vs, H1, I1, r1, q1⟩ => ?_) hs rfl))
  obtain ⟨a, xs, ex, hq, q⟩ := q1
  subst ex
  cases r1 with
  | cons r rr =>
    cases rr
    cases r
    obtain ⟨its, rv, p', hz⟩ := I1.list hq
    refine call_enumerate_list p'.isList fun h' he hit hsz hk => wpAny_pyIter_enum he ?_
    have I2 : Inv X pins σ H1 { s1 with heap := h' } := I1.kept (t' := s1.toks) hk
    refine ⟨s1.heap.objs.size + 1, [s1.heap.objs.size + 1, s1.heap.objs.size], _, _, H1, rfl, I2, turn_enum a (s1.heap.objs.size + 1) s1.heap.objs.size, ⟨⟨.none, he⟩, hit, Nat.succ_ne_self _⟩, fun b hb => ?_, q⟩
    have e' : b = s1.heap.objs.size + 1 ∨ b = s1.heap.objs.size := by simpa using hb
    have hle : s1.heap.objs.size ≤ b := by
      rcases e' with z | z
      · rw [z]; exact Nat.le_add_right _ _
      · rw [z]; exact Nat.le_refl _
    exact I1.fpOk hle (I1.hok.fresh hle)
/-! ### zip(list, list) -/
end L2
section 
namespace Bits
open PySem PyProof.Rows
end Bits
end 
section 
namespace TL
open PySem PySem.Builtin PySem.Builtin.Str PySem.StrLaws
/-! ### the list functions -/
/-! ### the model's split and partition are these -/
/-! ### computing spl and par -/
/-! ### digits -/
/-! ### words: x.split() -/
end TL
end 
namespace L2
open PySem PySem.Spec PyProof.Rows
section
variable {X : Cx} {pins : List (Addr × Obj)} {σ : St} {H : Hp} {s : Shared} {Q : VK}
end
section
variable {X : Cx}
/-! ### of a text alone -/
/-! ### of a text and a text -/
end
section
variable {X : Cx} {o e : Expr} {to te : TE}
end
end L2
namespace L2
open PySem PySem.Spec PyProof.Rows
section
variable {X : Cx}
end
/-! ### slices of a text -/
end L2
namespace Att
open PySem PySem.W PySem.Calls PyProof.Rows
/-! ### the script -/
/-! ### the attachment: holds_open's last premise (the goal 'hc' behind k_head) from a wpAny of the law's body -/
/-! ### rules over ANY heap (no ledger) from facts about the written part K: the library's own take a ledger (News) for what they write -/
section
variable {prog : Program} {w : World} {A : Around} {E : Value → Shared → Prop} {s : Shared} {K : Frag}
/-! the whole heap as the ledger: makes every rule that writes through a ledger a rule over any heap -/
end
end Att
namespace L2
open PySem PySem.Spec PyProof.Rows
end L2
namespace L2
open PySem PySem.Spec PyProof.Rows
end L2
/- THE LAST THEOREM (shape; LID, My.* are yours):
   My.Adr: a structure of the addresses that your layer names (classes, functions); My.Txt K t: a structure (Prop) of the equations over K;
   My.txt_mk : {K} {implicit addresses ..} (e1 : nsIn K mainGlobals "law" = some (some (.ref f))) (e2 : K.lookup f = some ⟨oc, od, .func (fnOf "law" "law" params body scope dV kV doc pm an cdv ct), sl⟩) (e3 : codeIn K cdv "law" = true) .. : ∃ t, My.Txt K t
set_option maxRecDepth 100000 in
set_option maxHeartbeats 0 in
theorem PySem.Challenge.cw_LID_holds : PySem.Challenge.rw_LID.Holds := by
  w_on; o_law; k_head; (case hw => w_witness2)
  k_fill
  refine L2.walk_of (l := PySem.Challenge.rw_LID) (n := 63) (k := 40) (x := "script") (CX := fun w => ..) (sp := fun _ => My.sp_law) rfl (by decide) rfl ⟨rfl, by decide, by decide⟩ (fun w h Y => PySem.W.kIn_of Y) ?F ?S ?C
  case F =>
    intro w mg fa h KX G hmg
    have T : ∃ t, My.Txt (L2.KOf KX) t := by
      dsimp only [L2.KOf]                          -- K must stand as «<heap const> w.params» for k_is
      refine' My.txt_mk ?e1 ?e2 ?e3 ..
      (case e1 => PySem.W.k_is)                    -- in the order: a name -> its address -> its object -> its parts
      (case e2 => PySem.W.k_is)
      ..
    obtain ⟨t, T⟩ := T
    have e0 := hmg.symm.trans (PySem.W.mg_of KX G T.law)
    cases e0                                       -- fa is the law's own address
    exact ⟨_, fun s u => .of_eq rfl, fun base kb nb => My.law_fn T kb nb⟩     -- if «.of_eq rfl» comes too early: refine' ⟨_, ?b, fun base kb nb => My.law_fn T kb nb⟩; exact fun s u => .of_eq rfl
  case S => exact fun w H a ns hl hO hS => ..
  case C => exact ..
(the tactic k_is has no namespace: write k_is) -/
/-! SHORT WORDS over the layer: a def of the text, its body, what a loop and a test want. -/
namespace L2
open PySem PySem.Spec PyProof.Rows
/-! ### the text by places -/
/-- the j-th statement of a class's body -/
def inClass (s : Stmt) (j : Nat) : Stmt := match s with
  | .ClassDef _ _ _ body _ _ _ _ _ _ _ => body.getD j (.Pass ⟨0, 0, 0, 0⟩)
  | _ => .Pass ⟨0, 0, 0, 0⟩
def defArgs (s : Stmt) : Arguments := match s with
  | .FunctionDef _ a _ _ _ _ _ _ _ _ => a
  | _ => { posonlyargs := [], args := [], vararg := none, kwonlyargs := [], kw_defaults := [], kwarg := none, defaults := [] }
def defBody (s : Stmt) : List Stmt := match s with
  | .FunctionDef _ _ b _ _ _ _ _ _ _ => b
  | _ => []
def defScope (s : Stmt) : Scope := match s with
  | .FunctionDef _ _ _ _ _ _ sc _ _ _ => sc
  | _ => { kind := .function, names := [], isGenerator := false, isCoroutine := false }
/-! ### no exception leaves a def -/
abbrev CX0 : CXT := fun _ _ _ _ _ _ => False
abbrev E0 : XK := fun _ _ _ => False
theorem pass0 {X : Cx} : Passes CX0 X E0 := fun _ _ _ _ _ _ _ h => h.elim
/-! ### a def (or method) of the text as it stands behind the top -/
structure Fun (K : PySem.W.Frag) (x qual : Str) (st : Stmt) (f : Addr) (fd : FuncData) : Prop where
  ex : ∃ (oc : Value) (od : Option Addr) (kV doc pm : Value) (an : Option Addr) (cdv ct : Value) (osl : Array (Option Value)),
    fd = PySem.W.fnOf x qual (defArgs st) (defBody st) (defScope st) .none kV doc pm an cdv ct ∧ K.lookup f = some ⟨oc, od, .func fd, osl⟩ ∧ PySem.W.codeIn K cdv qual = true
  kp : PySem.W.keepIn K (.ref f) = true
section
variable {P : Program} {w : World} {K : PySem.W.Frag} {mg : Str → Option Value} {base : Heap}
/-- THE RULE for a def: its body as a term of rules, and the reading of that term -/
theorem Fun.ok {x qual : Str} {st : Stmt} {f : Addr} {fd : FuncData} {N ps : List Str} {k : Nat} {sp : Sp} (F : Fun K x qual st f fd) (S : FnScope N ps (defScope st)) (len : ∀ vs H Q E, sp vs H Q E → vs.length = ps.length)
    (hbody : ∀ (cdv : Value) (A : Around) (outer : List Env) (s : Shared) (H : Hp) (vs : List V) (Q : VK) (E : XK), Room k (A.deeper (envOfC qual (defScope st) s.heap.objs.size f cdv)) → sp vs H Q E →
      ∃ t, PSs (cxOf CX0 P w K mg base N qual (defScope st) f cdv A outer s H E).nox (defBody st) t ∧ t { nx := fun _ H' => Q .non H', rt := Q } (start N vs) H) : FnOk P w K mg base CX0 (k + 1) f fd ps sp := by
  obtain ⟨oc, od, kV, doc, pm, an, cdv, ct, osl, rfl, lk, hcd⟩ := F.ex
  refine fn_of lk hcd S len fun A outer s H vs Q E hr hsp => ?_
  obtain ⟨t, h, q⟩ := hbody cdv A outer s H vs Q E hr hsp
  exact ⟨t, h.nox, q⟩
/-- how its arguments bind (no defaults): h is «fun _ _ _ _ _ _ us hl => match us, hl with | [_, _], _ => rfl», one _ a parameter -/
theorem Fun.binds {x qual : Str} {st : Stmt} {f : Addr} {fd : FuncData} {ps : List Str} (F : Fun K x qual st f fd)
    (h : ∀ (kV doc pm : Value) (an : Option Addr) (cdv ct : Value) (us : List Value), us.length = ps.length → bindArgs (PySem.W.fnOf x qual (defArgs st) (defBody st) (defScope st) .none kV doc pm an cdv ct) ⟨us, []⟩ = pure (ps.zip us)) : Binds K fd ps [] := by
  obtain ⟨oc, od, kV, doc, pm, an, cdv, ct, osl, rfl, lk, hcd⟩ := F.ex
  exact .all (h kV doc pm an cdv ct)
theorem fun_mk {x qual : Str} {st : Stmt} {f : Addr} {oc : Value} {od an : Option Addr} {osl : Array (Option Value)} {kV doc pm cdv ct : Value} (l : K.lookup f = some ⟨oc, od, .func (PySem.W.fnOf x qual (defArgs st) (defBody st) (defScope st) .none kV doc pm an cdv ct), osl⟩)
    (c : PySem.W.codeIn K cdv qual = true) (k : PySem.W.keepIn K (.ref f) = true) : Fun K x qual st f (PySem.W.fnOf x qual (defArgs st) (defBody st) (defScope st) .none kV doc pm an cdv ct) := ⟨⟨oc, od, kV, doc, pm, an, cdv, ct, osl, rfl, l, c⟩, k⟩
end
/-! ### expressions in short: the name that stands in the i-th slot -/
section
variable {X : Cx}
theorem pv (i : Nat) {x : Str} {pos : Pos} (hN : X.N[i]? = some x := by rfl) (hv : Vis X.env.scope x := by first | exact Or.inl rfl | exact Or.inr (Or.inl rfl) | exact Or.inr (Or.inr rfl)) (hd : (x == ("__debug__" : Str)) = false := by decide)
    (hcd : (x == ("__classdict__" : Str)) = false := by decide) : PE X (.Name x pos) (tVar i) := pe_var hN hv hd hcd
end
/-! ### tests -/
theorem iteF {A B : Prop} (h : B) : if false = true then A else B := by
  rw [if_neg Bool.false_ne_true]
  exact h
theorem iteT {A B : Prop} (h : A) : if true = true then A else B := by
  rw [if_pos rfl]
  exact h
theorem ite2 {c A B : Prop} [Decidable c] (h1 : c → A) (h2 : ¬ c → B) : if c then A else B := by
  by_cases h : c
  · rw [if_pos h]
    exact h1 h
  · rw [if_neg h]
    exact h2 h
theorem iteNS {c A B : Prop} [Decidable c] (hc : c) (h : B) : if (!decide c) = true then A else B := by
  rw [decide_eq_true hc]
  exact iteF h
/-! ### heaps -/
/-- all that was tracked is as it was -/
def Same (H H' : Hp) : Prop := ∀ b o, H b = some o → H' b = some o
theorem Same.refl (H : Hp) : Same H H := fun _ _ h => h
theorem Same.trans {H H1 H2 : Hp} (a : Same H H1) (b : Same H1 H2) : Same H H2 := fun c o h => b c o (a c o h)
theorem Same.free {H H' : Hp} (e : Same H H') {l : Addr} (h : H' l = Option.none) : H l = Option.none := by
  cases q : H l with
  | none => rfl
  | some o =>
    rw [e l o q] at h
    cases h
theorem Same.seq {K : PySem.W.Frag} {H H' : Hp} {a : Addr} {xs : List V} (e : Same H H') (h : SqL K H a xs) : SqL K H' a xs := by
  rcases h with (h | ⟨o, h⟩) | h
  · exact .inl (.inl (e _ _ h))
  · exact .inl (.inr ⟨o, e _ _ h⟩)
  · exact .inr h
/-! ### a dict's pairs: keys that differ -/
section
variable {κ : Type} [DecidableEq κ]
end
/-! ### lists -/
end L2

set_option Elab.async false
namespace Gm
open Ll
/-! ### joinTo -/
theorem mem_joinTo {m : List Nat} : ∀ {l : List Nat} {a : Nat}, a ∈ joinTo l m ↔ a ∈ l ∨ a ∈ m := by
  induction m with
  | nil => intro l a; simp [joinTo]
  | cons b m ih =>
    intro l a
    have e : joinTo l (b :: m) = joinTo (if l.contains b = true then l else l ++ [b]) m := rfl
    rw [e, ih]
    by_cases h : l.contains b = true
    · rw [if_pos h]
      have hb : b ∈ l := by simpa using h
      constructor
      · rintro (h1 | h1)
        · exact .inl h1
        · exact .inr (List.mem_cons_of_mem _ h1)
      · rintro (h1 | h1)
        · exact .inl h1
        · rcases List.mem_cons.mp h1 with rfl | h1
          · exact .inl hb
          · exact .inr h1
    · rw [if_neg h]
      simp only [List.mem_append, List.mem_cons, List.not_mem_nil, or_false]
      exact or_assoc
theorem joinTo_nodup {m : List Nat} : ∀ {l : List Nat}, l.Nodup → (joinTo l m).Nodup := by
  induction m with
  | nil => intro l h; exact h
  | cons b m ih =>
    intro l h
    have e : joinTo l (b :: m) = joinTo (if l.contains b = true then l else l ++ [b]) m := rfl
    rw [e]
    apply ih
    by_cases hb : l.contains b = true
    · rw [if_pos hb]; exact h
    · rw [if_neg hb]
      have hb' : b ∉ l := by simpa using hb
      refine List.nodup_append.mpr ⟨h, by simp, ?_⟩
      intro x hx y hy e2
      have e3 : y = b := by simpa using hy
      exact hb' (e3 ▸ e2 ▸ hx)
theorem joinTo_prefix {m : List Nat} : ∀ {l : List Nat}, ∃ r, joinTo l m = l ++ r := by
  induction m with
  | nil => intro l; exact ⟨[], by simp [joinTo]⟩
  | cons b m ih =>
    intro l
    have e : joinTo l (b :: m) = joinTo (if l.contains b = true then l else l ++ [b]) m := rfl
    rw [e]
    by_cases hb : l.contains b = true
    · rw [if_pos hb]; exact ih
    · rw [if_neg hb]
      obtain ⟨r, hr⟩ := ih (l := l ++ [b])
      exact ⟨b :: r, by rw [hr]; simp⟩
theorem joinTo_le {l m : List Nat} : l.length ≤ (joinTo l m).length := by
  obtain ⟨r, hr⟩ := joinTo_prefix (l := l) (m := m)
  rw [hr]; simp
theorem joinTo_lt {l m : List Nat} (h : joinTo l m ≠ l) : l.length < (joinTo l m).length := by
  obtain ⟨r, hr⟩ := joinTo_prefix (l := l) (m := m)
  rw [hr] at h ⊢
  cases r with
  | nil => simp at h
  | cons a r => simp
/-- a list without doubles of numbers below n is no longer than n -/
theorem nodup_len : ∀ (n : Nat) (l : List Nat), l.Nodup → (∀ a ∈ l, a < n) → l.length ≤ n := by
  intro n
  induction n with
  | zero =>
    intro l _ h
    cases l with
    | nil => simp
    | cons a l => exact absurd (h a (by simp)) (Nat.not_lt_zero _)
  | succ n ih =>
    intro l hd h
    by_cases hn : n ∈ l
    · have e : (l.erase n).length = l.length - 1 := List.length_erase_of_mem hn
      have h1 := ih (l.erase n) (hd.erase n) (fun a ha => by
        have h2 := h a (List.mem_of_mem_erase ha)
        have h3 : a ≠ n := by
          intro q
          subst q
          exact (hd.not_mem_erase) ha
        omega)
      have h4 : 0 < l.length := List.length_pos_of_mem hn
      omega
    · have := ih l hd (fun a ha => by
        have h2 := h a ha
        have h3 : a ≠ n := fun q => hn (q ▸ ha)
        omega)
      omega
/-! ### rounds -/
theorem rounds_inv {α : Type} [DecidableEq α] {f : α → α} {P : α → Prop} (hP : ∀ x, P x → P (f x)) : ∀ (n : Nat) (x : α), P x → P (rounds f n x) := by
  intro n
  induction n with
  | zero => intro x h; exact h
  | succ n ih =>
    intro x h
    unfold rounds
    split
    · exact h
    · exact ih _ (hP x h)
theorem rounds_fix {α : Type} [DecidableEq α] {f : α → α} {P : α → Prop} (μ : α → Nat) (hP : ∀ x, P x → P (f x)) (hm : ∀ x, P x → f x ≠ x → μ (f x) < μ x) : ∀ (n : Nat) (x : α), P x → μ x < n → f (rounds f n x) = rounds f n x := by
  intro n
  induction n with
  | zero => intro x _ h; exact absurd h (Nat.not_lt_zero _)
  | succ n ih =>
    intro x h hx
    unfold rounds
    split
    · assumption
    · rename_i hne
      have := hm x h hne
      exact ih _ (hP x h) (by omega)
/-! ### one set that grows -/
/-- a round that joins something to a set of numbers below n comes to an end -/
theorem grow_fix {n k : Nat} {add : List Nat → List Nat} {x : List Nat} (hk : n - x.length < k) (hx : x.Nodup ∧ ∀ a ∈ x, a < n) (hadd : ∀ e, (∀ a ∈ e, a < n) → ∀ a ∈ add e, a < n) :
    joinTo (rounds (fun e => joinTo e (add e)) k x) (add (rounds (fun e => joinTo e (add e)) k x)) = rounds (fun e => joinTo e (add e)) k x := by
  refine rounds_fix (f := fun e => joinTo e (add e)) (P := fun e => e.Nodup ∧ ∀ a ∈ e, a < n) (fun e => n - e.length) ?_ ?_ k x hx hk
  · intro e ⟨h1, h2⟩
    refine ⟨joinTo_nodup h1, fun a ha => ?_⟩
    rcases mem_joinTo.mp ha with h | h
    · exact h2 a h
    · exact hadd e h2 a h
  · intro e ⟨h1, h2⟩ hne
    have l1 := joinTo_lt hne
    have l2 : (joinTo e (add e)).length ≤ n := nodup_len n _ (joinTo_nodup h1) (fun a ha => by
      rcases mem_joinTo.mp ha with h | h
      · exact h2 a h
      · exact hadd e h2 a h)
    show n - (joinTo e (add e)).length < n - e.length
    omega
theorem fix_mem {e m : List Nat} (h : joinTo e m = e) {a : Nat} (ha : a ∈ m) : a ∈ e := by
  rw [← h]; exact mem_joinTo.mpr (.inr ha)
/-! ### a grammar in form -/
structure WF (g : Gram) : Prop where
  n1 : 1 ≤ g.nts
  n32 : g.nts ≤ 32
  t1 : 1 ≤ g.ts
  t63 : g.ts ≤ 63
  len : g.rules.length ≤ 128
  rl : ∀ r ∈ g.rules, r.1 < g.nts ∧ r.2.length ≤ 8 ∧ ∀ s ∈ r.2, s < g.ts + g.nts
/-- all symbols of a row are nonterminals with P -/
def AllNt (ts : Nat) (P : Nat → Prop) (x : List Nat) : Prop := ∀ s ∈ x, ts ≤ s ∧ P (s - ts)
theorem allIn_iff {g : Gram} {e x : List Nat} : allIn g e x = true ↔ AllNt g.ts (· ∈ e) x := by
  unfold allIn AllNt
  rw [List.all_eq_true]
  constructor
  · intro h s hs
    have := h s hs
    simp only [Bool.and_eq_true, decide_eq_true_eq, List.contains_iff_mem] at this
    exact this
  · intro h s hs
    have := h s hs
    simp only [Bool.and_eq_true, decide_eq_true_eq, List.contains_iff_mem]
    exact this
theorem AllNt.mono {ts : Nat} {P Q : Nat → Prop} {x : List Nat} (h : AllNt ts P x) (hpq : ∀ a, P a → Q a) : AllNt ts Q x := fun s hs => ⟨(h s hs).1, hpq _ (h s hs).2⟩
/-! ### what comes to nothing -/
theorem nulls_eq (g : Gram) : nulls g = rounds (fun e => joinTo e ((g.rules.filter fun (r : Nat × List Nat) => allIn g e r.2).map fun (r : Nat × List Nat) => r.1)) (g.nts + 1) [] := rfl
theorem nulls_closed {g : Gram} (w : WF g) : ∀ r ∈ g.rules, AllNt g.ts (· ∈ nulls g) r.2 → r.1 ∈ nulls g := by
  intro r hr h
  have hf := grow_fix (n := g.nts) (k := g.nts + 1) (x := []) (add := fun e => (g.rules.filter fun (r : Nat × List Nat) => allIn g e r.2).map fun (r : Nat × List Nat) => r.1) (by simp) (by simp) (by
    intro e _ a ha
    obtain ⟨r, hr, rfl⟩ := List.mem_map.mp ha
    exact (w.rl r (List.mem_filter.mp hr).1).1)
  rw [← nulls_eq] at hf
  exact fix_mem hf (List.mem_map.mpr ⟨r, List.mem_filter.mpr ⟨hr, allIn_iff.mpr h⟩, rfl⟩)
theorem nulls_least {g : Gram} {P : Nat → Prop} (h : ∀ r ∈ g.rules, AllNt g.ts P r.2 → P r.1) : ∀ a ∈ nulls g, P a := by
  rw [nulls_eq]
  refine rounds_inv (P := fun e => ∀ a ∈ e, P a) ?_ _ _ (by simp)
  intro e he a ha
  rcases mem_joinTo.mp ha with h1 | h1
  · exact he a h1
  · obtain ⟨r, hr, rfl⟩ := List.mem_map.mp h1
    obtain ⟨hr, hq⟩ := List.mem_filter.mp hr
    exact h r hr ((allIn_iff.mp hq).mono he)
theorem nulls_lt {g : Gram} (w : WF g) : ∀ a ∈ nulls g, a < g.nts := nulls_least fun r hr _ => (w.rl r hr).1
/-! ### what leads to tokens; what is come to -/
def AllMk (ts : Nat) (P : Nat → Prop) (x : List Nat) : Prop := ∀ s ∈ x, s < ts ∨ P (s - ts)
theorem allMk_iff {g : Gram} {e x : List Nat} : (x.all fun (s : Nat) => decide (s < g.ts) || e.contains (s - g.ts)) = true ↔ AllMk g.ts (· ∈ e) x := by
  unfold AllMk
  rw [List.all_eq_true]
  constructor
  · intro h s hs
    have := h s hs
    simp only [Bool.or_eq_true, decide_eq_true_eq, List.contains_iff_mem] at this
    exact this
  · intro h s hs
    have := h s hs
    simp only [Bool.or_eq_true, decide_eq_true_eq, List.contains_iff_mem]
    exact this
theorem AllMk.mono {ts : Nat} {P Q : Nat → Prop} {x : List Nat} (h : AllMk ts P x) (hpq : ∀ a, P a → Q a) : AllMk ts Q x := fun s hs => (h s hs).imp id (hpq _)
theorem makes_eq (g : Gram) : makes g = rounds (fun e => joinTo e ((g.rules.filter fun (r : Nat × List Nat) => r.2.all fun (s : Nat) => decide (s < g.ts) || e.contains (s - g.ts)).map fun (r : Nat × List Nat) => r.1)) (g.nts + 1) [] := rfl
theorem makes_closed {g : Gram} (w : WF g) : ∀ r ∈ g.rules, AllMk g.ts (· ∈ makes g) r.2 → r.1 ∈ makes g := by
  intro r hr h
  have hf := grow_fix (n := g.nts) (k := g.nts + 1) (x := []) (add := fun e => (g.rules.filter fun (r : Nat × List Nat) => r.2.all fun (s : Nat) => decide (s < g.ts) || e.contains (s - g.ts)).map fun (r : Nat × List Nat) => r.1) (by simp) (by simp) (by
    intro e _ a ha
    obtain ⟨r, hr, rfl⟩ := List.mem_map.mp ha
    exact (w.rl r (List.mem_filter.mp hr).1).1)
  rw [← makes_eq] at hf
  exact fix_mem hf (List.mem_map.mpr ⟨r, List.mem_filter.mpr ⟨hr, allMk_iff.mpr h⟩, rfl⟩)
theorem makes_least {g : Gram} {P : Nat → Prop} (h : ∀ r ∈ g.rules, AllMk g.ts P r.2 → P r.1) : ∀ a ∈ makes g, P a := by
  rw [makes_eq]
  refine rounds_inv (P := fun e => ∀ a ∈ e, P a) ?_ _ _ (by simp)
  intro e he a ha
  rcases mem_joinTo.mp ha with h1 | h1
  · exact he a h1
  · obtain ⟨r, hr, rfl⟩ := List.mem_map.mp h1
    obtain ⟨hr, hq⟩ := List.mem_filter.mp hr
    exact h r hr ((allMk_iff.mp hq).mono he)
theorem reached_eq (g : Gram) : reached g = rounds (fun e => joinTo e ((g.rules.filter fun (r : Nat × List Nat) => e.contains r.1).flatMap fun (r : Nat × List Nat) => (r.2.filter fun (s : Nat) => decide (g.ts ≤ s)).map fun (s : Nat) => s - g.ts)) (g.nts + 1) [0] := rfl
theorem mem_reachAdd {g : Gram} {e : List Nat} {a : Nat} : a ∈ ((g.rules.filter fun (r : Nat × List Nat) => e.contains r.1).flatMap fun (r : Nat × List Nat) => (r.2.filter fun (s : Nat) => decide (g.ts ≤ s)).map fun (s : Nat) => s - g.ts) ↔ ∃ r ∈ g.rules, r.1 ∈ e ∧ ∃ s ∈ r.2, g.ts ≤ s ∧ a = s - g.ts := by
  rw [List.mem_flatMap]
  constructor
  · rintro ⟨r, hr, ha⟩
    obtain ⟨hr, he⟩ := List.mem_filter.mp hr
    obtain ⟨s, hs, rfl⟩ := List.mem_map.mp ha
    obtain ⟨hs, h2⟩ := List.mem_filter.mp hs
    exact ⟨r, hr, by simpa using he, s, hs, by simpa using h2, rfl⟩
  · rintro ⟨r, hr, he, s, hs, h2, rfl⟩
    exact ⟨r, List.mem_filter.mpr ⟨hr, by simpa using he⟩, List.mem_map.mpr ⟨s, List.mem_filter.mpr ⟨hs, by simpa using h2⟩, rfl⟩⟩
theorem reached_zero (g : Gram) : 0 ∈ reached g := by
  rw [reached_eq]
  exact rounds_inv (P := fun e => 0 ∈ e) (fun e he => mem_joinTo.mpr (.inl he)) _ _ (by simp)
theorem reached_closed {g : Gram} (w : WF g) : ∀ r ∈ g.rules, r.1 ∈ reached g → ∀ s ∈ r.2, g.ts ≤ s → s - g.ts ∈ reached g := by
  intro r hr h s hs h2
  have hf := grow_fix (n := g.nts) (k := g.nts + 1) (x := [0]) (add := fun e => (g.rules.filter fun (r : Nat × List Nat) => e.contains r.1).flatMap fun (r : Nat × List Nat) => (r.2.filter fun (s : Nat) => decide (g.ts ≤ s)).map fun (s : Nat) => s - g.ts) (by simp; omega) (by
    have := w.n1
    refine ⟨by simp, ?_⟩
    intro a ha
    have : a = 0 := by simpa using ha
    omega) (by
    intro e _ a ha
    obtain ⟨r, hr, _, s, hs, h2, rfl⟩ := mem_reachAdd.mp ha
    have := (w.rl r hr).2.2 s hs
    omega)
  rw [← reached_eq] at hf
  exact fix_mem hf (mem_reachAdd.mpr ⟨r, hr, h, s, hs, h2, rfl⟩)
theorem reached_least {g : Gram} {P : Nat → Prop} (h0 : P 0) (h : ∀ r ∈ g.rules, P r.1 → ∀ s ∈ r.2, g.ts ≤ s → P (s - g.ts)) : ∀ a ∈ reached g, P a := by
  rw [reached_eq]
  refine rounds_inv (P := fun e => ∀ a ∈ e, P a) ?_ _ _ (by simpa using h0)
  intro e he a ha
  rcases mem_joinTo.mp ha with h1 | h1
  · exact he a h1
  · obtain ⟨r, hr, h2, s, hs, h3, rfl⟩ := mem_reachAdd.mp h1
    exact h r hr (he _ h2) s hs h3
end Gm

set_option Elab.async false
namespace Gm
open Ll
/-! ### sets, one a nonterminal -/
theorem setOf_eq {f : Sets} {n : Nat} (h : n < f.length) : setOf f n = f[n] := by
  unfold setOf
  rw [List.getD_eq_getElem?_getD, List.getElem?_eq_getElem h]; rfl
theorem setOf_none {f : Sets} {n : Nat} (h : f.length ≤ n) : setOf f n = [] := by
  unfold setOf
  rw [List.getD_eq_getElem?_getD, List.getElem?_eq_none h]; rfl
/-- a round that joins to each set what is added there -/
def joinAll (add : Nat → List (List Nat)) (f : Sets) : Sets := f.zipIdx.map fun (x : List Nat × Nat) => (add x.2).foldl joinTo x.1
theorem joinAll_length (add : Nat → List (List Nat)) (f : Sets) : (joinAll add f).length = f.length := by simp [joinAll]
theorem joinAll_get {add : Nat → List (List Nat)} {f : Sets} {n : Nat} (h : n < f.length) : setOf (joinAll add f) n = (add n).foldl joinTo (setOf f n) := by
  rw [setOf_eq (by rw [joinAll_length]; exact h), setOf_eq h]
  simp [joinAll]
theorem mem_foldJoin {ls : List (List Nat)} : ∀ {s : List Nat} {a : Nat}, a ∈ ls.foldl joinTo s ↔ a ∈ s ∨ ∃ l ∈ ls, a ∈ l := by
  induction ls with
  | nil => intro s a; simp
  | cons l ls ih =>
    intro s a
    rw [List.foldl_cons, ih, mem_joinTo]
    constructor
    · rintro ((h | h) | ⟨m, hm, h⟩)
      · exact .inl h
      · exact .inr ⟨l, by simp, h⟩
      · exact .inr ⟨m, List.mem_cons_of_mem _ hm, h⟩
    · rintro (h | ⟨m, hm, h⟩)
      · exact .inl (.inl h)
      · rcases List.mem_cons.mp hm with rfl | hm
        · exact .inl (.inr h)
        · exact .inr ⟨m, hm, h⟩
theorem foldJoin_nodup {ls : List (List Nat)} : ∀ {s : List Nat}, s.Nodup → (ls.foldl joinTo s).Nodup := by
  induction ls with
  | nil => intro s h; exact h
  | cons l ls ih => intro s h; rw [List.foldl_cons]; exact ih (joinTo_nodup h)
theorem foldJoin_prefix {ls : List (List Nat)} : ∀ {s : List Nat}, ∃ r, ls.foldl joinTo s = s ++ r := by
  induction ls with
  | nil => intro s; exact ⟨[], by simp⟩
  | cons l ls ih =>
    intro s
    rw [List.foldl_cons]
    obtain ⟨r1, h1⟩ := joinTo_prefix (l := s) (m := l)
    obtain ⟨r2, h2⟩ := ih (s := joinTo s l)
    exact ⟨r1 ++ r2, by rw [h2, h1, List.append_assoc]⟩
/-- how many members there are in all -/
def total (f : Sets) : Nat := (f.map List.length).sum
theorem total_le {n k : Nat} : ∀ {f : Sets}, f.length = n → (∀ s ∈ f, s.length ≤ k) → total f ≤ n * k := by
  induction n with
  | zero =>
    intro f h _
    have : f = [] := List.length_eq_zero_iff.mp h
    subst this; simp [total]
  | succ n ih =>
    intro f h hk
    cases f with
    | nil => simp at h
    | cons s f =>
      have h1 := ih (f := f) (by simpa using h) (fun x hx => hk x (List.mem_cons_of_mem _ hx))
      have h2 := hk s (by simp)
      unfold total at *
      rw [List.map_cons, List.sum_cons, Nat.succ_mul]
      omega
theorem total_grow {h : List Nat → Nat → List Nat} (hp : ∀ s i, ∃ r, h s i = s ++ r) : ∀ (f : Sets) (k : Nat), total f ≤ total ((f.zipIdx k).map fun x => h x.1 x.2) ∧ (((f.zipIdx k).map fun x => h x.1 x.2) ≠ f → total f < total ((f.zipIdx k).map fun x => h x.1 x.2)) := by
  intro f
  induction f with
  | nil => intro k; simp
  | cons s f ih =>
    intro k
    obtain ⟨i1, i2⟩ := ih (k + 1)
    obtain ⟨r, hr⟩ := hp s k
    simp only [List.zipIdx_cons, List.map_cons]
    unfold total at *
    simp only [List.map_cons, List.sum_cons]
    rw [hr, List.length_append]
    refine ⟨by omega, fun hne => ?_⟩
    cases r with
    | nil =>
      rw [List.append_nil] at hne
      have := i2 (fun e => hne (by rw [e]))
      simp only [List.length_nil, Nat.add_zero]
      omega
    | cons a r => simp only [List.length_cons]; omega
def SetsOk (n b : Nat) (f : Sets) : Prop := f.length = n ∧ ∀ s ∈ f, s.Nodup ∧ ∀ a ∈ s, a < b
theorem SetsOk.total {n b : Nat} {f : Sets} (h : SetsOk n b f) : Gm.total f ≤ n * b := total_le h.1 fun s hs => nodup_len b s (h.2 s hs).1 (h.2 s hs).2
theorem joinAll_ok {n b : Nat} {add : Nat → List (List Nat)} {f : Sets} (h : SetsOk n b f) (ha : ∀ i, ∀ l ∈ add i, ∀ a ∈ l, a < b) : SetsOk n b (joinAll add f) := by
  refine ⟨by rw [joinAll_length]; exact h.1, fun s hs => ?_⟩
  unfold joinAll at hs
  obtain ⟨⟨x, i⟩, hx, rfl⟩ := List.mem_map.mp hs
  have hx' : x ∈ f := (List.mem_zipIdx' hx).2 ▸ List.getElem_mem _
  refine ⟨foldJoin_nodup (h.2 x hx').1, fun a q => ?_⟩
  rcases mem_foldJoin.mp q with q | ⟨l, hl, q⟩
  · exact (h.2 x hx').2 a q
  · exact ha i l hl a q
theorem sets_fix {n b k : Nat} {add : Sets → Nat → List (List Nat)} {x : Sets} (hk : n * b - total x < k) (hx : SetsOk n b x) (hadd : ∀ f, SetsOk n b f → ∀ i, ∀ l ∈ add f i, ∀ a ∈ l, a < b) :
    joinAll (add (rounds (fun f => joinAll (add f) f) k x)) (rounds (fun f => joinAll (add f) f) k x) = rounds (fun f => joinAll (add f) f) k x := by
  refine rounds_fix (f := fun f => joinAll (add f) f) (P := SetsOk n b) (fun f => n * b - total f) ?_ ?_ k x hx hk
  · intro f h
    exact joinAll_ok h (hadd f h)
  · intro f h hne
    have h1 := (total_grow (h := fun s i => ((add f) i).foldl joinTo s) (fun s i => foldJoin_prefix) f 0).2 hne
    have h2 := (joinAll_ok h (hadd f h)).total
    have h3 : total f < total (joinAll (add f) f) := h1
    show n * b - total (joinAll (add f) f) < n * b - total f
    omega
theorem fix_all {add : Nat → List (List Nat)} {f : Sets} (h : joinAll add f = f) {n a : Nat} {l : List Nat} (hn : n < f.length) (hl : l ∈ add n) (ha : a ∈ l) : a ∈ setOf f n := by
  rw [← h, joinAll_get hn]
  exact mem_foldJoin.mpr (.inr ⟨l, hl, ha⟩)
theorem setOf_mem {f : Sets} {n a : Nat} (h : a ∈ setOf f n) : n < f.length := by
  by_cases q : n < f.length
  · exact q
  · rw [setOf_none (by omega)] at h
    cases h
/-! ### what a row begins with -/
/-- by what is known of the nonterminals -/
def FR (ts : Nat) (N : Nat → Prop) (F : Nat → Nat → Prop) : List Nat → Nat → Prop
  | [], _ => False
  | s :: r, a => (s < ts ∧ a = s) ∨ (ts ≤ s ∧ (F (s - ts) a ∨ (N (s - ts) ∧ FR ts N F r a)))
theorem mem_firstRow {g : Gram} {e : List Nat} {f : Sets} : ∀ {x : List Nat} {a : Nat}, a ∈ firstRow g e f x ↔ FR g.ts (· ∈ e) (fun n a => a ∈ setOf f n) x a := by
  intro x
  induction x with
  | nil => intro a; simp [firstRow, FR]
  | cons s r ih =>
    intro a
    unfold firstRow FR
    by_cases h : s < g.ts
    · rw [if_pos h]
      have : ¬ g.ts ≤ s := by omega
      simp [h, this]
    · rw [if_neg h, mem_joinTo]
      have h2 : g.ts ≤ s := by omega
      have h3 : (a ∈ if e.contains (s - g.ts) = true then firstRow g e f r else []) ↔ (s - g.ts ∈ e ∧ FR g.ts (· ∈ e) (fun n a => a ∈ setOf f n) r a) := by
        by_cases q : e.contains (s - g.ts) = true
        · rw [if_pos q, ih]
          have : s - g.ts ∈ e := by simpa using q
          simp [this]
        · rw [if_neg q]
          have : s - g.ts ∉ e := by simpa using q
          simp [this]
      rw [h3]
      constructor
      · intro q; exact .inr ⟨h2, q⟩
      · rintro (⟨q, _⟩ | ⟨_, q⟩)
        · exact absurd q h
        · exact q
theorem FR.mono {ts : Nat} {N N' : Nat → Prop} {F F' : Nat → Nat → Prop} (hN : ∀ n, N n → N' n) (hF : ∀ n a, F n a → F' n a) : ∀ {x : List Nat} {a : Nat}, FR ts N F x a → FR ts N' F' x a := by
  intro x
  induction x with
  | nil => intro a h; exact h
  | cons s r ih =>
    intro a h
    rcases h with h | ⟨h1, h | ⟨h2, h3⟩⟩
    · exact .inl h
    · exact .inr ⟨h1, .inl (hF _ _ h)⟩
    · exact .inr ⟨h1, .inr ⟨hN _ h2, ih h3⟩⟩
theorem FR.lt {ts b : Nat} {N : Nat → Prop} {F : Nat → Nat → Prop} (hb : ts ≤ b) (hF : ∀ n a, F n a → a < b) : ∀ {x : List Nat} {a : Nat}, FR ts N F x a → a < b := by
  intro x
  induction x with
  | nil => intro a h; exact h.elim
  | cons s r ih =>
    intro a h
    rcases h with ⟨h, rfl⟩ | ⟨_, h | ⟨_, h⟩⟩
    · omega
    · exact hF _ _ h
    · exact ih h
/-! ### what each begins with -/
def firstAdd (g : Gram) (e : List Nat) (f : Sets) (n : Nat) : List (List Nat) := (g.rules.filter fun (r : Nat × List Nat) => r.1 == n).map fun r => firstRow g e f r.2
theorem firstRound_eq (g : Gram) (e : List Nat) (f : Sets) : firstRound g e f = joinAll (firstAdd g e f) f := by
  unfold firstRound joinAll firstAdd
  congr 1
  funext x
  rw [List.foldl_map]
theorem mem_firstAdd {g : Gram} {e : List Nat} {f : Sets} {n a : Nat} : (∃ l ∈ firstAdd g e f n, a ∈ l) ↔ ∃ r ∈ g.rules, r.1 = n ∧ FR g.ts (· ∈ e) (fun n a => a ∈ setOf f n) r.2 a := by
  unfold firstAdd
  constructor
  · rintro ⟨l, hl, ha⟩
    obtain ⟨r, hr, rfl⟩ := List.mem_map.mp hl
    obtain ⟨hr, hq⟩ := List.mem_filter.mp hr
    exact ⟨r, hr, by simpa using hq, mem_firstRow.mp ha⟩
  · rintro ⟨r, hr, hq, ha⟩
    exact ⟨_, List.mem_map.mpr ⟨r, List.mem_filter.mpr ⟨hr, by simpa using hq⟩, rfl⟩, mem_firstRow.mpr ha⟩
theorem firsts_eq (g : Gram) : firsts g = rounds (fun f => joinAll (firstAdd g (nulls g) f) f) (g.nts * g.ts + 1) (List.replicate g.nts []) := by
  unfold firsts
  congr 1
  funext f
  exact firstRound_eq _ _ _
theorem setsOk_nil (n b : Nat) : SetsOk n b (List.replicate n []) := ⟨by simp, fun s hs => by
  have := List.eq_of_mem_replicate hs
  subst this; simp⟩
theorem SetsOk.lt {n b : Nat} {f : Sets} (h : SetsOk n b f) {i a : Nat} (ha : a ∈ setOf f i) : a < b := by
  have hi := setOf_mem ha
  rw [setOf_eq hi] at ha
  exact (h.2 _ (List.getElem_mem hi)).2 a ha
theorem firstAdd_lt {g : Gram} {f : Sets} (h : SetsOk g.nts g.ts f) (i : Nat) : ∀ l ∈ firstAdd g (nulls g) f i, ∀ a ∈ l, a < g.ts := by
  intro l hl a ha
  obtain ⟨r, _, _, q⟩ := mem_firstAdd.mp ⟨l, hl, ha⟩
  exact FR.lt (Nat.le_refl _) (fun n a => h.lt) q
theorem firsts_ok (g : Gram) : SetsOk g.nts g.ts (firsts g) := by
  rw [firsts_eq]
  exact rounds_inv (P := SetsOk g.nts g.ts) (fun f h => joinAll_ok h (firstAdd_lt h)) _ _ (setsOk_nil _ _)
theorem firsts_closed {g : Gram} (w : WF g) : ∀ r ∈ g.rules, ∀ a, FR g.ts (· ∈ nulls g) (fun n a => a ∈ setOf (firsts g) n) r.2 a → a ∈ setOf (firsts g) r.1 := by
  intro r hr a h
  have hf := sets_fix (n := g.nts) (b := g.ts) (k := g.nts * g.ts + 1) (x := List.replicate g.nts []) (add := firstAdd g (nulls g)) (by omega) (setsOk_nil _ _) (fun f h => firstAdd_lt h)
  rw [← firsts_eq] at hf
  obtain ⟨l, hl, ha⟩ := mem_firstAdd.mpr ⟨r, hr, rfl, h⟩
  exact fix_all hf (by rw [(firsts_ok g).1]; exact (w.rl r hr).1) hl ha
theorem firsts_least {g : Gram} {P : Nat → Nat → Prop} (h : ∀ r ∈ g.rules, ∀ a, FR g.ts (· ∈ nulls g) P r.2 a → P r.1 a) : ∀ n a, a ∈ setOf (firsts g) n → P n a := by
  rw [firsts_eq]
  refine rounds_inv (P := fun f => ∀ n a, a ∈ setOf f n → P n a) ?_ _ _ ?_
  · intro f hf n a ha
    have hn : n < f.length := by
      have := setOf_mem ha
      rwa [joinAll_length] at this
    rw [joinAll_get hn] at ha
    rcases mem_foldJoin.mp ha with ha | ha
    · exact hf n a ha
    · obtain ⟨r, hr, rfl, q⟩ := mem_firstAdd.mp ha
      exact h r hr a (q.mono (fun _ q => q) hf)
  · intro n a ha
    have hn := setOf_mem ha
    rw [setOf_eq hn] at ha
    simp at ha
/-! ### what can follow each -/
/-- what a rule puts behind the nonterminals of its right side: of b comes a -/
def BH (ts : Nat) (N : Nat → Prop) (F : Nat → Nat → Prop) (own : Nat → Prop) : List Nat → Nat → Nat → Prop
  | [], _, _ => False
  | s :: r, b, a => (ts ≤ s ∧ b = s - ts ∧ (FR ts N F r a ∨ (AllNt ts N r ∧ own a))) ∨ BH ts N F own r b a
theorem mem_behind {g : Gram} {e : List Nat} {f o : Sets} {n : Nat} : ∀ {x : List Nat} {b a : Nat}, (∃ y ∈ behind g e f o n x, y.1 = b ∧ a ∈ y.2) ↔ BH g.ts (· ∈ e) (fun n a => a ∈ setOf f n) (fun a => a ∈ setOf o n) x b a := by
  intro x
  induction x with
  | nil => intro b a; simp [behind, BH]
  | cons s r ih =>
    intro b a
    unfold behind BH
    by_cases h : s < g.ts
    · rw [if_pos h, ih]
      have : ¬ g.ts ≤ s := by omega
      simp [this]
    · rw [if_neg h]
      have h2 : g.ts ≤ s := by omega
      have h3 : (a ∈ joinTo (firstRow g e f r) (if allIn g e r = true then setOf o n else [])) ↔ (FR g.ts (· ∈ e) (fun n a => a ∈ setOf f n) r a ∨ (AllNt g.ts (· ∈ e) r ∧ a ∈ setOf o n)) := by
        rw [mem_joinTo, mem_firstRow]
        by_cases q : allIn g e r = true
        · rw [if_pos q]
          have := allIn_iff.mp q
          simp [this]
        · rw [if_neg q]
          have : ¬ AllNt g.ts (· ∈ e) r := fun z => q (allIn_iff.mpr z)
          simp [this]
      constructor
      · rintro ⟨y, hy, hb, ha⟩
        rcases List.mem_cons.mp hy with rfl | hy
        · exact .inl ⟨h2, hb.symm, h3.mp ha⟩
        · exact .inr (ih.mp ⟨y, hy, hb, ha⟩)
      · rintro (⟨_, hb, ha⟩ | q)
        · exact ⟨_, List.mem_cons_self, hb.symm, h3.mpr ha⟩
        · obtain ⟨y, hy, hb, ha⟩ := ih.mpr q
          exact ⟨y, List.mem_cons_of_mem _ hy, hb, ha⟩
theorem BH.mono {ts : Nat} {N N' : Nat → Prop} {F F' : Nat → Nat → Prop} {own own' : Nat → Prop} (hN : ∀ n, N n → N' n) (hF : ∀ n a, F n a → F' n a) (hO : ∀ a, own a → own' a) : ∀ {x : List Nat} {b a : Nat}, BH ts N F own x b a → BH ts N' F' own' x b a := by
  intro x
  induction x with
  | nil => intro b a h; exact h
  | cons s r ih =>
    intro b a h
    rcases h with ⟨h1, h2, h | ⟨h, h3⟩⟩ | h
    · exact .inl ⟨h1, h2, .inl (h.mono hN hF)⟩
    · exact .inl ⟨h1, h2, .inr ⟨h.mono hN, hO _ h3⟩⟩
    · exact .inr (ih h)
theorem BH.lt {ts c : Nat} {N : Nat → Prop} {F : Nat → Nat → Prop} {own : Nat → Prop} (hb : ts ≤ c) (hF : ∀ n a, F n a → a < c) (hO : ∀ a, own a → a < c) : ∀ {x : List Nat} {b a : Nat}, BH ts N F own x b a → a < c := by
  intro x
  induction x with
  | nil => intro b a h; exact h.elim
  | cons s r ih =>
    intro b a h
    rcases h with ⟨_, _, h | ⟨_, h3⟩⟩ | h
    · exact h.lt hb hF
    · exact hO _ h3
    · exact ih h
theorem BH.nt {ts n : Nat} {N : Nat → Prop} {F : Nat → Nat → Prop} {own : Nat → Prop} : ∀ {x : List Nat} {b a : Nat}, (∀ s ∈ x, s < ts + n) → BH ts N F own x b a → b < n := by
  intro x
  induction x with
  | nil => intro b a _ h; exact h.elim
  | cons s r ih =>
    intro b a hs h
    rcases h with ⟨h1, rfl, _⟩ | h
    · have := hs s (by simp)
      omega
    · exact ih (fun s q => hs s (List.mem_cons_of_mem _ q)) h
def followAdd (g : Gram) (e : List Nat) (f o : Sets) (n : Nat) : List (List Nat) := ((g.rules.flatMap fun (r : Nat × List Nat) => behind g e f o r.1 r.2).filter fun (y : Nat × List Nat) => y.1 == n).map fun y => y.2
theorem followRound_eq (g : Gram) (e : List Nat) (f o : Sets) : followRound g e f o = joinAll (followAdd g e f o) o := by
  unfold followRound joinAll followAdd
  dsimp only
  congr 1
  funext x
  rw [List.foldl_map]
theorem mem_followAdd {g : Gram} {e : List Nat} {f o : Sets} {n a : Nat} : (∃ l ∈ followAdd g e f o n, a ∈ l) ↔ ∃ r ∈ g.rules, BH g.ts (· ∈ e) (fun n a => a ∈ setOf f n) (fun a => a ∈ setOf o r.1) r.2 n a := by
  unfold followAdd
  constructor
  · rintro ⟨l, hl, ha⟩
    obtain ⟨y, hy, rfl⟩ := List.mem_map.mp hl
    obtain ⟨hy, hq⟩ := List.mem_filter.mp hy
    obtain ⟨r, hr, hy⟩ := List.mem_flatMap.mp hy
    exact ⟨r, hr, mem_behind.mp ⟨y, hy, by simpa using hq, ha⟩⟩
  · rintro ⟨r, hr, q⟩
    obtain ⟨y, hy, hb, ha⟩ := mem_behind.mpr q
    exact ⟨_, List.mem_map.mpr ⟨y, List.mem_filter.mpr ⟨List.mem_flatMap.mpr ⟨r, hr, hy⟩, by simpa using hb⟩, rfl⟩, ha⟩
theorem follows_eq (g : Gram) : follows g = rounds (fun o => joinAll (followAdd g (nulls g) (firsts g) o) o) (g.nts * (g.ts + 1) + 1) ([g.ts] :: List.replicate (g.nts - 1) []) := by
  unfold follows
  congr 1
  funext f
  exact followRound_eq _ _ _ _
theorem setsOk_end {g : Gram} (w : WF g) : SetsOk g.nts (g.ts + 1) ([g.ts] :: List.replicate (g.nts - 1) []) := by
  have := w.n1
  refine ⟨by simp; omega, fun s hs => ?_⟩
  rcases List.mem_cons.mp hs with rfl | hs
  · simp
  · have := List.eq_of_mem_replicate hs
    subst this; simp
theorem followAdd_lt {g : Gram} {o : Sets} (h : SetsOk g.nts (g.ts + 1) o) (i : Nat) : ∀ l ∈ followAdd g (nulls g) (firsts g) o i, ∀ a ∈ l, a < g.ts + 1 := by
  intro l hl a ha
  obtain ⟨r, _, q⟩ := mem_followAdd.mp ⟨l, hl, ha⟩
  exact BH.lt (Nat.le_succ _) (fun n a z => Nat.lt_succ_of_lt ((firsts_ok g).lt z)) (fun a z => h.lt z) q
theorem follows_ok {g : Gram} (w : WF g) : SetsOk g.nts (g.ts + 1) (follows g) := by
  rw [follows_eq]
  exact rounds_inv (P := SetsOk g.nts (g.ts + 1)) (fun f h => joinAll_ok h (followAdd_lt h)) _ _ (setsOk_end w)
theorem follows_zero {g : Gram} (w : WF g) : g.ts ∈ setOf (follows g) 0 := by
  rw [follows_eq]
  refine (rounds_inv (P := fun f => SetsOk g.nts (g.ts + 1) f ∧ g.ts ∈ setOf f 0) ?_ _ _ ⟨setsOk_end w, ?_⟩).2
  · intro f ⟨h1, h2⟩
    refine ⟨joinAll_ok h1 (followAdd_lt h1), ?_⟩
    rw [joinAll_get (by rw [h1.1]; exact w.n1)]
    exact mem_foldJoin.mpr (.inl h2)
  · simp [setOf]
theorem follows_closed {g : Gram} (w : WF g) : ∀ r ∈ g.rules, ∀ b a, BH g.ts (· ∈ nulls g) (fun n a => a ∈ setOf (firsts g) n) (fun a => a ∈ setOf (follows g) r.1) r.2 b a → a ∈ setOf (follows g) b := by
  intro r hr b a h
  have hf := sets_fix (n := g.nts) (b := g.ts + 1) (k := g.nts * (g.ts + 1) + 1) (x := [g.ts] :: List.replicate (g.nts - 1) []) (add := followAdd g (nulls g) (firsts g)) (by omega) (setsOk_end w) (fun f h => followAdd_lt h)
  rw [← follows_eq] at hf
  obtain ⟨l, hl, ha⟩ := mem_followAdd.mpr ⟨r, hr, h⟩
  exact fix_all hf (by rw [(follows_ok w).1]; exact BH.nt (w.rl r hr).2.2 h) hl ha
theorem follows_least {g : Gram} {P : Nat → Nat → Prop} (h0 : P 0 g.ts) (h : ∀ r ∈ g.rules, ∀ b a, BH g.ts (· ∈ nulls g) (fun n a => a ∈ setOf (firsts g) n) (P r.1) r.2 b a → P b a) : ∀ n a, a ∈ setOf (follows g) n → P n a := by
  rw [follows_eq]
  refine rounds_inv (P := fun f => ∀ n a, a ∈ setOf f n → P n a) ?_ _ _ ?_
  · intro f hf n a ha
    have hn : n < f.length := by
      have := setOf_mem ha
      rwa [joinAll_length] at this
    rw [joinAll_get hn] at ha
    rcases mem_foldJoin.mp ha with ha | ha
    · exact hf n a ha
    · obtain ⟨r, hr, q⟩ := mem_followAdd.mp ha
      exact h r hr n a (q.mono (fun _ q => q) (fun _ _ q => q) (fun a q => hf _ a q))
  · intro n a ha
    cases n with
    | zero =>
      have : a = g.ts := by simpa [setOf] using ha
      subst this; exact h0
    | succ n =>
      have hn := setOf_mem ha
      rw [setOf_eq hn] at ha
      simp at ha
end Gm

set_option Elab.async false
namespace Gm
open Ll
/-! ### marks: a list of truth values -/
def mrk (bs : List Bool) (a : Nat) : Prop := bs.getD a false = true
theorem mrk_lt {bs : List Bool} {a : Nat} (h : mrk bs a) : a < bs.length := by
  by_cases q : a < bs.length
  · exact q
  · unfold mrk at h
    rw [List.getD_eq_getElem?_getD, List.getElem?_eq_none (by omega)] at h
    cases h
theorem getD_set {α : Type} {l : List α} {i j : Nat} {v d : α} (hi : i < l.length) : (l.set i v).getD j d = if j = i then v else l.getD j d := by
  rw [List.getD_eq_getElem?_getD, List.getD_eq_getElem?_getD]
  by_cases h : j = i
  · subst h
    rw [List.getElem?_set_self hi, if_pos rfl]
    rfl
  · rw [List.getElem?_set_ne (fun e => h e.symm), if_neg h]
theorem mrk_set {bs : List Bool} {i a : Nat} (hi : i < bs.length) : mrk (bs.set i true) a ↔ a = i ∨ mrk bs a := by
  unfold mrk
  rw [getD_set hi]
  by_cases h : a = i
  · simp [h]
  · simp [h]
/-- how many are not marked -/
def open_ (bs : List Bool) : Nat := (bs.filter fun b => !b).length
theorem open_set : ∀ {bs : List Bool} {i : Nat}, i < bs.length → bs.getD i false = false → open_ (bs.set i true) + 1 = open_ bs := by
  intro bs
  induction bs with
  | nil => intro i h; simp at h
  | cons b bs ih =>
    intro i hi h
    cases i with
    | zero =>
      have e : b = false := h
      subst e
      simp [open_]
    | succ i =>
      have q := ih (i := i) (by simpa using hi) h
      unfold open_ at *
      rw [List.set_cons_succ, List.filter_cons, List.filter_cons]
      cases b
      · simp only [Bool.not_false, if_true, List.length_cons]; omega
      · simp only [Bool.not_true, Bool.false_eq_true, if_false]; exact q
/-! ### what comes to nothing, what leads to tokens -/
/-- row_settles -/
def rowSettles (t : Nat) (bs : List Bool) (k : Bool) (x : List Nat) : Bool := x.all fun s => if s < t then k else bs.getD (s - t) false
theorem rowSettles_false {t : Nat} {bs : List Bool} {x : List Nat} : rowSettles t bs false x = true ↔ AllNt t (mrk bs) x := by
  unfold rowSettles AllNt mrk
  rw [List.all_eq_true]
  constructor
  · intro h s hs
    have := h s hs
    by_cases q : s < t
    · rw [if_pos q] at this; cases this
    · rw [if_neg q] at this; exact ⟨by omega, this⟩
  · intro h s hs
    obtain ⟨h1, h2⟩ := h s hs
    rw [if_neg (by omega)]; exact h2
theorem rowSettles_true {t : Nat} {bs : List Bool} {x : List Nat} : rowSettles t bs true x = true ↔ AllMk t (mrk bs) x := by
  unfold rowSettles AllMk mrk
  rw [List.all_eq_true]
  constructor
  · intro h s hs
    have := h s hs
    by_cases q : s < t
    · exact .inl q
    · rw [if_neg q] at this; exact .inr this
  · intro h s hs
    rcases h s hs with h1 | h1
    · rw [if_pos h1]
    · by_cases q : s < t
      · rw [if_pos q]
      · rw [if_neg q]; exact h1
def settleOne (t : Nat) (k : Bool) (st : List Bool × Bool) (r : Nat × List Nat) : List Bool × Bool :=
  if (!st.1.getD r.1 false && rowSettles t st.1 k r.2) = true then (st.1.set r.1 true, true) else st
def settlePass (t : Nat) (k : Bool) (rs : List (Nat × List Nat)) (bs : List Bool) : List Bool × Bool := rs.foldl (settleOne t k) (bs, false)
/-- what a pass keeps: nothing is lost; marks stay within P; and either nothing changed and all rules are kept, or fewer are open -/
theorem settleFold {t n : Nat} {k : Bool} {P : Nat → Prop} {allr : List (Nat × List Nat)} (hP : ∀ (bs : List Bool) (r : Nat × List Nat), r.1 < n → (∀ a, mrk bs a → P a) → rowSettles t bs k r.2 = true → r ∈ allr → P r.1) :
    ∀ (rs : List (Nat × List Nat)) (bs : List Bool) (c : Bool), (∀ r ∈ rs, r ∈ allr) → (∀ r ∈ rs, r.1 < n) → bs.length = n → (∀ a, mrk bs a → P a) →
      (rs.foldl (settleOne t k) (bs, c)).1.length = n ∧ (∀ a, mrk (rs.foldl (settleOne t k) (bs, c)).1 a → P a) ∧
      (((rs.foldl (settleOne t k) (bs, c)).2 = c ∧ (rs.foldl (settleOne t k) (bs, c)).1 = bs ∧ ∀ r ∈ rs, rowSettles t bs k r.2 = true → mrk bs r.1) ∨
       ((rs.foldl (settleOne t k) (bs, c)).2 = true ∧ open_ (rs.foldl (settleOne t k) (bs, c)).1 < open_ bs)) := by
  intro rs
  induction rs with
  | nil => intro bs c _ _ hl hs; exact ⟨hl, hs, .inl ⟨rfl, rfl, by simp⟩⟩
  | cons r rs ih =>
    intro bs c ha hn hl hs
    have hr := hn r (by simp)
    rw [List.foldl_cons]
    by_cases h : (!bs.getD r.1 false && rowSettles t bs k r.2) = true
    · have e : settleOne t k (bs, c) r = (bs.set r.1 true, true) := by unfold settleOne; rw [if_pos h]
      rw [e]
      rw [Bool.and_eq_true, Bool.not_eq_true'] at h
      have o1 := open_set (bs := bs) (i := r.1) (by omega) h.1
      obtain ⟨i1, i2, i3⟩ := ih (bs.set r.1 true) true (fun r q => ha r (List.mem_cons_of_mem _ q)) (fun r q => hn r (List.mem_cons_of_mem _ q)) (by rw [List.length_set]; exact hl) (fun a q => by
        rcases (mrk_set (by omega)).mp q with rfl | q
        · exact hP bs r hr hs h.2 (ha r (by simp))
        · exact hs a q)
      refine ⟨i1, i2, .inr ?_⟩
      rcases i3 with ⟨j1, j2, _⟩ | ⟨j1, j2⟩
      · exact ⟨j1, by rw [j2]; omega⟩
      · exact ⟨j1, by omega⟩
    · have e : settleOne t k (bs, c) r = (bs, c) := by unfold settleOne; rw [if_neg h]
      rw [e]
      obtain ⟨i1, i2, i3⟩ := ih bs c (fun r q => ha r (List.mem_cons_of_mem _ q)) (fun r q => hn r (List.mem_cons_of_mem _ q)) hl hs
      refine ⟨i1, i2, ?_⟩
      rcases i3 with ⟨j1, j2, j3⟩ | j
      · refine .inl ⟨j1, j2, fun r' hr' => ?_⟩
        rcases List.mem_cons.mp hr' with rfl | hr'
        · intro q
          unfold mrk
          cases z : bs.getD r'.1 false with
          | true => rfl
          | false => exact absurd (by rw [z, q]; rfl) h
        · exact j3 r' hr'
      · exact .inr j
/-- the marks are just the set -/
def MkSet (n : Nat) (bs : List Bool) (S : List Nat) : Prop := bs.length = n ∧ ∀ a, mrk bs a ↔ a ∈ S
/-- between two passes of settling -/
structure Settl (g : Gram) (k : Bool) (bs : List Bool) (c : Bool) : Prop where
  len : bs.length = g.nts
  snd : ∀ a, mrk bs a → a ∈ (if k then makes g else nulls g)
  end_ : c = false → ∀ r ∈ g.rules, rowSettles g.ts bs k r.2 = true → mrk bs r.1
theorem Settl.start {g : Gram} {k : Bool} : Settl g k (List.replicate g.nts false) true := by
  refine ⟨by simp, fun a h => ?_, fun h => by cases h⟩
  unfold mrk at h
  rw [List.getD_eq_getElem?_getD] at h
  simp only [List.getElem?_replicate] at h
  split at h <;> cases h
theorem Settl.pass {g : Gram} (w : WF g) {k : Bool} {bs : List Bool} {c : Bool} (h : Settl g k bs c) :
    Settl g k (settlePass g.ts k g.rules bs).1 (settlePass g.ts k g.rules bs).2 ∧ ((settlePass g.ts k g.rules bs).2 = true → open_ (settlePass g.ts k g.rules bs).1 < open_ bs) ∧ ((settlePass g.ts k g.rules bs).2 = false → (settlePass g.ts k g.rules bs).1 = bs) := by
  have q := settleFold (allr := g.rules) (t := g.ts) (n := g.nts) (k := k) (P := fun a => a ∈ (if k then makes g else nulls g)) (by
    intro bs r _ hs hr hm
    cases k with
    | true => exact makes_closed w r hm ((rowSettles_true.mp hr).mono hs)
    | false => exact nulls_closed w r hm ((rowSettles_false.mp hr).mono hs)) g.rules bs false (fun _ h => h) (fun r hr => (w.rl r hr).1) h.len h.snd
  obtain ⟨q1, q2, q3⟩ := q
  refine ⟨⟨q1, q2, fun hc => ?_⟩, fun hc => ?_, fun hc => ?_⟩
  · rcases q3 with ⟨_, j2, j3⟩ | ⟨j1, _⟩
    · unfold settlePass; rw [j2]; exact j3
    · rw [show (settlePass g.ts k g.rules bs).2 = true from j1] at hc; cases hc
  · rcases q3 with ⟨j1, _, _⟩ | ⟨_, j2⟩
    · rw [show (settlePass g.ts k g.rules bs).2 = false from j1] at hc; cases hc
    · exact j2
  · rcases q3 with ⟨_, j2, _⟩ | ⟨j1, _⟩
    · exact j2
    · rw [show (settlePass g.ts k g.rules bs).2 = true from j1] at hc; cases hc
theorem settle_len {t : Nat} {k : Bool} : ∀ (rs : List (Nat × List Nat)) (st : List Bool × Bool), (rs.foldl (settleOne t k) st).1.length = st.1.length := by
  intro rs
  induction rs with
  | nil => intro st; rfl
  | cons r rs ih =>
    intro st
    rw [List.foldl_cons, ih]
    unfold settleOne
    split
    · rw [List.length_set]
    · rfl
theorem Settl.done {g : Gram} {k : Bool} {bs : List Bool} (h : Settl g k bs false) : MkSet g.nts bs (if k then makes g else nulls g) := by
  refine ⟨h.len, fun a => ⟨h.snd a, fun q => ?_⟩⟩
  have e := h.end_ rfl
  cases k with
  | true => exact makes_least (P := mrk bs) (fun r hr z => e r hr (rowSettles_true.mpr z)) a q
  | false => exact nulls_least (P := mrk bs) (fun r hr z => e r hr (rowSettles_false.mpr z)) a q
/-! ### what is come to -/
/-- mark_nonterminals -/
def markOne (t : Nat) (st : List Bool × Bool) (s : Nat) : List Bool × Bool := if (decide (t ≤ s) && !st.1.getD (s - t) false) = true then (st.1.set (s - t) true, true) else st
def marks (t : Nat) (x : List Nat) (bs : List Bool) : List Bool × Bool := x.foldl (markOne t) (bs, false)
theorem marksFold {t n : Nat} : ∀ (x : List Nat) (bs : List Bool) (c : Bool), (∀ s ∈ x, s < t + n) → bs.length = n →
      (x.foldl (markOne t) (bs, c)).1.length = n ∧ (∀ a, mrk (x.foldl (markOne t) (bs, c)).1 a ↔ mrk bs a ∨ ∃ s ∈ x, t ≤ s ∧ a = s - t) ∧
      (((x.foldl (markOne t) (bs, c)).2 = c ∧ (x.foldl (markOne t) (bs, c)).1 = bs) ∨ ((x.foldl (markOne t) (bs, c)).2 = true ∧ open_ (x.foldl (markOne t) (bs, c)).1 < open_ bs)) := by
  intro x
  induction x with
  | nil => intro bs c _ hl; exact ⟨hl, by simp, .inl ⟨rfl, rfl⟩⟩
  | cons s x ih =>
    intro bs c hn hl
    have hs := hn s (by simp)
    rw [List.foldl_cons]
    by_cases h : (decide (t ≤ s) && !bs.getD (s - t) false) = true
    · have e : markOne t (bs, c) s = (bs.set (s - t) true, true) := by unfold markOne; rw [if_pos h]
      rw [e]
      rw [Bool.and_eq_true, Bool.not_eq_true', decide_eq_true_eq] at h
      have o1 := open_set (bs := bs) (i := s - t) (by omega) h.2
      obtain ⟨i1, i2, i3⟩ := ih (bs.set (s - t) true) true (fun r q => hn r (List.mem_cons_of_mem _ q)) (by rw [List.length_set]; exact hl)
      refine ⟨i1, fun a => ?_, .inr ?_⟩
      · rw [i2, mrk_set (by omega)]
        constructor
        · rintro ((rfl | q) | ⟨s', h1, h2⟩)
          · exact .inr ⟨s, by simp, h.1, rfl⟩
          · exact .inl q
          · exact .inr ⟨s', List.mem_cons_of_mem _ h1, h2⟩
        · rintro (q | ⟨s', h1, h2, h3⟩)
          · exact .inl (.inr q)
          · rcases List.mem_cons.mp h1 with rfl | h1
            · exact .inl (.inl h3)
            · exact .inr ⟨s', h1, h2, h3⟩
      · rcases i3 with ⟨j1, j2⟩ | ⟨j1, j2⟩
        · exact ⟨j1, by rw [j2]; omega⟩
        · exact ⟨j1, by omega⟩
    · have e : markOne t (bs, c) s = (bs, c) := by unfold markOne; rw [if_neg h]
      rw [e]
      obtain ⟨i1, i2, i3⟩ := ih bs c (fun r q => hn r (List.mem_cons_of_mem _ q)) hl
      refine ⟨i1, fun a => ?_, i3⟩
      rw [i2]
      constructor
      · rintro (q | ⟨s', h1, h2⟩)
        · exact .inl q
        · exact .inr ⟨s', List.mem_cons_of_mem _ h1, h2⟩
      · rintro (q | ⟨s', h1, h2, h3⟩)
        · exact .inl q
        · rcases List.mem_cons.mp h1 with rfl | h1
          · refine .inl ?_
            subst h3
            unfold mrk
            cases z : bs.getD (s' - t) false with
            | true => rfl
            | false => exact absurd (by rw [z, decide_eq_true h2]; rfl) h
          · exact .inr ⟨s', h1, h2, h3⟩
def reachOne (t : Nat) (st : List Bool × Bool) (r : Nat × List Nat) : List Bool × Bool :=
  if st.1.getD r.1 false = true then ((marks t r.2 st.1).1, (marks t r.2 st.1).2 || st.2) else st
def reachPass (t : Nat) (rs : List (Nat × List Nat)) (bs : List Bool) : List Bool × Bool := rs.foldl (reachOne t) (bs, false)
theorem reachFold {t n : Nat} {P : Nat → Prop} {allr : List (Nat × List Nat)} (hP : ∀ r ∈ allr, P r.1 → ∀ s ∈ r.2, t ≤ s → P (s - t)) :
    ∀ (rs : List (Nat × List Nat)) (bs : List Bool) (c : Bool), (∀ r ∈ rs, r ∈ allr) → (∀ r ∈ rs, ∀ s ∈ r.2, s < t + n) → bs.length = n → (∀ a, mrk bs a → P a) →
      (rs.foldl (reachOne t) (bs, c)).1.length = n ∧ (∀ a, mrk (rs.foldl (reachOne t) (bs, c)).1 a → P a) ∧ (∀ a, mrk bs a → mrk (rs.foldl (reachOne t) (bs, c)).1 a) ∧
      (((rs.foldl (reachOne t) (bs, c)).2 = c ∧ (rs.foldl (reachOne t) (bs, c)).1 = bs ∧ ∀ r ∈ rs, mrk bs r.1 → ∀ s ∈ r.2, t ≤ s → mrk bs (s - t)) ∨
       ((rs.foldl (reachOne t) (bs, c)).2 = true ∧ open_ (rs.foldl (reachOne t) (bs, c)).1 < open_ bs)) := by
  intro rs
  induction rs with
  | nil => intro bs c _ _ hl hs; exact ⟨hl, hs, fun _ h => h, .inl ⟨rfl, rfl, by simp⟩⟩
  | cons r rs ih =>
    intro bs c ha hn hl hs
    rw [List.foldl_cons]
    by_cases h : bs.getD r.1 false = true
    · have e : reachOne t (bs, c) r = ((marks t r.2 bs).1, (marks t r.2 bs).2 || c) := by unfold reachOne; rw [if_pos h]
      rw [e]
      obtain ⟨m1, m2, m3⟩ := marksFold (t := t) (n := n) r.2 bs false (hn r (by simp)) hl
      have m1 : (marks t r.2 bs).1.length = n := m1
      have m2 : ∀ a, mrk (marks t r.2 bs).1 a ↔ mrk bs a ∨ ∃ s ∈ r.2, t ≤ s ∧ a = s - t := m2
      obtain ⟨i1, i2, i2', i3⟩ := ih (marks t r.2 bs).1 ((marks t r.2 bs).2 || c) (fun r q => ha r (List.mem_cons_of_mem _ q)) (fun r q => hn r (List.mem_cons_of_mem _ q)) m1 (fun a q => by
        rcases (m2 a).mp q with q | ⟨s, h1, h2, rfl⟩
        · exact hs a q
        · exact hP r (ha r (by simp)) (hs _ h) s h1 h2)
      refine ⟨i1, i2, fun a q => i2' a ((m2 a).mpr (.inl q)), ?_⟩
      rcases m3 with ⟨n1, n2⟩ | ⟨n1, n2⟩
      · have n1 : (marks t r.2 bs).2 = false := n1
        have n2 : (marks t r.2 bs).1 = bs := n2
        rw [n1, n2] at i3 ⊢
        rw [n2] at m2
        rcases i3 with ⟨j1, j2, j3⟩ | j
        · refine .inl ⟨j1, j2, fun r' hr' => ?_⟩
          rcases List.mem_cons.mp hr' with rfl | hr'
          · intro _ s h1 h2
            exact (m2 _).mpr (.inr ⟨s, h1, h2, rfl⟩)
          · exact j3 r' hr'
        · exact .inr j
      · have n1 : (marks t r.2 bs).2 = true := n1
        have n2 : open_ (marks t r.2 bs).1 < open_ bs := n2
        refine .inr ?_
        rcases i3 with ⟨j1, j2, _⟩ | ⟨j1, j2⟩
        · exact ⟨by rw [j1, n1]; rfl, by rw [j2]; exact n2⟩
        · exact ⟨j1, by omega⟩
    · have e : reachOne t (bs, c) r = (bs, c) := by unfold reachOne; rw [if_neg h]
      rw [e]
      obtain ⟨i1, i2, i2', i3⟩ := ih bs c (fun r q => ha r (List.mem_cons_of_mem _ q)) (fun r q => hn r (List.mem_cons_of_mem _ q)) hl hs
      refine ⟨i1, i2, i2', ?_⟩
      rcases i3 with ⟨j1, j2, j3⟩ | j
      · refine .inl ⟨j1, j2, fun r' hr' => ?_⟩
        rcases List.mem_cons.mp hr' with rfl | hr'
        · intro q; exact absurd q h
        · exact j3 r' hr'
      · exact .inr j
structure Reach (g : Gram) (bs : List Bool) (c : Bool) : Prop where
  len : bs.length = g.nts
  zero : mrk bs 0
  snd : ∀ a, mrk bs a → a ∈ reached g
  end_ : c = false → ∀ r ∈ g.rules, mrk bs r.1 → ∀ s ∈ r.2, g.ts ≤ s → mrk bs (s - g.ts)
theorem Reach.start {g : Gram} (w : WF g) : Reach g ((List.replicate g.nts false).set 0 true) true := by
  have hn := w.n1
  have e : ∀ a, mrk ((List.replicate g.nts false).set 0 true) a → a = 0 := fun a h => by
    rcases (mrk_set (by simp; omega)).mp h with h | h
    · exact h
    · unfold mrk at h
      rw [List.getD_eq_getElem?_getD] at h
      simp only [List.getElem?_replicate] at h
      split at h <;> cases h
  exact ⟨by simp, (mrk_set (by simp; omega)).mpr (.inl rfl), fun a h => by rw [e a h]; exact reached_zero g, fun h => by cases h⟩
theorem Reach.pass {g : Gram} (w : WF g) {bs : List Bool} {c : Bool} (h : Reach g bs c) :
    Reach g (reachPass g.ts g.rules bs).1 (reachPass g.ts g.rules bs).2 ∧ ((reachPass g.ts g.rules bs).2 = true → open_ (reachPass g.ts g.rules bs).1 < open_ bs) ∧ ((reachPass g.ts g.rules bs).2 = false → (reachPass g.ts g.rules bs).1 = bs) := by
  obtain ⟨q1, q2, q2', q3⟩ := reachFold (allr := g.rules) (t := g.ts) (n := g.nts) (P := fun a => a ∈ reached g) (fun r hr h s hs h2 => reached_closed w r hr h s hs h2) g.rules bs false (fun _ h => h) (fun r hr => (w.rl r hr).2.2) h.len h.snd
  refine ⟨⟨q1, q2' 0 h.zero, q2, fun hc => ?_⟩, fun hc => ?_, fun hc => ?_⟩
  · rcases q3 with ⟨_, j2, j3⟩ | ⟨j1, _⟩
    · unfold reachPass; rw [j2]; exact j3
    · rw [show (reachPass g.ts g.rules bs).2 = true from j1] at hc; cases hc
  · rcases q3 with ⟨j1, _, _⟩ | ⟨_, j2⟩
    · rw [show (reachPass g.ts g.rules bs).2 = false from j1] at hc; cases hc
    · exact j2
  · rcases q3 with ⟨_, j2, _⟩ | ⟨j1, _⟩
    · exact j2
    · rw [show (reachPass g.ts g.rules bs).2 = true from j1] at hc; cases hc
theorem marks_len {t : Nat} : ∀ (x : List Nat) (st : List Bool × Bool), (x.foldl (markOne t) st).1.length = st.1.length := by
  intro rs
  induction rs with
  | nil => intro st; rfl
  | cons r rs ih =>
    intro st
    rw [List.foldl_cons, ih]
    unfold markOne
    split
    · rw [List.length_set]
    · rfl
theorem reach_len {t : Nat} : ∀ (rs : List (Nat × List Nat)) (st : List Bool × Bool), (rs.foldl (reachOne t) st).1.length = st.1.length := by
  intro rs
  induction rs with
  | nil => intro st; rfl
  | cons r rs ih =>
    intro st
    rw [List.foldl_cons, ih]
    unfold reachOne
    split
    · exact marks_len _ _
    · rfl
theorem Reach.done {g : Gram} {bs : List Bool} (h : Reach g bs false) : MkSet g.nts bs (reached g) :=
  ⟨h.len, fun a => ⟨h.snd a, fun q => reached_least (P := mrk bs) h.zero (h.end_ rfl) a q⟩⟩
end Gm

set_option Elab.async false
namespace Gm
open Ll
/-! ### masks -/
def bt (fs : List Nat) (n a : Nat) : Prop := (fs.getD n 0).testBit a = true
theorem testBit_two (s a : Nat) : (2 ^ s).testBit a = true ↔ a = s := by
  rw [Nat.testBit_two_pow]
  simp only [decide_eq_true_eq]
  exact eq_comm
theorem or_bit {m k a : Nat} : (m ||| k).testBit a = true ↔ m.testBit a = true ∨ k.testBit a = true := by
  rw [Nat.testBit_or, Bool.or_eq_true]
theorem mask_lt {m b : Nat} (h : ∀ a, m.testBit a = true → a < b) : m < 2 ^ b := Nat.lt_pow_two_of_testBit m fun i hi => by
  cases q : m.testBit i with
  | false => rfl
  | true => exact absurd (h i q) (by omega)
theorem or_gt {m k : Nat} (h : m ||| k ≠ m) : m < m ||| k := Nat.lt_of_le_of_ne Nat.left_le_or (fun e => h e.symm)
theorem or_same {m k : Nat} (h : m ||| k = m) {a : Nat} (ha : k.testBit a = true) : m.testBit a = true := by
  rw [← h]; exact or_bit.mpr (.inr ha)
theorem bt_lt {fs : List Nat} {n a : Nat} (h : bt fs n a) : n < fs.length := by
  by_cases q : n < fs.length
  · exact q
  · unfold bt at h
    rw [List.getD_eq_getElem?_getD, List.getElem?_eq_none (by omega)] at h
    simp at h
theorem bt_set {fs : List Nat} {i n a m : Nat} (hi : i < fs.length) : bt (fs.set i m) n a ↔ (n = i ∧ m.testBit a = true) ∨ (n ≠ i ∧ bt fs n a) := by
  unfold bt
  rw [getD_set hi]
  by_cases h : n = i
  · simp [h]
  · simp [h]
/-- how much room there is in all, below T -/
def room (T : Nat) (fs : List Nat) : Nat := (fs.map fun f => T - f).sum
theorem room_set {T : Nat} : ∀ {fs : List Nat} {i m : Nat}, i < fs.length → fs.getD i 0 < m → m ≤ T → room T (fs.set i m) < room T fs := by
  intro fs
  induction fs with
  | nil => intro i m h; simp at h
  | cons f fs ih =>
    intro i m hi h hm
    cases i with
    | zero =>
      have h : f < m := h
      unfold room
      rw [List.set_cons_zero, List.map_cons, List.map_cons, List.sum_cons, List.sum_cons]
      omega
    | succ i =>
      have q := ih (i := i) (m := m) (by simpa using hi) h hm
      unfold room at *
      rw [List.set_cons_succ, List.map_cons, List.map_cons, List.sum_cons, List.sum_cons]
      omega
/-! ### what a row begins with -/
/-- row_first's loop, from what was found -/
def rowGo (t : Nat) (nl : List Bool) (fs : List Nat) : Nat → List Nat → Nat
  | found, [] => found
  | found, s :: r => if s < t then found ||| 2 ^ s else if nl.getD (s - t) false = true then rowGo t nl fs (found ||| fs.getD (s - t) 0) r else found ||| fs.getD (s - t) 0
theorem rowGo_bit {t : Nat} {nl : List Bool} {fs : List Nat} : ∀ {x : List Nat} {found a : Nat}, (rowGo t nl fs found x).testBit a = true ↔ found.testBit a = true ∨ FR t (mrk nl) (bt fs) x a := by
  intro x
  induction x with
  | nil => intro found a; simp [rowGo, FR]
  | cons s r ih =>
    intro found a
    unfold rowGo FR
    by_cases h : s < t
    · rw [if_pos h, or_bit, testBit_two]
      have h2 : ¬ t ≤ s := by omega
      simp [h, h2]
    · rw [if_neg h]
      have h2 : t ≤ s := by omega
      by_cases q : nl.getD (s - t) false = true
      · rw [if_pos q, ih, or_bit]
        have q' : mrk nl (s - t) := q
        have e : (fs.getD (s - t) 0).testBit a = true ↔ bt fs (s - t) a := Iff.rfl
        rw [e]
        simp only [h, h2, q', false_and, true_and, false_or]
        exact or_assoc
      · rw [if_neg q, or_bit]
        have q' : ¬ mrk nl (s - t) := q
        have e : (fs.getD (s - t) 0).testBit a = true ↔ bt fs (s - t) a := Iff.rfl
        rw [e]
        simp only [h, h2, q', false_and, true_and, false_or, or_false]
def rowFirst (t : Nat) (nl : List Bool) (fs : List Nat) (x : List Nat) : Nat := rowGo t nl fs 0 x
theorem rowFirst_bit {t : Nat} {nl : List Bool} {fs : List Nat} {x : List Nat} {a : Nat} : (rowFirst t nl fs x).testBit a = true ↔ FR t (mrk nl) (bt fs) x a := by
  unfold rowFirst
  rw [rowGo_bit]
  simp
/-! ### what each begins with -/
def firstOne (t : Nat) (nl : List Bool) (st : List Nat × Bool) (r : Nat × List Nat) : List Nat × Bool :=
  if st.1.getD r.1 0 ||| rowFirst t nl st.1 r.2 = st.1.getD r.1 0 then st else (st.1.set r.1 (st.1.getD r.1 0 ||| rowFirst t nl st.1 r.2), true)
def firstPass (t : Nat) (nl : List Bool) (rs : List (Nat × List Nat)) (fs : List Nat) : List Nat × Bool := rs.foldl (firstOne t nl) (fs, false)
theorem firstFold {t n b : Nat} {nl : List Bool} {P : Nat → Nat → Prop} {allr : List (Nat × List Nat)} (hb : ∀ n a, P n a → a < b) (hP : ∀ r ∈ allr, ∀ a, FR t (mrk nl) P r.2 a → P r.1 a) :
    ∀ (rs : List (Nat × List Nat)) (fs : List Nat) (c : Bool), (∀ r ∈ rs, r ∈ allr) → (∀ r ∈ rs, r.1 < n) → fs.length = n → (∀ i a, bt fs i a → P i a) →
      (rs.foldl (firstOne t nl) (fs, c)).1.length = n ∧ (∀ i a, bt (rs.foldl (firstOne t nl) (fs, c)).1 i a → P i a) ∧
      (((rs.foldl (firstOne t nl) (fs, c)).2 = c ∧ (rs.foldl (firstOne t nl) (fs, c)).1 = fs ∧ ∀ r ∈ rs, ∀ a, FR t (mrk nl) (bt fs) r.2 a → bt fs r.1 a) ∨
       ((rs.foldl (firstOne t nl) (fs, c)).2 = true ∧ room (2 ^ b) (rs.foldl (firstOne t nl) (fs, c)).1 < room (2 ^ b) fs)) := by
  intro rs
  induction rs with
  | nil => intro fs c _ _ hl hs; exact ⟨hl, hs, .inl ⟨rfl, rfl, by simp⟩⟩
  | cons r rs ih =>
    intro fs c ha hn hl hs
    have hr := hn r (by simp)
    have hFR : ∀ a, FR t (mrk nl) (bt fs) r.2 a → P r.1 a := fun a q => hP r (ha r (by simp)) a (q.mono (fun _ z => z) hs)
    rw [List.foldl_cons]
    by_cases h : fs.getD r.1 0 ||| rowFirst t nl fs r.2 = fs.getD r.1 0
    · have e : firstOne t nl (fs, c) r = (fs, c) := by unfold firstOne; rw [if_pos h]
      rw [e]
      obtain ⟨i1, i2, i3⟩ := ih fs c (fun r q => ha r (List.mem_cons_of_mem _ q)) (fun r q => hn r (List.mem_cons_of_mem _ q)) hl hs
      refine ⟨i1, i2, ?_⟩
      rcases i3 with ⟨j1, j2, j3⟩ | j
      · refine .inl ⟨j1, j2, fun r' hr' => ?_⟩
        rcases List.mem_cons.mp hr' with rfl | hr'
        · intro a q
          exact or_same h (rowFirst_bit.mpr q)
        · exact j3 r' hr'
      · exact .inr j
    · have e : firstOne t nl (fs, c) r = (fs.set r.1 (fs.getD r.1 0 ||| rowFirst t nl fs r.2), true) := by unfold firstOne; rw [if_neg h]
      rw [e]
      have bits : ∀ a, (fs.getD r.1 0 ||| rowFirst t nl fs r.2).testBit a = true → P r.1 a := fun a q => by
        rcases or_bit.mp q with q | q
        · exact hs _ _ q
        · exact hFR a (rowFirst_bit.mp q)
      have o1 := room_set (T := 2 ^ b) (fs := fs) (i := r.1) (m := fs.getD r.1 0 ||| rowFirst t nl fs r.2) (by omega) (or_gt h) (Nat.le_of_lt (mask_lt fun a q => hb _ _ (bits a q)))
      obtain ⟨i1, i2, i3⟩ := ih (fs.set r.1 (fs.getD r.1 0 ||| rowFirst t nl fs r.2)) true (fun r q => ha r (List.mem_cons_of_mem _ q)) (fun r q => hn r (List.mem_cons_of_mem _ q)) (by rw [List.length_set]; exact hl) (fun i a q => by
        rcases (bt_set (by omega)).mp q with ⟨e5, q5⟩ | ⟨_, q5⟩
        · rw [e5]; exact bits a q5
        · exact hs _ _ q5)
      refine ⟨i1, i2, .inr ?_⟩
      rcases i3 with ⟨j1, j2, _⟩ | ⟨j1, j2⟩
      · exact ⟨j1, by rw [j2]; exact o1⟩
      · exact ⟨j1, by omega⟩
/-- the masks are just the sets -/
def BtSets (n : Nat) (fs : List Nat) (F : Sets) : Prop := fs.length = n ∧ ∀ i a, bt fs i a ↔ a ∈ setOf F i
structure Firs (g : Gram) (nl : List Bool) (fs : List Nat) (c : Bool) : Prop where
  len : fs.length = g.nts
  snd : ∀ i a, bt fs i a → a ∈ setOf (firsts g) i
  end_ : c = false → ∀ r ∈ g.rules, ∀ a, FR g.ts (mrk nl) (bt fs) r.2 a → bt fs r.1 a
theorem bt_zero {n i a : Nat} : ¬ bt (List.replicate n 0) i a := by
  intro h
  unfold bt at h
  rw [List.getD_eq_getElem?_getD] at h
  simp only [List.getElem?_replicate] at h
  split at h <;> simp at h
theorem Firs.start {g : Gram} {nl : List Bool} : Firs g nl (List.replicate g.nts 0) true := ⟨by simp, fun i a h => absurd h bt_zero, fun h => by cases h⟩
theorem Firs.pass {g : Gram} (w : WF g) {nl : List Bool} (hn : MkSet g.nts nl (nulls g)) {fs : List Nat} {c : Bool} (h : Firs g nl fs c) :
    Firs g nl (firstPass g.ts nl g.rules fs).1 (firstPass g.ts nl g.rules fs).2 ∧ ((firstPass g.ts nl g.rules fs).2 = true → room (2 ^ g.ts) (firstPass g.ts nl g.rules fs).1 < room (2 ^ g.ts) fs) ∧ ((firstPass g.ts nl g.rules fs).2 = false → (firstPass g.ts nl g.rules fs).1 = fs) := by
  obtain ⟨q1, q2, q3⟩ := firstFold (allr := g.rules) (t := g.ts) (n := g.nts) (b := g.ts) (nl := nl) (P := fun i a => a ∈ setOf (firsts g) i) (fun n a q => (firsts_ok g).lt q)
    (fun r hr a q => firsts_closed w r hr a (q.mono (fun n z => (hn.2 n).mp z) (fun _ _ z => z))) g.rules fs false (fun _ h => h) (fun r hr => (w.rl r hr).1) h.len h.snd
  refine ⟨⟨q1, q2, fun hc => ?_⟩, fun hc => ?_, fun hc => ?_⟩
  · rcases q3 with ⟨_, j2, j3⟩ | ⟨j1, _⟩
    · unfold firstPass; rw [j2]; exact j3
    · rw [show (firstPass g.ts nl g.rules fs).2 = true from j1] at hc; cases hc
  · rcases q3 with ⟨j1, _, _⟩ | ⟨_, j2⟩
    · rw [show (firstPass g.ts nl g.rules fs).2 = false from j1] at hc; cases hc
    · exact j2
  · rcases q3 with ⟨_, j2, _⟩ | ⟨j1, _⟩
    · exact j2
    · rw [show (firstPass g.ts nl g.rules fs).2 = true from j1] at hc; cases hc
theorem first_len {t : Nat} {nl : List Bool} : ∀ (rs : List (Nat × List Nat)) (st : List Nat × Bool), (rs.foldl (firstOne t nl) st).1.length = st.1.length := by
  intro rs
  induction rs with
  | nil => intro st; rfl
  | cons r rs ih =>
    intro st
    rw [List.foldl_cons, ih]
    unfold firstOne
    split
    · rfl
    · rw [List.length_set]
theorem Firs.done {g : Gram} {nl : List Bool} (hn : MkSet g.nts nl (nulls g)) {fs : List Nat} (h : Firs g nl fs false) : BtSets g.nts fs (firsts g) :=
  ⟨h.len, fun i a => ⟨h.snd i a, fun q => firsts_least (P := bt fs) (fun r hr a z => h.end_ rfl r hr a (z.mono (fun n z => (hn.2 n).mpr z) fun _ _ z => z)) i a q⟩⟩
/-! ### what can follow each -/
/-- spread_follow: what is behind, the masks, and if one is new; from the row's end -/
def spread (t : Nat) (nl : List Bool) (fs : List Nat) (own : Nat) (fo : List Nat) : List Nat → Nat × List Nat × Bool
  | [] => (own, fo, false)
  | s :: r =>
    if s < t then (2 ^ s, (spread t nl fs own fo r).2)
    else (fs.getD (s - t) 0 ||| (if nl.getD (s - t) false = true then (spread t nl fs own fo r).1 else 0),
      if (spread t nl fs own fo r).2.1.getD (s - t) 0 ||| (spread t nl fs own fo r).1 = (spread t nl fs own fo r).2.1.getD (s - t) 0 then (spread t nl fs own fo r).2
      else ((spread t nl fs own fo r).2.1.set (s - t) ((spread t nl fs own fo r).2.1.getD (s - t) 0 ||| (spread t nl fs own fo r).1), true))
theorem spread_behind {t : Nat} {nl : List Bool} {fs fo : List Nat} {own : Nat} : ∀ {x : List Nat} {a : Nat}, (spread t nl fs own fo x).1.testBit a = true ↔ FR t (mrk nl) (bt fs) x a ∨ (AllNt t (mrk nl) x ∧ own.testBit a = true) := by
  intro x
  induction x with
  | nil => intro a; simp [spread, FR, AllNt]
  | cons s r ih =>
    intro a
    unfold spread FR
    by_cases h : s < t
    · rw [if_pos h]
      show (2 ^ s).testBit a = true ↔ _
      rw [testBit_two]
      have h2 : ¬ t ≤ s := by omega
      have h3 : ¬ AllNt t (mrk nl) (s :: r) := fun z => h2 (z s (by simp)).1
      simp [h, h2, h3]
    · rw [if_neg h]
      have h2 : t ≤ s := by omega
      show (fs.getD (s - t) 0 ||| (if nl.getD (s - t) false = true then (spread t nl fs own fo r).1 else 0)).testBit a = true ↔ _
      rw [or_bit]
      have e : (fs.getD (s - t) 0).testBit a = true ↔ bt fs (s - t) a := Iff.rfl
      rw [e]
      by_cases q : nl.getD (s - t) false = true
      · rw [if_pos q, ih]
        have q' : mrk nl (s - t) := q
        have h3 : AllNt t (mrk nl) (s :: r) ↔ AllNt t (mrk nl) r := by
          unfold AllNt
          constructor
          · intro z s' hs'; exact z s' (List.mem_cons_of_mem _ hs')
          · intro z s' hs'
            rcases List.mem_cons.mp hs' with rfl | hs'
            · exact ⟨h2, q'⟩
            · exact z s' hs'
        rw [h3]
        simp only [h, h2, q', false_and, true_and, false_or]
        exact or_assoc.symm
      · rw [if_neg q]
        have q' : ¬ mrk nl (s - t) := q
        have h3 : ¬ AllNt t (mrk nl) (s :: r) := fun z => q' (z s (by simp)).2
        simp only [h, h2, q', h3, false_and, true_and, false_or, or_false, Nat.zero_testBit, Bool.false_eq_true]
theorem spread_len {t : Nat} {nl : List Bool} {fs fo : List Nat} {own : Nat} : ∀ {x : List Nat}, (spread t nl fs own fo x).2.1.length = fo.length := by
  intro x
  induction x with
  | nil => rfl
  | cons s r ih =>
    unfold spread
    by_cases h : s < t
    · rw [if_pos h]; exact ih
    · rw [if_neg h]
      dsimp only
      split
      · exact ih
      · rw [List.length_set]; exact ih
theorem spread_bit {t n : Nat} {nl : List Bool} {fs fo : List Nat} {own : Nat} (hl : fo.length = n) : ∀ {x : List Nat}, (∀ s ∈ x, s < t + n) → ∀ {b a : Nat}, bt (spread t nl fs own fo x).2.1 b a ↔ bt fo b a ∨ BH t (mrk nl) (bt fs) (fun a => own.testBit a = true) x b a := by
  intro x
  induction x with
  | nil => intro _ b a; simp [spread, BH]
  | cons s r ih =>
    intro hs b a
    have ih := ih (fun s' q => hs s' (List.mem_cons_of_mem _ q)) (b := b) (a := a)
    unfold BH
    by_cases h : s < t
    · have h2 : ¬ t ≤ s := by omega
      have e : (spread t nl fs own fo (s :: r)).2 = (spread t nl fs own fo r).2 := by
        rw [spread]
        rw [if_pos h]
      rw [e, ih]
      simp [h2]
    · have h2 : t ≤ s := by omega
      have hlt := hs s (by simp)
      have e : (spread t nl fs own fo (s :: r)).2 = if (spread t nl fs own fo r).2.1.getD (s - t) 0 ||| (spread t nl fs own fo r).1 = (spread t nl fs own fo r).2.1.getD (s - t) 0 then (spread t nl fs own fo r).2
        else ((spread t nl fs own fo r).2.1.set (s - t) ((spread t nl fs own fo r).2.1.getD (s - t) 0 ||| (spread t nl fs own fo r).1), true) := by
        rw [spread]
        rw [if_neg h]
      have bh := spread_behind (t := t) (nl := nl) (fs := fs) (fo := fo) (own := own) (x := r) (a := a)
      rw [e]
      by_cases q : (spread t nl fs own fo r).2.1.getD (s - t) 0 ||| (spread t nl fs own fo r).1 = (spread t nl fs own fo r).2.1.getD (s - t) 0
      · rw [if_pos q]
        constructor
        · intro z
          rcases ih.mp z with z | z
          · exact .inl z
          · exact .inr (.inr z)
        · rintro (z | ⟨_, rfl, z⟩ | z)
          · exact ih.mpr (.inl z)
          · exact or_same q (bh.mpr z)
          · exact ih.mpr (.inr z)
      · rw [if_neg q]
        show bt ((spread t nl fs own fo r).2.1.set (s - t) ((spread t nl fs own fo r).2.1.getD (s - t) 0 ||| (spread t nl fs own fo r).1)) b a ↔ _
        rw [bt_set (by rw [spread_len, hl]; omega), or_bit]
        constructor
        · rintro (⟨rfl, z | z⟩ | ⟨_, z⟩)
          · rcases ih.mp z with z | z
            · exact .inl z
            · exact .inr (.inr z)
          · exact .inr (.inl ⟨h2, rfl, bh.mp z⟩)
          · rcases ih.mp z with z | z
            · exact .inl z
            · exact .inr (.inr z)
        · rintro (z | ⟨_, rfl, z⟩ | z)
          · have z' := ih.mpr (.inl z)
            by_cases hb : b = s - t
            · subst hb; exact .inl ⟨rfl, .inl z'⟩
            · exact .inr ⟨hb, z'⟩
          · exact .inl ⟨rfl, .inr (bh.mpr z)⟩
          · have z' := ih.mpr (.inr z)
            by_cases hb : b = s - t
            · subst hb; exact .inl ⟨rfl, .inl z'⟩
            · exact .inr ⟨hb, z'⟩
theorem spread_news {t n T : Nat} {nl : List Bool} {fs fo : List Nat} {own : Nat} (hl : fo.length = n) : ∀ {x : List Nat}, (∀ s ∈ x, s < t + n) → (∀ b a, BH t (mrk nl) (bt fs) (fun a => own.testBit a = true) x b a → a < T) → (∀ b a, bt fo b a → a < T) →
    ((spread t nl fs own fo x).2.2 = false ∧ (spread t nl fs own fo x).2.1 = fo) ∨ ((spread t nl fs own fo x).2.2 = true ∧ room (2 ^ T) (spread t nl fs own fo x).2.1 < room (2 ^ T) fo) := by
  intro x
  induction x with
  | nil => intro _ _ _; exact .inl ⟨rfl, rfl⟩
  | cons s r ih =>
    intro hs hT hfo
    have ih := ih (fun s' q => hs s' (List.mem_cons_of_mem _ q)) (fun b a q => hT b a (.inr q)) hfo
    by_cases h : s < t
    · have e : (spread t nl fs own fo (s :: r)).2 = (spread t nl fs own fo r).2 := by
        rw [spread]
        rw [if_pos h]
      rw [e]; exact ih
    · have h2 : t ≤ s := by omega
      have hlt := hs s (by simp)
      have e : (spread t nl fs own fo (s :: r)).2 = if (spread t nl fs own fo r).2.1.getD (s - t) 0 ||| (spread t nl fs own fo r).1 = (spread t nl fs own fo r).2.1.getD (s - t) 0 then (spread t nl fs own fo r).2
        else ((spread t nl fs own fo r).2.1.set (s - t) ((spread t nl fs own fo r).2.1.getD (s - t) 0 ||| (spread t nl fs own fo r).1), true) := by
        rw [spread]
        rw [if_neg h]
      rw [e]
      by_cases q : (spread t nl fs own fo r).2.1.getD (s - t) 0 ||| (spread t nl fs own fo r).1 = (spread t nl fs own fo r).2.1.getD (s - t) 0
      · rw [if_pos q]; exact ih
      · rw [if_neg q]
        refine .inr ⟨rfl, ?_⟩
        have o1 := room_set (T := 2 ^ T) (fs := (spread t nl fs own fo r).2.1) (i := s - t) (m := (spread t nl fs own fo r).2.1.getD (s - t) 0 ||| (spread t nl fs own fo r).1) (by rw [spread_len, hl]; omega) (or_gt q) (Nat.le_of_lt (mask_lt fun a z => by
          rcases or_bit.mp z with z | z
          · rcases (spread_bit hl (fun s' q => hs s' (List.mem_cons_of_mem _ q))).mp z with z | z
            · exact hfo _ _ z
            · exact hT _ _ (.inr z)
          · exact hT (s - t) a (.inl ⟨h2, rfl, spread_behind.mp z⟩)))
        show room (2 ^ T) ((spread t nl fs own fo r).2.1.set (s - t) ((spread t nl fs own fo r).2.1.getD (s - t) 0 ||| (spread t nl fs own fo r).1)) < room (2 ^ T) fo
        rcases ih with ⟨_, j⟩ | ⟨_, j⟩
        · rw [j] at o1 ⊢; exact o1
        · omega
def followOne (t : Nat) (nl : List Bool) (fs : List Nat) (st : List Nat × Bool) (r : Nat × List Nat) : List Nat × Bool :=
  ((spread t nl fs (st.1.getD r.1 0) st.1 r.2).2.1, (spread t nl fs (st.1.getD r.1 0) st.1 r.2).2.2 || st.2)
def followPass (t : Nat) (nl : List Bool) (fs : List Nat) (rs : List (Nat × List Nat)) (fo : List Nat) : List Nat × Bool := rs.foldl (followOne t nl fs) (fo, false)
theorem followFold {t n T : Nat} {nl : List Bool} {fs : List Nat} {P : Nat → Nat → Prop} {allr : List (Nat × List Nat)} (hb : ∀ n a, P n a → a < T) (hP : ∀ r ∈ allr, ∀ b a, BH t (mrk nl) (bt fs) (P r.1) r.2 b a → P b a) :
    ∀ (rs : List (Nat × List Nat)) (fo : List Nat) (c : Bool), (∀ r ∈ rs, r ∈ allr) → (∀ r ∈ rs, ∀ s ∈ r.2, s < t + n) → fo.length = n → (∀ i a, bt fo i a → P i a) →
      (rs.foldl (followOne t nl fs) (fo, c)).1.length = n ∧ (∀ i a, bt (rs.foldl (followOne t nl fs) (fo, c)).1 i a → P i a) ∧ (∀ i a, bt fo i a → bt (rs.foldl (followOne t nl fs) (fo, c)).1 i a) ∧
      (((rs.foldl (followOne t nl fs) (fo, c)).2 = c ∧ (rs.foldl (followOne t nl fs) (fo, c)).1 = fo ∧ ∀ r ∈ rs, ∀ b a, BH t (mrk nl) (bt fs) (bt fo r.1) r.2 b a → bt fo b a) ∨
       ((rs.foldl (followOne t nl fs) (fo, c)).2 = true ∧ room (2 ^ T) (rs.foldl (followOne t nl fs) (fo, c)).1 < room (2 ^ T) fo)) := by
  intro rs
  induction rs with
  | nil => intro fo c _ _ hl hs; exact ⟨hl, hs, fun _ _ h => h, .inl ⟨rfl, rfl, by simp⟩⟩
  | cons r rs ih =>
    intro fo c ha hn hl hs
    have hBH : ∀ b a, BH t (mrk nl) (bt fs) (bt fo r.1) r.2 b a → P b a := fun b a q => hP r (ha r (by simp)) b a (q.mono (fun _ z => z) (fun _ _ z => z) (fun a z => hs _ _ z))
    have sb : ∀ b a, bt (spread t nl fs (fo.getD r.1 0) fo r.2).2.1 b a ↔ bt fo b a ∨ BH t (mrk nl) (bt fs) (bt fo r.1) r.2 b a := fun b a => spread_bit hl (hn r (by simp))
    have sn := spread_news (T := T) (nl := nl) (fs := fs) (own := fo.getD r.1 0) hl (hn r (by simp)) (fun b a q => hb _ _ (hBH b a q)) (fun b a q => hb _ _ (hs b a q))
    rw [List.foldl_cons]
    have e : followOne t nl fs (fo, c) r = ((spread t nl fs (fo.getD r.1 0) fo r.2).2.1, (spread t nl fs (fo.getD r.1 0) fo r.2).2.2 || c) := rfl
    rw [e]
    obtain ⟨i1, i2, i2', i3⟩ := ih (spread t nl fs (fo.getD r.1 0) fo r.2).2.1 ((spread t nl fs (fo.getD r.1 0) fo r.2).2.2 || c) (fun r q => ha r (List.mem_cons_of_mem _ q)) (fun r q => hn r (List.mem_cons_of_mem _ q)) (by rw [spread_len]; exact hl) (fun i a q => by
      rcases (sb i a).mp q with q | q
      · exact hs _ _ q
      · exact hBH i a q)
    refine ⟨i1, i2, fun i a q => i2' i a ((sb i a).mpr (.inl q)), ?_⟩
    rcases sn with ⟨n1, n2⟩ | ⟨n1, n2⟩
    · rw [n1, n2] at i3 ⊢
      rw [n2] at sb
      rcases i3 with ⟨j1, j2, j3⟩ | j
      · refine .inl ⟨j1, j2, fun r' hr' => ?_⟩
        rcases List.mem_cons.mp hr' with rfl | hr'
        · intro b a q
          exact (sb b a).mpr (.inr q)
        · exact j3 r' hr'
      · exact .inr j
    · refine .inr ?_
      rcases i3 with ⟨j1, j2, _⟩ | ⟨j1, j2⟩
      · exact ⟨by rw [j1, n1]; rfl, by rw [j2]; exact n2⟩
      · exact ⟨j1, by omega⟩
structure Foll (g : Gram) (nl : List Bool) (fs : List Nat) (fo : List Nat) (c : Bool) : Prop where
  len : fo.length = g.nts
  zero : bt fo 0 g.ts
  snd : ∀ i a, bt fo i a → a ∈ setOf (follows g) i
  end_ : c = false → ∀ r ∈ g.rules, ∀ b a, BH g.ts (mrk nl) (bt fs) (bt fo r.1) r.2 b a → bt fo b a
theorem Foll.start {g : Gram} (w : WF g) {nl : List Bool} {fs : List Nat} : Foll g nl fs ((List.replicate g.nts 0).set 0 (2 ^ g.ts)) true := by
  have hn := w.n1
  refine ⟨by simp, (bt_set (by simp; omega)).mpr (.inl ⟨rfl, (testBit_two _ _).mpr rfl⟩), fun i a h => ?_, fun h => by cases h⟩
  rcases (bt_set (by simp; omega)).mp h with ⟨e5, q5⟩ | ⟨_, q5⟩
  · rw [e5, (testBit_two _ _).mp q5]; exact follows_zero w
  · exact absurd q5 bt_zero
theorem Foll.pass {g : Gram} (w : WF g) {nl : List Bool} (hn : MkSet g.nts nl (nulls g)) {fs : List Nat} (hf : BtSets g.nts fs (firsts g)) {fo : List Nat} {c : Bool} (h : Foll g nl fs fo c) :
    Foll g nl fs (followPass g.ts nl fs g.rules fo).1 (followPass g.ts nl fs g.rules fo).2 ∧ ((followPass g.ts nl fs g.rules fo).2 = true → room (2 ^ (g.ts + 1)) (followPass g.ts nl fs g.rules fo).1 < room (2 ^ (g.ts + 1)) fo) ∧ ((followPass g.ts nl fs g.rules fo).2 = false → (followPass g.ts nl fs g.rules fo).1 = fo) := by
  obtain ⟨q1, q2, q2', q3⟩ := followFold (allr := g.rules) (t := g.ts) (n := g.nts) (T := g.ts + 1) (nl := nl) (fs := fs) (P := fun i a => a ∈ setOf (follows g) i) (fun n a q => (follows_ok w).lt q)
    (fun r hr b a q => follows_closed w r hr b a (q.mono (fun n z => (hn.2 n).mp z) (fun i a z => (hf.2 i a).mp z) (fun _ z => z))) g.rules fo false (fun _ h => h) (fun r hr => (w.rl r hr).2.2) h.len h.snd
  refine ⟨⟨q1, q2' _ _ h.zero, q2, fun hc => ?_⟩, fun hc => ?_, fun hc => ?_⟩
  · rcases q3 with ⟨_, j2, j3⟩ | ⟨j1, _⟩
    · unfold followPass; rw [j2]; exact j3
    · rw [show (followPass g.ts nl fs g.rules fo).2 = true from j1] at hc; cases hc
  · rcases q3 with ⟨j1, _, _⟩ | ⟨_, j2⟩
    · rw [show (followPass g.ts nl fs g.rules fo).2 = false from j1] at hc; cases hc
    · exact j2
  · rcases q3 with ⟨_, j2, _⟩ | ⟨j1, _⟩
    · exact j2
    · rw [show (followPass g.ts nl fs g.rules fo).2 = true from j1] at hc; cases hc
theorem follow_len {t : Nat} {nl : List Bool} {fs : List Nat} : ∀ (rs : List (Nat × List Nat)) (st : List Nat × Bool), (rs.foldl (followOne t nl fs) st).1.length = st.1.length := by
  intro rs
  induction rs with
  | nil => intro st; rfl
  | cons r rs ih =>
    intro st
    rw [List.foldl_cons, ih]
    exact spread_len
theorem Foll.done {g : Gram} {nl : List Bool} (hn : MkSet g.nts nl (nulls g)) {fs : List Nat} (hf : BtSets g.nts fs (firsts g)) {fo : List Nat} (h : Foll g nl fs fo false) : BtSets g.nts fo (follows g) :=
  ⟨h.len, fun i a => ⟨h.snd i a, fun q => follows_least (P := bt fo) h.zero (fun r hr b a z => h.end_ rfl r hr b a (z.mono (fun n z => (hn.2 n).mpr z) (fun i a z => (hf.2 i a).mpr z) fun _ z => z)) i a q⟩⟩
end Gm

set_option Elab.async false
set_option linter.all false
set_option maxRecDepth 100000
set_option maxHeartbeats 4000000
namespace Gm
open Ll
/-! ### rules that are one for a token -/
def ruleTokens (t : Nat) (nl : List Bool) (fs fo : List Nat) (r : Nat × List Nat) : Nat := if rowSettles t nl false r.2 = true then rowFirst t nl fs r.2 ||| fo.getD r.1 0 else rowFirst t nl fs r.2
/-- what a rule is one for, by the sets -/
def One (g : Gram) (r : Nat × List Nat) (a : Nat) : Prop := FR g.ts (· ∈ nulls g) (fun n a => a ∈ setOf (firsts g) n) r.2 a ∨ (AllNt g.ts (· ∈ nulls g) r.2 ∧ a ∈ setOf (follows g) r.1)
theorem fr_marks {g : Gram} {nl : List Bool} (hn : MkSet g.nts nl (nulls g)) {fs : List Nat} (hf : BtSets g.nts fs (firsts g)) {x : List Nat} {a : Nat} : FR g.ts (mrk nl) (bt fs) x a ↔ FR g.ts (· ∈ nulls g) (fun n a => a ∈ setOf (firsts g) n) x a :=
  ⟨fun h => h.mono (fun n z => (hn.2 n).mp z) (fun n a z => (hf.2 n a).mp z), fun h => h.mono (fun n z => (hn.2 n).mpr z) (fun n a z => (hf.2 n a).mpr z)⟩
theorem allNt_marks {g : Gram} {nl : List Bool} (hn : MkSet g.nts nl (nulls g)) {x : List Nat} : AllNt g.ts (mrk nl) x ↔ AllNt g.ts (· ∈ nulls g) x :=
  ⟨fun h => h.mono (fun n z => (hn.2 n).mp z), fun h => h.mono (fun n z => (hn.2 n).mpr z)⟩
theorem ruleTokens_bit {g : Gram} {nl : List Bool} (hn : MkSet g.nts nl (nulls g)) {fs : List Nat} (hf : BtSets g.nts fs (firsts g)) {fo : List Nat} (ho : BtSets g.nts fo (follows g)) {r : Nat × List Nat} {a : Nat} :
    (ruleTokens g.ts nl fs fo r).testBit a = true ↔ One g r a := by
  unfold ruleTokens One
  have e1 : (rowFirst g.ts nl fs r.2).testBit a = true ↔ _ := rowFirst_bit.trans (fr_marks hn hf)
  have e2 : rowSettles g.ts nl false r.2 = true ↔ _ := rowSettles_false.trans (allNt_marks hn)
  have e3 : (fo.getD r.1 0).testBit a = true ↔ a ∈ setOf (follows g) r.1 := ho.2 r.1 a
  by_cases h : rowSettles g.ts nl false r.2 = true
  · rw [if_pos h, or_bit, e1, e3]
    exact or_congr Iff.rfl (by rw [← e2]; exact ⟨fun z => ⟨h, z⟩, fun z => z.2⟩)
  · rw [if_neg h, e1]
    exact ⟨.inl, fun z => z.elim id (fun z => absurd (e2.mpr z.1) h)⟩
/-! ### the choices -/
theorem mem_zipIdx_iff {α : Type} {l : List α} {x : α} {i : Nat} : (x, i) ∈ l.zipIdx ↔ l[i]? = some x := by
  rw [List.mem_zipIdx_iff_getElem?]
/-- the numbers of the first i rules that are one, rising -/
def chUp (p : Nat → Nat × List Nat → Nat → Bool) (rs : List (Nat × List Nat)) (n a : Nat) : List Nat := (rs.zipIdx.filter fun (r : (Nat × List Nat) × Nat) => p n r.1 a).map fun r => r.2
theorem chUp_snoc (p : Nat → Nat × List Nat → Nat → Bool) (rs : List (Nat × List Nat)) (r : Nat × List Nat) (n a : Nat) : chUp p (rs ++ [r]) n a = if p n r a = true then chUp p rs n a ++ [rs.length] else chUp p rs n a := by
  unfold chUp
  rw [List.zipIdx_append, List.filter_append, List.map_append]
  by_cases h : p n r a = true
  · rw [if_pos h]
    simp [h]
  · rw [if_neg h]
    simp [h]
def pc (g : Gram) (n : Nat) (r : Nat × List Nat) (a : Nat) : Bool := r.1 == n && ((firstRow g (nulls g) (firsts g) r.2).contains a || (allIn g (nulls g) r.2 && (setOf (follows g) n).contains a))
theorem choices_eq (g : Gram) (n a : Nat) : choices g (known g) n a = chUp (pc g) g.rules n a := rfl
theorem pc_iff {g : Gram} {n : Nat} {r : Nat × List Nat} {a : Nat} : pc g n r a = true ↔ r.1 = n ∧ One g r a := by
  unfold pc One
  rw [Bool.and_eq_true, Bool.or_eq_true, Bool.and_eq_true, List.contains_iff_mem, List.contains_iff_mem, mem_firstRow, allIn_iff]
  constructor
  · rintro ⟨h1, h2⟩
    have h1 : r.1 = n := eq_of_beq h1
    subst h1
    exact ⟨rfl, h2⟩
  · rintro ⟨h1, h2⟩
    subst h1
    exact ⟨beq_self_eq_true _, h2⟩
theorem mem_choices {g : Gram} {n a i : Nat} : i ∈ choices g (known g) n a ↔ ∃ r, g.rules[i]? = some r ∧ r.1 = n ∧ One g r a := by
  rw [choices_eq]
  unfold chUp
  rw [List.mem_map]
  constructor
  · rintro ⟨⟨r, j⟩, h1, h2⟩
    have h2 : j = i := h2
    subst h2
    rw [List.mem_filter] at h1
    obtain ⟨h3, h4⟩ := h1
    exact ⟨r, mem_zipIdx_iff.mp h3, pc_iff.mp h4⟩
  · rintro ⟨r, h1, h2⟩
    refine ⟨(r, i), List.mem_filter.mpr ⟨mem_zipIdx_iff.mpr h1, pc_iff.mpr h2⟩, rfl⟩
theorem chUp_len (p : Nat → Nat × List Nat → Nat → Bool) (rs : List (Nat × List Nat)) (n a : Nat) : (chUp p rs n a).length ≤ rs.length := by
  unfold chUp
  rw [List.length_map]
  refine Nat.le_trans (List.length_filter_le _ _) ?_
  rw [List.length_zipIdx]
  exact Nat.le_refl _
/-! ### conflicts -/
def cf1 (l : List Nat) (n a : Nat) : List Nat := match l with
  | i :: j :: _ => [n, a, i, j]
  | _ => []
theorem cf1_len (l : List Nat) (n a : Nat) : (cf1 l n a).length ≤ 4 := by
  unfold cf1
  split <;> simp
def cfRow (f : Nat → List Nat) (n m : Nat) : List Nat := (List.range m).flatMap fun a => cf1 (f a) n a
def cfAll (f : Nat → Nat → List Nat) (k m : Nat) : List Nat := (List.range k).flatMap fun n => cfRow (f n) n m
theorem cfRow_succ (f : Nat → List Nat) (n m : Nat) : cfRow f n (m + 1) = cfRow f n m ++ cf1 (f m) n m := by
  unfold cfRow
  rw [List.range_succ, List.flatMap_append]
  simp
theorem cfAll_succ (f : Nat → Nat → List Nat) (k m : Nat) : cfAll f (k + 1) m = cfAll f k m ++ cfRow (f k) k m := by
  unfold cfAll
  rw [List.range_succ, List.flatMap_append]
  simp
theorem cfRow_len (f : Nat → List Nat) (n : Nat) : ∀ m, (cfRow f n m).length ≤ 4 * m
  | 0 => by simp [cfRow]
  | m + 1 => by
    rw [cfRow_succ, List.length_append]
    have := cfRow_len f n m
    have := cf1_len (f m) n m
    omega
theorem cfAll_len (f : Nat → Nat → List Nat) (m : Nat) : ∀ k, (cfAll f k m).length ≤ k * (4 * m)
  | 0 => by simp [cfAll]
  | k + 1 => by
    rw [cfAll_succ, List.length_append, Nat.succ_mul]
    have := cfAll_len f m k
    have := cfRow_len (f k) k m
    omega
theorem flat_row (g : Gram) (n : Nat) : ∀ l : List Nat, (l.filterMap fun (a : Nat) => match choices g (known g) n a with
    | i :: j :: _ => some [n, a, i, j]
    | _ => none).flatten = l.flatMap fun a => cf1 (choices g (known g) n a) n a
  | [] => rfl
  | a :: l => by
    rw [List.filterMap_cons, List.flatMap_cons, ← flat_row g n l]
    unfold cf1
    split <;> rename_i h
    · split at h
      · cases h
      · rfl
    · split at h
      · cases h
        rfl
      · cases h
theorem conflicts_flat (g : Gram) : (conflicts g (known g)).flatten = cfAll (fun n a => choices g (known g) n a) g.nts (g.ts + 1) := by
  unfold conflicts cfAll cfRow
  have all : ∀ l : List Nat, (l.flatMap fun (n : Nat) => (List.range (g.ts + 1)).filterMap fun (a : Nat) => match choices g (known g) n a with
    | i :: j :: _ => some [n, a, i, j]
    | _ => none).flatten = l.flatMap fun n => (List.range (g.ts + 1)).flatMap fun a => cf1 (choices g (known g) n a) n a := by
    intro l
    induction l with
    | nil => rfl
    | cons n l ih => rw [List.flatMap_cons, List.flatMap_cons, List.flatten_append, ih, flat_row]
  exact all _
theorem conflicts_some {g : Gram} : ∀ x ∈ conflicts g (known g), x ≠ [] := by
  intro x hx
  unfold conflicts at hx
  rw [List.mem_flatMap] at hx
  obtain ⟨n, _, hx⟩ := hx
  rw [List.mem_filterMap] at hx
  obtain ⟨a, _, hx⟩ := hx
  split at hx
  · cases hx
    simp
  · cases hx
theorem flatten_nil {l : List (List Nat)} (h : ∀ x ∈ l, x ≠ []) : l.flatten = [] ↔ l = [] := by
  cases l with
  | nil => simp
  | cons x l =>
    constructor
    · intro q
      rw [List.flatten_cons, List.append_eq_nil_iff] at q
      exact absurd q.1 (h x (by simp))
    · intro q
      cases q
theorem conflicts_nil {g : Gram} : cfAll (fun n a => choices g (known g) n a) g.nts (g.ts + 1) = [] ↔ conflicts g (known g) = [] := by
  rw [← conflicts_flat]
  exact flatten_nil conflicts_some
/-- no conflicts: at most one choice -/
theorem choice_one {g : Gram} (h : conflicts g (known g) = []) {n a i : Nat} (hn : n < g.nts) (ha : a ≤ g.ts) (hi : i ∈ choices g (known g) n a) : choices g (known g) n a = [i] := by
  cases e : choices g (known g) n a with
  | nil => rw [e] at hi; cases hi
  | cons j l =>
    cases l with
    | nil =>
      rw [e] at hi
      simp at hi
      rw [hi]
    | cons k l =>
      exfalso
      have : [n, a, j, k] ∈ conflicts g (known g) := by
        unfold conflicts
        rw [List.mem_flatMap]
        refine ⟨n, List.mem_range.mpr hn, ?_⟩
        rw [List.mem_filterMap]
        refine ⟨a, List.mem_range.mpr (by omega), ?_⟩
        rw [e]
      rw [h] at this
      cases this
end Gm

set_option Elab.async false
set_option linter.all false
set_option maxRecDepth 100000
set_option maxHeartbeats 4000000
namespace Gm
open Ll
abbrev N0 (g : Gram) : Nat → Prop := fun n => n ∈ nulls g
abbrev F0 (g : Gram) : Nat → Nat → Prop := fun n a => a ∈ setOf (firsts g) n
theorem AllNt_append {ts : Nat} {N : Nat → Prop} {v r : List Nat} : AllNt ts N (v ++ r) ↔ AllNt ts N v ∧ AllNt ts N r := by
  unfold AllNt
  constructor
  · intro h
    exact ⟨fun s hs => h s (List.mem_append_left _ hs), fun s hs => h s (List.mem_append_right _ hs)⟩
  · rintro ⟨h1, h2⟩ s hs
    exact (List.mem_append.mp hs).elim (h1 s) (h2 s)
theorem AllNt_cons {ts : Nat} {N : Nat → Prop} {s : Nat} {r : List Nat} : AllNt ts N (s :: r) ↔ (ts ≤ s ∧ N (s - ts)) ∧ AllNt ts N r := by
  unfold AllNt
  constructor
  · intro h
    exact ⟨h s (by simp), fun t ht => h t (List.mem_cons_of_mem _ ht)⟩
  · rintro ⟨h1, h2⟩ t ht
    rcases List.mem_cons.mp ht with rfl | ht
    · exact h1
    · exact h2 t ht
theorem AllNt_nil {ts : Nat} {N : Nat → Prop} : AllNt ts N [] := fun _ h => nomatch h
theorem FR_append {ts : Nat} {N : Nat → Prop} {F : Nat → Nat → Prop} {r : List Nat} {a : Nat} : ∀ {v : List Nat}, FR ts N F (v ++ r) a ↔ FR ts N F v a ∨ (AllNt ts N v ∧ FR ts N F r a)
  | [] => ⟨fun h => .inr ⟨AllNt_nil, h⟩, fun h => h.elim (fun z => nomatch z) (fun z => z.2)⟩
  | s :: v => by
    have ih := FR_append (ts := ts) (N := N) (F := F) (r := r) (a := a) (v := v)
    show (s < ts ∧ a = s) ∨ (ts ≤ s ∧ (F (s - ts) a ∨ (N (s - ts) ∧ FR ts N F (v ++ r) a))) ↔ ((s < ts ∧ a = s) ∨ (ts ≤ s ∧ (F (s - ts) a ∨ (N (s - ts) ∧ FR ts N F v a)))) ∨ (AllNt ts N (s :: v) ∧ FR ts N F r a)
    rw [ih, AllNt_cons]
    constructor
    · rintro (h | ⟨h1, h | ⟨h2, h | h⟩⟩)
      · exact .inl (.inl h)
      · exact .inl (.inr ⟨h1, .inl h⟩)
      · exact .inl (.inr ⟨h1, .inr ⟨h2, h⟩⟩)
      · exact .inr ⟨⟨⟨h1, h2⟩, h.1⟩, h.2⟩
    · rintro ((h | ⟨h1, h | ⟨h2, h⟩⟩) | ⟨⟨⟨h1, h2⟩, h3⟩, h4⟩)
      · exact .inl h
      · exact .inr ⟨h1, .inl h⟩
      · exact .inr ⟨h1, .inr ⟨h2, .inl h⟩⟩
      · exact .inr ⟨h1, .inr ⟨h2, .inr ⟨h3, h4⟩⟩⟩
theorem BH_append {ts : Nat} {N : Nat → Prop} {F : Nat → Nat → Prop} {own : Nat → Prop} {r : List Nat} {b a : Nat} : ∀ {y : List Nat}, BH ts N F own (y ++ r) b a ↔ BH ts N F (fun a => FR ts N F r a ∨ (AllNt ts N r ∧ own a)) y b a ∨ BH ts N F own r b a
  | [] => ⟨.inr, fun h => h.elim (fun z => nomatch z) id⟩
  | s :: y => by
    have ih := BH_append (ts := ts) (N := N) (F := F) (own := own) (r := r) (b := b) (a := a) (y := y)
    show (ts ≤ s ∧ b = s - ts ∧ (FR ts N F (y ++ r) a ∨ (AllNt ts N (y ++ r) ∧ own a))) ∨ BH ts N F own (y ++ r) b a ↔ ((ts ≤ s ∧ b = s - ts ∧ (FR ts N F y a ∨ (AllNt ts N y ∧ (FR ts N F r a ∨ (AllNt ts N r ∧ own a))))) ∨ BH ts N F (fun a => FR ts N F r a ∨ (AllNt ts N r ∧ own a)) y b a) ∨ BH ts N F own r b a
    rw [ih, FR_append, AllNt_append]
    constructor
    · rintro (⟨h1, h2, (h | h) | h⟩ | h | h)
      · exact .inl (.inl ⟨h1, h2, .inl h⟩)
      · exact .inl (.inl ⟨h1, h2, .inr ⟨h.1, .inl h.2⟩⟩)
      · exact .inl (.inl ⟨h1, h2, .inr ⟨h.1.1, .inr ⟨h.1.2, h.2⟩⟩⟩)
      · exact .inl (.inr h)
      · exact .inr h
    · rintro ((⟨h1, h2, h | ⟨h3, h | h⟩⟩ | h) | h)
      · exact .inl ⟨h1, h2, .inl (.inl h)⟩
      · exact .inl ⟨h1, h2, .inl (.inr ⟨h3, h⟩)⟩
      · exact .inl ⟨h1, h2, .inr ⟨⟨h3, h.1⟩, h.2⟩⟩
      · exact .inr (.inl h)
      · exact .inr (.inr h)
/-- a row that a text can have still to come: what stands behind a nonterminal follows it -/
def Good (g : Gram) (x : List Nat) : Prop := ∀ b a, BH g.ts (N0 g) (F0 g) (fun a => a = g.ts) x b a → a ∈ setOf (follows g) b
def Exp (g : Gram) (x : List Nat) (a : Nat) : Prop := FR g.ts (N0 g) (F0 g) x a ∨ (AllNt g.ts (N0 g) x ∧ a = g.ts)
theorem fr_lt {g : Gram} {x : List Nat} {a : Nat} (h : FR g.ts (N0 g) (F0 g) x a) : a < g.ts := h.lt (Nat.le_refl _) (fun _ _ z => (firsts_ok g).lt z)
theorem Exp.le {g : Gram} {x : List Nat} {a : Nat} (h : Exp g x a) : a ≤ g.ts := h.elim (fun z => Nat.le_of_lt (fr_lt z)) (fun z => Nat.le_of_eq z.2)
theorem good_start {g : Gram} (w : WF g) : Good g [g.ts] := by
  rintro b a (⟨h1, h2, h | h⟩ | h)
  · cases h
  · rw [h2, h.2, Nat.sub_self]
    exact follows_zero w
  · cases h
theorem Good.tail {g : Gram} {s : Nat} {r : List Nat} (h : Good g (s :: r)) : Good g r := fun b a z => h b a (.inr z)
theorem Good.app {g : Gram} (w : WF g) {s : Nat} {r y : List Nat} (h : Good g (s :: r)) (hs : g.ts ≤ s) (hr : (s - g.ts, y) ∈ g.rules) : Good g (y ++ r) := by
  intro b a z
  rcases BH_append.mp z with z | z
  · refine follows_closed w (s - g.ts, y) hr b a (z.mono (fun _ q => q) (fun _ _ q => q) (fun a q => h (s - g.ts) a (.inl ⟨hs, rfl, q⟩)))
  · exact h b a (.inr z)
theorem firsts_inv {g : Gram} (w : WF g) {n a : Nat} (h : a ∈ setOf (firsts g) n) : ∃ r ∈ g.rules, r.1 = n ∧ FR g.ts (N0 g) (F0 g) r.2 a := by
  refine firsts_least (P := fun n a => ∃ r ∈ g.rules, r.1 = n ∧ FR g.ts (N0 g) (F0 g) r.2 a) (fun r hr a q => ⟨r, hr, rfl, q.mono (fun _ z => z) (fun n a z => ?_)⟩) n a h
  obtain ⟨r', h1, h2, h3⟩ := z
  subst h2
  exact firsts_closed w r' h1 a h3
theorem nulls_inv {g : Gram} (w : WF g) {n : Nat} (h : n ∈ nulls g) : ∃ r ∈ g.rules, r.1 = n ∧ AllNt g.ts (N0 g) r.2 := by
  refine nulls_least (P := fun n => ∃ r ∈ g.rules, r.1 = n ∧ AllNt g.ts (N0 g) r.2) (fun r hr q => ⟨r, hr, rfl, q.mono (fun n z => ?_)⟩) n h
  obtain ⟨r', h1, h2, h3⟩ := z
  subst h2
  exact nulls_closed w r' h1 h3
/-- one rule applied -/
theorem step_ok {g : Gram} (w : WF g) (hc : conflicts g (known g) = []) {s a : Nat} {r : List Nat} (hs : g.ts ≤ s) (hn : s < g.ts + g.nts) (good : Good g (s :: r)) (ex : Exp g (s :: r) a) :
    ∃ i y, choices g (known g) (s - g.ts) a = [i] ∧ g.rules[i]? = some (s - g.ts, y) ∧ Exp g (y ++ r) a ∧ Good g (y ++ r) := by
  have ha := ex.le
  have key : ∃ q ∈ g.rules, q.1 = s - g.ts ∧ One g q a ∧ Exp g (q.2 ++ r) a := by
    rcases ex with h | ⟨h, e⟩
    · rcases h with ⟨h, _⟩ | ⟨_, h | ⟨h1, h2⟩⟩
      · omega
      · obtain ⟨q, q1, q2, q3⟩ := firsts_inv w h
        exact ⟨q, q1, q2, .inl q3, .inl (FR_append.mpr (.inl q3))⟩
      · obtain ⟨q, q1, q2, q3⟩ := nulls_inv w h1
        refine ⟨q, q1, q2, .inr ⟨q3, ?_⟩, .inl (FR_append.mpr (.inr ⟨q3, h2⟩))⟩
        rw [q2]
        exact good _ _ (.inl ⟨hs, rfl, .inl h2⟩)
    · obtain ⟨⟨_, h1⟩, h2⟩ := AllNt_cons.mp h
      obtain ⟨q, q1, q2, q3⟩ := nulls_inv w h1
      refine ⟨q, q1, q2, .inr ⟨q3, ?_⟩, .inr ⟨AllNt_append.mpr ⟨q3, h2⟩, e⟩⟩
      rw [q2]
      exact good _ _ (.inl ⟨hs, rfl, .inr ⟨h2, e⟩⟩)
  obtain ⟨q, q1, q2, q3, q4⟩ := key
  obtain ⟨i, hi⟩ := List.getElem?_of_mem q1
  refine ⟨i, q.2, choice_one hc (by omega) ha (mem_choices.mpr ⟨q, hi, q2, q3⟩), ?_, q4, ?_⟩
  · rw [hi, ← q2]
  · refine good.app w hs ?_
    rw [← q2]
    exact q1
/-! ### a token taken -/
structure Run (g : Gram) (a : Nat) (x0 told x : List Nat) : Prop where
  len : told.length ≤ 513
  good : Good g x
  ex : Exp g x a
  sy : ∀ s ∈ x, s < g.ts + g.nts
  xl : x.length ≤ x0.length + 8 * told.length
  eq : takes g (known g) a 513 x0 = (takes g (known g) a (513 - told.length) x).map fun (y : List Nat × List Nat) => (told ++ y.1, y.2)
theorem Run.start {g : Gram} {a : Nat} {x : List Nat} (h1 : Good g x) (h2 : Exp g x a) (h3 : ∀ s ∈ x, s < g.ts + g.nts) : Run g a x [] x :=
  ⟨by simp, h1, h2, h3, by simp, by simp⟩
theorem Run.step {g : Gram} (w : WF g) (hc : conflicts g (known g) = []) {a s : Nat} {x0 told r : List Nat} (R : Run g a x0 told (s :: r)) (ht : told.length ≤ 512) (hs : g.ts ≤ s) :
    ∃ i y, choices g (known g) (s - g.ts) a = [i] ∧ g.rules[i]? = some (s - g.ts, y) ∧ Run g a x0 (told ++ [i]) (y ++ r) := by
  obtain ⟨i, y, h1, h2, h3, h4⟩ := step_ok w hc hs (R.sy s (by simp)) R.good R.ex
  have hm : (s - g.ts, y) ∈ g.rules := List.mem_of_getElem? h2
  obtain ⟨_, w2, w3⟩ := w.rl _ hm
  refine ⟨i, y, h1, h2, ⟨?_, h4, h3, ?_, ?_, ?_⟩⟩
  · rw [List.length_append, List.length_singleton]
    omega
  · intro t ht
    rcases List.mem_append.mp ht with q | q
    · exact w3 t q
    · exact R.sy t (List.mem_cons_of_mem _ q)
  · have := R.xl
    rw [List.length_append, List.length_append, List.length_singleton]
    rw [List.length_cons] at this
    have w2 : y.length ≤ 8 := w2
    omega
  · rw [R.eq]
    have e : 513 - told.length = (513 - (told ++ [i]).length) + 1 := by
      rw [List.length_append, List.length_singleton]
      omega
    rw [e]
    have e2 : takes g (known g) a (513 - (told ++ [i]).length + 1) (s :: r) = (takes g (known g) a (513 - (told ++ [i]).length) (y ++ r)).map fun (q : List Nat × List Nat) => (i :: q.1, q.2) := by
      rw [takes]
      rw [if_neg (by omega), h1]
      have e3 : g.rules.getD i (0, []) = (s - g.ts, y) := by
        rw [List.getD_eq_getElem?_getD, h2]
        rfl
      show Option.map _ (takes g (known g) a (513 - (told ++ [i]).length) ((g.rules.getD i (0, [])).2 ++ r)) = _
      rw [e3]
    rw [e2, Option.map_map]
    congr 1
    funext q
    simp
theorem Run.much {g : Gram} {a : Nat} {x0 told x : List Nat} (R : Run g a x0 told x) (ht : ¬ told.length ≤ 512) : takes g (known g) a 513 x0 = none := by
  have e : 513 - told.length = 0 := by omega
  rw [R.eq, e]
  rfl
theorem Run.endE {g : Gram} {a : Nat} {x0 told : List Nat} (R : Run g a x0 told []) (ht : told.length ≤ 512) : a = g.ts ∧ takes g (known g) a 513 x0 = some (told, []) := by
  constructor
  · rcases R.ex with h | h
    · cases h
    · exact h.2
  · have e : 513 - told.length = (512 - told.length) + 1 := by omega
    rw [R.eq, e, takes]
    simp
theorem Run.endT {g : Gram} {a s : Nat} {x0 told r : List Nat} (R : Run g a x0 told (s :: r)) (ht : told.length ≤ 512) (hs : s < g.ts) : a = s ∧ takes g (known g) a 513 x0 = some (told, r) := by
  have ha : a = s := by
    rcases R.ex with h | h
    · rcases h with ⟨_, h⟩ | ⟨h, _⟩
      · exact h
      · omega
    · have := (AllNt_cons.mp h.1).1.1
      omega
  refine ⟨ha, ?_⟩
  have e : 513 - told.length = (512 - told.length) + 1 := by omega
  rw [R.eq, e, takes, if_pos hs, if_pos ha.symm]
  simp
/-! ### what is expected -/
def expMask (t : Nat) (nl : List Bool) (fs : List Nat) (x : List Nat) : Nat := if rowSettles t nl false x = true then rowFirst t nl fs x ||| 2 ^ t else rowFirst t nl fs x
theorem expMask_bit {g : Gram} {nl : List Bool} (hn : MkSet g.nts nl (nulls g)) {fs : List Nat} (hf : BtSets g.nts fs (firsts g)) {x : List Nat} {a : Nat} : (expMask g.ts nl fs x).testBit a = true ↔ Exp g x a := by
  unfold expMask Exp
  have e1 : (rowFirst g.ts nl fs x).testBit a = true ↔ _ := rowFirst_bit.trans (fr_marks hn hf)
  have e2 : rowSettles g.ts nl false x = true ↔ _ := rowSettles_false.trans (allNt_marks hn)
  by_cases h : rowSettles g.ts nl false x = true
  · rw [if_pos h, or_bit, e1, testBit_two]
    exact or_congr Iff.rfl ⟨fun z => ⟨e2.mp h, z⟩, fun z => z.2⟩
  · rw [if_neg h, e1]
    exact ⟨.inl, fun z => z.elim id (fun z => absurd (e2.mpr z.1) h)⟩
theorem exp_if {g : Gram} {x : List Nat} {a : Nat} : (if a = g.ts then allIn g (known g).e x else (firstRow g (known g).e (known g).f x).contains a) = true ↔ Exp g x a := by
  by_cases h : a = g.ts
  · rw [if_pos h]
    show allIn g (nulls g) x = true ↔ _
    rw [allIn_iff]
    exact ⟨fun z => .inr ⟨z, h⟩, fun z => z.elim (fun z => absurd (fr_lt z) (by omega)) (fun z => z.1)⟩
  · rw [if_neg h]
    show (firstRow g (nulls g) (firsts g) x).contains a = true ↔ _
    rw [List.contains_iff_mem, mem_firstRow]
    exact ⟨.inl, fun z => z.elim id (fun z => absurd z.2 h)⟩
theorem mem_expected {g : Gram} {x : List Nat} {a : Nat} : a ∈ expected g (known g) x ↔ Exp g x a := by
  unfold expected
  rw [List.mem_filter, exp_if, List.mem_range]
  exact ⟨fun z => z.2, fun z => ⟨Nat.lt_succ_of_le z.le, z⟩⟩
/-- the tokens of a mask, rising -/
def bits (m t : Nat) : List Nat := (List.range (t + 1)).filter fun a => m.testBit a
theorem bits_expected {g : Gram} {nl : List Bool} (hn : MkSet g.nts nl (nulls g)) {fs : List Nat} (hf : BtSets g.nts fs (firsts g)) (x : List Nat) : bits (expMask g.ts nl fs x) g.ts = expected g (known g) x := by
  unfold bits expected
  refine List.filter_congr fun a _ => ?_
  rw [Bool.eq_iff_iff]
  exact (expMask_bit hn hf).trans exp_if.symm
theorem bits_sorted {g : Gram} {fs : List Nat} {S : Sets} (h : BtSets g.nts fs S) (n : Nat) : bits (fs.getD n 0) g.ts = sorted_ g (setOf S n) := by
  unfold bits sorted_
  refine List.filter_congr fun a _ => ?_
  rw [Bool.eq_iff_iff, List.contains_iff_mem]
  exact h.2 n a
theorem bits_len (m t : Nat) : (bits m t).length ≤ t + 1 := by
  unfold bits
  refine Nat.le_trans (List.length_filter_le _ _) ?_
  rw [List.length_range]
  exact Nat.le_refl _
end Gm

set_option Elab.async false
set_option linter.all false
set_option maxRecDepth 100000
set_option maxHeartbeats 4000000
namespace Gm
open Ll
/-! ### calls as lists of numbers -/
def cn (x : List Nat) : List Int := x.map fun (n : Nat) => (n : Int)
def enc : Call → List (List Int)
  | .begin_ n t => [[0, (n : Int), (t : Int)]]
  | .rule a x => [[1, (a : Int)], cn x]
  | .close => [[2]]
  | .empty_ a => [[3, (a : Int)]]
  | .first a => [[4, (a : Int)]]
  | .follow a => [[5, (a : Int)]]
  | .choose a b => [[6, (a : Int), (b : Int)]]
  | .conflicts => [[7]]
  | .start => [[8]]
  | .next a => [[9, (a : Int)]]
  | .expected => [[10]]
def flat : Call → List Nat
  | .begin_ n t => [0, n, t]
  | .rule a x => 1 :: a :: x.length :: x
  | .close => [2]
  | .empty_ a => [3, a]
  | .first a => [4, a]
  | .follow a => [5, a]
  | .choose a b => [6, a, b]
  | .conflicts => [7]
  | .start => [8]
  | .next a => [9, a]
  | .expected => [10]
theorem cn_nats {l : List Int} (h : ∀ z ∈ l, 0 ≤ z) : cn (LlNeutral.nats l) = l := by
  unfold cn LlNeutral.nats
  rw [List.map_map]
  conv => rhs; rw [← List.map_id l]
  refine List.map_congr_left fun z hz => ?_
  show ((z.toNat : Nat) : Int) = z
  have := h z hz
  omega
theorem nats_cn (x : List Nat) : LlNeutral.nats (cn x) = x := by
  unfold cn LlNeutral.nats
  rw [List.map_map]
  conv => rhs; rw [← List.map_id x]
  refine List.map_congr_left fun z hz => ?_
  show ((z : Int)).toNat = z
  omega
theorem natural_eq {z : Int} {b : Nat} (h : LlNeutral.natural z b = true) : z = ((z.toNat : Nat) : Int) := by
  unfold LlNeutral.natural at h
  rw [Bool.and_eq_true] at h
  have := of_decide_eq_true h.1
  omega
/-- the eleven forms of a call -/
theorem forms {c : List (List Int)} (h : PyFlat.okCall PyWqamag.shape c) : (∃ n t, c = [[0, n, t]]) ∨ (∃ a r, c = [[1, a], r]) ∨ c = [[2]] ∨ (∃ a, c = [[3, a]]) ∨ (∃ a, c = [[4, a]]) ∨ (∃ a, c = [[5, a]]) ∨ (∃ a b, c = [[6, a, b]]) ∨ c = [[7]] ∨ c = [[8]] ∨ (∃ a, c = [[9, a]]) ∨ c = [[10]] := by
  obtain ⟨p, a, xs, rfl, h⟩ := h
  have l0 : ∀ {α : Type} {l : List α}, 0 = l.length → l = [] := fun e => List.eq_nil_of_length_eq_zero e.symm
  have l1 : ∀ {α : Type} {l : List α}, 1 = l.length → ∃ x, l = [x] := fun {α l} e => List.length_eq_one_iff.mp e.symm
  have l2 : ∀ {l : List Int}, 2 = l.length → ∃ x y, l = [x, y] := by
    intro l e
    cases l with
    | nil => cases e
    | cons x r =>
      obtain ⟨y, rfl⟩ := l1 (Nat.succ.inj e)
      exact ⟨x, y, rfl⟩
  unfold PyWqamag.shape at h
  by_cases e : p = 0
  · rw [if_pos e] at h
    obtain ⟨h1, h2⟩ := Prod.mk.inj (Option.some.inj h)
    obtain ⟨x, y, rfl⟩ := l2 h1
    exact .inl ⟨x, y, by rw [e, l0 h2]⟩
  rw [if_neg e] at h
  by_cases e : p = 1
  · rw [if_pos e] at h
    obtain ⟨h1, h2⟩ := Prod.mk.inj (Option.some.inj h)
    obtain ⟨x, rfl⟩ := l1 h1
    obtain ⟨r, rfl⟩ := l1 h2
    exact .inr (.inl ⟨x, r, by rw [e]⟩)
  rw [if_neg e] at h
  by_cases e : p = 2
  · rw [if_pos e] at h
    obtain ⟨h1, h2⟩ := Prod.mk.inj (Option.some.inj h)
    exact .inr (.inr (.inl (by rw [e, l0 h1, l0 h2])))
  rw [if_neg e] at h
  by_cases e : p = 3
  · rw [if_pos e] at h
    obtain ⟨h1, h2⟩ := Prod.mk.inj (Option.some.inj h)
    obtain ⟨x, rfl⟩ := l1 h1
    exact .inr (.inr (.inr (.inl ⟨x, by rw [e, l0 h2]⟩)))
  rw [if_neg e] at h
  by_cases e : p = 4
  · rw [if_pos e] at h
    obtain ⟨h1, h2⟩ := Prod.mk.inj (Option.some.inj h)
    obtain ⟨x, rfl⟩ := l1 h1
    exact .inr (.inr (.inr (.inr (.inl ⟨x, by rw [e, l0 h2]⟩))))
  rw [if_neg e] at h
  by_cases e : p = 5
  · rw [if_pos e] at h
    obtain ⟨h1, h2⟩ := Prod.mk.inj (Option.some.inj h)
    obtain ⟨x, rfl⟩ := l1 h1
    exact .inr (.inr (.inr (.inr (.inr (.inl ⟨x, by rw [e, l0 h2]⟩)))))
  rw [if_neg e] at h
  by_cases e : p = 6
  · rw [if_pos e] at h
    obtain ⟨h1, h2⟩ := Prod.mk.inj (Option.some.inj h)
    obtain ⟨x, y, rfl⟩ := l2 h1
    exact .inr (.inr (.inr (.inr (.inr (.inr (.inl ⟨x, y, by rw [e, l0 h2]⟩))))))
  rw [if_neg e] at h
  by_cases e : p = 7
  · rw [if_pos e] at h
    obtain ⟨h1, h2⟩ := Prod.mk.inj (Option.some.inj h)
    exact .inr (.inr (.inr (.inr (.inr (.inr (.inr (.inl (by rw [e, l0 h1, l0 h2]))))))))
  rw [if_neg e] at h
  by_cases e : p = 8
  · rw [if_pos e] at h
    obtain ⟨h1, h2⟩ := Prod.mk.inj (Option.some.inj h)
    exact .inr (.inr (.inr (.inr (.inr (.inr (.inr (.inr (.inl (by rw [e, l0 h1, l0 h2])))))))))
  rw [if_neg e] at h
  by_cases e : p = 9
  · rw [if_pos e] at h
    obtain ⟨h1, h2⟩ := Prod.mk.inj (Option.some.inj h)
    obtain ⟨x, rfl⟩ := l1 h1
    exact .inr (.inr (.inr (.inr (.inr (.inr (.inr (.inr (.inr (.inl ⟨x, by rw [e, l0 h2]⟩)))))))))
  rw [if_neg e] at h
  by_cases e : p = 10
  · rw [if_pos e] at h
    obtain ⟨h1, h2⟩ := Prod.mk.inj (Option.some.inj h)
    exact .inr (.inr (.inr (.inr (.inr (.inr (.inr (.inr (.inr (.inr (by rw [e, l0 h1, l0 h2]))))))))))
  rw [if_neg e] at h
  cases h
theorem asked_enc {c : List (List Int)} (hf : PyFlat.okCall PyWqamag.shape c) (h : LlNeutral.asked1 (PyWqamag.whole c) = true) : ∃ x, c = enc x ∧ PyWqamag.whole c = c := by
  rcases forms hf with ⟨n, t, rfl⟩ | ⟨a, x, rfl⟩ | rfl | ⟨a, rfl⟩ | ⟨a, rfl⟩ | ⟨a, rfl⟩ | ⟨a, t, rfl⟩ | rfl | rfl | ⟨a, rfl⟩ | rfl
  · have h : (LlNeutral.natural n 32 && LlNeutral.natural t 32) = true := h
    rw [Bool.and_eq_true] at h
    exact ⟨.begin_ n.toNat t.toNat, by show [[0, n, t]] = [[0, ((n.toNat : Nat) : Int), ((t.toNat : Nat) : Int)]]; rw [← natural_eq h.1, ← natural_eq h.2], rfl⟩
  · have h : (LlNeutral.natural a 32 && LlNeutral.long x 300 0 4294967295) = true := h
    rw [Bool.and_eq_true] at h
    refine ⟨.rule a.toNat (LlNeutral.nats x), ?_, rfl⟩
    show [[1, a], x] = [[1, ((a.toNat : Nat) : Int)], cn (LlNeutral.nats x)]
    rw [← natural_eq h.1, cn_nats]
    intro z hz
    have h2 := h.2
    unfold LlNeutral.long at h2
    rw [Bool.and_eq_true, List.all_eq_true] at h2
    have h3 := h2.2 z hz
    rw [Bool.and_eq_true] at h3
    exact of_decide_eq_true h3.1
  · exact ⟨.close, rfl, rfl⟩
  · have h : LlNeutral.natural a 32 = true := h
    exact ⟨.empty_ a.toNat, by show [[3, a]] = [[3, ((a.toNat : Nat) : Int)]]; rw [← natural_eq h], rfl⟩
  · have h : LlNeutral.natural a 32 = true := h
    exact ⟨.first a.toNat, by show [[4, a]] = [[4, ((a.toNat : Nat) : Int)]]; rw [← natural_eq h], rfl⟩
  · have h : LlNeutral.natural a 32 = true := h
    exact ⟨.follow a.toNat, by show [[5, a]] = [[5, ((a.toNat : Nat) : Int)]]; rw [← natural_eq h], rfl⟩
  · have h : (LlNeutral.natural a 32 && LlNeutral.natural t 32) = true := h
    rw [Bool.and_eq_true] at h
    exact ⟨.choose a.toNat t.toNat, by show [[6, a, t]] = [[6, ((a.toNat : Nat) : Int), ((t.toNat : Nat) : Int)]]; rw [← natural_eq h.1, ← natural_eq h.2], rfl⟩
  · exact ⟨.conflicts, rfl, rfl⟩
  · exact ⟨.start, rfl, rfl⟩
  · have h : LlNeutral.natural a 32 = true := h
    exact ⟨.next a.toNat, by show [[9, a]] = [[9, ((a.toNat : Nat) : Int)]]; rw [← natural_eq h], rfl⟩
  · exact ⟨.expected, rfl, rfl⟩
theorem tn (n : Nat) : ((n : Int)).toNat = n := Int.toNat_natCast n
theorem read_enc (x : Call) : LlNeutral.read (enc x) = some x := by
  cases x with
  | begin_ n t =>
    show some (Call.begin_ ((n : Int)).toNat ((t : Int)).toNat) = _
    rw [tn, tn]
  | rule a x =>
    show some (Call.rule ((a : Int)).toNat (LlNeutral.nats (cn x))) = _
    rw [tn, nats_cn]
  | close => rfl
  | empty_ a =>
    show some (Call.empty_ ((a : Int)).toNat) = _
    rw [tn]
  | first a =>
    show some (Call.first ((a : Int)).toNat) = _
    rw [tn]
  | follow a =>
    show some (Call.follow ((a : Int)).toNat) = _
    rw [tn]
  | choose a b =>
    show some (Call.choose ((a : Int)).toNat ((b : Int)).toNat) = _
    rw [tn, tn]
  | conflicts => rfl
  | start => rfl
  | next a =>
    show some (Call.next ((a : Int)).toNat) = _
    rw [tn]
  | expected => rfl
theorem put_enc (x : Call) : PyFlat.put1 (enc x) = cn (flat x) := by
  cases x with
  | rule a x =>
    show [1, (a : Int)] ++ ((((cn x).length : Nat) : Int) :: cn x ++ []) = 1 :: (a : Int) :: (x.length : Int) :: cn x
    rw [List.append_nil]
    show 1 :: (a : Int) :: (((cn x).length : Nat) : Int) :: cn x = _
    unfold cn
    rw [List.length_map]
  | _ => rfl
/-- the answers to calls one after another, each with its length ahead -/
def run : State → List Call → List Int
  | _, [] => []
  | s, x :: r => (((LlNeutral.shown (step s x).2).length : Int) :: LlNeutral.shown (step s x).2) ++ run (step s x).1 r
theorem run_eq : ∀ (xs : List Call) (s : State), PyFlat.told (PyFlat.played LlNeutral.step s (xs.map enc)) = run s xs
  | [], _ => rfl
  | x :: r, s => by
    have ih := run_eq r (step s x).1
    have e : LlNeutral.step s (enc x) = ((step s x).1, LlNeutral.shown (step s x).2) := by
      unfold LlNeutral.step
      rw [read_enc]
    show PyFlat.told (PyFlat.played LlNeutral.step s (enc x :: r.map enc)) = _
    unfold PyFlat.played PyFlat.told
    rw [e, List.flatMap_cons]
    unfold PyFlat.told at ih
    rw [ih]
    rfl
theorem all_enc : ∀ {ds : List (List (List Int))}, (∀ c ∈ ds, PyFlat.okCall PyWqamag.shape c) → (ds.map PyWqamag.whole).all LlNeutral.asked1 = true → ∃ xs : List Call, ds = xs.map enc ∧ ds.map PyWqamag.whole = ds
  | [], _, _ => ⟨[], rfl, rfl⟩
  | c :: ds, hok, h => by
    rw [List.map_cons, List.all_cons, Bool.and_eq_true] at h
    obtain ⟨x, e, w⟩ := asked_enc (hok c (by simp)) h.1
    obtain ⟨xs, e2, w2⟩ := all_enc (fun d hd => hok d (List.mem_cons_of_mem _ hd)) h.2
    exact ⟨x :: xs, by rw [e2, e]; rfl, by rw [List.map_cons, w, w2]⟩
theorem cn_app (x y : List Nat) : cn (x ++ y) = cn x ++ cn y := by
  unfold cn
  rw [List.map_append]
theorem put_all : ∀ xs : List Call, PyFlat.put (xs.map enc) = cn (xs.flatMap flat)
  | [] => rfl
  | x :: xs => by
    show PyFlat.put1 (enc x) ++ PyFlat.put (xs.map enc) = _
    rw [put_enc, put_all xs, List.flatMap_cons, cn_app]
/-- what is asked: the list is that of some calls, and what is due is their answers -/
theorem asked_run {l : List Int} (h : PyWqamag.answers_asked l = true) : ∃ xs : List Call, xs.length ≤ 400 ∧ l = cn (xs.flatMap flat) ∧ PyWqamag.answers l = run Ll.start xs := by
  unfold PyWqamag.answers_asked at h
  unfold PyWqamag.answers
  cases e : PyWqamag.calls l with
  | none => rw [e] at h; cases h
  | some cs =>
    rw [e] at h
    have h : (PyFlat.atMost 400 cs && LlNeutral.asked cs) = true := h
    rw [Bool.and_eq_true] at h
    obtain ⟨h1, h2⟩ := h
    unfold PyFlat.atMost at h1
    unfold LlNeutral.asked at h2
    rw [Bool.and_eq_true] at h2
    unfold PyWqamag.calls at e
    cases e2 : PyFlat.calls PyWqamag.shape l.length l with
    | none => rw [e2] at e; cases e
    | some ds =>
      rw [e2] at e
      have e : some (ds.map PyWqamag.whole) = some cs := e
      have e := Option.some.inj e
      obtain ⟨p1, p2⟩ := PyFlat.put_calls _ _ _ e2
      rw [← e] at h1 h2 ⊢
      obtain ⟨xs, e4, e5⟩ := all_enc p2 h2.1
      rw [e5] at h1 ⊢
      refine ⟨xs, ?_, ?_, ?_⟩
      · have := of_decide_eq_true h1
        rw [e4, List.length_map] at this
        exact this
      · rw [← put_all, ← e4]
        exact p1
      · show PyFlat.told (PyFlat.played LlNeutral.step LlNeutral.start ds) = _
        rw [e4]
        exact run_eq xs _
/-! ### how long an answer is -/
theorem takes_len {g : Gram} {k : Known} {a : Nat} : ∀ (f : Nat) (x l y : List Nat), takes g k a f x = some (l, y) → l.length < f
  | 0, _, _, _, h => by cases h
  | f + 1, x, l, y, h => by
    unfold takes at h
    split at h
    · cases h
      simp
    · rename_i s r
      by_cases hs : s < g.ts
      · rw [if_pos hs] at h
        by_cases e : s = a
        · rw [if_pos e] at h
          cases h
          simp
        · rw [if_neg e] at h
          cases h
      · rw [if_neg hs] at h
        split at h
        · cases h
        · rename_i i _ _
          cases e : takes g k a f ((g.rules.getD i (0, [])).2 ++ r) with
          | none => rw [e] at h; cases h
          | some q =>
            rw [e] at h
            have := takes_len f _ q.1 q.2 e
            cases h
            simp
            omega
theorem sorted_len (g : Gram) (l : List Nat) : (sorted_ g l).length ≤ g.ts + 1 := by
  unfold sorted_
  refine Nat.le_trans (List.length_filter_le _ _) ?_
  rw [List.length_range]
  exact Nat.le_refl _
theorem expected_len (g : Gram) (k : Known) (x : List Nat) : (expected g k x).length ≤ g.ts + 1 := by
  unfold expected
  refine Nat.le_trans (List.length_filter_le _ _) ?_
  rw [List.length_range]
  exact Nat.le_refl _
theorem no_len (s : State) (n : Nat) : (LlNeutral.shown (no s n).2).length ≤ 9000 := by
  show 1 ≤ 9000
  omega
theorem told_len {s : State} {l : List Nat} (h : l.length ≤ 8999) : (LlNeutral.shown ((s, Answer.told l) : State × Answer).2).length ≤ 9000 := by
  show (0 :: l.map fun (i : Nat) => (i : Int)).length ≤ 9000
  rw [List.length_cons, List.length_map]
  omega
theorem asks_len {s : State} {n : Nat} {l : List Nat} (h : l.length ≤ 8999) : (LlNeutral.shown (asks s n l).2).length ≤ 9000 := by
  unfold asks
  split
  · exact no_len s 3
  · split
    · exact no_len s 1
    · exact told_len h
theorem step_len {s : State} (w : WF s.g) (x : Call) : (LlNeutral.shown (step s x).2).length ≤ 9000 := by
  have ht := w.t63
  cases x with
  | begin_ n t =>
    unfold step
    simp only
    split
    · exact no_len s 1
    · exact told_len (by simp)
  | rule n x =>
    unfold step
    simp only
    split
    · exact no_len s 3
    · split
      · exact no_len s 1
      · split
        · exact no_len s 2
        · exact told_len (by simp)
  | close =>
    unfold step
    simp only
    split
    · exact no_len s 3
    · split
      · show 2 ≤ 9000
        omega
      · exact told_len (by simp)
  | empty_ n => exact asks_len (by simp)
  | first n => exact asks_len (by have := sorted_len s.g (setOf (firsts s.g) n); omega)
  | follow n => exact asks_len (by have := sorted_len s.g (setOf (follows s.g) n); omega)
  | choose n a =>
    unfold step
    simp only
    split
    · exact no_len s 3
    · split
      · exact no_len s 1
      · split
        · exact no_len s 4
        · exact told_len (by simp)
        · exact no_len s 5
  | conflicts =>
    unfold step
    simp only
    split
    · exact no_len s 3
    · refine told_len ?_
      rw [conflicts_flat]
      have a1 := cfAll_len (fun n a => choices s.g (known s.g) n a) (s.g.ts + 1) s.g.nts
      have a3 : s.g.nts * (4 * (s.g.ts + 1)) ≤ 32 * (4 * 64) := Nat.mul_le_mul w.n32 (by omega)
      omega
  | start =>
    unfold step
    simp only
    split
    · exact no_len s 3
    · split
      · exact no_len s 5
      · exact told_len (by simp)
  | next a =>
    unfold step
    simp only
    split
    · exact no_len s 3
    · split
      · exact no_len s 1
      · split
        · exact no_len s 4
        · split
          · exact no_len s 2
          · rename_i l y e
            split
            · exact no_len s 2
            · have := takes_len _ _ _ _ e
              have : l.length < 513 := this
              exact told_len (by omega)
  | expected =>
    unfold step
    simp only
    split
    · exact no_len s 3
    · exact told_len (by have := expected_len s.g (known s.g) (by assumption); omega)
end Gm

set_option Elab.async false
set_option linter.all false
set_option maxRecDepth 100000
set_option maxHeartbeats 4000000
namespace Rv
open PySem PyProof.Rows
theorem owner_rvd : Manifest.owners.lookup (String.ofList ['d', 'e', 's', 'r', 'e', 'v', 'e', 'r'].reverse) = some Manifest.sig_reversed := by kernel_rfl
theorem slot_rvd_next : Slot "reversed" "__next__" "reversed.__next__" :=
  .of (owner := "reversed") (n := "__next__") (by rw [typeLookup_type, builtinLookup_eq_fast]; kernel_rfl) (by decide +kernel) (by decide +kernel) (by decide +kernel)
    (by first | exact .inl (by decide +kernel) | exact .inr (by decide +kernel)) (by rw [isSubtype_type]; kernel_rfl)
theorem entry_rvd_next : entryFor table "reversed.__next__" = some Builtin.«reversed.__next__» := entryFor_of_tree (by kernel_rfl)
theorem args_rvd_next_1 (a : Value) : argsOk "reversed.__next__" ⟨[a], []⟩ := by
  unfold argsOk; rw [signature?_of (id := "reversed.__next__") (n := ['_', '_', 't', 'x', 'e', 'n', '_', '_']) (o := ['d', 'e', 's', 'r', 'e', 'v', 'e', 'r']) (by kernel_rfl) owner_rvd]; kernel_rfl
theorem slot_rvd_iter : Slot "reversed" "__iter__" "reversed.__iter__" :=
  .of (owner := "reversed") (n := "__iter__") (by rw [typeLookup_type, builtinLookup_eq_fast]; kernel_rfl) (by decide +kernel) (by decide +kernel) (by decide +kernel)
    (by first | exact .inl (by decide +kernel) | exact .inr (by decide +kernel)) (by rw [isSubtype_type]; kernel_rfl)
theorem args_rvd_iter_1 (a : Value) : argsOk "reversed.__iter__" ⟨[a], []⟩ := by
  unfold argsOk; rw [signature?_of (id := "reversed.__iter__") (n := ['_', '_', 'r', 'e', 't', 'i', '_', '_']) (o := ['d', 'e', 's', 'r', 'e', 'v', 'e', 'r']) (by kernel_rfl) owner_rvd]; kernel_rfl
theorem entry_rvd_iter : entryFor table "reversed.__iter__" = some Builtin.«dict_keyiterator.__iter__» :=
  entryFor_alias (id' := "dict_keyiterator.__iter__") (by kernel_rfl) (by first | rfl | decide +kernel | (unfold String.splitOn; simp +decide [String.splitOnAux])) (by decide +kernel) (by kernel_rfl)
theorem slot_rvd_init : Slot "reversed" "__init__" "object.__init__" :=
  .of (owner := "object") (n := "__init__") (by rw [typeLookup_type, builtinLookup_eq_fast]; kernel_rfl) (by decide +kernel) (by decide +kernel) (by decide +kernel)
    (by first | exact .inl (by decide +kernel) | exact .inr (by decide +kernel)) (by rw [isSubtype_type]; kernel_rfl)
theorem called_rvd : TypeCalled "reversed" "reversed.__new__" "object.__init__" :=
  ⟨by decide +kernel, by decide +kernel, ⟨_, _, F.mro_reversed⟩, madeBy_type F.mro_reversed F.lookup_reversed_new (by decide +kernel), by decide +kernel, by rw [isSubtype_type]; kernel_rfl, slot_rvd_init⟩
theorem look_tuple_rev : typeLookup (.type "tuple") "__reversed__" = pure none := by rw [typeLookup_type, builtinLookup_eq_fast]; kernel_rfl
theorem sub_tuple_dict : isSubtype (.type "tuple") (.type "dict") = pure false := by rw [isSubtype_type]; kernel_rfl
def rvdObj (l : Addr) (i : Int) : Obj := { cls := .type "reversed", data := .fields #[.ref l, rawInt i] }
def IsRvd (h : Heap) (a l : Addr) (i : Int) : Prop := ∃ o, h.get? a = some o ∧ o.cls = .type "reversed" ∧ o.data = .fields #[.ref l, rawInt i]
section
variable {prog : Program} {w : World} {A : Around} {E : Value → Shared → Prop} {s : Shared}
theorem IsRvd.typeIs {a l : Addr} {i : Int} (x : IsRvd s.heap a l i) : s.TypeIs (.ref a) "reversed" := let ⟨o, ho, hc, _⟩ := x; ⟨o, ho, hc⟩
theorem IsRvd.at {h h' : Heap} {a l : Addr} {i : Int} (x : IsRvd h a l i) (e : ∀ o, h.get? a = some o → h'.get? a = some o) : IsRvd h' a l i := let ⟨o, ho, r⟩ := x; ⟨o, e _ ho, r⟩

theorem code_rvd_new {l : Addr} {items : Array Value} {Q₁ : Value → Shared → Prop} (hl : IsTup s.heap l items) (hz : (items.size : Int) < 2 ^ 63)
    (h : ∀ t, Q₁ (.ref s.heap.objs.size) { s with heap := s.heap.push (rvdObj l ((items.size : Int) - 1)), toks := t }) :
    codeAny (model prog w) A (.call (.builtin "reversed.__new__") ⟨[.type "reversed", .ref l], []⟩) (wants Q₁ E) s := by
  refine codeAny_of_tree ?_
  show wpAny _ A.in1 (do checkBuiltinCall "reversed.__new__" ⟨[.type "reversed", .ref l], []⟩; again (.builtin "reversed.__new__" ⟨[.type "reversed", .ref l], []⟩)) _ _ s
  refine wpAny_bind (wpAny_of_eq (F.newCall_reversed_1 _) (wpAny_pure ⟨plainId_quiet F.plain_reversed_new _, codeAny_builtin F.entry_reversed_new ?_⟩))
  rw [Around.under_plainId F.plain_reversed_new _]
  unfold Builtin.«reversed.__new__»
  refine wpAny_bind (wpAny_of_eq (newClass_reversed _) ?_)
  try dsimp only
  refine wpAny_bind (wpAny_of_eq (a := ()) (by first | rfl | kernel_rfl) ?_)
  refine wpAny_bind (wpAny_of_eq (a := ()) (by first | rfl | kernel_rfl) ?_)
  try dsimp only
  refine wpAny_bind (wpAny_specialOf hl.typeIs look_tuple_rev ?_)
  try dsimp only
  refine wpAny_bind (wpAny_bind (wpAny_isInstance hl.typeIs sub_tuple_dict ?_))
  rw [if_neg Bool.false_ne_true]
  refine wpAny_bind (wpAny_specialOf hl.typeIs F.slot_tuple_getitem.lookup ?_)
  dsimp only
  rw [if_pos (by decide)]
  refine wpAny_pure ?_
  rw [if_neg (by decide)]
  refine wpAny_bind (len_tuple hl hz ?_)
  refine wpAny_bind (wpAny_pure ?_)
  dsimp only
  show wpAny _ _ (newObj (.type "reversed") (.fields #[.ref l, rawInt ((items.size : Int) - 1)]) >>= _) _ _ _
  refine wpAny_bind (wpAny_newObj_type ?_ (by size_fits))
  exact wpAny_pure (h _)
theorem call_rvd {l : Addr} {items : Array Value} {Q : Value → Shared → Prop} (hl : IsTup s.heap l items) (hz : (items.size : Int) < 2 ^ 63)
    (h : ∀ t, Q (.ref s.heap.objs.size) { s with heap := s.heap.push (rvdObj l ((items.size : Int) - 1)), toks := t }) : wpAny (model prog w) A (call (.type "reversed") [.ref l]) Q E s := by
  refine callType_codes (Q₁ := fun obj s₁ => obj = .ref s.heap.objs.size ∧ ∃ t, s₁ = { s with heap := s.heap.push (rvdObj l ((items.size : Int) - 1)), toks := t }) called_rvd (F.typeCall_reversed_1 _) F.entry_object_init (code_rvd_new hl hz fun t => ⟨rfl, t, rfl⟩) ?_
  rintro obj s₁ ⟨rfl, t, rfl⟩
  have hT : Shared.TypeIs { s with heap := s.heap.push (rvdObj l ((items.size : Int) - 1)), toks := t } (.ref s.heap.objs.size) "reversed" := ⟨_, Heap.get?_push_size _ rfl, rfl⟩
  refine ⟨hT, F.args_object_init_2 _ _, ?_⟩
  have hli := slot_rvd_init.lookup
  have hmd := F.made_reversed
  repeat (any_goals (first | assumption | wp_step))
  exact ⟨rfl, h t⟩
theorem next_item {it l : Addr} {i : Nat} {items : Array Value} {x : Value} {Q : Option Value → Shared → Prop} (hit : IsRvd s.heap it l (i : Int)) (hl : IsTup s.heap l items) (hx : items[i]? = some x) (hz : (items.size : Int) < 2 ^ 63)
    (hQ : ∀ h' t, IsRvd h' it l ((i : Int) - 1) → Heap.SameBut it s.heap h' → Q (some x) { s with heap := h', toks := t }) : wpAny (model prog w) A (pyNext (.ref it)) Q E s := by
  obtain ⟨o, ho, hc, hd⟩ := id hit
  have hi : i < items.size := (Array.getElem?_eq_some_iff.mp hx).1
  unfold pyNext
  refine wpAny_bind (wpAny_attempt (wpAny_callSpecial?_slot (name := Str.ofString "__next__") hit.typeIs slot_rvd_next
    (wpAny_call_entry slot_rvd_next hit.typeIs entry_rvd_next ?_ (args_rvd_next_1 _))))
  unfold Builtin.«reversed.__next__»
  refine wpAny_bind (wpAny_of_eq (a := (Value.ref it, [])) rfl ?_)
  try dsimp only
  refine wpAny_bind (wpAny_field ho hd (x := .ref l) rfl ?_)
  refine wpAny_bind (wpAny_field ho hd (x := rawInt (i : Int)) rfl ?_)
  show wpAny _ _ (if (i : Int) < 0 then _ else _) _ _ s
  rw [if_neg (by omega)]
  refine wpAny_bind (wpAny_specialOf hl.typeIs F.slot_tuple_getitem.lookup ?_)
  rw [if_neg (by decide)]
  refine wpAny_bind (wpAny_mkInt ?_)
  refine wpAny_bind (wpAny_attempt (getItem_tuple (j := i) hl (by omega) (by omega) (by unfold seqIndex?; simp; omega) hx ?_))
  dsimp only
  refine wpAny_bind (wpAny_field ho hd (x := rawInt (i : Int)) rfl ?_)
  show wpAny _ _ (setField (.ref it) 1 (rawInt ((i : Int) - 1)) >>= fun _ => ret x) _ _ _
  refine wpAny_bind (wpAny_setField ho hd (by simp) ?_)
  refine wpAny_pure ⟨x, rfl, wpAny_pure (hQ _ _ ?_ (Heap.SameBut.update ..))⟩
  exact ⟨_, Heap.get?_update_self _ ho (Obj.isFreed_of_fields (Obj.data_mapFields hd _)), (Obj.cls_mapFields ..).trans hc, by
    rw [Obj.data_mapFields hd]; simp⟩
theorem next_end {it l : Addr} {Q : Option Value → Shared → Prop} (hh : A.handled = none) (hit : IsRvd s.heap it l (-1))
    (hQ : ∀ h', Heap.ExtBut it s.heap h' → Q none { s with heap := h' }) : wpAny (model prog w) A (pyNext (.ref it)) Q E s := by
  obtain ⟨o, ho, hc, hd⟩ := id hit
  unfold pyNext
  refine wpAny_bind (wpAny_attempt (wpAny_callSpecial?_slot (name := Str.ofString "__next__") hit.typeIs slot_rvd_next
    (wpAny_call_entry slot_rvd_next hit.typeIs entry_rvd_next ?_ (args_rvd_next_1 _))))
  unfold Builtin.«reversed.__next__»
  refine wpAny_bind (wpAny_of_eq (a := (Value.ref it, [])) rfl ?_)
  try dsimp only
  refine wpAny_bind (wpAny_field ho hd (x := .ref l) rfl ?_)
  refine wpAny_bind (wpAny_field ho hd (x := rawInt (-1)) rfl ?_)
  show wpAny _ _ (if (-1 : Int) < 0 then _ else _) _ _ s
  rw [if_pos (by decide)]
  refine wpAny_bind (wpAny_rule ?_)
  refine wpAny_bind (wpAny_bind (wpAny_setField ho hd (by simp) ?_))
  have ho2 : ((s.heap.update it (Obj.mapFields (·.setIfInBounds 1 (rawInt (-1)))))).get? it = some (Obj.mapFields (·.setIfInBounds 1 (rawInt (-1))) o) := Heap.get?_update_self _ ho (Obj.isFreed_of_fields (Obj.data_mapFields hd _))
  refine wpAny_setField ho2 (Obj.data_mapFields hd _) (by simp) ?_
  have ext : Heap.ExtBut it s.heap ((s.heap.update it (Obj.mapFields (·.setIfInBounds 1 (rawInt (-1))))).update it (Obj.mapFields (·.setIfInBounds 0 Value.none))) :=
    (Heap.SameBut.update ..).extBut.trans (Heap.SameBut.update ..).extBut
  first
  | show wpAny _ _ (newExc (.type "StopIteration") [] >>= _) _ _ _
  | (refine wpAny_bind ?_; show wpAny _ _ (newExc (.type "StopIteration") [] >>= _) _ _ _)
  refine wpAny_bind ?_
  simp only [newExc, newTuple]
  refine wpAny_bind (wpAny_newObj_type ?_ (by size_fits))
  refine wpAny_bind (m := firstArgMember _ _) (wpAny_of_eq (a := Value.none) (by first | rfl | (simp only [firstArgMember]; rfl)) ?_)
  refine wpAny_newObj_type ?_ (by size_fits)
  simp only [raiseNew]
  refine wpAny_bind (wpAny_handled ?_)
  first | rw [show A.in1.handled = none from hh] | rw [hh]
  refine wpAny_bind (wpAny_pure (wpAny_throw ?_))
  refine wpAny_bind (wpAny_isInstance (T := "StopIteration") (b := true) ⟨_, Heap.get?_push_size _ rfl, rfl⟩ isSubtype_stop ?_)
  exact wpAny_pure (hQ _ ((ext.push _).push _))
theorem iter_rvd {it l : Addr} {i : Int} {Q : Value → Shared → Prop} (hit : IsRvd s.heap it l i) (h : Q (.ref it) s) : wpAny (model prog w) A (pyIter (.ref it)) Q E s := by
  refine wpAny_pyIter_slot hit.typeIs slot_rvd_iter (wpAny_call_entry slot_rvd_iter hit.typeIs entry_rvd_iter ?_ (args_rvd_iter_1 _))
  show wpAny _ _ (ret (.ref it)) _ _ s
  exact wpAny_pure ⟨_, rfl, "reversed", _, hit.typeIs, slot_rvd_next.lookup, h⟩
end
end Rv

namespace L2
open PySem PySem.Spec PyProof.Rows
/-! ### reversed(tuple) -/
/-- the tuple at a (n items), from its end -/
def Itw (K : PySem.W.Frag) (a : Addr) (n : Nat) : It :=
  ⟨fun i H => i < n ∧ ∃ (xs : List V) (x : V), SqT K H a xs ∧ xs[n - 1 - i]? = some x, fun i H x H' => H' = H ∧ ∀ xs, SqT K H a xs → xs[n - 1 - i]? = some x, fun i _ => n ≤ i⟩
theorem turn_rvd {P : Program} {w : World} {K : PySem.W.Frag} {tg : Expr} (a it : Addr) (n : Nat) : Turn P w K tg (Itw K a n) [it] it (fun i h => i ≤ n ∧ Rv.IsRvd h it a ((n : Int) - 1 - (i : Nat))) where
  mem := by simp
  obj := fun i h st b hb => by
    have e : b = it := by simpa using hb
    subst e
    obtain ⟨_, o, e, c, d⟩ := st
    exact ⟨o, e, fun v z => by rw [d] at z; cases z⟩
  keep := fun i h h' st k => ⟨st.1, st.2.at fun o e => k it (by simp) o e⟩
  item := by
    intro X hP hw hK hc i pins s σ H E I hf st hg
    subst hP hw hK
    obtain ⟨hin, xs, x, hq, hx⟩ := hg
    obtain ⟨its, rv, p, hz⟩ := I.tuple hq
    obtain ⟨u, hu, ru⟩ := rv.get hx
    obtain ⟨f0, f1, f2, f3, f4, f5⟩ := hf it (by simp)
    obtain ⟨_, hit⟩ := st
    have hl := rv.length
    have hn := line63
    have e1 : (n : Int) - 1 - ((i : Nat) : Int) = ((n - 1 - i : Nat) : Int) := by omega
    rw [e1] at hit
    refine Rv.next_item hit p (x := u) (by simpa using hu) (by rw [List.size_toArray]; omega) fun h' t st' sb => ?_
    have e2 : ((n - 1 - i : Nat) : Int) - 1 = (n : Int) - 1 - ((i + 1 : Nat) : Int) := by omega
    rw [e2] at st'
    have I1 : Inv X pins σ H { s with heap := h', toks := t } := I.turned (t' := t) (fun b o hb e => (sb.2 b hb).trans e) f0 f1 f3 f4 f5
    obtain ⟨o, e, c, d⟩ := id st'
    exact ⟨u, rfl, go_of (s := { s with heap := h', toks := t }) e c d (by decide) ⟨x, H, I1, ru, ⟨rfl, fun ys hy => by rw [I.tuple_inj hy hq]; exact hx⟩, ⟨hin, st'⟩, fun b hb => (hf b hb).1⟩⟩
  done := by
    intro X hP hw hK hc i pins s σ H E I hf st hg
    subst hP hw hK
    obtain ⟨f0, f1, f2, f3, f4, f5⟩ := hf it (by simp)
    obtain ⟨hin, hit⟩ := st
    have hge : n ≤ i := hg
    have e1 : (n : Int) - 1 - ((i : Nat) : Int) = -1 := by omega
    rw [e1] at hit
    exact Rv.next_end (I.ok.hd hc) hit fun h' eb => ⟨rfl, I.turned (t' := s.toks) (fun b o hb e => eb b o hb e) f0 f1 f3 f4 f5⟩
  self := fun A i s Q E st h => Rv.iter_rvd st.2 h
def iRvd (K : PySem.W.Frag) (ta : TA) : TI := fun σ H R => ta σ H fun vs H1 => ∃ (a : Addr) (xs : List V), vs = [.ref a] ∧ SqT K H1 a xs ∧ R (Itw K a xs.length) H1
section
variable {X : Cx} {tg : Expr}
theorem pi_reversedT {e : Expr} {ta : TA} {p pos : Pos} (hg : Gl X "reversed") (hm : X.mg "reversed" = none) (ha : PA X [e] ta) (hs : starEach [e] X.env = [(false, eval e X.env)] := by rfl) : PI X tg (.Call (.Name "reversed" p) [e] [] pos) (iRvd X.K ta) := by
  intro pins s σ H R I h
  refine Call_ (ld_blt I hg hm boot_reversed5 (PyProof.Rows.callWith_type1 (thn (ha pos pins s σ H _ I h) fun us s1 ⟨vs, H1, I1, r1, q1⟩ => ?_) hs rfl))
  obtain ⟨a, xs, e, hq, q⟩ := q1
  subst e
  cases r1 with
  | cons r rr =>
    cases rr
    cases r
    obtain ⟨its, rv, p', hz⟩ := I1.tuple hq
    have hl := rv.length
    have hn := line63
    have e1 : ((its.toArray.size : Nat) : Int) - 1 = (xs.length : Int) - 1 - ((0 : Nat) : Int) := by simp only [List.size_toArray]; omega
    refine Rv.call_rvd p' (by simp only [List.size_toArray]; omega) fun t => Rv.iter_rvd (l := a) (i := ((its.toArray.size : Nat) : Int) - 1) ⟨_, Heap.get?_push_size _ rfl, rfl, rfl⟩ ?_
    refine pi_one (tk := t) I1 _ (turn_rvd a _ xs.length) ⟨Nat.zero_le _, ?_⟩ q
    rw [← e1]
    exact ⟨_, Heap.get?_push_size _ rfl, rfl, rfl⟩
end
theorem for_rvd {K : PySem.W.Frag} {a : Addr} {xs : List V} {g : TG} {tb : TS} {D : Ends} {σ : St} {H : Hp} (Pv : Nat → St → Hp → Prop) (h0 : Pv 0 σ H) (hl : ∀ i σ H, i ≤ xs.length → Pv i σ H → SqT K H a xs)
    (hs : ∀ i x σ H, i < xs.length → xs[xs.length - 1 - i]? = some x → Pv i σ H → g x σ H fun σ2 H2 => tb { D with nx := Pv (i + 1), ct := Pv (i + 1), bk := D.nx } σ2 H2) (hd : ∀ σ H, Pv xs.length σ H → D.nx σ H) :
    ∃ W : Nat → Nat → St → Hp → Prop, (∃ m, W 0 m σ H) ∧ ∀ i m σ H, W i m σ H →
      ((Itw K a xs.length).stop i H ∧ D.nx σ H) ∨ ((Itw K a xs.length).go i H ∧ ∃ N : St → Hp → Prop, (∀ σ' H', N σ' H' → ∃ m', m' < m ∧ W (i + 1) m' σ' H') ∧ ∀ x H', (Itw K a xs.length).yld i H x H' → g x σ H' fun σ2 H2 => tb { D with nx := N, ct := N, bk := D.nx } σ2 H2) := by
  refine ⟨fun i m σ H => m = xs.length - i ∧ i ≤ xs.length ∧ Pv i σ H, ⟨xs.length, by simp, Nat.zero_le _, h0⟩, ?_⟩
  rintro i m σ H ⟨rfl, hi, p⟩
  have q := hl i σ H hi p
  by_cases hlt : i < xs.length
  · refine .inr ⟨⟨hlt, xs, xs[xs.length - 1 - i], q, List.getElem?_eq_getElem (by omega)⟩, Pv (i + 1), fun σ' H' p' => ⟨xs.length - (i + 1), by omega, rfl, hlt, p'⟩, fun x H' y => ?_⟩
    obtain ⟨e, y⟩ := y
    subst e
    exact hs i x σ _ hlt (y xs q) p
  · have e : i = xs.length := by omega
    subst e
    exact .inl ⟨Nat.le_refl _, hd σ H p⟩
end L2

set_option Elab.async false
set_option linter.all false
set_option maxRecDepth 100000
set_option maxHeartbeats 4000000
namespace HT
open PySem PySem.Spec PyProof.Rows
section
variable {prog : Program} {w : World} {A : Around} {E : Value → Shared → Prop} {s : Shared}
theorem rv_adjust (n : Nat) : Builtin.Slice.sliceAdjust none none (-1) (n : Int) = ((n : Int) - 1, -1) := by
  unfold Builtin.Slice.sliceAdjust
  first
  | rfl
  | simp
theorem rv_places (n : Nat) : Builtin.Slice.slicePlaces ((n : Int) - 1) (-1) (-1) = n := by
  unfold Builtin.Slice.slicePlaces
  have h1 : ¬ ((-1 : Int) > 0) := by omega
  simp only [h1, if_false]
  rw [show (- -1 : Int) = 1 by decide, Int.ediv_one]
  split <;> omega
theorem rv_applied {sl : Addr} {vk : Value} {n : Nat} {Q : Int × Int × Nat → Shared → Prop} (hs : s.heap.IsSliceOf sl .none .none vk) (pk : IsPart vk (some (-1)))
    (h : Q ((n : Int) - 1, -1, n) s) : wpAny (model prog w) A (Builtin.Slice.sliceApplied (.ref sl) (pure (n : Int))) Q E s := by
  obtain ⟨os, hos, hcs, hds⟩ := id hs
  unfold Builtin.Slice.sliceApplied Builtin.Slice.sliceFields
  refine wpAny_bind (wpAny_bind (wpAny_field hos hds (x := .none) rfl (wpAny_bind (wpAny_field hos hds (x := .none) rfl (wpAny_bind (wpAny_field hos hds (x := vk) rfl (wpAny_pure ?_)))))))
  refine wpAny_bind (slicePart_ pk ?_)
  show wpAny _ _ (if ((-1 : Int) == 0) = true then _ else _) _ _ s
  rw [if_neg (by decide)]
  refine wpAny_bind (slicePart_ .none (wpAny_bind (slicePart_ .none (wpAny_bind (wpAny_pure ?_)))))
  show wpAny _ _ (match Builtin.Slice.sliceAdjust none none (-1) (n : Int) with | (lo, hi) => pure (lo, (-1 : Int), Builtin.Slice.slicePlaces lo hi (-1))) _ _ s
  rw [rv_adjust n]
  show wpAny _ _ (pure ((n : Int) - 1, (-1 : Int), Builtin.Slice.slicePlaces ((n : Int) - 1) (-1) (-1))) _ _ s
  rw [rv_places]
  exact wpAny_pure h
theorem rv_pick (xs : Array Value) : ((List.range xs.size).filterMap fun (m : Nat) => xs[((xs.size : Int) - 1 + (m : Int) * (-1)).toNat]?).toArray = xs.toList.reverse.toArray := by
  have e : (List.range xs.size).filterMap (fun (m : Nat) => xs[((xs.size : Int) - 1 + (m : Int) * (-1)).toNat]?) = ((List.range xs.size).map (fun k => xs.size - 1 - k)).filterMap (fun m => xs[m]?) := by
    rw [List.filterMap_map]
    congr 1
    funext m
    show xs[((xs.size : Int) - 1 + (m : Int) * (-1)).toNat]? = xs[xs.size - 1 - m]?
    congr 1
    omega
  rw [e, PySem.W.krv_range, List.filterMap_reverse, PySem.W.krv_all]
theorem getItem_tuple_rv {t sl : Addr} {items : Array Value} {vk : Value} {Q : Value → Shared → Prop} (ht : IsTup s.heap t items) (hs : s.heap.IsSliceOf sl .none .none vk) (pk : IsPart vk (some (-1)))
    (h : Q (.ref s.heap.objs.size) { s with heap := s.heap.push { cls := .type "tuple", data := .seq items.toList.reverse.toArray } })
    (hsz : items.size ≤ sizeLine) : wpAny (model prog w) A (getItem (.ref t) (.ref sl)) Q E s := by
  have htake : sizeOk (.seq items.toList.reverse.toArray) := by
    show items.toList.reverse.toArray.size ≤ sizeLine
    rw [List.size_toArray, List.length_reverse, Array.length_toList]
    exact hsz
  obtain ⟨os, hos, hcs, hds⟩ := id hs
  have hTs : s.TypeIs (.ref sl) "slice" := ⟨os, hos, hcs⟩
  unfold getItem
  try with_reducible refine wpAny_holding ?_
  first | refine wpAny_bind (wpAny_pure ?_) | skip
  refine wpAny_bind (wpAny_sequenceKey ht.typeIs (by decide) ?_)
  refine wpAny_bind (wpAny_callSpecial?_slot (name := Str.ofString "__getitem__") ht.typeIs PyProof.Rows.slot_tuple_getitem
    (wpAny_call_entry PyProof.Rows.slot_tuple_getitem ht.typeIs entry_tuple_getitem ?_ (args_tuple_getitem _ _)))
  show wpAny _ _ (Builtin.Tuple.tupleItemsOf (.ref t) >>= _) _ _ s
  refine wpAny_bind (tupleItemsOf_ ht ?_)
  refine wpAny_bind (wpAny_typeOf hTs ?_)
  rw [if_pos (by decide)]
  refine wpAny_bind (rv_applied hs pk ?_)
  have hno : ¬ ((((items.size : Int) - 1) == 0 && (-1 : Int) == 1 && items.size == items.size) = true) := by
    intro q
    rw [Bool.and_eq_true, Bool.and_eq_true] at q
    exact absurd q.1.2 (by decide)
  show wpAny _ _ (if (((items.size : Int) - 1) == 0 && (-1 : Int) == 1 && items.size == items.size) = true then _ else _) _ _ s
  rw [if_neg hno, rv_pick]
  first
    | exact wpAny_bind (m := Builtin.Tuple.tupleExact _) (wpAny_newObj_type (wpAny_pure ⟨_, rfl, wpAny_pure h⟩) htake)
    | exact wpAny_bind (m := Builtin.Tuple.tupleExact _) (wpAny_newObj_type (wpAny_bind (wpAny_pure (wpAny_pure ⟨_, rfl, wpAny_pure h⟩))) htake)
    | exact wpAny_bind (wpAny_bind (m := Builtin.Tuple.tupleExact _) (wpAny_newObj_type (wpAny_pure (wpAny_pure ⟨_, rfl, wpAny_pure h⟩)) htake))
    | exact wpAny_bind (wpAny_bind (m := Builtin.Tuple.tupleExact _) (wpAny_newObj_type (wpAny_pure ⟨_, rfl, wpAny_pure h⟩) htake))
end
end HT
namespace L2
open PySem PySem.Spec PyProof.Rows
section
variable {X : Cx} {e k : Expr} {te tk : TE} {pos p2 : Pos}
theorem pe_gint {x : Str} {i : Int} {pos : Pos} (hg : Gl X x) (hm : ∃ t, X.mg x = some (.int i t)) (hd : (x == ("__debug__" : Str)) = false := by decide) : PE X (.Name x pos) (tC (.int i)) :=
  let ⟨t, h⟩ := hm
  pe_glob hg h ⟨t, rfl⟩ hd
/-- what a value read backwards is -/
def RvR (X : Cx) (r : V → Hp → VK → Prop) : Prop :=
  ∀ (pins : List (Addr × Obj)) (s : Shared) (σ : St) (H : Hp) (x : V) (v vk : Value) (sl : Addr) (Q : VK), Inv X pins σ H s → RelV x v → s.heap.IsSliceOf sl .none .none vk → IsPart vk (some (-1)) → r x H Q →
    ∃ T id, typeLookup (.type T) "__getitem__" = pure (some (.builtin id)) ∧ s.TypeIs v T ∧ wpAny (model X.prog X.w) X.A (getItem v (.ref sl)) (EP X pins σ Q) X.xe s
def tRv (r : V → Hp → VK → Prop) (te tk : TE) : TE := fun σ H Q => te σ H fun x H1 => tk σ H1 fun y H2 => y = .int (-1) ∧ r x H2 Q
theorem pe_rev {r : V → Hp → VK → Prop} (hr : RvR X r) (he : PE X e te) (hk : PE X k tk) : PE X (.Subscript e (.Slice none none (some k) p2) pos) (tRv r te tk) := by
  intro pins s σ H Q I h
  refine Subscript_ (thn (he pins s σ H _ I h) fun v s1 ⟨x, H1, I1, r1, q1⟩ => ?_)
  refine wpAny_Slice ?_
  rw [evalPart_none]
  refine wpAny_pure (wpAny_pure ?_)
  rw [evalPart_some]
  refine thn (hk pins s1 σ H1 _ I1 q1) fun u s2 ⟨y, H2, I2, ry, ey, q2⟩ => ?_
  subst ey
  obtain ⟨t, rfl⟩ := ry
  have I4 : Inv X pins σ H2 { s2 with heap := s2.heap.push { cls := .type "slice", data := .fields #[.none, .none, .int (-1) t] } } := I2.kept (t' := s2.toks) fun b ob q => Heap.get?_push_of_some _ q
  obtain ⟨T, id, hT, ht, hg⟩ := hr pins { s2 with heap := s2.heap.push { cls := .type "slice", data := .fields #[.none, .none, .int (-1) t] } } σ H2 x v _ s2.heap.objs.size Q I4 r1 (Heap.IsSliceOf.new ..) (.int (-1) t) q2
  show wpAny (model X.prog X.w) X.A (subscriptTail e (.Slice none none (some k) p2) v (.ref s2.heap.objs.size)) (EP X pins σ Q) X.xe { s2 with heap := s2.heap.push { cls := .type "slice", data := .fields #[.none, .none, .int (-1) t] } }
  exact tail_any (ops := [v, .ref s2.heap.objs.size]) ht hT hg rfl
def rRvL (K : PySem.W.Frag) : V → Hp → VK → Prop := fun x H Q => ∃ a xs, x = .ref a ∧ SqL K H a xs ∧ ∀ p, H p = none → Q (.ref p) (upd H p (.lst xs.reverse))
def rRvT (K : PySem.W.Frag) : V → Hp → VK → Prop := fun x H Q => ∃ a xs, x = .ref a ∧ SqT K H a xs ∧ ∀ p, H p = none → Q (.ref p) (upd H p (.tup xs.reverse))
theorem Vals.rev : ∀ {xs : List V} {us : List Value}, Vals xs us → Vals xs.reverse us.reverse
  | _, _, .nil => .nil
  | _, _, .cons r t => by
    rw [List.reverse_cons, List.reverse_cons]
    exact (Vals.rev t).append (.cons r .nil)
theorem rv_list : RvR X (rRvL X.K) := by
  intro pins s σ H x v vk sl Q I rx hs pk h
  obtain ⟨a, xs, rfl, hx, q⟩ := h
  cases rx
  obtain ⟨its, r, ht, hz⟩ := I.list hx
  have hlen := r.length
  refine ⟨"list", _, slot_list_getitem.lookup, ht.isList.typeIs, ?_⟩
  refine wpAny_getItem_list_slice ht.isList hs .none .none pk (by simp) ?_ (by rw [List.size_toArray]; omega)
  rw [PySem.W.krv_pick]
  refine ⟨.ref s.heap.objs.size, _, I.laid (t' := s.toks) (o := .lst xs.reverse) (fun b ob q => Heap.get?_push_of_some _ q) (Nat.le_refl _) ?_, rfl, q _ (I.hok.fresh (Nat.le_refl _))⟩
  exact ⟨by rw [List.length_reverse]; exact hz, _, 0, r.rev, Heap.get?_push_size _ rfl⟩
theorem rv_tup : RvR X (rRvT X.K) := by
  intro pins s σ H x v vk sl Q I rx hs pk h
  obtain ⟨a, xs, rfl, hx, q⟩ := h
  cases rx
  obtain ⟨its, r, ht, hz⟩ := I.tuple hx
  have hlen := r.length
  refine ⟨"tuple", _, PyProof.Rows.slot_tuple_getitem.lookup, ht.typeIs, ?_⟩
  refine HT.getItem_tuple_rv ht hs pk ?_ (by rw [List.size_toArray]; omega)
  refine ⟨.ref s.heap.objs.size, _, I.laid (t' := s.toks) (o := .tup xs.reverse) (fun b ob q => Heap.get?_push_of_some _ q) (Nat.le_refl _) ?_, rfl, q _ (I.hok.fresh (Nat.le_refl _))⟩
  exact ⟨by rw [List.length_reverse]; exact hz, _, r.rev, IsTup.new _ _⟩
/-- a global dict of the module, read at an int -/
def tDGetG (es : Array DictEntry) (ty : TE) : TE := fun σ H Q => ty σ H fun y H1 => ∃ (i : Int) (v : V) (u : Value), y = .int i ∧ findBy Value.isInt es i = some u ∧ RelV v u ∧ Q v H1
def KeysI (es : Array DictEntry) : Prop := ∀ e ∈ es, ∃ k, Value.isInt k e.key = true ∧ e.hash = hashInt k
theorem pe_dgetG {x : Str} {d : Addr} {es : Array DictEntry} {n : Nat} {i : Expr} {p : Pos} {ty : TE} (hg : Gl X x) (hm : X.mg x = some (.ref d)) (hl : X.K.lookup d = some ⟨.type "dict", none, .dict es n, #[]⟩) (hk : KeysI es) (hi : PE X i ty) (hs : NoSl i) (hd : (x == ("__debug__" : Str)) = false := by decide) :
    PE X (.Subscript (.Name x p) i pos) (tDGetG es ty) := by
  intro pins s σ H Q I h
  have he : PE X (.Name x p) (tC (.ref d)) := pe_glob hg hm rfl hd
  have h0 : tC (.ref d) σ H (fun x H1 => x = .ref d ∧ H1 = H) := ⟨rfl, rfl⟩
  refine subD_of PySem.F.slot_dict_getitem.lookup hs (thn (he pins s σ H _ I h0) fun u s1 ⟨x, H1, I1, rx, ex, eh⟩ => ?_)
  subst ex eh
  obtain rfl : u = Value.ref d := rx
  refine thn (hi pins s1 σ H1 _ I1 h) fun iv s2 ⟨y, H2, I2, ry, j, v, w', ey, hf, rv, q⟩ => ?_
  subst ey
  obtain ⟨t, rfl⟩ := ry
  have hM : s2.heap.MapOf (intKind X.prog X.w) d (fun k => findBy Value.isInt es k) :=
    ⟨_, es, n, I2.kIn _ _ hl, ⟨rfl, rfl, rfl⟩, rfl, fun e he => hk e he, fun _ => rfl⟩
  have hki : (intKind X.prog X.w).is j (Value.int j t) = true := by
    show Value.isInt j (Value.int j t) = true
    simp [Value.isInt]
  exact ⟨hM.typeIs, wpAny_getItem_of hki hM hf ⟨v, H2, I2.tok _, rv, q⟩⟩
end
end L2
namespace PySem.AutoSeq1
theorem list_extend_list_tupleG (l : Addr) (items : Array Value) (n : Nat) (b : Addr) (items2 : Array Value) (n2 : Nat) (dd : Option Addr) (sl : Array (Option Value)) (hs0 : ¬(!items.isEmpty && Builtin.List.listTooLong (items.size + items2.size)) = true) (hs1 : items.size ≤ sizeLine) (hs2 : items.size + items2.size ≤ sizeLine + 1) :
    Meets (Builtin.«list.extend» ⟨[.ref l, .ref b], []⟩) (fun _ R s => s.heap.get? l = some { cls := .type "list", dict := none, data := .seq items n, slots := #[] } ∧ s.heap.get? b = some { cls := .type "tuple", dict := dd, data := .seq items2 n2, slots := sl } ∧ R (.ok (.ret Value.none)) { s with heap := s.heap.update l (Obj.mapSeq fun x => x ++ items2), toks := s.toks }) :=
  .of_wp fun prog w A R s h => by
    obtain ⟨hp, g, d, tk, os⟩ := s; obtain ⟨hl, hb, h⟩ := h; have f1 := idx_int; have f2 := sub_tuple_tuple; have f3 := sub_list_list; have f4 := sub_tuple_list; have f5 := sub_list_tuple;
    have hz' : (items ++ items2).size ≤ sizeLine + 1 := by rw [Array.size_append]; exact hs2
    wp_walk using (wpAny_updateSeq hl rfl (hz := hs1) (_hz' := hz')), wpAny_loadPart' hl, wpAny_loadPart' hb; exact ⟨_, rfl, h⟩
end PySem.AutoSeq1
namespace L2
open PySem PySem.Spec PyProof.Rows
section
variable {X : Cx} {e k : Expr} {te tk : TE} {pos p2 : Pos}
/-- xs.extend(t), t a tuple -/
def rExtendT : V → List V → Hp → VK → Prop := fun x vs H Q => ∃ l b xs zs, x = .ref l ∧ vs = [.ref b] ∧ H l = some (.lst xs) ∧ H b = some (.tup zs) ∧ xs.length + zs.length ≤ sizeLine ∧ Q .non (upd H l (.lst (xs ++ zs)))
theorem mt_extendT : MtM X "list.extend" rExtendT := by
  intro pins s σ H x vs v us Q I rx rv h
  obtain ⟨l, b, xs, zs, rfl, rfl, hH, hB, hz, q⟩ := h
  cases rx
  obtain ⟨u, rfl, ru⟩ := rv.one
  cases ru
  obtain ⟨z, its, n, r, hl, e⟩ := I.lstM hH
  obtain ⟨its2, r2, ht2, hz2⟩ := I.tuple (SqT.of (K := X.K) hB)
  have hl2 := r2.length
  have hsz : its.toArray.size + its2.toArray.size ≤ sizeLine := by rw [List.size_toArray, List.size_toArray]; omega
  have hlong : ¬ (!its.toArray.isEmpty && Builtin.List.listTooLong (its.toArray.size + its2.toArray.size)) = true := by
    rw [notLongL hsz, Bool.and_false]
    exact Bool.false_ne_true
  obtain ⟨⟨c2, dd, dt, sl⟩, ho, hc, n2, hd⟩ := ht2
  have hc : c2 = .type "tuple" := hc
  have hd : dt = .seq its2.toArray n2 := hd
  subst hc hd
  refine call_meets F.slot_list_extend ⟨_, e, rfl⟩ F.entry_list_extend (F.args_list_extend_2 _ _)
    (AutoSeq1.list_extend_list_tupleG l its.toArray n b its2.toArray n2 dd sl hlong (by rw [List.size_toArray]; omega) (by omega)) ⟨e, ho, ?_⟩
  refine ⟨.non, _, I.lset (its' := its ++ its2) hH e (by simp) (r.append r2) ?_, rfl, q⟩
  rw [List.length_append]
  omega
end
end L2

set_option Elab.async false
set_option linter.all false
set_option maxRecDepth 100000
set_option maxHeartbeats 4000000
namespace Gk
open PySem PySem.Spec PyProof.Rows L2 Gm
/-! ### the text by places -/
def top (i : Nat) : Stmt := PySem.Challenge.pw_grammarlook_s01_answers.main.body.getD i (.Pass ⟨0, 0, 0, 0⟩)
/-- a def of the text: its object, its name among the globals, how it is called -/
structure Def (K : PySem.W.Frag) (mg : Str → Option Value) (x : Str) (st : Stmt) (ps : List Str) (f : Addr) (fd : FuncData) : Prop where
  fn : Fun K x x st f fd
  mg : mg x = some (.ref f)
  b : Binds K fd ps []
/-! ### lists of numbers and of truth values -/
def vN (x : List Nat) : List V := x.map fun (n : Nat) => V.int (n : Int)
def vB (bs : List Bool) : List V := bs.map V.bl
theorem vN_len (x : List Nat) : (vN x).length = x.length := by simp [vN]
theorem vB_len (x : List Bool) : (vB x).length = x.length := by simp [vB]
theorem vN_get {x : List Nat} {i : Nat} {y : V} (h : (vN x)[i]? = some y) : ∃ s, x[i]? = some s ∧ y = V.int (s : Int) := by
  unfold vN at h
  rw [List.getElem?_map] at h
  cases e : x[i]? with
  | none => rw [e] at h; cases h
  | some s => rw [e] at h; exact ⟨s, rfl, (Option.some.inj h).symm⟩
theorem vN_at {x : List Nat} {i : Nat} (h : i < x.length) : (vN x)[i]? = some (V.int ((x.getD i 0 : Nat) : Int)) := by
  unfold vN
  rw [List.getElem?_map, List.getD_eq_getElem?_getD, List.getElem?_eq_getElem h]
  rfl
theorem vB_at {x : List Bool} {i : Nat} (h : i < x.length) : (vB x)[i]? = some (V.bl (x.getD i false)) := by
  unfold vB
  rw [List.getElem?_map, List.getD_eq_getElem?_getD, List.getElem?_eq_getElem h]
  rfl
theorem at_int {xs : List V} {z : Int} {j : Nat} {v : V} (e : z = (j : Int)) (h : xs[j]? = some v) : atI xs z = some v := by
  rw [e]
  exact atI_nat h
theorem ixN_nat {n j : Nat} {z : Int} (e : z = (j : Int)) (h : j < n) : ixN n z = some j := by
  unfold ixN
  rw [e, if_pos (by omega), if_pos (by omega)]
  simp
theorem take_snoc {α : Type} : ∀ {l : List α} {i : Nat} {x : α}, l[i]? = some x → l.take (i + 1) = l.take i ++ [x]
  | [], i, x, h => by simp at h
  | a :: l, 0, x, h => by
    have e : a = x := Option.some.inj h
    subst e
    rfl
  | a :: l, i + 1, x, h => by
    have ih := take_snoc (l := l) (i := i) (x := x) h
    show a :: l.take (i + 1) = a :: l.take i ++ [x]
    rw [ih]
    rfl
theorem drop_get {α : Type} : ∀ {l : List α} {i : Nat} {x : α}, l[i]? = some x → l.drop i = x :: l.drop (i + 1)
  | [], i, x, h => by simp at h
  | a :: l, 0, x, h => by
    have e : a = x := Option.some.inj h
    subst e
    rfl
  | a :: l, i + 1, x, h => drop_get (l := l) (i := i) (x := x) h
theorem mem_get {α : Type} {l : List α} {i : Nat} {x : α} (h : l[i]? = some x) : x ∈ l := List.mem_of_getElem? h
section
variable {P : Program} {w : World} {K : PySem.W.Frag} {mg : Str → Option Value} {base : Heap}
/-! ### row_settles -/
abbrev s_row_settles : Stmt := top 1
theorem sc_row_settles : FnScope ["symbols", "t", "settled", "tokens_stay", "symbol"] ["symbols", "t", "settled", "tokens_stay"] (defScope s_row_settles) := ⟨rfl, rfl, rfl, by decide +kernel, rfl, by decide +kernel, by decide +kernel⟩
def spRowSettles : Sp := fun vs H Q _ => ∃ (b p : Addr) (x : List Nat) (t : Nat) (bs : List Bool) (k : Bool), vs = [.ref b, .int t, .ref p, .bl k] ∧ H b = some (.tup (vN x)) ∧ H p = some (.lst (vB bs)) ∧ (∀ s ∈ x, s < t + bs.length) ∧ Q (.bl (rowSettles t bs k x)) H
theorem rowSettles_snoc {t : Nat} {bs : List Bool} {k : Bool} {x : List Nat} {s : Nat} : rowSettles t bs k (x ++ [s]) = (rowSettles t bs k x && (if s < t then k else bs.getD (s - t) false)) := by
  unfold rowSettles
  rw [List.all_append]
  simp
theorem rowSettles_no {t : Nat} {bs : List Bool} {k : Bool} {x : List Nat} {s : Nat} (hs : s ∈ x) (h : (if s < t then k else bs.getD (s - t) false) = false) : rowSettles t bs k x = false := by
  unfold rowSettles
  rw [List.all_eq_false]
  exact ⟨s, hs, by rw [h]; decide⟩
theorem ok_row_settles {f : Addr} {fd : FuncData} (F : Def K mg "row_settles" s_row_settles ["symbols", "t", "settled", "tokens_stay"] f fd) : FnOk P w K mg base CX0 1 f fd ["symbols", "t", "settled", "tokens_stay"] spRowSettles := by
  refine F.fn.ok sc_row_settles (fun vs H Q E h => ?_) (fun cdv A outer s H vs Q E hr h => ?_)
  · obtain ⟨b, p, x, t, bs, k, rfl, _⟩ := h
    rfl
  · obtain ⟨b, p, x, t, bs, k, rfl, hb, hp, hx, q⟩ := h
    refine ⟨_, (pss_cons (ps_for PassesOwn.never rfl (pi_tup (pv 0)) (pg_name (i := 4) sc_row_settles.nd rfl (Or.inl rfl))
      (pss_one (ps_if (pt_cmpR op_lt (pv 4) (pv 1) (nomark _))
      (pss_one (ps_if (pt_not (pt_val (pv 3)))
      (pss_one (ps_ret pe_bl))
      pss_nil))
      (pss_one (ps_if (pt_not (pt_val (pe_ix ix_list (pv 2) (pe_op op_sub (pv 4) (pv 1)) (fun _ _ => rfl))))
      (pss_one (ps_ret pe_bl))
      pss_nil)))))
      (pss_one (ps_ret pe_bl))), ?_⟩
    refine ⟨_, rfl, b, rfl, ⟨_, SqT.of hb⟩, for_tup (K := K) (a := b) (xs := vN x) (fun i σ H' => ∃ v : Option V, σ = [some (.ref b), some (.int t), some (.ref p), some (.bl k), v] ∧ H' = H ∧ rowSettles t bs k (x.take i) = true)
      ⟨none, rfl, rfl, rfl⟩ (fun i σ H' _ ⟨_, _, e, _⟩ => by rw [e]; exact SqT.of hb) ?_ ?_⟩
    · rintro i y σ H' hi ⟨v, rfl, rfl, ht⟩
      obtain ⟨z, hz, rfl⟩ := vN_get hi
      have hzx := hx z (mem_get hz)
      have ht' := rowSettles_snoc (t := t) (bs := bs) (k := k) (x := x.take i) (s := z)
      rw [← take_snoc hz, ht, Bool.true_and] at ht'
      refine ⟨_, rfl, _, rfl, _, _, rfl, rfl, _, rfl, ?_⟩
      refine ite2 (fun h1 => ?_) (fun h1 => ?_)
      · have h2 : z < t := by have := of_decide_eq_true h1; omega
        rw [if_pos h2] at ht'
        refine ⟨_, rfl, _, rfl, ?_⟩
        cases k with
        | true => exact iteF ⟨_, rfl, rfl, ht'⟩
        | false =>
          refine iteT ?_
          have e := rowSettles_no (t := t) (bs := bs) (k := false) (mem_get hz) (by rw [if_pos h2])
          rw [e] at q
          exact q
      · have h2 : ¬ z < t := fun h => h1 (decide_eq_true (by omega))
        rw [if_neg h2] at ht'
        refine ⟨_, rfl, _, rfl, _, rfl, _, _, rfl, rfl, p, _, _, _, rfl, rfl, SqL.of hp, at_int (j := z - t) (by omega) (vB_at (by omega)), _, rfl, ?_⟩
        cases e : bs.getD (z - t) false with
        | true =>
          rw [e] at ht'
          exact iteF ⟨_, rfl, rfl, ht'⟩
        | false =>
          refine iteT ?_
          have e := rowSettles_no (t := t) (bs := bs) (k := k) (mem_get hz) (by rw [if_neg h2]; exact e)
          rw [e] at q
          exact q
    · rintro σ H' ⟨v, rfl, rfl, ht⟩
      rw [vN_len, List.take_length] at ht
      rw [ht] at q
      exact q
end
end Gk

set_option Elab.async false
set_option linter.all false
set_option maxRecDepth 100000
set_option maxHeartbeats 4000000
namespace Gk
open PySem PySem.Spec PyProof.Rows L2 Gm
/-! ### rules as they lie in the heap -/
def RuleAt (H : Hp) (a : Addr) (r : Nat × List Nat) : Prop := ∃ b, H a = some (.tup [.int (r.1 : Int), .ref b]) ∧ H b = some (.tup (vN r.2))
def RulesAt (H : Hp) (p : Addr) (rs : List (Nat × List Nat)) : Prop := ∃ as : List Addr, H p = some (.lst (as.map V.ref)) ∧ as.length = rs.length ∧ ∀ (i : Nat) (a : Addr) (r : Nat × List Nat), as[i]? = some a → rs[i]? = some r → RuleAt H a r
theorem RuleAt.same {H H' : Hp} {a : Addr} {r : Nat × List Nat} (h : RuleAt H a r) (e : Same H H') : RuleAt H' a r := let ⟨b, h1, h2⟩ := h; ⟨b, e _ _ h1, e _ _ h2⟩
theorem RulesAt.same {H H' : Hp} {p : Addr} {rs : List (Nat × List Nat)} (h : RulesAt H p rs) (e : Same H H') : RulesAt H' p rs := let ⟨as, h1, h2, h3⟩ := h; ⟨as, e _ _ h1, h2, fun i a r ha hr => (h3 i a r ha hr).same e⟩
theorem same_upd {H H' : Hp} {p : Addr} {o : HO} (e : Same H H') (h : H p = none) : Same H (upd H' p o) := fun b u q => by
  rw [upd_ne (ne_of_none q h)]
  exact e b u q
theorem refs_get {as : List Addr} {i : Nat} {y : V} (h : (as.map V.ref)[i]? = some y) : ∃ a, as[i]? = some a ∧ y = V.ref a := by
  rw [List.getElem?_map] at h
  cases e : as[i]? with
  | none => rw [e] at h; cases h
  | some a => rw [e] at h; exact ⟨a, rfl, (Option.some.inj h).symm⟩
theorem get_len {α β : Type} {as : List α} {bs : List β} {i : Nat} {a : α} (h : as[i]? = some a) (e : as.length = bs.length) : ∃ b, bs[i]? = some b := by
  have hi : i < as.length := (List.getElem?_eq_some_iff.mp h).1
  exact ⟨bs[i], List.getElem?_eq_getElem (by omega)⟩
theorem rep_bl (n : Nat) (b : Bool) : (List.replicate n [V.bl b]).flatten = vB (List.replicate n b) := by
  induction n with
  | zero => rfl
  | succ n ih =>
    rw [List.replicate_succ, List.flatten_cons, ih]
    rfl
theorem rep_int (n : Nat) (k : Nat) : (List.replicate n [V.int (k : Int)]).flatten = vN (List.replicate n k) := by
  induction n with
  | zero => rfl
  | succ n ih =>
    rw [List.replicate_succ, List.flatten_cons, ih]
    rfl
theorem vB_set (bs : List Bool) (i : Nat) (b : Bool) : (vB bs).set i (V.bl b) = vB (bs.set i b) := by
  unfold vB
  rw [List.map_set]
theorem vN_set (x : List Nat) (i m : Nat) : (vN x).set i (V.int (m : Int)) = vN (x.set i m) := by
  unfold vN
  rw [List.map_set]
theorem fold_take {α β : Type} {f : β → α → β} {l : List α} {i : Nat} {x : α} {b : β} (h : l[i]? = some x) : (l.take (i + 1)).foldl f b = f ((l.take i).foldl f b) x := by
  rw [take_snoc h, List.foldl_append]
  rfl
theorem nn (n : Nat) : ((n : Int)).toNat = n := Int.toNat_natCast n
section
variable {P : Program} {w : World} {K : PySem.W.Frag} {mg : Str → Option Value} {base : Heap}
/-! ### settling -/
abbrev s_settling : Stmt := top 2
theorem sc_settling : FnScope ["n", "t", "rules", "tokens_stay", "settled", "changed", "rule"] ["n", "t", "rules", "tokens_stay"] (defScope s_settling) := ⟨rfl, rfl, rfl, by decide +kernel, rfl, by decide +kernel, by decide +kernel⟩
def spSettling : Sp := fun vs H Q _ => ∃ (g : Ll.Gram) (rp : Addr) (k : Bool), WF g ∧ vs = [.int (g.nts : Int), .int (g.ts : Int), .ref rp, .bl k] ∧ RulesAt H rp g.rules ∧
  ∀ (p : Addr) (H' : Hp) (bs : List Bool), H p = none → Same H H' → H' p = some (.lst (vB bs)) → MkSet g.nts bs (if k then Ll.makes g else Ll.nulls g) → Q (.ref p) H'
theorem ok_settling {f f1 : Addr} {fd fd1 : FuncData} (F : Def K mg "settling" s_settling ["n", "t", "rules", "tokens_stay"] f fd) (F1 : Def K mg "row_settles" s_row_settles ["symbols", "t", "settled", "tokens_stay"] f1 fd1) :
    FnOk P w K mg base CX0 2 f fd ["n", "t", "rules", "tokens_stay"] spSettling := by
  have G1 : FnOk P w K mg base CX0 1 f1 fd1 _ spRowSettles := ok_row_settles F1
  refine F.fn.ok sc_settling (fun vs H Q E h => ?_) (fun cdv A outer s H vs Q E hr h => ?_)
  · obtain ⟨g, rp, k, _, rfl, _⟩ := h
    rfl
  · obtain ⟨g, rp, k, wf, rfl, hR, q⟩ := h
    obtain ⟨as, hrp, hlen, hrules⟩ := hR
    refine ⟨_, (pss_cons (ps_set (i := 4) sc_settling.nd rfl (Or.inl rfl) (pe_op op_rep (pe_lst (pa_cons pe_bl pa_nil)) (pv 0)))
      (pss_cons (ps_set (i := 5) sc_settling.nd rfl (Or.inl rfl) pe_bl)
      (pss_cons (ps_while PassesOwn.never (pt_val (pv 5))
      (pss_cons (ps_set (i := 5) sc_settling.nd rfl (Or.inl rfl) pe_bl)
      (pss_one (ps_for PassesOwn.never rfl (pi_list (pv 2)) (pg_name (i := 6) sc_settling.nd rfl (Or.inl rfl))
      (pss_one (ps_if (PW.pt (pw_and (pt_not (pt_val (pe_ix ix_list (pv 4) (pe_ix ix_tup (pv 6) pe_int (fun _ _ => rfl)) (fun _ _ => rfl)))) (pw_and1 (pt_val (pe_call G1 hr rfl F1.mg F1.fn.kp F1.b .nil pass0 (pa_cons (pe_ix ix_tup (pv 6) pe_int (fun _ _ => rfl)) (pa_cons (pv 1) (pa_cons (pv 4) (pa_cons (pv 3) pa_nil)))))))))
      (pss_cons (ps_asg pe_bl (pg_sub (pv 4) (pe_ix ix_tup (pv 6) pe_int (fun _ _ => rfl)) set_list))
      (pss_one (ps_set (i := 5) sc_settling.nd rfl (Or.inl rfl) pe_bl)))
      pss_nil))))))
      (pss_one (ps_ret (pv 4)))))), ?_⟩
    have hn := wf.n32
    -- settled = [False] * n
    refine ⟨(by show 1 ≤ sizeLine; decide), fun l0 hl0 => ⟨_, rfl, l0, _, _, rfl, rfl, upd_same, (by omega), (by omega), ?_, fun p hp => ?_⟩⟩
    · show 1 * (g.nts : Int).toNat ≤ sizeLine
      rw [nn, Nat.one_mul]
      exact Nat.le_trans hn (by decide)
    have sA : Same H (upd H l0 (.lst [.bl false])) := same_upd (Same.refl H) hl0
    have hp0 : H p = none := sA.free hp
    rw [nn, rep_bl]
    -- changed = True; while changed
    refine ⟨fun m σ H' => ∃ (bs : List Bool) (c : Bool) (v : Option V), σ = [some (.int (g.nts : Int)), some (.int (g.ts : Int)), some (.ref rp), some (.bl k), some (.ref p), some (.bl c), v] ∧ Same H H' ∧ H' p = some (.lst (vB bs)) ∧ Settl g k bs c ∧ m = 2 * open_ bs + c.toNat,
      ⟨_, _, true, none, rfl, same_upd sA hp0, upd_same, Settl.start, rfl⟩, ?_⟩
    rintro m σ H' ⟨bs, c, v, rfl, sH, hpH, hS, rfl⟩
    refine ⟨_, rfl, _, rfl, ?_⟩
    cases c with
    | false =>
      refine iteF ?_
      -- return settled
      exact ⟨_, rfl, q p H' bs hp0 sH hpH hS.done⟩
    | true =>
      refine iteT ⟨fun σ' H'' => ∃ (v : Option V), σ' = [some (.int (g.nts : Int)), some (.int (g.ts : Int)), some (.ref rp), some (.bl k), some (.ref p), some (.bl (settlePass g.ts k g.rules bs).2), v] ∧ Same H H'' ∧ H'' p = some (.lst (vB (settlePass g.ts k g.rules bs).1)), ?_, ?_⟩
      · rintro σ' H'' ⟨v', rfl, s2, hp2⟩
        obtain ⟨h1, h2, h3⟩ := hS.pass wf
        refine ⟨_, ?_, _, _, v', rfl, s2, hp2, h1, rfl⟩
        cases e : (settlePass g.ts k g.rules bs).2 with
        | true =>
          have := h2 e
          show 2 * open_ _ + 1 < 2 * open_ bs + 1
          omega
        | false =>
          -- nothing changed: the marks are the old ones
          rw [h3 e]
          show 2 * open_ bs + 0 < 2 * open_ bs + 1
          omega
      -- changed = False; for rule in rules
      refine ⟨_, rfl, rp, rfl, ⟨_, SqL.of (sH _ _ hrp)⟩, for_list (K := K) (a := rp) (xs := as.map V.ref) (fun i σ' H'' => ∃ (v : Option V), σ' = [some (.int (g.nts : Int)), some (.int (g.ts : Int)), some (.ref rp), some (.bl k), some (.ref p), some (.bl ((g.rules.take i).foldl (settleOne g.ts k) (bs, false)).2), v] ∧ Same H H'' ∧ H'' p = some (.lst (vB ((g.rules.take i).foldl (settleOne g.ts k) (bs, false)).1)))
        ⟨v, rfl, sH, hpH⟩ (fun i σ H' _ ⟨_, _, s2, _⟩ => SqL.of (s2 _ _ hrp)) ?_ ?_⟩
      · rintro i y σ H2 hi ⟨v', rfl, s2, hp2⟩
        obtain ⟨a, ha, rfl⟩ := refs_get hi
        obtain ⟨r, hr'⟩ := get_len ha hlen
        obtain ⟨b, ra, rb⟩ := (hrules i a r ha hr').same s2
        have hrm := mem_get hr'
        obtain ⟨w1, w2, w3⟩ := wf.rl r hrm
        rw [fold_take hr']
        have hl2 : ((g.rules.take i).foldl (settleOne g.ts k) (bs, false)).1.length = g.nts := by
          rw [settle_len]; exact hS.len
        generalize (g.rules.take i).foldl (settleOne g.ts k) (bs, false) = st at hp2 hl2 ⊢
        obtain ⟨bs2, c2⟩ := st
        refine ⟨_, rfl, _, rfl, a, _, _, _, rfl, rfl, SqT.of ra, at_int (j := 0) rfl rfl, p, _, _, _, rfl, rfl, SqL.of hp2, at_int (j := r.1) rfl (vB_at (by omega)), _, rfl, ?_⟩
        have eS : settleOne g.ts k (bs2, c2) r = if (!bs2.getD r.1 false && rowSettles g.ts bs2 k r.2) = true then (bs2.set r.1 true, true) else (bs2, c2) := rfl
        cases e1 : bs2.getD r.1 false with
        | true =>
          rw [e1] at eS
          refine iteF (iteF ⟨some (.ref a), ?_, s2, ?_⟩)
          · rw [eS]; rfl
          · rw [eS]; exact hp2
        | false =>
          rw [e1] at eS
          refine iteT ⟨_, rfl, a, _, _, _, rfl, rfl, SqT.of ra, at_int (j := 1) rfl rfl, _, rfl, _, rfl, _, rfl, b, p, r.2, g.ts, bs2, k, rfl, rb, hp2, (by rw [hl2]; exact w3), _, rfl, ?_⟩
          cases e2 : rowSettles g.ts bs2 k r.2 with
          | false =>
            rw [e2] at eS
            refine iteF ⟨some (.ref a), ?_, s2, ?_⟩
            · rw [eS]; rfl
            · rw [eS]; exact hp2
          | true =>
            rw [e2] at eS
            refine iteT ⟨_, rfl, _, rfl, a, _, _, _, rfl, rfl, SqT.of ra, at_int (j := 0) rfl rfl, p, _, _, r.1, rfl, rfl, hp2, ixN_nat rfl (by rw [vB_len]; omega), ?_⟩
            refine ⟨some (.ref a), ?_, same_upd s2 hp0, ?_⟩
            · rw [eS]; rfl
            · rw [eS, upd_same, vB_set]; rfl
      · rintro σ H2 ⟨v', rfl, s2, hp2⟩
        rw [List.length_map, hlen, List.take_length] at hp2 ⊢
        exact ⟨v', rfl, s2, hp2⟩
end
end Gk

set_option Elab.async false
set_option linter.all false
set_option maxRecDepth 100000
set_option maxHeartbeats 4000000
namespace Gk
open PySem PySem.Spec PyProof.Rows L2 Gm
/-- all that was tracked but p is as it was -/
def But (p : Addr) (H H' : Hp) : Prop := ∀ b o, H b = some o → b ≠ p → H' b = some o
theorem But.refl (p : Addr) (H : Hp) : But p H H := fun _ _ h _ => h
theorem But.upd {p : Addr} {H H' : Hp} {o : HO} (e : But p H H') : But p H (upd H' p o) := fun b u q hb => by
  rw [upd_ne hb]
  exact e b u q hb
theorem But.same {p : Addr} {H H1 H2 : Hp} (s : Same H H1) (e : But p H1 H2) (h : H p = none) : Same H H2 := fun b o q => e b o (s b o q) (ne_of_none q h)
section
variable {P : Program} {w : World} {K : PySem.W.Frag} {mg : Str → Option Value} {base : Heap}
/-! ### mark_nonterminals -/
abbrev s_mark : Stmt := top 4
theorem sc_mark : FnScope ["symbols", "t", "marked", "news", "symbol"] ["symbols", "t", "marked"] (defScope s_mark) := ⟨rfl, rfl, rfl, by decide +kernel, rfl, by decide +kernel, by decide +kernel⟩
def spMark : Sp := fun vs H Q _ => ∃ (b p : Addr) (x : List Nat) (t : Nat) (bs : List Bool), vs = [.ref b, .int (t : Int), .ref p] ∧ H b = some (.tup (vN x)) ∧ H p = some (.lst (vB bs)) ∧ (∀ s ∈ x, s < t + bs.length) ∧
  ∀ H' : Hp, H' p = some (.lst (vB (marks t x bs).1)) → But p H H' → Q (.bl (marks t x bs).2) H'
theorem ok_mark {f : Addr} {fd : FuncData} (F : Def K mg "mark_nonterminals" s_mark ["symbols", "t", "marked"] f fd) : FnOk P w K mg base CX0 1 f fd ["symbols", "t", "marked"] spMark := by
  refine F.fn.ok sc_mark (fun vs H Q E h => ?_) (fun cdv A outer s H vs Q E hr h => ?_)
  · obtain ⟨b, p, x, t, bs, rfl, _⟩ := h
    rfl
  · obtain ⟨b, p, x, t, bs, rfl, hb, hp, hx, q⟩ := h
    refine ⟨_, (pss_cons (ps_set (i := 3) sc_mark.nd rfl (Or.inl rfl) pe_bl)
      (pss_cons (ps_for PassesOwn.never rfl (pi_tup (pv 0)) (pg_name (i := 4) sc_mark.nd rfl (Or.inl rfl))
      (pss_one (ps_if (PW.pt (pw_and (pt_cmpR op_ge (pv 4) (pv 1) (nomark _)) (pw_and1 (pt_not (pt_val (pe_ix ix_list (pv 2) (pe_op op_sub (pv 4) (pv 1)) (fun _ _ => rfl)))))))
      (pss_cons (ps_asg pe_bl (pg_sub (pv 2) (pe_op op_sub (pv 4) (pv 1)) set_list))
      (pss_one (ps_set (i := 3) sc_mark.nd rfl (Or.inl rfl) pe_bl)))
      pss_nil)))
      (pss_one (ps_ret (pv 3))))), ?_⟩
    have nbp : b ≠ p := ne_of hb hp (by intro z; cases z)
    refine ⟨_, rfl, b, rfl, ⟨_, SqT.of hb⟩, for_tup (K := K) (a := b) (xs := vN x) (fun i σ H' => ∃ v : Option V, σ = [some (.ref b), some (.int (t : Int)), some (.ref p), some (.bl ((x.take i).foldl (markOne t) (bs, false)).2), v] ∧ But p H H' ∧ H' p = some (.lst (vB ((x.take i).foldl (markOne t) (bs, false)).1)))
      ⟨none, rfl, But.refl p H, hp⟩ (fun i σ H' _ ⟨_, _, e, _⟩ => SqT.of (e b _ hb nbp)) ?_ ?_⟩
    · rintro i y σ H2 hi ⟨v, rfl, e2, hp2⟩
      obtain ⟨z, hz, rfl⟩ := vN_get hi
      have hzx := hx z (mem_get hz)
      rw [fold_take hz]
      have hl2 : ((x.take i).foldl (markOne t) (bs, false)).1.length = bs.length := marks_len _ _
      generalize (x.take i).foldl (markOne t) (bs, false) = st at hp2 hl2 ⊢
      obtain ⟨bs2, c2⟩ := st
      have hl2 : bs2.length = bs.length := hl2
      have eS : markOne t (bs2, c2) z = if (decide (t ≤ z) && !bs2.getD (z - t) false) = true then (bs2.set (z - t) true, true) else (bs2, c2) := rfl
      refine ⟨_, rfl, _, rfl, _, _, rfl, rfl, _, rfl, ?_⟩
      by_cases h1 : t ≤ z
      · have d1 : decide ((t : Int) ≤ (z : Int)) = true := decide_eq_true (by omega)
        rw [d1]
        rw [decide_eq_true h1, Bool.true_and] at eS
        refine iteT ⟨_, rfl, _, rfl, _, rfl, _, _, rfl, rfl, p, _, _, _, rfl, rfl, SqL.of hp2, at_int (j := z - t) (by omega) (vB_at (by omega)), _, rfl, ?_⟩
        cases e1 : bs2.getD (z - t) false with
        | true =>
          rw [e1] at eS
          refine iteF ⟨some (.int (z : Int)), ?_, e2, ?_⟩
          · rw [eS]; rfl
          · rw [eS]; exact hp2
        | false =>
          rw [e1] at eS
          refine iteT ⟨_, rfl, _, rfl, _, rfl, _, _, rfl, rfl, p, _, _, z - t, rfl, rfl, hp2, ixN_nat (by omega) (by rw [vB_len]; omega), ?_⟩
          refine ⟨some (.int (z : Int)), ?_, e2.upd, ?_⟩
          · rw [eS]; rfl
          · rw [eS, upd_same, vB_set]; rfl
      · have d1 : decide ((t : Int) ≤ (z : Int)) = false := decide_eq_false (by omega)
        rw [d1]
        rw [decide_eq_false h1, Bool.false_and] at eS
        refine iteF (iteF ⟨some (.int (z : Int)), ?_, e2, ?_⟩)
        · rw [eS]; rfl
        · rw [eS]; exact hp2
    · rintro σ H2 ⟨v, rfl, e2, hp2⟩
      rw [vN_len, List.take_length] at hp2 ⊢
      exact ⟨_, rfl, q H2 hp2 e2⟩
/-! ### find_reached -/
abbrev s_reached : Stmt := top 5
theorem sc_reached : FnScope ["n", "t", "rules", "reached", "changed", "rule"] ["n", "t", "rules"] (defScope s_reached) := ⟨rfl, rfl, rfl, by decide +kernel, rfl, by decide +kernel, by decide +kernel⟩
def spReached : Sp := fun vs H Q _ => ∃ (g : Ll.Gram) (rp : Addr), WF g ∧ vs = [.int (g.nts : Int), .int (g.ts : Int), .ref rp] ∧ RulesAt H rp g.rules ∧
  ∀ (p : Addr) (H' : Hp) (bs : List Bool), H p = none → Same H H' → H' p = some (.lst (vB bs)) → MkSet g.nts bs (Ll.reached g) → Q (.ref p) H'
theorem ok_reached {f f1 : Addr} {fd fd1 : FuncData} (F : Def K mg "find_reached" s_reached ["n", "t", "rules"] f fd) (F1 : Def K mg "mark_nonterminals" s_mark ["symbols", "t", "marked"] f1 fd1) :
    FnOk P w K mg base CX0 2 f fd ["n", "t", "rules"] spReached := by
  have G1 : FnOk P w K mg base CX0 1 f1 fd1 _ spMark := ok_mark F1
  refine F.fn.ok sc_reached (fun vs H Q E h => ?_) (fun cdv A outer s H vs Q E hr h => ?_)
  · obtain ⟨g, rp, _, rfl, _⟩ := h
    rfl
  · obtain ⟨g, rp, wf, rfl, hR, q⟩ := h
    obtain ⟨as, hrp, hlen, hrules⟩ := hR
    refine ⟨_, (pss_cons (ps_set (i := 3) sc_reached.nd rfl (Or.inl rfl) (pe_op op_rep (pe_lst (pa_cons pe_bl pa_nil)) (pv 0)))
      (pss_cons (ps_asg pe_bl (pg_sub (pv 3) pe_int set_list))
      (pss_cons (ps_set (i := 4) sc_reached.nd rfl (Or.inl rfl) pe_bl)
      (pss_cons (ps_while PassesOwn.never (pt_val (pv 4))
      (pss_cons (ps_set (i := 4) sc_reached.nd rfl (Or.inl rfl) pe_bl)
      (pss_one (ps_for PassesOwn.never rfl (pi_list (pv 2)) (pg_name (i := 5) sc_reached.nd rfl (Or.inl rfl))
      (pss_one (ps_if (PW.pt (pw_and (pt_val (pe_ix ix_list (pv 3) (pe_ix ix_tup (pv 5) pe_int (fun _ _ => rfl)) (fun _ _ => rfl))) (pw_and1 (pt_val (pe_call G1 hr rfl F1.mg F1.fn.kp F1.b .nil pass0 (pa_cons (pe_ix ix_tup (pv 5) pe_int (fun _ _ => rfl)) (pa_cons (pv 1) (pa_cons (pv 3) pa_nil))))))))
      (pss_one (ps_set (i := 4) sc_reached.nd rfl (Or.inl rfl) pe_bl))
      pss_nil))))))
      (pss_one (ps_ret (pv 3))))))), ?_⟩
    have hn := wf.n32
    have hn1 := wf.n1
    -- reached = [False] * n; reached[0] = True
    refine ⟨(by show 1 ≤ sizeLine; decide), fun l0 hl0 => ⟨_, rfl, l0, _, _, rfl, rfl, upd_same, (by omega), (by omega), ?_, fun p hp => ?_⟩⟩
    · show 1 * (g.nts : Int).toNat ≤ sizeLine
      rw [nn, Nat.one_mul]
      exact Nat.le_trans hn (by decide)
    have sA : Same H (upd H l0 (.lst [.bl false])) := same_upd (Same.refl H) hl0
    have hp0 : H p = none := sA.free hp
    rw [nn, rep_bl]
    refine ⟨_, rfl, p, _, _, 0, rfl, rfl, upd_same, ixN_nat rfl (by rw [vB_len, List.length_replicate]; omega), ?_⟩
    rw [vB_set, upd_upd]
    -- changed = True; while changed
    refine ⟨fun m σ H' => ∃ (bs : List Bool) (c : Bool) (v : Option V), σ = [some (.int (g.nts : Int)), some (.int (g.ts : Int)), some (.ref rp), some (.ref p), some (.bl c), v] ∧ Same H H' ∧ H' p = some (.lst (vB bs)) ∧ Reach g bs c ∧ m = 2 * open_ bs + c.toNat,
      ⟨_, _, true, none, rfl, same_upd sA hp0, upd_same, Reach.start wf, rfl⟩, ?_⟩
    rintro m σ H' ⟨bs, c, v, rfl, sH, hpH, hS, rfl⟩
    refine ⟨_, rfl, _, rfl, ?_⟩
    cases c with
    | false =>
      refine iteF ?_
      exact ⟨_, rfl, q p H' bs hp0 sH hpH hS.done⟩
    | true =>
      refine iteT ⟨fun σ' H'' => ∃ (v : Option V), σ' = [some (.int (g.nts : Int)), some (.int (g.ts : Int)), some (.ref rp), some (.ref p), some (.bl (reachPass g.ts g.rules bs).2), v] ∧ Same H H'' ∧ H'' p = some (.lst (vB (reachPass g.ts g.rules bs).1)), ?_, ?_⟩
      · rintro σ' H'' ⟨v', rfl, s2, hp2⟩
        obtain ⟨h1, h2, h3⟩ := hS.pass wf
        refine ⟨_, ?_, _, _, v', rfl, s2, hp2, h1, rfl⟩
        cases e : (reachPass g.ts g.rules bs).2 with
        | true =>
          have := h2 e
          show 2 * open_ _ + 1 < 2 * open_ bs + 1
          omega
        | false =>
          rw [h3 e]
          show 2 * open_ bs + 0 < 2 * open_ bs + 1
          omega
      refine ⟨_, rfl, rp, rfl, ⟨_, SqL.of (sH _ _ hrp)⟩, for_list (K := K) (a := rp) (xs := as.map V.ref) (fun i σ' H'' => ∃ (v : Option V), σ' = [some (.int (g.nts : Int)), some (.int (g.ts : Int)), some (.ref rp), some (.ref p), some (.bl ((g.rules.take i).foldl (reachOne g.ts) (bs, false)).2), v] ∧ Same H H'' ∧ H'' p = some (.lst (vB ((g.rules.take i).foldl (reachOne g.ts) (bs, false)).1)))
        ⟨v, rfl, sH, hpH⟩ (fun i σ H' _ ⟨_, _, s2, _⟩ => SqL.of (s2 _ _ hrp)) ?_ ?_⟩
      · rintro i y σ H2 hi ⟨v', rfl, s2, hp2⟩
        obtain ⟨a, ha, rfl⟩ := refs_get hi
        obtain ⟨r, hr'⟩ := get_len ha hlen
        obtain ⟨b, ra, rb⟩ := (hrules i a r ha hr').same s2
        obtain ⟨w1, w2, w3⟩ := wf.rl r (mem_get hr')
        rw [fold_take hr']
        have hl2 : ((g.rules.take i).foldl (reachOne g.ts) (bs, false)).1.length = g.nts := by
          rw [reach_len]; exact hS.len
        generalize (g.rules.take i).foldl (reachOne g.ts) (bs, false) = st at hp2 hl2 ⊢
        obtain ⟨bs2, c2⟩ := st
        have hl2 : bs2.length = g.nts := hl2
        have eS : reachOne g.ts (bs2, c2) r = if bs2.getD r.1 false = true then ((marks g.ts r.2 bs2).1, (marks g.ts r.2 bs2).2 || c2) else (bs2, c2) := rfl
        refine ⟨_, rfl, _, rfl, a, _, _, _, rfl, rfl, SqT.of ra, at_int (j := 0) rfl rfl, p, _, _, _, rfl, rfl, SqL.of hp2, at_int (j := r.1) rfl (vB_at (by omega)), _, rfl, ?_⟩
        cases e1 : bs2.getD r.1 false with
        | false =>
          rw [e1] at eS
          refine iteF (iteF ⟨some (.ref a), ?_, s2, ?_⟩)
          · rw [eS]; rfl
          · rw [eS]; exact hp2
        | true =>
          rw [e1, if_pos rfl] at eS
          rw [eS]
          refine iteT ⟨_, rfl, a, _, _, _, rfl, rfl, SqT.of ra, at_int (j := 1) rfl rfl, _, rfl, _, rfl, b, p, r.2, g.ts, bs2, rfl, rb, hp2, (by rw [hl2]; exact w3), fun H3 hp3 b3 => ⟨_, rfl, ?_⟩⟩
          have s3 : Same H H3 := But.same s2 b3 hp0
          cases e2 : (marks g.ts r.2 bs2).2 with
          | false => exact iteF ⟨_, rfl, s3, hp3⟩
          | true => exact iteT ⟨_, rfl, s3, hp3⟩
      · rintro σ H2 ⟨v', rfl, s2, hp2⟩
        rw [List.length_map, hlen, List.take_length] at hp2 ⊢
        exact ⟨v', rfl, s2, hp2⟩
/-! ### find_nullable -/
abbrev s_nullable : Stmt := top 3
theorem sc_nullable : FnScope ["n", "t", "rules"] ["n", "t", "rules"] (defScope s_nullable) := ⟨rfl, rfl, rfl, by decide +kernel, rfl, by decide +kernel, by decide +kernel⟩
def spNullable : Sp := fun vs H Q _ => ∃ (g : Ll.Gram) (rp : Addr), WF g ∧ vs = [.int (g.nts : Int), .int (g.ts : Int), .ref rp] ∧ RulesAt H rp g.rules ∧
  ∀ (p : Addr) (H' : Hp) (bs : List Bool), H p = none → Same H H' → H' p = some (.lst (vB bs)) → MkSet g.nts bs (Ll.nulls g) → Q (.ref p) H'
theorem ok_nullable {f f1 f2 : Addr} {fd fd1 fd2 : FuncData} (F : Def K mg "find_nullable" s_nullable ["n", "t", "rules"] f fd) (F1 : Def K mg "settling" s_settling ["n", "t", "rules", "tokens_stay"] f1 fd1)
    (F2 : Def K mg "row_settles" s_row_settles ["symbols", "t", "settled", "tokens_stay"] f2 fd2) : FnOk P w K mg base CX0 3 f fd ["n", "t", "rules"] spNullable := by
  have G1 : FnOk P w K mg base CX0 2 f1 fd1 _ spSettling := ok_settling F1 F2
  refine F.fn.ok sc_nullable (fun vs H Q E h => ?_) (fun cdv A outer s H vs Q E hr h => ?_)
  · obtain ⟨g, rp, _, rfl, _⟩ := h
    rfl
  · obtain ⟨g, rp, wf, rfl, hR, q⟩ := h
    refine ⟨_, (pss_one (ps_ret (pe_call G1 hr rfl F1.mg F1.fn.kp F1.b .nil pass0 (pa_cons (pv 0) (pa_cons (pv 1) (pa_cons (pv 2) (pa_cons pe_bl pa_nil))))))), ?_⟩
    exact ⟨_, rfl, _, rfl, _, rfl, g, rp, false, wf, rfl, hR, fun p H' bs h1 h2 h3 h4 => q p H' bs h1 h2 h3 h4⟩
/-! ### find_useless -/
abbrev s_useless : Stmt := top 6
theorem sc_useless : FnScope ["n", "t", "rules", "ending", "reached", "a"] ["n", "t", "rules"] (defScope s_useless) := ⟨rfl, rfl, rfl, by decide +kernel, rfl, by decide +kernel, by decide +kernel⟩
def useless (g : Ll.Gram) : List Nat := (List.range g.nts).filter fun n => !((Ll.makes g).contains n && (Ll.reached g).contains n)
def spUseless : Sp := fun vs H Q _ => ∃ (g : Ll.Gram) (rp : Addr), WF g ∧ vs = [.int (g.nts : Int), .int (g.ts : Int), .ref rp] ∧ RulesAt H rp g.rules ∧
  ∀ (p : Addr) (H' : Hp), H p = none → Same H H' → H' p = some (.lst (vN (useless g))) → Q (.ref p) H'
theorem mkSet_get {n : Nat} {bs : List Bool} {S : List Nat} (h : MkSet n bs S) (a : Nat) : bs.getD a false = S.contains a := by
  have q := h.2 a
  unfold mrk at q
  cases e : bs.getD a false with
  | true =>
    rw [e] at q
    have z : a ∈ S := q.mp rfl
    exact (List.contains_iff_mem.mpr z).symm
  | false =>
    rw [e] at q
    have z : ¬ a ∈ S := fun z => Bool.false_ne_true (q.mpr z)
    cases e2 : S.contains a with
    | false => rfl
    | true => exact absurd (List.contains_iff_mem.mp e2) z
theorem filter_range_snoc (p : Nat → Bool) (i : Nat) : (List.range (i + 1)).filter p = (List.range i).filter p ++ (if p i = true then [i] else []) := by
  rw [List.range_succ, List.filter_append]
  congr 1
  by_cases h : p i = true
  · rw [if_pos h, List.filter_cons, if_pos h]
    rfl
  · rw [if_neg h, List.filter_cons, if_neg h]
    rfl
theorem vN_snoc (x : List Nat) (i : Nat) : vN (x ++ [i]) = vN x ++ [V.int (i : Int)] := by
  unfold vN
  rw [List.map_append]
  rfl
theorem filter_range_len (p : Nat → Bool) (i : Nat) : ((List.range i).filter p).length ≤ i := Nat.le_trans (List.length_filter_le _ _) (by rw [List.length_range]; exact Nat.le_refl _)
def scp_useless : Scope := { kind := .function, names := [(".0", .local), ("a", .local), ("ending", .free), ("reached", .free)], isGenerator := false, isCoroutine := false }
theorem blk_useless : BlkOk ["n", "t", "rules", "ending", "reached", "a"] (defScope s_useless) scp_useless [("a", 5)] := ⟨rfl, by decide +kernel, by decide +kernel, by decide +kernel, by decide +kernel⟩
theorem ix_listK {X : Cx} {K : PySem.W.Frag} (h : X.K = K) : IxR X (rIxL K) := h ▸ ix_list
theorem ok_useless {f f1 f2 f3 f4 : Addr} {fd fd1 fd2 fd3 fd4 : FuncData} (hrange : mg "range" = none) (F : Def K mg "find_useless" s_useless ["n", "t", "rules"] f fd) (F1 : Def K mg "settling" s_settling ["n", "t", "rules", "tokens_stay"] f1 fd1)
    (F2 : Def K mg "row_settles" s_row_settles ["symbols", "t", "settled", "tokens_stay"] f2 fd2) (F3 : Def K mg "find_reached" s_reached ["n", "t", "rules"] f3 fd3) (F4 : Def K mg "mark_nonterminals" s_mark ["symbols", "t", "marked"] f4 fd4) :
    FnOk P w K mg base CX0 3 f fd ["n", "t", "rules"] spUseless := by
  have G1 : FnOk P w K mg base CX0 2 f1 fd1 _ spSettling := ok_settling F1 F2
  have G3 : FnOk P w K mg base CX0 2 f3 fd3 _ spReached := ok_reached F3 F4
  refine F.fn.ok sc_useless (fun vs H Q E h => ?_) (fun cdv A outer s H vs Q E hr h => ?_)
  · obtain ⟨g, rp, _, rfl, _⟩ := h
    rfl
  · obtain ⟨g, rp, wf, rfl, hR, q⟩ := h
    refine ⟨_, (pss_cons (ps_set (i := 3) sc_useless.nd rfl (Or.inr rfl) (pe_call G1 hr rfl F1.mg F1.fn.kp F1.b .nil pass0 (pa_cons (pv 0) (pa_cons (pv 1) (pa_cons (pv 2) (pa_cons pe_bl pa_nil))))))
      (pss_cons (ps_set (i := 4) sc_useless.nd rfl (Or.inr rfl) (pe_call G3 hr rfl F3.mg F3.fn.kp F3.b .nil pass0 (pa_cons (pv 0) (pa_cons (pv 1) (pa_cons (pv 2) pa_nil)))))
      (pss_one (ps_ret (pe_lc (own := [("a", 5)]) rfl sc_useless.nd (pi_range1 rfl hrange (pa_cons (pv 0) pa_nil)) blk_useless (fun _ _ _ _ _ => pg_name (i := 5) sc_useless.nd rfl (Or.inl rfl))
        (fun _ _ _ _ _ => (pts_one (pt_not (PW.pt (pw_and (pt_val (pe_ix (ix_listK (K := K) rfl) (pv 3) (pv 5) (fun _ _ => rfl))) (pw_and1 (pt_val (pe_ix (ix_listK (K := K) rfl) (pv 4) (pv 5) (fun _ _ => rfl))))))))) (fun _ _ _ _ _ => (pv 5))))))), ?_⟩
    have hn := wf.n32
    refine ⟨_, rfl, _, rfl, _, rfl, g, rp, true, wf, rfl, hR, fun p1 H1 b1 n1 s1 e1 m1 => ?_⟩
    refine ⟨_, rfl, _, rfl, _, rfl, g, rp, wf, rfl, RulesAt.same hR s1, fun p2 H2 b2 n2 s2 e2 m2 => ?_⟩
    have e1' := s2 _ _ e1
    refine ⟨_, rfl, _, rfl, (by omega), (by omega), fun D hD => ?_⟩
    have hD0 : H D = none := s1.free (s2.free hD)
    have s3 : Same H (upd H2 D (.lst [])) := same_upd (s1.trans s2) hD0
    rw [nn]
    refine lc_range (fun i H' => But D H2 H' ∧ H' D = some (.lst (vN ((List.range i).filter fun n => !((Ll.makes g).contains n && (Ll.reached g).contains n))))) ⟨(But.refl D H2).upd, upd_same⟩ ?_ ?_
    · rintro i H3 hi ⟨b3, e3⟩
      have q1 := b3 _ _ e1' (ne_of_none e1' hD)
      have q2 := b3 _ _ e2 (ne_of_none e2 hD)
      rw [filter_range_snoc]
      refine ⟨rfl, ?_⟩
      refine ⟨_, rfl, _, rfl, p1, _, _, _, rfl, rfl, SqL.of q1, at_int (j := i) (by omega) (vB_at (by rw [m1.1]; exact hi)), _, rfl, ?_⟩
      have c1 := mkSet_get m1 i
      have c2 := mkSet_get m2 i
      rw [if_pos rfl] at c1
      rw [c1]
      have hlen : (vN ((List.range i).filter fun n => !((Ll.makes g).contains n && (Ll.reached g).contains n))).length < sizeLine := by
        rw [vN_len]
        exact Nat.lt_of_le_of_lt (filter_range_len _ _) (Nat.lt_of_lt_of_le hi (Nat.le_trans hn (by decide)))
      have yes : ∀ H4, H4 = H3 → ∀ (z : (!((Ll.makes g).contains i && (Ll.reached g).contains i)) = true), But D H2 (upd H4 D (.lst (vN ((List.range i).filter fun n => !((Ll.makes g).contains n && (Ll.reached g).contains n)) ++ [V.int (0 + (i : Int))]))) ∧ (upd H4 D (.lst (vN ((List.range i).filter fun n => !((Ll.makes g).contains n && (Ll.reached g).contains n)) ++ [V.int (0 + (i : Int))]))) D = some (.lst (vN ((List.range i).filter (fun n => !((Ll.makes g).contains n && (Ll.reached g).contains n)) ++ if (!((Ll.makes g).contains i && (Ll.reached g).contains i)) = true then [i] else []))) := by
        intro H4 e4 z
        subst e4
        refine ⟨b3.upd, ?_⟩
        rw [upd_same, if_pos z, vN_snoc, Int.zero_add]
      cases z1 : (Ll.makes g).contains i with
      | false =>
        refine iteF ?_
        refine iteT ⟨_, rfl, _, e3, hlen, ?_⟩
        have := yes H3 rfl (by rw [z1]; rfl)
        rw [z1] at this
        exact this
      | true =>
        refine iteT ⟨_, rfl, _, rfl, p2, _, _, _, rfl, rfl, SqL.of q2, at_int (j := i) (by omega) (vB_at (by rw [m2.1]; exact hi)), _, rfl, ?_⟩
        rw [c2]
        cases z2 : (Ll.reached g).contains i with
        | false =>
          refine iteT ⟨_, rfl, _, e3, hlen, ?_⟩
          have := yes H3 rfl (by rw [z1, z2]; rfl)
          rw [z1, z2] at this
          exact this
        | true =>
          refine iteF ⟨b3, ?_⟩
          rw [e3]
          simp
    · rintro H3 ⟨b3, e3⟩
      exact q D H3 hD0 (But.same (s1.trans s2) b3 hD0) e3
end
end Gk

set_option Elab.async false
set_option linter.all false
set_option maxRecDepth 100000
set_option maxHeartbeats 4000000
namespace Gk
open PySem PySem.Spec PyProof.Rows L2 Gm
/-! ### numbers as masks -/
theorem or_nat (m k : Nat) : Builtin.bitOr (m : Int) (k : Int) = ((m ||| k : Nat) : Int) := by
  rw [bitOr_and, bitAnd_pp (by omega) (by omega), nn, nn]
  have := nat_or_add_and m k
  omega
theorem shl_nat (s : Nat) : (1 : Int) * 2 ^ ((s : Int)).toNat = ((2 ^ s : Nat) : Int) := by
  rw [nn, Int.one_mul]
  simp
theorem cpow (s : Nat) (h : s ≤ 1000) : CPow 1 (s : Int) := ⟨by omega, by omega, by decide⟩
/-- a | b of two masks; 1 << s -/
theorem op_orN {X : Cx} : OpR X (binaryOp .BitOr) (fun x y H Q => ∃ m k : Nat, x = .int (m : Int) ∧ y = .int (k : Int) ∧ Q (.int ((m ||| k : Nat) : Int)) H) := by
  intro pins s σ H x y v u Q I rx ry h
  obtain ⟨m, k, rfl, rfl, q⟩ := h
  refine op_or pins s σ H _ _ v u Q I rx ry ⟨_, _, rfl, rfl, ?_⟩
  show Q (.int (Builtin.bitOr (m : Int) (k : Int))) H
  rw [or_nat]
  exact q
theorem op_shlN {X : Cx} : OpR X (binaryOp .LShift) (fun x y H Q => ∃ k : Nat, x = .int 1 ∧ y = .int (k : Int) ∧ k ≤ 1000 ∧ Q (.int ((2 ^ k : Nat) : Int)) H) := by
  intro pins s σ H x y v u Q I rx ry h
  obtain ⟨k, rfl, rfl, hk, q⟩ := h
  refine op_shl pins s σ H _ _ v u Q I rx ry ⟨_, _, rfl, rfl, cpow k hk, ?_⟩
  show Q (.int (1 * 2 ^ ((k : Int)).toNat)) H
  rw [shl_nat]
  exact q
section
variable {P : Program} {w : World} {K : PySem.W.Frag} {mg : Str → Option Value} {base : Heap}
/-! ### row_first -/
abbrev s_row_first : Stmt := top 7
theorem sc_row_first : FnScope ["symbols", "t", "nullable", "firsts", "found", "symbol"] ["symbols", "t", "nullable", "firsts"] (defScope s_row_first) := ⟨rfl, rfl, rfl, by decide +kernel, rfl, by decide +kernel, by decide +kernel⟩
def spRowFirst : Sp := fun vs H Q _ => ∃ (b p o : Addr) (x : List Nat) (t : Nat) (nl : List Bool) (fs : List Nat), vs = [.ref b, .int (t : Int), .ref p, .ref o] ∧ H b = some (.tup (vN x)) ∧ H p = some (.lst (vB nl)) ∧ H o = some (.lst (vN fs)) ∧
  t ≤ 63 ∧ nl.length = fs.length ∧ (∀ s ∈ x, s < t + fs.length) ∧ Q (.int ((rowFirst t nl fs x : Nat) : Int)) H
theorem ok_row_first {f : Addr} {fd : FuncData} (F : Def K mg "row_first" s_row_first ["symbols", "t", "nullable", "firsts"] f fd) : FnOk P w K mg base CX0 1 f fd ["symbols", "t", "nullable", "firsts"] spRowFirst := by
  refine F.fn.ok sc_row_first (fun vs H Q E h => ?_) (fun cdv A outer s H vs Q E hr h => ?_)
  · obtain ⟨b, p, o, x, t, nl, fs, rfl, _⟩ := h
    rfl
  · obtain ⟨b, p, o, x, t, nl, fs, rfl, hb, hp, ho, ht, hl, hx, q⟩ := h
    refine ⟨_, (pss_cons (ps_set (i := 4) sc_row_first.nd rfl (Or.inl rfl) pe_int)
      (pss_cons (ps_for PassesOwn.never rfl (pi_tup (pv 0)) (pg_name (i := 5) sc_row_first.nd rfl (Or.inl rfl))
      (pss_cons (ps_if (pt_cmpR op_lt (pv 5) (pv 1) (nomark _))
      (pss_one (ps_ret (pe_op op_orN (pv 4) (pe_op op_shlN pe_int (pv 5)))))
      pss_nil)
      (pss_cons (ps_set (i := 4) sc_row_first.nd rfl (Or.inl rfl) (pe_op op_orN (pv 4) (pe_ix ix_list (pv 3) (pe_op op_sub (pv 5) (pv 1)) (fun _ _ => rfl))))
      (pss_one (ps_if (pt_not (pt_val (pe_ix ix_list (pv 2) (pe_op op_sub (pv 5) (pv 1)) (fun _ _ => rfl))))
      (pss_one (ps_ret (pv 4)))
      pss_nil)))))
      (pss_one (ps_ret (pv 4))))), ?_⟩
    refine ⟨_, rfl, b, rfl, ⟨_, SqT.of hb⟩, for_tup (K := K) (a := b) (xs := vN x) (fun i σ H' => ∃ (m : Nat) (v : Option V), σ = [some (.ref b), some (.int (t : Int)), some (.ref p), some (.ref o), some (.int (m : Int)), v] ∧ H' = H ∧ rowFirst t nl fs x = rowGo t nl fs m (x.drop i))
      ⟨0, none, rfl, rfl, rfl⟩ (fun i σ H' _ ⟨_, _, _, e, _⟩ => by rw [e]; exact SqT.of hb) ?_ ?_⟩
    · rintro i y σ H' hi ⟨m, v, rfl, rfl, hm⟩
      obtain ⟨z, hz, rfl⟩ := vN_get hi
      have hzx := hx z (mem_get hz)
      rw [drop_get hz] at hm
      unfold rowGo at hm
      refine ⟨_, rfl, _, rfl, _, _, rfl, rfl, _, rfl, ?_⟩
      refine ite2 (fun h1 => ?_) (fun h1 => ?_)
      · have h2 : z < t := by have := of_decide_eq_true h1; omega
        rw [if_pos h2] at hm
        refine ⟨_, rfl, _, rfl, z, rfl, rfl, (by omega), m, 2 ^ z, rfl, rfl, ?_⟩
        rw [← hm]
        exact q
      · have h2 : ¬ z < t := fun h => h1 (decide_eq_true (by omega))
        rw [if_neg h2] at hm
        refine ⟨_, rfl, _, rfl, _, rfl, _, rfl, _, _, rfl, rfl, o, _, _, _, rfl, rfl, SqL.of ho, at_int (j := z - t) (by omega) (vN_at (by omega)), m, _, rfl, rfl, ?_⟩
        refine ⟨_, rfl, _, rfl, _, rfl, _, _, rfl, rfl, p, _, _, _, rfl, rfl, SqL.of hp, at_int (j := z - t) (by omega) (vB_at (by omega)), _, rfl, ?_⟩
        cases e : nl.getD (z - t) false with
        | true =>
          rw [e, if_pos rfl] at hm
          exact iteF ⟨_, _, rfl, rfl, hm⟩
        | false =>
          rw [e, if_neg Bool.false_ne_true] at hm
          refine iteT ⟨_, rfl, ?_⟩
          rw [← hm]
          exact q
    · rintro σ H' ⟨m, v, rfl, rfl, hm⟩
      rw [vN_len, List.drop_length] at hm
      refine ⟨_, rfl, ?_⟩
      have e : rowFirst t nl fs x = m := hm
      rw [← e]
      exact q
/-! ### find_firsts -/
abbrev s_firsts : Stmt := top 8
theorem sc_firsts : FnScope ["n", "t", "rules", "nullable", "firsts", "changed", "rule", "found"] ["n", "t", "rules", "nullable"] (defScope s_firsts) := ⟨rfl, rfl, rfl, by decide +kernel, rfl, by decide +kernel, by decide +kernel⟩
def spFirsts : Sp := fun vs H Q _ => ∃ (g : Ll.Gram) (rp np : Addr) (nl : List Bool), WF g ∧ vs = [.int (g.nts : Int), .int (g.ts : Int), .ref rp, .ref np] ∧ RulesAt H rp g.rules ∧ H np = some (.lst (vB nl)) ∧ MkSet g.nts nl (Ll.nulls g) ∧
  ∀ (p : Addr) (H' : Hp) (fs : List Nat), H p = none → Same H H' → H' p = some (.lst (vN fs)) → BtSets g.nts fs (Ll.firsts g) → Q (.ref p) H'
theorem ok_firsts {f f1 : Addr} {fd fd1 : FuncData} (F : Def K mg "find_firsts" s_firsts ["n", "t", "rules", "nullable"] f fd) (F1 : Def K mg "row_first" s_row_first ["symbols", "t", "nullable", "firsts"] f1 fd1) :
    FnOk P w K mg base CX0 2 f fd ["n", "t", "rules", "nullable"] spFirsts := by
  have G1 : FnOk P w K mg base CX0 1 f1 fd1 _ spRowFirst := ok_row_first F1
  refine F.fn.ok sc_firsts (fun vs H Q E h => ?_) (fun cdv A outer s H vs Q E hr h => ?_)
  · obtain ⟨g, rp, np, nl, _, rfl, _⟩ := h
    rfl
  · obtain ⟨g, rp, np, nl, wf, rfl, hR, hnp, hnl, q⟩ := h
    obtain ⟨as, hrp, hlen, hrules⟩ := hR
    refine ⟨_, (pss_cons (ps_set (i := 4) sc_firsts.nd rfl (Or.inl rfl) (pe_op op_rep (pe_lst (pa_cons pe_int pa_nil)) (pv 0)))
      (pss_cons (ps_set (i := 5) sc_firsts.nd rfl (Or.inl rfl) pe_bl)
      (pss_cons (ps_while PassesOwn.never (pt_val (pv 5))
      (pss_cons (ps_set (i := 5) sc_firsts.nd rfl (Or.inl rfl) pe_bl)
      (pss_one (ps_for PassesOwn.never rfl (pi_list (pv 2)) (pg_name (i := 6) sc_firsts.nd rfl (Or.inl rfl))
      (pss_cons (ps_set (i := 7) sc_firsts.nd rfl (Or.inl rfl) (pe_op op_orN (pe_ix ix_list (pv 4) (pe_ix ix_tup (pv 6) pe_int (fun _ _ => rfl)) (fun _ _ => rfl)) (pe_call G1 hr rfl F1.mg F1.fn.kp F1.b .nil pass0 (pa_cons (pe_ix ix_tup (pv 6) pe_int (fun _ _ => rfl)) (pa_cons (pv 1) (pa_cons (pv 3) (pa_cons (pv 4) pa_nil)))))))
      (pss_one (ps_if (pt_cmpR op_ne (pv 7) (pe_ix ix_list (pv 4) (pe_ix ix_tup (pv 6) pe_int (fun _ _ => rfl)) (fun _ _ => rfl)) (nomark _))
      (pss_cons (ps_asg (pv 7) (pg_sub (pv 4) (pe_ix ix_tup (pv 6) pe_int (fun _ _ => rfl)) set_list))
      (pss_one (ps_set (i := 5) sc_firsts.nd rfl (Or.inl rfl) pe_bl)))
      pss_nil)))))))
      (pss_one (ps_ret (pv 4)))))), ?_⟩
    have hn := wf.n32
    have ht := wf.t63
    refine ⟨(by show 1 ≤ sizeLine; decide), fun l0 hl0 => ⟨_, rfl, l0, _, _, rfl, rfl, upd_same, (by omega), (by omega), ?_, fun p hp => ?_⟩⟩
    · show 1 * (g.nts : Int).toNat ≤ sizeLine
      rw [nn, Nat.one_mul]
      exact Nat.le_trans hn (by decide)
    have sA : Same H (upd H l0 (.lst [.int 0])) := same_upd (Same.refl H) hl0
    have hp0 : H p = none := sA.free hp
    have e0 : (List.replicate (g.nts : Int).toNat [V.int 0]).flatten = vN (List.replicate g.nts 0) := by rw [nn]; exact rep_int g.nts 0
    rw [e0]
    refine ⟨fun m σ H' => ∃ (fs : List Nat) (c : Bool) (v v2 : Option V), σ = [some (.int (g.nts : Int)), some (.int (g.ts : Int)), some (.ref rp), some (.ref np), some (.ref p), some (.bl c), v, v2] ∧ Same H H' ∧ H' p = some (.lst (vN fs)) ∧ Firs g nl fs c ∧ m = 2 * room (2 ^ g.ts) fs + c.toNat,
      ⟨_, _, true, none, none, rfl, same_upd sA hp0, upd_same, Firs.start, rfl⟩, ?_⟩
    rintro m σ H' ⟨fs, c, v, v2, rfl, sH, hpH, hS, rfl⟩
    refine ⟨_, rfl, _, rfl, ?_⟩
    cases c with
    | false =>
      refine iteF ?_
      exact ⟨_, rfl, q p H' fs hp0 sH hpH (hS.done hnl)⟩
    | true =>
      refine iteT ⟨fun σ' H'' => ∃ (v v2 : Option V), σ' = [some (.int (g.nts : Int)), some (.int (g.ts : Int)), some (.ref rp), some (.ref np), some (.ref p), some (.bl (firstPass g.ts nl g.rules fs).2), v, v2] ∧ Same H H'' ∧ H'' p = some (.lst (vN (firstPass g.ts nl g.rules fs).1)), ?_, ?_⟩
      · rintro σ' H'' ⟨v', v2', rfl, s2, hp2⟩
        obtain ⟨h1, h2, h3⟩ := hS.pass wf hnl
        refine ⟨_, ?_, _, _, v', v2', rfl, s2, hp2, h1, rfl⟩
        cases e : (firstPass g.ts nl g.rules fs).2 with
        | true =>
          have := h2 e
          show 2 * room (2 ^ g.ts) _ + 1 < 2 * room (2 ^ g.ts) fs + 1
          omega
        | false =>
          rw [h3 e]
          show 2 * room (2 ^ g.ts) fs + 0 < 2 * room (2 ^ g.ts) fs + 1
          omega
      refine ⟨_, rfl, rp, rfl, ⟨_, SqL.of (sH _ _ hrp)⟩, for_list (K := K) (a := rp) (xs := as.map V.ref) (fun i σ' H'' => ∃ (v v2 : Option V), σ' = [some (.int (g.nts : Int)), some (.int (g.ts : Int)), some (.ref rp), some (.ref np), some (.ref p), some (.bl ((g.rules.take i).foldl (firstOne g.ts nl) (fs, false)).2), v, v2] ∧ Same H H'' ∧ H'' p = some (.lst (vN ((g.rules.take i).foldl (firstOne g.ts nl) (fs, false)).1)))
        ⟨v, v2, rfl, sH, hpH⟩ (fun i σ H' _ ⟨_, _, _, s2, _⟩ => SqL.of (s2 _ _ hrp)) ?_ ?_⟩
      · rintro i y σ H2 hi ⟨v', v2', rfl, s2, hp2⟩
        obtain ⟨a, ha, rfl⟩ := refs_get hi
        obtain ⟨r, hr'⟩ := get_len ha hlen
        obtain ⟨b, ra, rb⟩ := (hrules i a r ha hr').same s2
        obtain ⟨w1, w2, w3⟩ := wf.rl r (mem_get hr')
        rw [fold_take hr']
        have hl2 : ((g.rules.take i).foldl (firstOne g.ts nl) (fs, false)).1.length = g.nts := by
          rw [first_len]; exact hS.len
        generalize (g.rules.take i).foldl (firstOne g.ts nl) (fs, false) = st at hp2 hl2 ⊢
        obtain ⟨fs2, c2⟩ := st
        have hl2 : fs2.length = g.nts := hl2
        have eS : firstOne g.ts nl (fs2, c2) r = if fs2.getD r.1 0 ||| rowFirst g.ts nl fs2 r.2 = fs2.getD r.1 0 then (fs2, c2) else (fs2.set r.1 (fs2.getD r.1 0 ||| rowFirst g.ts nl fs2 r.2), true) := rfl
        refine ⟨_, rfl, _, rfl, a, _, _, _, rfl, rfl, SqT.of ra, at_int (j := 0) rfl rfl, p, _, _, _, rfl, rfl, SqL.of hp2, at_int (j := r.1) rfl (vN_at (by omega)), _, rfl, a, _, _, _, rfl, rfl, SqT.of ra, at_int (j := 1) rfl rfl, _, rfl, _, rfl, _, rfl,
          b, np, p, r.2, g.ts, nl, fs2, rfl, rb, s2 _ _ hnp, hp2, ht, (by rw [hl2]; exact hnl.1), (by rw [hl2]; exact w3), _, _, rfl, rfl, ?_⟩
        refine ⟨_, rfl, _, rfl, _, rfl, a, _, _, _, rfl, rfl, SqT.of ra, at_int (j := 0) rfl rfl, p, _, _, _, rfl, rfl, SqL.of hp2, at_int (j := r.1) rfl (vN_at (by omega)), rfl, _, rfl, ?_⟩
        by_cases e : fs2.getD r.1 0 ||| rowFirst g.ts nl fs2 r.2 = fs2.getD r.1 0
        · rw [if_pos e] at eS
          rw [eS]
          exact iteNS (by rw [e]) ⟨_, _, rfl, s2, hp2⟩
        · rw [if_neg e] at eS
          rw [eS]
          have d : decide (V.int ((fs2.getD r.1 0 ||| rowFirst g.ts nl fs2 r.2 : Nat) : Int) = V.int ((fs2.getD r.1 0 : Nat) : Int)) = false := decide_eq_false (fun z => e (by injection z with z; omega))
          rw [d]
          refine iteT ⟨_, rfl, _, rfl, _, rfl, a, _, _, _, rfl, rfl, SqT.of ra, at_int (j := 0) rfl rfl, p, _, _, r.1, rfl, rfl, hp2, ixN_nat rfl (by rw [vN_len]; omega), ?_⟩
          refine ⟨_, _, rfl, same_upd s2 hp0, ?_⟩
          rw [upd_same, vN_set]
      · rintro σ H2 ⟨v', v2', rfl, s2, hp2⟩
        rw [List.length_map, hlen, List.take_length] at hp2 ⊢
        exact ⟨v', v2', rfl, s2, hp2⟩
end
end Gk

set_option Elab.async false
set_option linter.all false
set_option maxRecDepth 100000
set_option maxHeartbeats 4000000
namespace Gk
open PySem PySem.Spec PyProof.Rows L2 Gm
section
variable {P : Program} {w : World} {K : PySem.W.Frag} {mg : Str → Option Value} {base : Heap}
/-! ### spread_follow -/
abbrev s_spread : Stmt := top 9
theorem sc_spread : FnScope ["rule", "t", "nullable", "firsts", "follows", "news", "behind", "symbol", "a", "found"] ["rule", "t", "nullable", "firsts", "follows"] (defScope s_spread) := ⟨rfl, rfl, rfl, by decide +kernel, rfl, by decide +kernel, by decide +kernel⟩
def spSpread : Sp := fun vs H Q _ => ∃ (ra np fp op : Addr) (r : Nat × List Nat) (t : Nat) (nl : List Bool) (fs fo : List Nat), vs = [.ref ra, .int (t : Int), .ref np, .ref fp, .ref op] ∧ RuleAt H ra r ∧ H np = some (.lst (vB nl)) ∧ H fp = some (.lst (vN fs)) ∧ H op = some (.lst (vN fo)) ∧
  np ≠ op ∧ fp ≠ op ∧ t ≤ 63 ∧ nl.length = fo.length ∧ fs.length = fo.length ∧ r.1 < fo.length ∧ (∀ s ∈ r.2, s < t + fo.length) ∧
  ∀ H' : Hp, H' op = some (.lst (vN (spread t nl fs (fo.getD r.1 0) fo r.2).2.1)) → But op H H' → Q (.bl (spread t nl fs (fo.getD r.1 0) fo r.2).2.2) H'
theorem drop_back {α : Type} {l : List α} {i : Nat} {x : α} (hi : i < l.length) (h : l[l.length - 1 - i]? = some x) : l.drop (l.length - (i + 1)) = x :: l.drop (l.length - i) := by
  have e : l.length - (i + 1) = l.length - 1 - i := by omega
  have e2 : l.length - i = l.length - 1 - i + 1 := by omega
  rw [e, e2]
  exact drop_get h
theorem ok_spread {f : Addr} {fd : FuncData} (hrev : mg "reversed" = none) (F : Def K mg "spread_follow" s_spread ["rule", "t", "nullable", "firsts", "follows"] f fd) : FnOk P w K mg base CX0 1 f fd ["rule", "t", "nullable", "firsts", "follows"] spSpread := by
  refine F.fn.ok sc_spread (fun vs H Q E h => ?_) (fun cdv A outer s H vs Q E hr h => ?_)
  · obtain ⟨ra, np, fp, op, r, t, nl, fs, fo, rfl, _⟩ := h
    rfl
  · obtain ⟨ra, np, fp, op, r, t, nl, fs, fo, rfl, ⟨b, hra, hb⟩, hnp, hfp, hop, n1, n2, ht, l1, l2, hr1, hx, q⟩ := h
    obtain ⟨r1, x⟩ := r
    have hr1 : r1 < fo.length := hr1
    have hx : ∀ s ∈ x, s < t + fo.length := hx
    have hb : H b = some (.tup (vN x)) := hb
    have hra : H ra = some (.tup [.int (r1 : Int), .ref b]) := hra
    refine ⟨_, (pss_cons (ps_set (i := 5) sc_spread.nd rfl (Or.inl rfl) pe_bl)
      (pss_cons (ps_set (i := 6) sc_spread.nd rfl (Or.inl rfl) (pe_ix ix_list (pv 4) (pe_ix ix_tup (pv 0) pe_int (fun _ _ => rfl)) (fun _ _ => rfl)))
      (pss_cons (ps_for PassesOwn.never rfl (pi_reversedT rfl hrev (pa_cons (pe_ix ix_tup (pv 0) pe_int (fun _ _ => rfl)) pa_nil)) (pg_name (i := 7) sc_spread.nd rfl (Or.inl rfl))
      (pss_one (ps_if (pt_cmpR op_lt (pv 7) (pv 1) (nomark _))
      (pss_one (ps_set (i := 6) sc_spread.nd rfl (Or.inl rfl) (pe_op op_shlN pe_int (pv 7))))
      (pss_cons (ps_set (i := 8) sc_spread.nd rfl (Or.inl rfl) (pe_op op_sub (pv 7) (pv 1)))
      (pss_cons (ps_set (i := 9) sc_spread.nd rfl (Or.inl rfl) (pe_op op_orN (pe_ix ix_list (pv 4) (pv 8) (fun _ _ => rfl)) (pv 6)))
      (pss_cons (ps_if (pt_cmpR op_ne (pv 9) (pe_ix ix_list (pv 4) (pv 8) (fun _ _ => rfl)) (nomark _))
      (pss_cons (ps_asg (pv 9) (pg_sub (pv 4) (pv 8) set_list))
      (pss_one (ps_set (i := 5) sc_spread.nd rfl (Or.inl rfl) pe_bl)))
      pss_nil)
      (pss_one (ps_set (i := 6) sc_spread.nd rfl (Or.inl rfl) (pe_op op_orN (pe_ix ix_list (pv 3) (pv 8) (fun _ _ => rfl)) (pe_ifExp (pt_val (pe_ix ix_list (pv 2) (pv 8) (fun _ _ => rfl))) (pv 6) pe_int))))))))))
      (pss_one (ps_ret (pv 5)))))), ?_⟩
    have nbo : b ≠ op := ne_of hb hop (by intro z; cases z)
    refine ⟨_, rfl, _, rfl, ra, _, _, _, rfl, rfl, SqT.of hra, at_int (j := 0) rfl rfl, op, _, _, _, rfl, rfl, SqL.of hop, at_int (j := r1) rfl (vN_at hr1), ?_⟩
    refine ⟨_, rfl, ra, _, _, _, rfl, rfl, SqT.of hra, at_int (j := 1) rfl rfl, b, vN x, rfl, SqT.of hb, ?_⟩
    refine for_rvd (K := K) (a := b) (xs := vN x) (fun i σ H' => ∃ v8 v9 v10 : Option V, σ = [some (.ref ra), some (.int (t : Int)), some (.ref np), some (.ref fp), some (.ref op), some (.bl (spread t nl fs (fo.getD r1 0) fo (x.drop (x.length - i))).2.2), some (.int ((spread t nl fs (fo.getD r1 0) fo (x.drop (x.length - i))).1 : Nat)), v8, v9, v10] ∧ But op H H' ∧ H' op = some (.lst (vN (spread t nl fs (fo.getD r1 0) fo (x.drop (x.length - i))).2.1)))
      ?_ (fun i σ H' _ ⟨_, _, _, _, e, _⟩ => SqT.of (e b _ hb nbo)) ?_ ?_
    · refine ⟨none, none, none, ?_, But.refl op H, ?_⟩
      · rw [Nat.sub_zero, List.drop_length]; rfl
      · rw [Nat.sub_zero, List.drop_length]; exact hop
    · rintro i y σ H2 hlt hi ⟨v8, v9, v10, rfl, e2, hp2⟩
      rw [vN_len] at hi hlt
      obtain ⟨z, hz, rfl⟩ := vN_get hi
      have hzx := hx z (mem_get hz)
      have hd := drop_back hlt hz
      rw [hd]
      have hl3 : (spread t nl fs (fo.getD r1 0) fo (x.drop (x.length - i))).2.1.length = fo.length := spread_len
      have eS : spread t nl fs (fo.getD r1 0) fo (z :: x.drop (x.length - i)) = (fun st : Nat × List Nat × Bool => if z < t then (2 ^ z, st.2) else (fs.getD (z - t) 0 ||| (if nl.getD (z - t) false = true then st.1 else 0),
        if st.2.1.getD (z - t) 0 ||| st.1 = st.2.1.getD (z - t) 0 then st.2 else (st.2.1.set (z - t) (st.2.1.getD (z - t) 0 ||| st.1), true))) (spread t nl fs (fo.getD r1 0) fo (x.drop (x.length - i))) := rfl
      generalize spread t nl fs (fo.getD r1 0) fo (z :: x.drop (x.length - i)) = st' at eS ⊢
      generalize spread t nl fs (fo.getD r1 0) fo (x.drop (x.length - i)) = st at hp2 hl3 eS ⊢
      obtain ⟨bh, fo2, c2⟩ := st
      have hl3 : fo2.length = fo.length := hl3
      have hp2 : H2 op = some (.lst (vN fo2)) := hp2
      have eS : st' = if z < t then (2 ^ z, (fo2, c2)) else (fs.getD (z - t) 0 ||| (if nl.getD (z - t) false = true then bh else 0), if fo2.getD (z - t) 0 ||| bh = fo2.getD (z - t) 0 then (fo2, c2) else (fo2.set (z - t) (fo2.getD (z - t) 0 ||| bh), true)) := eS
      have hfp2 := e2 _ _ hfp n2
      have hnp2 := e2 _ _ hnp n1
      refine ⟨_, rfl, _, rfl, _, _, rfl, rfl, _, rfl, ?_⟩
      refine ite2 (fun h1 => ?_) (fun h1 => ?_)
      · have h2 : z < t := by have := of_decide_eq_true h1; omega
        rw [if_pos h2] at eS
        subst eS
        exact ⟨_, rfl, z, rfl, rfl, (by omega), _, _, _, rfl, e2, hp2⟩
      · have h2 : ¬ z < t := fun h => h1 (decide_eq_true (by omega))
        rw [if_neg h2] at eS
        have ez : ((z : Int) - (t : Int)) = ((z - t : Nat) : Int) := by omega
        refine ⟨_, rfl, _, rfl, _, _, rfl, rfl, ?_⟩
        refine ⟨_, rfl, _, rfl, op, _, _, _, rfl, rfl, SqL.of hp2, at_int (j := z - t) ez (vN_at (by omega)), _, rfl, _, _, rfl, rfl, ?_⟩
        refine ⟨_, rfl, _, rfl, _, rfl, op, _, _, _, rfl, rfl, SqL.of hp2, at_int (j := z - t) ez (vN_at (by omega)), rfl, _, rfl, ?_⟩
        by_cases e : fo2.getD (z - t) 0 ||| bh = fo2.getD (z - t) 0
        · rw [if_pos e] at eS
          refine iteNS (by rw [e]) ?_
          refine ⟨_, rfl, _, rfl, fp, _, _, _, rfl, rfl, SqL.of hfp2, at_int (j := z - t) ez (vN_at (by omega)), ?_⟩
          refine ⟨_, rfl, _, rfl, np, _, _, _, rfl, rfl, SqL.of hnp2, at_int (j := z - t) ez (vB_at (by omega)), _, rfl, ?_⟩
          cases e3 : nl.getD (z - t) false with
          | true =>
            rw [e3, if_pos rfl] at eS
            subst eS
            exact iteT ⟨_, rfl, _, _, rfl, rfl, _, _, _, rfl, e2, hp2⟩
          | false =>
            rw [e3, if_neg Bool.false_ne_true] at eS
            subst eS
            exact iteF ⟨_, 0, rfl, rfl, _, _, _, rfl, e2, hp2⟩
        · rw [if_neg e] at eS
          have d : decide (V.int ((fo2.getD (z - t) 0 ||| bh : Nat) : Int) = V.int ((fo2.getD (z - t) 0 : Nat) : Int)) = false := decide_eq_false (fun z => e (by injection z with z; omega))
          rw [d]
          refine iteT ⟨_, rfl, _, rfl, _, rfl, op, _, _, z - t, rfl, rfl, hp2, ixN_nat ez (by rw [vN_len]; omega), ?_⟩
          rw [vN_set]
          have e4 : But op H (upd H2 op (.lst (vN (fo2.set (z - t) (fo2.getD (z - t) 0 ||| bh))))) := e2.upd
          have hfp3 := e4 _ _ hfp n2
          have hnp3 := e4 _ _ hnp n1
          refine ⟨_, rfl, _, rfl, fp, _, _, _, rfl, rfl, SqL.of hfp3, at_int (j := z - t) ez (vN_at (by omega)), ?_⟩
          refine ⟨_, rfl, _, rfl, np, _, _, _, rfl, rfl, SqL.of hnp3, at_int (j := z - t) ez (vB_at (by omega)), _, rfl, ?_⟩
          cases e3 : nl.getD (z - t) false with
          | true =>
            rw [e3, if_pos rfl] at eS
            subst eS
            exact iteT ⟨_, rfl, _, _, rfl, rfl, _, _, _, rfl, e4, upd_same⟩
          | false =>
            rw [e3, if_neg Bool.false_ne_true] at eS
            subst eS
            exact iteF ⟨_, 0, rfl, rfl, _, _, _, rfl, e4, upd_same⟩
    · rintro σ H2 ⟨v8, v9, v10, rfl, e2, hp2⟩
      rw [vN_len, Nat.sub_self, List.drop_zero] at hp2 ⊢
      exact ⟨_, rfl, q H2 hp2 e2⟩
end
end Gk

set_option Elab.async false
set_option linter.all false
set_option maxRecDepth 100000
set_option maxHeartbeats 4000000
namespace Gk
open PySem PySem.Spec PyProof.Rows L2 Gm
section
variable {P : Program} {w : World} {K : PySem.W.Frag} {mg : Str → Option Value} {base : Heap}
/-! ### find_follows -/
abbrev s_follows : Stmt := top 10
theorem sc_follows : FnScope ["n", "t", "rules", "nullable", "firsts", "follows", "changed", "rule"] ["n", "t", "rules", "nullable", "firsts"] (defScope s_follows) := ⟨rfl, rfl, rfl, by decide +kernel, rfl, by decide +kernel, by decide +kernel⟩
def spFollows : Sp := fun vs H Q _ => ∃ (g : Ll.Gram) (rp np fp : Addr) (nl : List Bool) (fs : List Nat), WF g ∧ vs = [.int (g.nts : Int), .int (g.ts : Int), .ref rp, .ref np, .ref fp] ∧ RulesAt H rp g.rules ∧ H np = some (.lst (vB nl)) ∧ MkSet g.nts nl (Ll.nulls g) ∧ H fp = some (.lst (vN fs)) ∧ BtSets g.nts fs (Ll.firsts g) ∧
  ∀ (p : Addr) (H' : Hp) (fo : List Nat), H p = none → Same H H' → H' p = some (.lst (vN fo)) → BtSets g.nts fo (Ll.follows g) → Q (.ref p) H'
theorem ok_follows {f f1 : Addr} {fd fd1 : FuncData} (hrev : mg "reversed" = none) (F : Def K mg "find_follows" s_follows ["n", "t", "rules", "nullable", "firsts"] f fd) (F1 : Def K mg "spread_follow" s_spread ["rule", "t", "nullable", "firsts", "follows"] f1 fd1) :
    FnOk P w K mg base CX0 2 f fd ["n", "t", "rules", "nullable", "firsts"] spFollows := by
  have G1 : FnOk P w K mg base CX0 1 f1 fd1 _ spSpread := ok_spread hrev F1
  refine F.fn.ok sc_follows (fun vs H Q E h => ?_) (fun cdv A outer s H vs Q E hr h => ?_)
  · obtain ⟨g, rp, np, fp, nl, fs, _, rfl, _⟩ := h
    rfl
  · obtain ⟨g, rp, np, fp, nl, fs, wf, rfl, hR, hnp, hnl, hfp, hfs, q⟩ := h
    obtain ⟨as, hrp, hlen, hrules⟩ := hR
    refine ⟨_, (pss_cons (ps_set (i := 5) sc_follows.nd rfl (Or.inl rfl) (pe_op op_rep (pe_lst (pa_cons pe_int pa_nil)) (pv 0)))
      (pss_cons (ps_asg (pe_op op_shlN pe_int (pv 1)) (pg_sub (pv 5) pe_int set_list))
      (pss_cons (ps_set (i := 6) sc_follows.nd rfl (Or.inl rfl) pe_bl)
      (pss_cons (ps_while PassesOwn.never (pt_val (pv 6))
      (pss_cons (ps_set (i := 6) sc_follows.nd rfl (Or.inl rfl) pe_bl)
      (pss_one (ps_for PassesOwn.never rfl (pi_list (pv 2)) (pg_name (i := 7) sc_follows.nd rfl (Or.inl rfl))
      (pss_one (ps_if (pt_val (pe_call G1 hr rfl F1.mg F1.fn.kp F1.b .nil pass0 (pa_cons (pv 7) (pa_cons (pv 1) (pa_cons (pv 3) (pa_cons (pv 4) (pa_cons (pv 5) pa_nil)))))))
      (pss_one (ps_set (i := 6) sc_follows.nd rfl (Or.inl rfl) pe_bl))
      pss_nil))))))
      (pss_one (ps_ret (pv 5))))))), ?_⟩
    have hn := wf.n32
    have hn1 := wf.n1
    have ht := wf.t63
    refine ⟨(by show 1 ≤ sizeLine; decide), fun l0 hl0 => ⟨_, rfl, l0, _, _, rfl, rfl, upd_same, (by omega), (by omega), ?_, fun p hp => ?_⟩⟩
    · show 1 * (g.nts : Int).toNat ≤ sizeLine
      rw [nn, Nat.one_mul]
      exact Nat.le_trans hn (by decide)
    have sA : Same H (upd H l0 (.lst [.int 0])) := same_upd (Same.refl H) hl0
    have hp0 : H p = none := sA.free hp
    have e0 : (List.replicate (g.nts : Int).toNat [V.int 0]).flatten = vN (List.replicate g.nts 0) := by rw [nn]; exact rep_int g.nts 0
    rw [e0]
    refine ⟨_, rfl, g.ts, rfl, rfl, (by omega), _, rfl, p, _, _, 0, rfl, rfl, upd_same, ixN_nat rfl (by rw [vN_len, List.length_replicate]; omega), ?_⟩
    rw [vN_set, upd_upd]
    refine ⟨fun m σ H' => ∃ (fo : List Nat) (c : Bool) (v : Option V), σ = [some (.int (g.nts : Int)), some (.int (g.ts : Int)), some (.ref rp), some (.ref np), some (.ref fp), some (.ref p), some (.bl c), v] ∧ Same H H' ∧ H' p = some (.lst (vN fo)) ∧ Foll g nl fs fo c ∧ m = 2 * room (2 ^ (g.ts + 1)) fo + c.toNat,
      ⟨_, _, true, none, rfl, same_upd sA hp0, upd_same, Foll.start wf, rfl⟩, ?_⟩
    rintro m σ H' ⟨fo, c, v, rfl, sH, hpH, hS, rfl⟩
    refine ⟨_, rfl, _, rfl, ?_⟩
    cases c with
    | false =>
      refine iteF ?_
      exact ⟨_, rfl, q p H' fo hp0 sH hpH (hS.done hnl hfs)⟩
    | true =>
      refine iteT ⟨fun σ' H'' => ∃ (v : Option V), σ' = [some (.int (g.nts : Int)), some (.int (g.ts : Int)), some (.ref rp), some (.ref np), some (.ref fp), some (.ref p), some (.bl (followPass g.ts nl fs g.rules fo).2), v] ∧ Same H H'' ∧ H'' p = some (.lst (vN (followPass g.ts nl fs g.rules fo).1)), ?_, ?_⟩
      · rintro σ' H'' ⟨v', rfl, s2, hp2⟩
        obtain ⟨h1, h2, h3⟩ := hS.pass wf hnl hfs
        refine ⟨_, ?_, _, _, v', rfl, s2, hp2, h1, rfl⟩
        cases e : (followPass g.ts nl fs g.rules fo).2 with
        | true =>
          have := h2 e
          show 2 * room (2 ^ (g.ts + 1)) _ + 1 < 2 * room (2 ^ (g.ts + 1)) fo + 1
          omega
        | false =>
          rw [h3 e]
          show 2 * room (2 ^ (g.ts + 1)) fo + 0 < 2 * room (2 ^ (g.ts + 1)) fo + 1
          omega
      refine ⟨_, rfl, rp, rfl, ⟨_, SqL.of (sH _ _ hrp)⟩, for_list (K := K) (a := rp) (xs := as.map V.ref) (fun i σ' H'' => ∃ (v : Option V), σ' = [some (.int (g.nts : Int)), some (.int (g.ts : Int)), some (.ref rp), some (.ref np), some (.ref fp), some (.ref p), some (.bl ((g.rules.take i).foldl (followOne g.ts nl fs) (fo, false)).2), v] ∧ Same H H'' ∧ H'' p = some (.lst (vN ((g.rules.take i).foldl (followOne g.ts nl fs) (fo, false)).1)))
        ⟨v, rfl, sH, hpH⟩ (fun i σ H' _ ⟨_, _, s2, _⟩ => SqL.of (s2 _ _ hrp)) ?_ ?_⟩
      · rintro i y σ H2 hi ⟨v', rfl, s2, hp2⟩
        obtain ⟨a, ha, rfl⟩ := refs_get hi
        obtain ⟨r, hr'⟩ := get_len ha hlen
        have hra := (hrules i a r ha hr').same s2
        obtain ⟨w1, w2, w3⟩ := wf.rl r (mem_get hr')
        rw [fold_take hr']
        have hl2 : ((g.rules.take i).foldl (followOne g.ts nl fs) (fo, false)).1.length = g.nts := by
          rw [follow_len]; exact hS.len
        generalize (g.rules.take i).foldl (followOne g.ts nl fs) (fo, false) = st at hp2 hl2 ⊢
        obtain ⟨fo2, c2⟩ := st
        have hl2 : fo2.length = g.nts := hl2
        have eS : followOne g.ts nl fs (fo2, c2) r = ((spread g.ts nl fs (fo2.getD r.1 0) fo2 r.2).2.1, (spread g.ts nl fs (fo2.getD r.1 0) fo2 r.2).2.2 || c2) := rfl
        rw [eS]
        refine ⟨_, rfl, _, rfl, _, rfl, _, rfl, _, rfl, a, np, fp, p, r, g.ts, nl, fs, fo2, rfl, hra, s2 _ _ hnp, s2 _ _ hfp, hp2, ne_of_none hnp hp0, ne_of_none hfp hp0, ht, (by rw [hl2]; exact hnl.1), (by rw [hl2]; exact hfs.1), (by rw [hl2]; exact w1), (by rw [hl2]; exact w3), fun H3 hp3 b3 => ⟨_, rfl, ?_⟩⟩
        have s3 : Same H H3 := But.same s2 b3 hp0
        cases e2 : (spread g.ts nl fs (fo2.getD r.1 0) fo2 r.2).2.2 with
        | false => exact iteF ⟨_, rfl, s3, hp3⟩
        | true => exact iteT ⟨_, rfl, s3, hp3⟩
      · rintro σ H2 ⟨v', rfl, s2, hp2⟩
        rw [List.length_map, hlen, List.take_length] at hp2 ⊢
        exact ⟨v', rfl, s2, hp2⟩
/-! ### rule_tokens -/
abbrev s_rule_tokens : Stmt := top 11
theorem sc_rule_tokens : FnScope ["rule", "t", "nullable", "firsts", "follows", "found"] ["rule", "t", "nullable", "firsts", "follows"] (defScope s_rule_tokens) := ⟨rfl, rfl, rfl, by decide +kernel, rfl, by decide +kernel, by decide +kernel⟩
def spRuleTokens : Sp := fun vs H Q _ => ∃ (ra np fp op : Addr) (r : Nat × List Nat) (t : Nat) (nl : List Bool) (fs fo : List Nat), vs = [.ref ra, .int (t : Int), .ref np, .ref fp, .ref op] ∧ RuleAt H ra r ∧ H np = some (.lst (vB nl)) ∧ H fp = some (.lst (vN fs)) ∧ H op = some (.lst (vN fo)) ∧
  t ≤ 63 ∧ nl.length = fo.length ∧ fs.length = fo.length ∧ r.1 < fo.length ∧ (∀ s ∈ r.2, s < t + fo.length) ∧ Q (.int ((ruleTokens t nl fs fo r : Nat) : Int)) H
theorem ok_rule_tokens {f f1 f2 : Addr} {fd fd1 fd2 : FuncData} (F : Def K mg "rule_tokens" s_rule_tokens ["rule", "t", "nullable", "firsts", "follows"] f fd) (F1 : Def K mg "row_first" s_row_first ["symbols", "t", "nullable", "firsts"] f1 fd1)
    (F2 : Def K mg "row_settles" s_row_settles ["symbols", "t", "settled", "tokens_stay"] f2 fd2) : FnOk P w K mg base CX0 2 f fd ["rule", "t", "nullable", "firsts", "follows"] spRuleTokens := by
  have G1 : FnOk P w K mg base CX0 1 f1 fd1 _ spRowFirst := ok_row_first F1
  have G2 : FnOk P w K mg base CX0 1 f2 fd2 _ spRowSettles := ok_row_settles F2
  refine F.fn.ok sc_rule_tokens (fun vs H Q E h => ?_) (fun cdv A outer s H vs Q E hr h => ?_)
  · obtain ⟨ra, np, fp, op, r, t, nl, fs, fo, rfl, _⟩ := h
    rfl
  · obtain ⟨ra, np, fp, op, r, t, nl, fs, fo, rfl, ⟨b, hra, hb⟩, hnp, hfp, hop, ht, l1, l2, hr1, hx, q⟩ := h
    refine ⟨_, (pss_cons (ps_set (i := 5) sc_rule_tokens.nd rfl (Or.inl rfl) (pe_call G1 hr rfl F1.mg F1.fn.kp F1.b .nil pass0 (pa_cons (pe_ix ix_tup (pv 0) pe_int (fun _ _ => rfl)) (pa_cons (pv 1) (pa_cons (pv 2) (pa_cons (pv 3) pa_nil))))))
      (pss_cons (ps_if (pt_val (pe_call G2 hr rfl F2.mg F2.fn.kp F2.b .nil pass0 (pa_cons (pe_ix ix_tup (pv 0) pe_int (fun _ _ => rfl)) (pa_cons (pv 1) (pa_cons (pv 2) (pa_cons pe_bl pa_nil))))))
      (pss_one (ps_set (i := 5) sc_rule_tokens.nd rfl (Or.inl rfl) (pe_op op_orN (pv 5) (pe_ix ix_list (pv 4) (pe_ix ix_tup (pv 0) pe_int (fun _ _ => rfl)) (fun _ _ => rfl)))))
      pss_nil)
      (pss_one (ps_ret (pv 5))))), ?_⟩
    refine ⟨_, rfl, ra, _, _, _, rfl, rfl, SqT.of hra, at_int (j := 1) rfl rfl, _, rfl, _, rfl, _, rfl, b, np, fp, r.2, t, nl, fs, rfl, hb, hnp, hfp, ht, (by omega), (by rw [l2]; exact hx), ?_⟩
    refine ⟨_, rfl, ra, _, _, _, rfl, rfl, SqT.of hra, at_int (j := 1) rfl rfl, _, rfl, _, rfl, b, np, r.2, t, nl, false, rfl, hb, hnp, (by rw [l1]; exact hx), _, rfl, ?_⟩
    unfold ruleTokens at q
    cases e : rowSettles t nl false r.2 with
    | true =>
      rw [e, if_pos rfl] at q
      exact iteT ⟨_, rfl, _, rfl, _, rfl, ra, _, _, _, rfl, rfl, SqT.of hra, at_int (j := 0) rfl rfl, op, _, _, _, rfl, rfl, SqL.of hop, at_int (j := r.1) rfl (vN_at hr1), _, _, rfl, rfl, _, rfl, q⟩
    | false =>
      rw [e, if_neg Bool.false_ne_true] at q
      exact iteF ⟨_, rfl, q⟩
end
end Gk

set_option Elab.async false
set_option linter.all false
set_option maxRecDepth 100000
set_option maxHeartbeats 4000000
namespace L2
open PySem PySem.Spec PyProof.Rows
/-- for i, x in enumerate(xs): the list stays -/
theorem for_enum {K : PySem.W.Frag} {a : Addr} {xs : List V} {g : TG} {tb : TS} {D : Ends} {σ : St} {H : Hp} (Pv : Nat → St → Hp → Prop) (h0 : Pv 0 σ H) (hl : ∀ i σ H, i ≤ xs.length → Pv i σ H → SqL K H a xs)
    (hs : ∀ i x σ H T, xs[i]? = some x → Pv i σ H → H T = none → g (.ref T) σ (upd H T (.tup [.int (i : Nat), x])) fun σ2 H2 => tb { D with nx := Pv (i + 1), ct := Pv (i + 1), bk := D.nx } σ2 H2) (hd : ∀ σ H, Pv xs.length σ H → D.nx σ H) :
    ∃ W : Nat → Nat → St → Hp → Prop, (∃ m, W 0 m σ H) ∧ ∀ i m σ H, W i m σ H →
      ((Ite K a).stop i H ∧ D.nx σ H) ∨ ((Ite K a).go i H ∧ ∃ N : St → Hp → Prop, (∀ σ' H', N σ' H' → ∃ m', m' < m ∧ W (i + 1) m' σ' H') ∧ ∀ x H', (Ite K a).yld i H x H' → g x σ H' fun σ2 H2 => tb { D with nx := N, ct := N, bk := D.nx } σ2 H2) := by
  refine ⟨fun i m σ H => m = xs.length - i ∧ i ≤ xs.length ∧ Pv i σ H, ⟨xs.length, by simp, Nat.zero_le _, h0⟩, ?_⟩
  rintro i m σ H ⟨rfl, hi, p⟩
  have q := hl i σ H hi p
  by_cases hlt : i < xs.length
  · refine .inr ⟨⟨xs, xs[i], q, List.getElem?_eq_getElem hlt⟩, Pv (i + 1), fun σ' H' p' => ⟨xs.length - (i + 1), by omega, rfl, hlt, p'⟩, fun x H' y => ?_⟩
    obtain ⟨T, x', rfl, hT, rfl, y⟩ := y
    exact hs i x' σ _ T (y xs q) p hT
  · have e : i = xs.length := by omega
    subst e
    exact .inl ⟨⟨xs, q, Nat.le_refl _⟩, hd σ H p⟩
end L2
namespace Gk
open PySem PySem.Spec PyProof.Rows L2 Gm
/-! ### a bit of a mask -/
theorem bit_val (m k : Nat) : m / 2 ^ k % 2 = if m.testBit k = true then 1 else 0 := by
  rw [Nat.testBit_eq_decide_div_mod_eq]
  have := Nat.mod_two_eq_zero_or_one (m / 2 ^ k)
  by_cases h : m / 2 ^ k % 2 = 1
  · simp [h]
  · have h0 : m / 2 ^ k % 2 = 0 := by omega
    simp [h0]
/-- m >> k, both from 0 on -/
theorem op_shrN {X : Cx} : OpR X (binaryOp .RShift) (fun x y H Q => ∃ m k : Nat, x = .int (m : Int) ∧ y = .int (k : Int) ∧ Q (.int ((m / 2 ^ k : Nat) : Int)) H) := by
  intro pins s σ H x y v u Q I rx ry h
  obtain ⟨m, k, rfl, rfl, q⟩ := h
  refine op_shr pins s σ H _ _ v u Q I rx ry ⟨_, _, rfl, rfl, (by omega), ?_⟩
  show Q (.int ((m : Int) / 2 ^ ((k : Int)).toNat)) H
  rw [nn]
  have e : ((m / 2 ^ k : Nat) : Int) = (m : Int) / 2 ^ k := by
    rw [Int.natCast_ediv, Int.natCast_pow]
    rfl
  rw [← e]
  exact q
/-- m & 1 -/
theorem op_andN {X : Cx} : OpR X (binaryOp .BitAnd) (fun x y H Q => ∃ m : Nat, x = .int (m : Int) ∧ y = .int 1 ∧ Q (.int ((m % 2 : Nat) : Int)) H) := by
  intro pins s σ H x y v u Q I rx ry h
  obtain ⟨m, rfl, rfl, q⟩ := h
  refine op_and pins s σ H _ _ v u Q I rx ry ⟨_, _, rfl, rfl, ?_⟩
  show Q (.int (Builtin.bitAnd (m : Int) (1 : Int))) H
  have e : Builtin.bitAnd (m : Int) (1 : Int) = ((m % 2 : Nat) : Int) := by
    rw [bitAnd_pp (by omega) (by omega), nn]
    show ((m &&& 1 : Nat) : Int) = _
    rw [Nat.and_one_is_mod]
  rw [e]
  exact q
theorem bit_is {m k : Nat} : decide (V.int ((m / 2 ^ k % 2 : Nat) : Int) = V.int 1) = m.testBit k := by
  rw [bit_val]
  cases m.testBit k <;> decide
theorem bit_no {m k : Nat} : decide (V.int ((m / 2 ^ k % 2 : Nat) : Int) = V.int 0) = !m.testBit k := by
  rw [bit_val]
  cases m.testBit k <;> decide
section
variable {P : Program} {w : World} {K : PySem.W.Frag} {mg : Str → Option Value} {base : Heap}
/-! ### members -/
abbrev s_members : Stmt := top 32
theorem sc_members : FnScope ["bits", "t", "token"] ["bits", "t"] (defScope s_members) := ⟨rfl, rfl, rfl, by decide +kernel, rfl, by decide +kernel, by decide +kernel⟩
def spMembers : Sp := fun vs H Q _ => ∃ (m t : Nat), vs = [.int (m : Int), .int (t : Int)] ∧ t ≤ 63 ∧ ∀ (p : Addr) (H' : Hp), H p = none → Same H H' → H' p = some (.lst (vN (bits m t))) → Q (.ref p) H'
def scp_members : Scope := { kind := .function, names := [(".0", .local), ("token", .local), ("bits", .free)], isGenerator := false, isCoroutine := false }
theorem blk_members : BlkOk ["bits", "t", "token"] (defScope s_members) scp_members [("token", 2)] := ⟨rfl, by decide +kernel, by decide +kernel, by decide +kernel, by decide +kernel⟩
theorem ok_members {f : Addr} {fd : FuncData} (hrange : mg "range" = none) (F : Def K mg "members" s_members ["bits", "t"] f fd) : FnOk P w K mg base CX0 1 f fd ["bits", "t"] spMembers := by
  refine F.fn.ok sc_members (fun vs H Q E h => ?_) (fun cdv A outer s H vs Q E hr h => ?_)
  · obtain ⟨m, t, rfl, _⟩ := h
    rfl
  · obtain ⟨m, t, rfl, ht, q⟩ := h
    refine ⟨_, (pss_one (ps_ret (pe_lc rfl sc_members.nd (pi_range1 rfl hrange (pa_cons (pe_op op_add (pv 1) pe_int) pa_nil)) blk_members (fun _ _ _ _ _ => pg_name (i := 2) sc_members.nd rfl (Or.inl rfl)) (fun _ _ _ _ _ => (pts_one (pt_cmpR op_eq (pe_op op_andN (pe_op op_shrN (pv 0) (pv 2)) pe_int) pe_int (nomark _)))) (fun _ _ _ _ _ => (pv 2))))), ?_⟩
    refine ⟨_, rfl, _, _, rfl, rfl, _, rfl, (by omega), (by omega), fun D hD => ?_⟩
    have et : ((t : Int) + 1).toNat = t + 1 := by omega
    rw [et]
    refine lc_range (fun i H' => But D H H' ∧ H' D = some (.lst (vN ((List.range i).filter fun a => m.testBit a)))) ⟨(But.refl D H).upd, upd_same⟩ ?_ ?_
    · rintro i H3 hi ⟨b3, e3⟩
      rw [filter_range_snoc]
      refine ⟨rfl, ?_⟩
      refine ⟨_, rfl, _, rfl, m, i, rfl, (by rw [Int.zero_add]), _, rfl, rfl, rfl, _, rfl, ?_⟩
      rw [bit_is]
      have hlen : (vN ((List.range i).filter fun n => m.testBit n)).length < sizeLine := by
        rw [vN_len]
        exact Nat.lt_of_le_of_lt (filter_range_len _ _) (Nat.lt_of_lt_of_le (show i < 64 by omega) (by decide))
      cases z : m.testBit i with
      | true =>
        refine iteT ⟨_, rfl, _, e3, hlen, b3.upd, ?_⟩
        rw [upd_same, if_pos rfl, vN_snoc, Int.zero_add]
      | false =>
        refine iteF ⟨b3, ?_⟩
        rw [e3]
        simp
    · rintro H3 ⟨b3, e3⟩
      exact q D H3 hD (But.same (Same.refl H) b3 hD) e3
end
end Gk

set_option Elab.async false
set_option linter.all false
set_option maxRecDepth 100000
set_option maxHeartbeats 4000000
namespace Gk
open PySem PySem.Spec PyProof.Rows L2 Gm
/-! ### a table of lists of numbers -/
def vR (n : Nat) (R : Nat → Addr) : List V := (List.range n).map fun i => V.ref (R i)
theorem vR_len (n : Nat) (R : Nat → Addr) : (vR n R).length = n := by simp [vR]
theorem vR_at {n i : Nat} {R : Nat → Addr} (h : i < n) : (vR n R)[i]? = some (V.ref (R i)) := by
  unfold vR
  rw [List.getElem?_map, List.getElem?_range h]
  rfl
theorem vR_get {n i : Nat} {R : Nat → Addr} {y : V} (h : (vR n R)[i]? = some y) : i < n ∧ y = V.ref (R i) := by
  have hi : i < n := by
    have := (List.getElem?_eq_some_iff.mp h).1
    rw [vR_len] at this
    exact this
  rw [vR_at hi] at h
  exact ⟨hi, (Option.some.inj h).symm⟩
theorem vR_succ (n : Nat) (R R' : Nat → Addr) (h : ∀ i, i < n → R' i = R i) : vR (n + 1) R' = vR n R ++ [V.ref (R' n)] := by
  unfold vR
  rw [List.range_succ, List.map_append]
  congr 1
  exact List.map_congr_left fun i hi => by rw [h i (List.mem_range.mp hi)]
/-- the table as it is read -/
def TabR (H : Hp) (p : Addr) (n m : Nat) (f : Nat → Nat → List Nat) : Prop := ∃ (R : Nat → Addr) (C : Nat → Nat → Addr), H p = some (.lst (vR n R)) ∧ (∀ i, i < n → H (R i) = some (.lst (vR m (C i)))) ∧ ∀ i j, i < n → j < m → H (C i j) = some (.lst (vN (f i j)))
theorem TabR.same {H H' : Hp} {p : Addr} {n m : Nat} {f : Nat → Nat → List Nat} (h : TabR H p n m f) (s : Same H H') : TabR H' p n m f :=
  let ⟨R, C, h1, h2, h3⟩ := h
  ⟨R, C, s _ _ h1, fun i hi => s _ _ (h2 i hi), fun i j hi hj => s _ _ (h3 i j hi hj)⟩
theorem TabR.congr {H : Hp} {p : Addr} {n m : Nat} {f f' : Nat → Nat → List Nat} (h : TabR H p n m f) (e : ∀ i j, i < n → j < m → f i j = f' i j) : TabR H p n m f' :=
  let ⟨R, C, h1, h2, h3⟩ := h
  ⟨R, C, h1, h2, fun i j hi hj => by rw [← e i j hi hj]; exact h3 i j hi hj⟩
/-- .. as it is built over H0 -/
structure TabAt (H0 H : Hp) (p : Addr) (n m : Nat) (f : Nat → Nat → List Nat) (R : Nat → Addr) (C : Nat → Nat → Addr) : Prop where
  top : H p = some (.lst (vR n R))
  row : ∀ i, i < n → H (R i) = some (.lst (vR m (C i)))
  cell : ∀ i j, i < n → j < m → H (C i j) = some (.lst (vN (f i j)))
  np : H0 p = none
  nR : ∀ i, i < n → R i ≠ p
  nC : ∀ i j, i < n → j < m → H0 (C i j) = none ∧ C i j ≠ p ∧ ∀ i', i' < n → C i j ≠ R i'
  inj : ∀ i j i' j', i < n → j < m → i' < n → j' < m → C i j = C i' j' → i = i' ∧ j = j'
theorem TabAt.rd {H0 H : Hp} {p : Addr} {n m : Nat} {f : Nat → Nat → List Nat} {R : Nat → Addr} {C : Nat → Nat → Addr} (h : TabAt H0 H p n m f R C) : TabR H p n m f := ⟨R, C, h.top, h.row, h.cell⟩
theorem TabAt.same {H0 H H' : Hp} {p : Addr} {n m : Nat} {f : Nat → Nat → List Nat} {R : Nat → Addr} {C : Nat → Nat → Addr} (h : TabAt H0 H p n m f R C) (s : Same H H') : TabAt H0 H' p n m f R C :=
  ⟨s _ _ h.top, fun i hi => s _ _ (h.row i hi), fun i j hi hj => s _ _ (h.cell i j hi hj), h.np, h.nR, h.nC, h.inj⟩
theorem TabAt.congr {H0 H : Hp} {p : Addr} {n m : Nat} {f f' : Nat → Nat → List Nat} {R : Nat → Addr} {C : Nat → Nat → Addr} (h : TabAt H0 H p n m f R C) (e : ∀ i j, i < n → j < m → f i j = f' i j) : TabAt H0 H p n m f' R C :=
  ⟨h.top, h.row, fun i j hi hj => by rw [← e i j hi hj]; exact h.cell i j hi hj, h.np, h.nR, h.nC, h.inj⟩
/-- a number put to one list -/
theorem TabAt.put {H0 H : Hp} {p : Addr} {n m : Nat} {f : Nat → Nat → List Nat} {R : Nat → Addr} {C : Nat → Nat → Addr} (h : TabAt H0 H p n m f R C) {a b k : Nat} (ha : a < n) (hb : b < m) :
    TabAt H0 (upd H (C a b) (.lst (vN (f a b ++ [k])))) p n m (fun i j => if i = a ∧ j = b then f i j ++ [k] else f i j) R C := by
  refine ⟨?_, fun i hi => ?_, fun i j hi hj => ?_, h.np, h.nR, h.nC, h.inj⟩
  · rw [upd_ne (Ne.symm (h.nC a b ha hb).2.1)]
    exact h.top
  · rw [upd_ne (Ne.symm ((h.nC a b ha hb).2.2 i hi))]
    exact h.row i hi
  · by_cases e : i = a ∧ j = b
    · rw [if_pos e, e.1, e.2, upd_same]
    · rw [if_neg e, upd_ne (fun z => e (h.inj i j a b hi hj ha hb z))]
      exact h.cell i j hi hj
/-- a row put to the table -/
theorem TabAt.more {H0 H H1 : Hp} {p D : Addr} {n m : Nat} {R : Nat → Addr} {C : Nat → Nat → Addr} {c : Nat → Addr} (h : TabAt H0 H p n m (fun _ _ => []) R C) (s0 : Same H0 H) (s : Same H H1) (hD : H D = none) (eD : H1 D = some (.lst (vR m c)))
    (hc : ∀ j, j < m → H1 (c j) = some (.lst []) ∧ H (c j) = none ∧ c j ≠ D) (ci : ∀ j j', j < m → j' < m → c j = c j' → j = j') :
    TabAt H0 (upd H1 p (.lst (vR n R ++ [V.ref D]))) p (n + 1) m (fun _ _ => []) (fun i => if i = n then D else R i) (fun i j => if i = n then c j else C i j) := by
  have hpD : D ≠ p := Ne.symm (ne_of_none h.top hD)
  have hcp : ∀ j, j < m → c j ≠ p := fun j hj => Ne.symm (ne_of_none h.top (hc j hj).2.1)
  refine ⟨?_, fun i hi => ?_, fun i j hi hj => ?_, h.np, fun i hi => ?_, fun i j hi hj => ?_, fun i j i' j' hi hj hi' hj' e => ?_⟩
  · rw [upd_same, vR_succ n R _ (fun i hi => if_neg (by omega)), if_pos rfl]
  · by_cases e : i = n
    · rw [if_pos e, upd_ne hpD, eD]
      simp only [e, if_true]
    · have hi : i < n := by omega
      rw [if_neg e, upd_ne (h.nR i hi)]
      simp only [e, if_false]
      exact s _ _ (h.row i hi)
  · by_cases e : i = n
    · rw [if_pos e, upd_ne (hcp j hj)]
      exact (hc j hj).1
    · have hi : i < n := by omega
      rw [if_neg e, upd_ne (h.nC i j hi hj).2.1]
      exact s _ _ (h.cell i j hi hj)
  · by_cases e : i = n
    · rw [if_pos e]; exact hpD
    · rw [if_neg e]; exact h.nR i (by omega)
  · by_cases e : i = n
    · simp only [e, if_true]
      refine ⟨s0.free (hc j hj).2.1, hcp j hj, fun i' hi' => ?_⟩
      by_cases e' : i' = n
      · rw [if_pos e']; exact (hc j hj).2.2
      · rw [if_neg e']; exact Ne.symm (ne_of_none (h.row i' (by omega)) (hc j hj).2.1)
    · have hi : i < n := by omega
      simp only [e, if_false]
      refine ⟨(h.nC i j hi hj).1, (h.nC i j hi hj).2.1, fun i' hi' => ?_⟩
      by_cases e' : i' = n
      · rw [if_pos e']; exact ne_of_none (h.cell i j hi hj) hD
      · rw [if_neg e']; exact (h.nC i j hi hj).2.2 i' (by omega)
  · by_cases e1 : i = n <;> by_cases e2 : i' = n
    · simp only [e1, e2, if_true] at e
      exact ⟨by omega, ci j j' hj hj' e⟩
    · simp only [e1, e2, if_true, if_false] at e
      exact absurd e.symm (ne_of_none (h.cell i' j' (by omega) hj') (hc j hj).2.1)
    · simp only [e1, e2, if_true, if_false] at e
      exact absurd e (ne_of_none (h.cell i j (by omega) hj) (hc j' hj').2.1)
    · simp only [e1, e2, if_false] at e
      exact h.inj i j i' j' (by omega) hj (by omega) hj' e
section
variable {P : Program} {w : World} {K : PySem.W.Frag} {mg : Str → Option Value} {base : Heap}
/-! ### find_choices -/
abbrev s_choices : Stmt := top 12
theorem sc_choices : FnScope ["n", "t", "rules", "nullable", "firsts", "follows", "choices", "a", "number", "rule", "found", "token"] ["n", "t", "rules", "nullable", "firsts", "follows"] (defScope s_choices) := ⟨rfl, rfl, rfl, by decide +kernel, rfl, by decide +kernel, by decide +kernel⟩
def spChoices : Sp := fun vs H Q _ => ∃ (g : Ll.Gram) (rp np fp op : Addr) (nl : List Bool) (fs fo : List Nat), WF g ∧ vs = [.int (g.nts : Int), .int (g.ts : Int), .ref rp, .ref np, .ref fp, .ref op] ∧ RulesAt H rp g.rules ∧ H np = some (.lst (vB nl)) ∧ MkSet g.nts nl (Ll.nulls g) ∧ H fp = some (.lst (vN fs)) ∧ BtSets g.nts fs (Ll.firsts g) ∧ H op = some (.lst (vN fo)) ∧ BtSets g.nts fo (Ll.follows g) ∧
  ∀ (p : Addr) (H' : Hp), H p = none → Same H H' → TabR H' p g.nts (g.ts + 1) (fun n a => Ll.choices g (Ll.known g) n a) → Q (.ref p) H'
def scp_choices : Scope := { kind := .function, names := [(".0", .local), ("token", .local)], isGenerator := false, isCoroutine := false }
theorem blk_choices : BlkOk ["n", "t", "rules", "nullable", "firsts", "follows", "choices", "a", "number", "rule", "found", "token"] (defScope s_choices) scp_choices [("token", 11)] := ⟨rfl, by decide +kernel, by decide +kernel, by decide +kernel, by decide +kernel⟩
theorem ok_choices {f f1 f2 f3 : Addr} {fd fd1 fd2 fd3 : FuncData} (hrange : mg "range" = none) (henum : mg "enumerate" = none) (F : Def K mg "find_choices" s_choices ["n", "t", "rules", "nullable", "firsts", "follows"] f fd) (F1 : Def K mg "rule_tokens" s_rule_tokens ["rule", "t", "nullable", "firsts", "follows"] f1 fd1) (F2 : Def K mg "row_first" s_row_first ["symbols", "t", "nullable", "firsts"] f2 fd2)
    (F3 : Def K mg "row_settles" s_row_settles ["symbols", "t", "settled", "tokens_stay"] f3 fd3) : FnOk P w K mg base CX0 3 f fd ["n", "t", "rules", "nullable", "firsts", "follows"] spChoices := by
  have G1 : FnOk P w K mg base CX0 2 f1 fd1 _ spRuleTokens := ok_rule_tokens F1 F2 F3
  refine F.fn.ok sc_choices (fun vs H Q E h => ?_) (fun cdv A outer s H vs Q E hr h => ?_)
  · obtain ⟨g, rp, np, fp, op, nl, fs, fo, _, rfl, _⟩ := h
    rfl
  · obtain ⟨g, rp, np, fp, op, nl, fs, fo, wf, rfl, hR, hnp, hnl, hfp, hfs, hop, hfo, q⟩ := h
    obtain ⟨as, hrp, hlen, hrules⟩ := hR
    refine ⟨_, (pss_cons (ps_set (i := 6) sc_choices.nd rfl (Or.inl rfl) (pe_lst pa_nil))
      (pss_cons (ps_for PassesOwn.never rfl (pi_range1 rfl hrange (pa_cons (pv 0) pa_nil)) (pg_name (i := 7) sc_choices.nd rfl (Or.inl rfl))
      (pss_one (ps_expr (pe_bm PySem.F.plainAttrs_list PySem.F.slot_list_append PySem.F.type_list_append mt_append (pv 6) (pa_cons (pe_lc (own := [("token", 11)]) rfl sc_choices.nd (pi_range1 rfl hrange (pa_cons (pe_op op_add (pv 1) pe_int) pa_nil)) blk_choices (fun _ _ _ _ _ => pg_name (i := 11) sc_choices.nd rfl (Or.inl rfl)) (fun _ _ _ _ _ => pts_nil) (fun _ _ _ _ _ => (pe_lst pa_nil))) pa_nil)))))
      (pss_cons (ps_for PassesOwn.never rfl (pi_enum rfl henum (pa_cons (pv 2) pa_nil)) (pg_tup rfl (pgs_cons (pg_name (i := 8) sc_choices.nd rfl (Or.inl rfl)) (pgs_cons (pg_name (i := 9) sc_choices.nd rfl (Or.inl rfl)) pgs_nil)))
      (pss_cons (ps_set (i := 10) sc_choices.nd rfl (Or.inl rfl) (pe_call G1 hr rfl F1.mg F1.fn.kp F1.b .nil pass0 (pa_cons (pv 9) (pa_cons (pv 1) (pa_cons (pv 3) (pa_cons (pv 4) (pa_cons (pv 5) pa_nil)))))))
      (pss_one (ps_for PassesOwn.never rfl (pi_range1 rfl hrange (pa_cons (pe_op op_add (pv 1) pe_int) pa_nil)) (pg_name (i := 11) sc_choices.nd rfl (Or.inl rfl))
      (pss_one (ps_if (pt_cmpR op_eq (pe_op op_andN (pe_op op_shrN (pv 10) (pv 11)) pe_int) pe_int (nomark _))
      (pss_one (ps_expr (pe_bm PySem.F.plainAttrs_list PySem.F.slot_list_append PySem.F.type_list_append mt_append (pe_ix ix_list (pe_ix ix_list (pv 6) (pe_ix ix_tup (pv 9) pe_int (fun _ _ => rfl)) (fun _ _ => rfl)) (pv 11) (fun _ _ => rfl)) (pa_cons (pv 8) pa_nil))))
      pss_nil))))))
      (pss_one (ps_ret (pv 6)))))), ?_⟩
    have hn := wf.n32
    have ht := wf.t63
    have ht1 := wf.t1
    have et : ((g.ts : Int) + 1).toNat = g.ts + 1 := by omega
    -- choices = []
    refine ⟨Nat.zero_le _, fun p hp => ?_⟩
    have s0 : Same H (upd H p (.lst [])) := same_upd (Same.refl H) hp
    refine ⟨_, rfl, _, rfl, (by omega), (by omega), ?_⟩
    rw [nn]
    refine for_range (n := g.nts) (fun i σ H' => ∃ v7 : Option V, σ = [some (.int (g.nts : Int)), some (.int (g.ts : Int)), some (.ref rp), some (.ref np), some (.ref fp), some (.ref op), some (.ref p), v7, none, none, none, none] ∧ Same H H' ∧ ∃ R C, TabAt H H' p i (g.ts + 1) (fun _ _ => []) R C)
      ⟨none, rfl, s0, fun _ => 0, fun _ _ => 0, ⟨upd_same, fun i hi => by omega, fun i j hi => by omega, hp, fun i hi => by omega, fun i j hi => by omega, fun i j i' j' hi => by omega⟩⟩ ?_ ?_
    · rintro i σ H1 hi ⟨v7, rfl, s1, R, C, T⟩
      refine ⟨_, rfl, .inl ⟨rfl, _, SqL.of T.top⟩, ?_⟩
      refine ⟨_, rfl, _, _, rfl, rfl, _, rfl, (by omega), (by omega), fun D hD => ?_⟩
      rw [et]
      refine lc_range (fun j H2 => Same H1 H2 ∧ ∃ c : Nat → Addr, H2 D = some (.lst (vR j c)) ∧ (∀ k, k < j → H2 (c k) = some (.lst []) ∧ H1 (c k) = none ∧ c k ≠ D) ∧ ∀ k k', k < j → k' < j → c k = c k' → k = k')
        ⟨same_upd (Same.refl H1) hD, fun _ => 0, upd_same, fun k hk => by omega, fun k k' hk => by omega⟩ ?_ ?_
      · rintro j H2 hj ⟨s2, c, e2, hc, ci⟩
        refine ⟨rfl, ?_⟩
        refine ⟨Nat.zero_le _, fun l hl => ?_⟩
        have nDl : D ≠ l := ne_of_none e2 hl
        have hl1 : H1 l = none := s2.free hl
        refine ⟨_, (by rw [upd_ne nDl]; exact e2), (by rw [vR_len]; exact Nat.lt_of_lt_of_le (show j < 64 by omega) (by decide)), same_upd (same_upd s2 hl1) hD, fun k => if k = j then l else c k, ?_, fun k hk => ?_, fun k k' hk hk' e => ?_⟩
        · rw [upd_same, vR_succ j c _ (fun i hi => if_neg (by omega)), if_pos rfl]
        · by_cases z : k = j
          · simp only [z, if_true]
            rw [upd_ne (Ne.symm nDl), upd_same]
            exact ⟨rfl, hl1, Ne.symm nDl⟩
          · have hk : k < j := by omega
            obtain ⟨c1, c2, c3⟩ := hc k hk
            simp only [z, if_false]
            rw [upd_ne c3, upd_ne (ne_of_none c1 hl)]
            exact ⟨c1, c2, c3⟩
        · by_cases z1 : k = j <;> by_cases z2 : k' = j
          · omega
          · simp only [z1, z2, if_true, if_false] at e
            exact absurd e.symm (ne_of_none (hc k' (by omega)).1 hl)
          · simp only [z1, z2, if_true, if_false] at e
            exact absurd e (ne_of_none (hc k (by omega)).1 hl)
          · simp only [z1, z2, if_false] at e
            exact ci k k' (by omega) (by omega) e
      · rintro H2 ⟨s2, c, e2, hc, ci⟩
        refine ⟨p, _, _, rfl, rfl, s2 _ _ T.top, (by rw [vR_len]; exact Nat.lt_of_lt_of_le (show i < 32 by omega) (by decide)), ?_⟩
        exact ⟨_, rfl, same_upd (s1.trans s2) hp, _, _, T.more s1 s2 hD e2 hc ci⟩
    · rintro σ H1 ⟨v7, rfl, s1, R, C, T⟩
      refine ⟨_, rfl, rp, _, rfl, SqL.of (s1 _ _ hrp), ?_⟩
      refine for_enum (K := K) (a := rp) (xs := as.map V.ref) (fun i σ H' => ∃ v8 v9 v10 v11 : Option V, σ = [some (.int (g.nts : Int)), some (.int (g.ts : Int)), some (.ref rp), some (.ref np), some (.ref fp), some (.ref op), some (.ref p), v7, v8, v9, v10, v11] ∧ Same H H' ∧ TabAt H H' p g.nts (g.ts + 1) (fun n a => chUp (pc g) (g.rules.take i) n a) R C)
        ⟨none, none, none, none, rfl, s1, T⟩ (fun i σ H' _ ⟨_, _, _, _, _, s2, _⟩ => SqL.of (s2 _ _ hrp)) ?_ ?_
      · rintro i y σ H2 T' hi ⟨v8, v9, v10, v11, rfl, s2, Tb⟩ hT'
        obtain ⟨a, ha, rfl⟩ := refs_get hi
        obtain ⟨r, hr'⟩ := get_len ha hlen
        have hil : i < g.rules.length := (List.getElem?_eq_some_iff.mp hr').1
        have hwl := wf.len
        obtain ⟨w1, w2, w3⟩ := wf.rl r (mem_get hr')
        have s3 : Same H2 (upd H2 T' (.tup [.int (i : Nat), .ref a])) := same_upd (Same.refl H2) hT'
        have s4 := s2.trans s3
        have Tb := Tb.same s3
        have hra := (hrules i a r ha hr').same s4
        refine ⟨T', _, rfl, SqT.of upd_same, rfl, _, _, rfl, _, _, rfl, rfl, ?_⟩
        refine ⟨_, rfl, _, rfl, _, rfl, _, rfl, _, rfl, a, np, fp, op, r, g.ts, nl, fs, fo, rfl, hra, s4 _ _ hnp, s4 _ _ hfp, s4 _ _ hop, ht, (by rw [hfo.1]; exact hnl.1), (by rw [hfo.1]; exact hfs.1), (by rw [hfo.1]; exact w1), (by rw [hfo.1]; exact w3), ?_⟩
        refine ⟨_, rfl, _, _, rfl, rfl, _, rfl, (by omega), (by omega), ?_⟩
        rw [et]
        refine for_range (n := g.ts + 1) (fun j σ H' => ∃ v11 : Option V, σ = [some (.int (g.nts : Int)), some (.int (g.ts : Int)), some (.ref rp), some (.ref np), some (.ref fp), some (.ref op), some (.ref p), v7, some (.int (i : Nat)), some (.ref a), some (.int ((ruleTokens g.ts nl fs fo r : Nat) : Int)), v11] ∧ Same H H' ∧ TabAt H H' p g.nts (g.ts + 1) (fun n b => if n = r.1 ∧ b < j ∧ (ruleTokens g.ts nl fs fo r).testBit b = true then chUp (pc g) (g.rules.take i) n b ++ [i] else chUp (pc g) (g.rules.take i) n b) R C)
          ⟨v11, rfl, s4, Tb.congr fun n b _ _ => by rw [if_neg (by omega)]⟩ ?_ ?_
        · rintro j σ H3 hj ⟨v11', rfl, s5, Tc⟩
          refine ⟨_, rfl, _, rfl, ruleTokens g.ts nl fs fo r, j, rfl, (by rw [Int.zero_add]), _, rfl, rfl, rfl, _, rfl, ?_⟩
          rw [bit_is]
          cases z : (ruleTokens g.ts nl fs fo r).testBit j with
          | false =>
            refine iteF ⟨_, rfl, s5, Tc.congr fun n b _ _ => ?_⟩
            by_cases e1 : n = r.1 ∧ b < j ∧ (ruleTokens g.ts nl fs fo r).testBit b = true
            · rw [if_pos e1, if_pos ⟨e1.1, by omega, e1.2.2⟩]
            · rw [if_neg e1, if_neg]
              rintro ⟨q1, q2, q3⟩
              by_cases e2 : b = j
              · rw [e2, z] at q3; cases q3
              · exact e1 ⟨q1, by omega, q3⟩
          | true =>
            refine iteT ?_
            obtain ⟨b', hra', _⟩ := (hrules i a r ha hr').same s5
            have hcell := Tc.cell r.1 j w1 hj
            rw [if_neg (by omega)] at hcell
            refine ⟨_, rfl, _, rfl, a, _, _, _, rfl, rfl, SqT.of hra', at_int (j := 0) rfl rfl, p, _, _, _, rfl, rfl, SqL.of Tc.top, at_int (j := r.1) rfl (vR_at w1), _, rfl, R r.1, _, _, _, rfl, rfl, SqL.of (Tc.row r.1 w1), at_int (j := j) (by rw [Int.zero_add]) (vR_at hj), .inl ⟨rfl, _, SqL.of hcell⟩, _, rfl, C r.1 j, _, _, rfl, rfl, hcell, ?_, ?_⟩
            · rw [vN_len]
              refine Nat.lt_of_le_of_lt (chUp_len _ _ _ _) ?_
              rw [List.length_take]
              exact Nat.lt_of_lt_of_le (show min i g.rules.length < 129 by omega) (by decide)
            have Td := Tc.put (k := i) w1 hj
            rw [if_neg (show ¬ (r.1 = r.1 ∧ j < j ∧ (ruleTokens g.ts nl fs fo r).testBit j = true) by omega), vN_snoc] at Td
            refine ⟨_, rfl, same_upd s5 (Tc.nC r.1 j w1 hj).1, Td.congr fun n b _ _ => ?_⟩
            by_cases e2 : n = r.1 ∧ b = j
            · obtain ⟨e3, e4⟩ := e2
              subst e3 e4
              rw [if_pos ⟨rfl, rfl⟩, if_neg (by omega), if_pos ⟨rfl, by omega, z⟩]
            · rw [if_neg e2]
              by_cases e1 : n = r.1 ∧ b < j ∧ (ruleTokens g.ts nl fs fo r).testBit b = true
              · rw [if_pos e1, if_pos ⟨e1.1, by omega, e1.2.2⟩]
              · rw [if_neg e1, if_neg]
                rintro ⟨q1, q2, q3⟩
                exact e1 ⟨q1, by omega, q3⟩
        · rintro σ H3 ⟨v11', rfl, s5, Tc⟩
          refine ⟨_, _, _, _, rfl, s5, Tc.congr fun n b hn hb => ?_⟩
          rw [take_snoc hr', chUp_snoc, List.length_take, Nat.min_eq_left (by omega)]
          have e : (n = r.1 ∧ b < g.ts + 1 ∧ (ruleTokens g.ts nl fs fo r).testBit b = true) ↔ pc g n r b = true := by
            rw [pc_iff, ruleTokens_bit hnl hfs hfo]
            exact ⟨fun z => ⟨z.1.symm, z.2.2⟩, fun z => ⟨z.1.symm, hb, z.2⟩⟩
          by_cases z : pc g n r b = true
          · rw [if_pos (e.mpr z), if_pos z]
          · rw [if_neg (fun y => z (e.mp y)), if_neg z]
      · rintro σ H2 ⟨v8, v9, v10, v11, rfl, s2, Tb⟩
        rw [List.length_map, hlen, List.take_length] at Tb
        exact ⟨_, rfl, q p H2 hp s2 Tb.rd⟩
end
end Gk

set_option Elab.async false
set_option linter.all false
set_option maxRecDepth 100000
set_option maxHeartbeats 4000000
namespace Gk
open PySem PySem.Spec PyProof.Rows L2 Gm
theorem vN_app (x y : List Nat) : vN (x ++ y) = vN x ++ vN y := by
  unfold vN
  rw [List.map_append]
section
variable {P : Program} {w : World} {K : PySem.W.Frag} {mg : Str → Option Value} {base : Heap}
/-! ### find_conflicts -/
abbrev s_conflicts_ : Stmt := top 13
theorem sc_conflicts_ : FnScope ["choices", "found", "a", "row", "token", "numbers"] ["choices"] (defScope s_conflicts_) := ⟨rfl, rfl, rfl, by decide +kernel, rfl, by decide +kernel, by decide +kernel⟩
def spConflicts_ : Sp := fun vs H Q _ => ∃ (cp : Addr) (n m : Nat) (f : Nat → Nat → List Nat), vs = [.ref cp] ∧ n ≤ 32 ∧ m ≤ 64 ∧ TabR H cp n m f ∧ ∀ (p : Addr) (H' : Hp), H p = none → Same H H' → H' p = some (.lst (vN (cfAll f n m))) → Q (.ref p) H'
theorem ok_conflicts_ {f : Addr} {fd : FuncData} (hlen : mg "len" = none) (henum : mg "enumerate" = none) (F : Def K mg "find_conflicts" s_conflicts_ ["choices"] f fd) : FnOk P w K mg base CX0 1 f fd ["choices"] spConflicts_ := by
  refine F.fn.ok sc_conflicts_ (fun vs H Q E h => ?_) (fun cdv A outer s H vs Q E hr h => ?_)
  · obtain ⟨cp, n, m, f, rfl, _⟩ := h
    rfl
  · obtain ⟨cp, n, m, f, rfl, hn, hm, ⟨R, C, h1, h2, h3⟩, q⟩ := h
    refine ⟨_, (pss_cons (ps_set (i := 1) sc_conflicts_.nd rfl (Or.inl rfl) (pe_lst pa_nil))
      (pss_cons (ps_for PassesOwn.never rfl (pi_enum rfl henum (pa_cons (pv 0) pa_nil)) (pg_tup rfl (pgs_cons (pg_name (i := 2) sc_conflicts_.nd rfl (Or.inl rfl)) (pgs_cons (pg_name (i := 3) sc_conflicts_.nd rfl (Or.inl rfl)) pgs_nil)))
      (pss_one (ps_for PassesOwn.never rfl (pi_enum rfl henum (pa_cons (pv 3) pa_nil)) (pg_tup rfl (pgs_cons (pg_name (i := 4) sc_conflicts_.nd rfl (Or.inl rfl)) (pgs_cons (pg_name (i := 5) sc_conflicts_.nd rfl (Or.inl rfl)) pgs_nil)))
      (pss_one (ps_if (pt_cmpR op_gt (pe_callB call_len_seq (by rfl) hlen PySem.boot_len (pa_cons (pv 5) pa_nil)) pe_int (nomark _))
      (pss_one (ps_expr (pe_bm PySem.F.plainAttrs_list PySem.F.slot_list_extend PySem.F.type_list_extend mt_extend (pv 1) (pa_cons (pe_lst (pa_cons (pv 2) (pa_cons (pv 4) (pa_cons (pe_ix ix_list (pv 5) pe_int (fun _ _ => rfl)) (pa_cons (pe_ix ix_list (pv 5) pe_int (fun _ _ => rfl)) pa_nil))))) pa_nil))))
      pss_nil)))))
      (pss_one (ps_ret (pv 1))))), ?_⟩
    refine ⟨Nat.zero_le _, fun p hp => ?_⟩
    have s0 : Same H (upd H p (.lst [])) := same_upd (Same.refl H) hp
    refine ⟨_, rfl, cp, _, rfl, SqL.of (s0 _ _ h1), ?_⟩
    refine for_enum (K := K) (a := cp) (xs := vR n R) (fun i σ H' => ∃ v2 v3 v4 v5 : Option V, σ = [some (.ref cp), some (.ref p), v2, v3, v4, v5] ∧ Same H H' ∧ H' p = some (.lst (vN (cfAll f i m))))
      ⟨none, none, none, none, rfl, s0, upd_same⟩ (fun i σ H' _ ⟨_, _, _, _, _, s2, _⟩ => SqL.of (s2 _ _ h1)) ?_ ?_
    · rintro i y σ H2 T hi0 ⟨v2, v3, v4, v5, rfl, s2, e2⟩ hT
      obtain ⟨hi, rfl⟩ := vR_get hi0
      have s3 : Same H2 (upd H2 T (.tup [.int (i : Nat), .ref (R i)])) := same_upd (Same.refl H2) hT
      have s4 := s2.trans s3
      refine ⟨T, _, rfl, SqT.of upd_same, rfl, _, _, rfl, _, _, rfl, rfl, ?_⟩
      refine ⟨_, rfl, R i, _, rfl, SqL.of (s4 _ _ (h2 i hi)), ?_⟩
      refine for_enum (K := K) (a := R i) (xs := vR m (C i)) (fun j σ H' => ∃ v4 v5 : Option V, σ = [some (.ref cp), some (.ref p), some (.int (i : Nat)), some (.ref (R i)), v4, v5] ∧ Same H H' ∧ H' p = some (.lst (vN (cfAll f i m ++ cfRow (f i) i j))))
        ⟨v4, v5, rfl, s4, ?_⟩ (fun j σ H' _ ⟨_, _, _, s2, _⟩ => SqL.of (s2 _ _ (h2 i hi))) ?_ ?_
      · have := s3 _ _ e2
        rw [this]
        simp [cfRow]
      · rintro j y σ H3 T3 hj0 ⟨v4', v5', rfl, s5, e5⟩ hT3
        obtain ⟨hj, rfl⟩ := vR_get hj0
        have s6 : Same H3 (upd H3 T3 (.tup [.int (j : Nat), .ref (C i j)])) := same_upd (Same.refl H3) hT3
        have s7 := s5.trans s6
        have e7 := s6 _ _ e5
        have hc := s7 _ _ (h3 i j hi hj)
        refine ⟨T3, _, rfl, SqT.of upd_same, rfl, _, _, rfl, _, _, rfl, rfl, ?_⟩
        refine ⟨_, rfl, C i j, _, rfl, .inl (SqL.of hc), _, _, rfl, rfl, _, rfl, ?_⟩
        rw [cfRow_succ, ← List.append_assoc]
        have hlen2 : (cfAll f i m ++ cfRow (f i) i j).length ≤ 20000 := by
          rw [List.length_append]
          have a1 := cfAll_len f m i
          have a2 := cfRow_len (f i) i j
          have a3 : i * (4 * m) ≤ 32 * (4 * 64) := Nat.mul_le_mul (by omega) (by omega)
          omega
        have one : ∀ l : List Nat, f i j = l → l.length ≤ 1 → cf1 (f i j) i j = [] := by
          intro l e hl
          rw [e]
          match l, hl with
          | [], _ => rfl
          | [_], _ => rfl
        cases e : f i j with
        | nil =>
          have c1 := one _ e (by simp)
          rw [e] at c1
          rw [c1, List.append_nil]
          exact iteF ⟨_, _, rfl, s7, e7⟩
        | cons a l =>
          cases l with
          | nil =>
            have c1 := one _ e (by simp)
            rw [e] at c1
            rw [c1, List.append_nil]
            exact iteF ⟨_, _, rfl, s7, e7⟩
          | cons b l =>
            rw [e] at hc
            have d : decide ((1 : Int) < ((vN (a :: b :: l)).length : Int)) = true := decide_eq_true (by rw [vN_len, List.length_cons, List.length_cons]; omega)
            rw [d]
            refine iteT ⟨_, rfl, .inl ⟨rfl, _, SqL.of e7⟩, _, rfl, _, rfl, _, rfl, C i j, _, _, _, rfl, rfl, SqL.of hc, at_int (j := 0) rfl rfl, _, rfl, C i j, _, _, _, rfl, rfl, SqL.of hc, at_int (j := 1) rfl rfl, (by show 4 ≤ sizeLine; decide), fun L hL => ?_⟩
            have npL : p ≠ L := ne_of_none e7 hL
            refine ⟨p, L, _, _, rfl, rfl, (by rw [upd_ne npL]; exact e7), upd_same, ?_, ?_⟩
            · rw [vN_len]
              exact Nat.le_trans (Nat.add_le_add_right hlen2 _) (by show 20000 + 4 ≤ sizeLine; decide)
            · refine ⟨_, _, rfl, same_upd (same_upd s7 (s7.free hL)) hp, ?_⟩
              rw [upd_same, vN_app (cfAll f i m ++ cfRow (f i) i j)]
              rfl
      · rintro σ H3 ⟨v4', v5', rfl, s5, e5⟩
        rw [vR_len, ← cfAll_succ] at e5
        exact ⟨_, _, _, _, rfl, s5, e5⟩
    · rintro σ H2 ⟨v2, v3, v4, v5, rfl, s2, e2⟩
      rw [vR_len] at e2
      exact ⟨_, rfl, q p H2 hp s2 e2⟩
end
end Gk

set_option Elab.async false
set_option linter.all false
set_option maxRecDepth 100000
set_option maxHeartbeats 4000000
namespace Gk
open PySem PySem.Spec PyProof.Rows L2 Gm
section
variable {P : Program} {w : World} {K : PySem.W.Frag} {mg : Str → Option Value} {base : Heap}
/-! ### rows that are lists -/
def spRowSettlesL : Sp := fun vs H Q _ => ∃ (b p : Addr) (x : List Nat) (t : Nat) (bs : List Bool) (k : Bool), vs = [.ref b, .int t, .ref p, .bl k] ∧ H b = some (.lst (vN x)) ∧ H p = some (.lst (vB bs)) ∧ (∀ s ∈ x, s < t + bs.length) ∧ Q (.bl (rowSettles t bs k x)) H
theorem ok_row_settlesL {f : Addr} {fd : FuncData} (F : Def K mg "row_settles" s_row_settles ["symbols", "t", "settled", "tokens_stay"] f fd) : FnOk P w K mg base CX0 1 f fd ["symbols", "t", "settled", "tokens_stay"] spRowSettlesL := by
  refine F.fn.ok sc_row_settles (fun vs H Q E h => ?_) (fun cdv A outer s H vs Q E hr h => ?_)
  · obtain ⟨b, p, x, t, bs, k, rfl, _⟩ := h
    rfl
  · obtain ⟨b, p, x, t, bs, k, rfl, hb, hp, hx, q⟩ := h
    refine ⟨_, (pss_cons (ps_for PassesOwn.never rfl (pi_list (pv 0)) (pg_name (i := 4) sc_row_settles.nd rfl (Or.inl rfl))
      (pss_one (ps_if (pt_cmpR op_lt (pv 4) (pv 1) (nomark _))
      (pss_one (ps_if (pt_not (pt_val (pv 3)))
      (pss_one (ps_ret pe_bl))
      pss_nil))
      (pss_one (ps_if (pt_not (pt_val (pe_ix ix_list (pv 2) (pe_op op_sub (pv 4) (pv 1)) (fun _ _ => rfl))))
      (pss_one (ps_ret pe_bl))
      pss_nil)))))
      (pss_one (ps_ret pe_bl))), ?_⟩
    refine ⟨_, rfl, b, rfl, ⟨_, SqL.of hb⟩, for_list (K := K) (a := b) (xs := vN x) (fun i σ H' => ∃ v : Option V, σ = [some (.ref b), some (.int t), some (.ref p), some (.bl k), v] ∧ H' = H ∧ rowSettles t bs k (x.take i) = true)
      ⟨none, rfl, rfl, rfl⟩ (fun i σ H' _ ⟨_, _, e, _⟩ => by rw [e]; exact SqL.of hb) ?_ ?_⟩
    · rintro i y σ H' hi ⟨v, rfl, rfl, ht⟩
      obtain ⟨z, hz, rfl⟩ := vN_get hi
      have hzx := hx z (mem_get hz)
      have ht' := rowSettles_snoc (t := t) (bs := bs) (k := k) (x := x.take i) (s := z)
      rw [← take_snoc hz, ht, Bool.true_and] at ht'
      refine ⟨_, rfl, _, rfl, _, _, rfl, rfl, _, rfl, ?_⟩
      refine ite2 (fun h1 => ?_) (fun h1 => ?_)
      · have h2 : z < t := by have := of_decide_eq_true h1; omega
        rw [if_pos h2] at ht'
        refine ⟨_, rfl, _, rfl, ?_⟩
        cases k with
        | true => exact iteF ⟨_, rfl, rfl, ht'⟩
        | false =>
          refine iteT ?_
          have e := rowSettles_no (t := t) (bs := bs) (k := false) (mem_get hz) (by rw [if_pos h2])
          rw [e] at q
          exact q
      · have h2 : ¬ z < t := fun h => h1 (decide_eq_true (by omega))
        rw [if_neg h2] at ht'
        refine ⟨_, rfl, _, rfl, _, rfl, _, _, rfl, rfl, p, _, _, _, rfl, rfl, SqL.of hp, at_int (j := z - t) (by omega) (vB_at (by omega)), _, rfl, ?_⟩
        cases e : bs.getD (z - t) false with
        | true =>
          rw [e] at ht'
          exact iteF ⟨_, rfl, rfl, ht'⟩
        | false =>
          refine iteT ?_
          have e := rowSettles_no (t := t) (bs := bs) (k := k) (mem_get hz) (by rw [if_neg h2]; exact e)
          rw [e] at q
          exact q
    · rintro σ H' ⟨v, rfl, rfl, ht⟩
      rw [vN_len, List.take_length] at ht
      rw [ht] at q
      exact q
def spRowFirstL : Sp := fun vs H Q _ => ∃ (b p o : Addr) (x : List Nat) (t : Nat) (nl : List Bool) (fs : List Nat), vs = [.ref b, .int (t : Int), .ref p, .ref o] ∧ H b = some (.lst (vN x)) ∧ H p = some (.lst (vB nl)) ∧ H o = some (.lst (vN fs)) ∧
  t ≤ 63 ∧ nl.length = fs.length ∧ (∀ s ∈ x, s < t + fs.length) ∧ Q (.int ((rowFirst t nl fs x : Nat) : Int)) H
theorem ok_row_firstL {f : Addr} {fd : FuncData} (F : Def K mg "row_first" s_row_first ["symbols", "t", "nullable", "firsts"] f fd) : FnOk P w K mg base CX0 1 f fd ["symbols", "t", "nullable", "firsts"] spRowFirstL := by
  refine F.fn.ok sc_row_first (fun vs H Q E h => ?_) (fun cdv A outer s H vs Q E hr h => ?_)
  · obtain ⟨b, p, o, x, t, nl, fs, rfl, _⟩ := h
    rfl
  · obtain ⟨b, p, o, x, t, nl, fs, rfl, hb, hp, ho, ht, hl, hx, q⟩ := h
    refine ⟨_, (pss_cons (ps_set (i := 4) sc_row_first.nd rfl (Or.inl rfl) pe_int)
      (pss_cons (ps_for PassesOwn.never rfl (pi_list (pv 0)) (pg_name (i := 5) sc_row_first.nd rfl (Or.inl rfl))
      (pss_cons (ps_if (pt_cmpR op_lt (pv 5) (pv 1) (nomark _))
      (pss_one (ps_ret (pe_op op_orN (pv 4) (pe_op op_shlN pe_int (pv 5)))))
      pss_nil)
      (pss_cons (ps_set (i := 4) sc_row_first.nd rfl (Or.inl rfl) (pe_op op_orN (pv 4) (pe_ix ix_list (pv 3) (pe_op op_sub (pv 5) (pv 1)) (fun _ _ => rfl))))
      (pss_one (ps_if (pt_not (pt_val (pe_ix ix_list (pv 2) (pe_op op_sub (pv 5) (pv 1)) (fun _ _ => rfl))))
      (pss_one (ps_ret (pv 4)))
      pss_nil)))))
      (pss_one (ps_ret (pv 4))))), ?_⟩
    refine ⟨_, rfl, b, rfl, ⟨_, SqL.of hb⟩, for_list (K := K) (a := b) (xs := vN x) (fun i σ H' => ∃ (m : Nat) (v : Option V), σ = [some (.ref b), some (.int (t : Int)), some (.ref p), some (.ref o), some (.int (m : Int)), v] ∧ H' = H ∧ rowFirst t nl fs x = rowGo t nl fs m (x.drop i))
      ⟨0, none, rfl, rfl, rfl⟩ (fun i σ H' _ ⟨_, _, _, e, _⟩ => by rw [e]; exact SqL.of hb) ?_ ?_⟩
    · rintro i y σ H' hi ⟨m, v, rfl, rfl, hm⟩
      obtain ⟨z, hz, rfl⟩ := vN_get hi
      have hzx := hx z (mem_get hz)
      rw [drop_get hz] at hm
      unfold rowGo at hm
      refine ⟨_, rfl, _, rfl, _, _, rfl, rfl, _, rfl, ?_⟩
      refine ite2 (fun h1 => ?_) (fun h1 => ?_)
      · have h2 : z < t := by have := of_decide_eq_true h1; omega
        rw [if_pos h2] at hm
        refine ⟨_, rfl, _, rfl, z, rfl, rfl, (by omega), m, 2 ^ z, rfl, rfl, ?_⟩
        rw [← hm]
        exact q
      · have h2 : ¬ z < t := fun h => h1 (decide_eq_true (by omega))
        rw [if_neg h2] at hm
        refine ⟨_, rfl, _, rfl, _, rfl, _, rfl, _, _, rfl, rfl, o, _, _, _, rfl, rfl, SqL.of ho, at_int (j := z - t) (by omega) (vN_at (by omega)), m, _, rfl, rfl, ?_⟩
        refine ⟨_, rfl, _, rfl, _, rfl, _, _, rfl, rfl, p, _, _, _, rfl, rfl, SqL.of hp, at_int (j := z - t) (by omega) (vB_at (by omega)), _, rfl, ?_⟩
        cases e : nl.getD (z - t) false with
        | true =>
          rw [e, if_pos rfl] at hm
          exact iteF ⟨_, _, rfl, rfl, hm⟩
        | false =>
          rw [e, if_neg Bool.false_ne_true] at hm
          refine iteT ⟨_, rfl, ?_⟩
          rw [← hm]
          exact q
    · rintro σ H' ⟨m, v, rfl, rfl, hm⟩
      rw [vN_len, List.drop_length] at hm
      refine ⟨_, rfl, ?_⟩
      have e : rowFirst t nl fs x = m := hm
      rw [← e]
      exact q
/-! ### find_expected -/
abbrev s_find_expected : Stmt := top 17
theorem sc_find_expected : FnScope ["to_come", "t", "nullable", "firsts", "symbols", "found"] ["to_come", "t", "nullable", "firsts"] (defScope s_find_expected) := ⟨rfl, rfl, rfl, by decide +kernel, rfl, by decide +kernel, by decide +kernel⟩
def spFindExpected : Sp := fun vs H Q _ => ∃ (b np fp : Addr) (x : List Nat) (t : Nat) (nl : List Bool) (fs : List Nat), vs = [.ref b, .int (t : Int), .ref np, .ref fp] ∧ H b = some (.lst (vN x.reverse)) ∧ H np = some (.lst (vB nl)) ∧ H fp = some (.lst (vN fs)) ∧
  t ≤ 63 ∧ nl.length = fs.length ∧ (∀ s ∈ x, s < t + fs.length) ∧ ∀ H' : Hp, Same H H' → Q (.int ((expMask t nl fs x : Nat) : Int)) H'
theorem vN_rev (x : List Nat) : (vN x).reverse = vN x.reverse := by
  unfold vN
  rw [List.map_reverse]
theorem ok_find_expected {f f1 f2 : Addr} {fd fd1 fd2 : FuncData} (F : Def K mg "find_expected" s_find_expected ["to_come", "t", "nullable", "firsts"] f fd) (F1 : Def K mg "row_first" s_row_first ["symbols", "t", "nullable", "firsts"] f1 fd1)
    (F2 : Def K mg "row_settles" s_row_settles ["symbols", "t", "settled", "tokens_stay"] f2 fd2) : FnOk P w K mg base CX0 2 f fd ["to_come", "t", "nullable", "firsts"] spFindExpected := by
  have G1 : FnOk P w K mg base CX0 1 f1 fd1 _ spRowFirstL := ok_row_firstL F1
  have G2 : FnOk P w K mg base CX0 1 f2 fd2 _ spRowSettlesL := ok_row_settlesL F2
  refine F.fn.ok sc_find_expected (fun vs H Q E h => ?_) (fun cdv A outer s H vs Q E hr h => ?_)
  · obtain ⟨b, np, fp, x, t, nl, fs, rfl, _⟩ := h
    rfl
  · obtain ⟨b, np, fp, x, t, nl, fs, rfl, hb, hnp, hfp, ht, l1, hx, q⟩ := h
    refine ⟨_, (pss_cons (ps_set (i := 4) sc_find_expected.nd rfl (Or.inl rfl) (pe_rev rv_list (pv 0) (pe_un un_neg pe_int)))
      (pss_cons (ps_set (i := 5) sc_find_expected.nd rfl (Or.inl rfl) (pe_call G1 hr rfl F1.mg F1.fn.kp F1.b .nil pass0 (pa_cons (pv 4) (pa_cons (pv 1) (pa_cons (pv 2) (pa_cons (pv 3) pa_nil))))))
      (pss_cons (ps_if (pt_val (pe_call G2 hr rfl F2.mg F2.fn.kp F2.b .nil pass0 (pa_cons (pv 4) (pa_cons (pv 1) (pa_cons (pv 2) (pa_cons pe_bl pa_nil))))))
      (pss_one (ps_set (i := 5) sc_find_expected.nd rfl (Or.inl rfl) (pe_op op_orN (pv 5) (pe_op op_shlN pe_int (pv 1)))))
      pss_nil)
      (pss_one (ps_ret (pv 5)))))), ?_⟩
    refine ⟨_, rfl, _, rfl, rfl, b, _, rfl, SqL.of hb, fun p hp => ?_⟩
    have s1 : Same H (upd H p (.lst (vN x.reverse).reverse)) := same_upd (Same.refl H) hp
    have e1 : (upd H p (.lst (vN x.reverse).reverse)) p = some (.lst (vN x)) := by rw [upd_same, vN_rev, List.reverse_reverse]
    refine ⟨_, rfl, _, rfl, _, rfl, _, rfl, p, np, fp, x, t, nl, fs, rfl, e1, s1 _ _ hnp, s1 _ _ hfp, ht, l1, hx, ?_⟩
    refine ⟨_, rfl, _, rfl, _, rfl, p, np, x, t, nl, false, rfl, e1, s1 _ _ hnp, (by rw [l1]; exact hx), _, rfl, ?_⟩
    unfold expMask at q
    cases e : rowSettles t nl false x with
    | true =>
      rw [e, if_pos rfl] at q
      exact iteT ⟨_, rfl, _, rfl, t, rfl, rfl, (by omega), _, _, rfl, rfl, _, rfl, q _ s1⟩
    | false =>
      rw [e, if_neg Bool.false_ne_true] at q
      exact iteF ⟨_, rfl, q _ s1⟩
end
end Gk

set_option Elab.async false
set_option linter.all false
set_option maxRecDepth 100000
set_option maxHeartbeats 4000000
namespace Gk
open PySem PySem.Spec PyProof.Rows L2 Gm
theorem at_last {xs : List V} {v : V} : atI (xs ++ [v]) (-1) = some v := by
  unfold atI ixN
  rw [List.length_append, List.length_singleton, if_neg (by omega), if_pos (by omega)]
  have e : ((-1 : Int) + ((xs.length + 1 : Nat) : Int)).toNat = xs.length := by omega
  rw [e]
  show (xs ++ [v])[xs.length]? = some v
  rw [List.getElem?_append_right (Nat.le_refl _), Nat.sub_self]
  rfl
/-- what was taken: the rules, what is left -/
def Took (g : Ll.Gram) (a : Nat) (x told left : List Nat) : Prop :=
  (512 < told.length ∧ Ll.takes g (Ll.known g) a 513 x = none) ∨ (told.length ≤ 512 ∧ Ll.takes g (Ll.known g) a 513 x = some (told, left) ∧ Good g left ∧ ∀ s ∈ left, s < g.ts + g.nts)
theorem good_nil (g : Ll.Gram) : Good g [] := fun _ _ h => nomatch h
section
variable {P : Program} {w : World} {K : PySem.W.Frag} {mg : Str → Option Value} {base : Heap}
/-! ### is_too_much -/
abbrev s_much : Stmt := top 19
theorem sc_much : FnScope ["told", "to_come"] ["told", "to_come"] (defScope s_much) := ⟨rfl, rfl, rfl, by decide +kernel, rfl, by decide +kernel, by decide +kernel⟩
def spMuch : Sp := fun vs H Q _ => ∃ (a b : Addr) (x y : List Nat), vs = [.ref a, .ref b] ∧ H a = some (.lst (vN x)) ∧ H b = some (.lst (vN y)) ∧ Q (.bl (decide (512 < x.length ∨ 512 < y.length))) H
theorem ok_much {f : Addr} {fd : FuncData} (hlen : mg "len" = none) (g1 : ∃ t, mg "MOST_TOLD" = some (.int 512 t)) (g2 : ∃ t, mg "MOST_TO_COME" = some (.int 512 t)) (F : Def K mg "is_too_much" s_much ["told", "to_come"] f fd) : FnOk P w K mg base CX0 1 f fd ["told", "to_come"] spMuch := by
  refine F.fn.ok sc_much (fun vs H Q E h => ?_) (fun cdv A outer s H vs Q E hr h => ?_)
  · obtain ⟨a, b, x, y, rfl, _⟩ := h
    rfl
  · obtain ⟨a, b, x, y, rfl, ha, hb, q⟩ := h
    refine ⟨_, (pss_one (ps_ret (pe_or (pe_cmpR op_gt (pe_callB call_len_seq (by rfl) hlen PySem.boot_len (pa_cons (pv 0) pa_nil)) (pe_gint rfl g1) (nomark _)) (pe_one (pe_cmpR op_gt (pe_callB call_len_seq (by rfl) hlen PySem.boot_len (pa_cons (pv 1) pa_nil)) (pe_gint rfl g2) (nomark _)))))), ?_⟩
    refine ⟨_, rfl, a, _, rfl, .inl (SqL.of ha), _, _, rfl, rfl, _, rfl, ?_⟩
    by_cases h1 : 512 < x.length
    · have d1 : decide ((512 : Int) < ((vN x).length : Int)) = true := decide_eq_true (by rw [vN_len]; omega)
      rw [d1]
      rw [decide_eq_true (Or.inl h1)] at q
      exact iteT q
    · have d1 : decide ((512 : Int) < ((vN x).length : Int)) = false := decide_eq_false (by rw [vN_len]; omega)
      rw [d1]
      refine iteF ⟨_, rfl, b, _, rfl, .inl (SqL.of hb), _, _, rfl, rfl, ?_⟩
      have e : decide ((512 : Int) < ((vN y).length : Int)) = decide (512 < x.length ∨ 512 < y.length) := by
        rw [vN_len, decide_eq_decide]
        omega
      show Q (.bl (decide ((512 : Int) < ((vN y).length : Int)))) H
      rw [e]
      exact q
/-! ### take_away -/
abbrev s_take_away : Stmt := top 18
theorem sc_take_away : FnScope ["to_come", "token", "t", "rules", "choices", "told", "number"] ["to_come", "token", "t", "rules", "choices"] (defScope s_take_away) := ⟨rfl, rfl, rfl, by decide +kernel, rfl, by decide +kernel, by decide +kernel⟩
def spTakeAway : Sp := fun vs H Q _ => ∃ (g : Ll.Gram) (H0 : Hp) (lc rp cp : Addr) (a : Nat) (x : List Nat), WF g ∧ Ll.conflicts g (Ll.known g) = [] ∧ vs = [.ref lc, .int (a : Int), .int (g.ts : Int), .ref rp, .ref cp] ∧ Same H0 H ∧ H0 lc = none ∧ RulesAt H0 rp g.rules ∧ TabR H0 cp g.nts (g.ts + 1) (fun n a => Ll.choices g (Ll.known g) n a) ∧
  H lc = some (.lst (vN x.reverse)) ∧ x.length ≤ 512 ∧ Good g x ∧ Exp g x a ∧ (∀ s ∈ x, s < g.ts + g.nts) ∧
  ∀ (p : Addr) (H' : Hp) (told left : List Nat), H0 p = none → Same H0 H' → p ≠ lc → H' p = some (.lst (vN told)) → H' lc = some (.lst (vN left.reverse)) → Took g a x told left → Q (.ref p) H'
theorem ok_take_away {f : Addr} {fd : FuncData} (hlen : mg "len" = none) (g1 : ∃ t, mg "MOST_TOLD" = some (.int 512 t)) (F : Def K mg "take_away" s_take_away ["to_come", "token", "t", "rules", "choices"] f fd) : FnOk P w K mg base CX0 1 f fd ["to_come", "token", "t", "rules", "choices"] spTakeAway := by
  refine F.fn.ok sc_take_away (fun vs H Q E h => ?_) (fun cdv A outer s H vs Q E hr h => ?_)
  · obtain ⟨g, H0, lc, rp, cp, a, x, _, _, rfl, _⟩ := h
    rfl
  · obtain ⟨g, H0, lc, rp, cp, a, x, wf, hcf, rfl, s0, hlc0, ⟨as, hrp, hal, hrules⟩, ⟨R, C, t1, t2, t3⟩, hlc, hxl, hgood, hexp, hsy, q⟩ := h
    refine ⟨_, (pss_cons (ps_set (i := 5) sc_take_away.nd rfl (Or.inl rfl) (pe_lst pa_nil))
      (pss_cons (ps_while PassesOwn.never (PW.pt (pw_and (pt_cmpR op_gt (pe_callB call_len_seq (by rfl) hlen PySem.boot_len (pa_cons (pv 0) pa_nil)) pe_int (nomark _)) (pw_and (pt_cmpR op_ge (pe_ix ix_list (pv 0) (pe_un un_neg pe_int) (fun _ _ => rfl)) (pv 2) (nomark _)) (pw_and1 (pt_cmpR op_le (pe_callB call_len_seq (by rfl) hlen PySem.boot_len (pa_cons (pv 5) pa_nil)) (pe_gint rfl g1) (nomark _))))))
      (pss_cons (ps_set (i := 6) sc_take_away.nd rfl (Or.inl rfl) (pe_ix ix_list (pe_ix ix_list (pe_ix ix_list (pv 4) (pe_op op_sub (pe_bm0 PySem.F.plainAttrs_list PySem.F.slot_list_pop PySem.F.type_list_pop mt_pop (pv 0)) (pv 2)) (fun _ _ => rfl)) (pv 1) (fun _ _ => rfl)) pe_int (fun _ _ => rfl)))
      (pss_cons (ps_expr (pe_bm PySem.F.plainAttrs_list PySem.F.slot_list_extend PySem.F.type_list_extend mt_extendT (pv 0) (pa_cons (pe_rev rv_tup (pe_ix ix_tup (pe_ix ix_list (pv 3) (pv 6) (fun _ _ => rfl)) pe_int (fun _ _ => rfl)) (pe_un un_neg pe_int)) pa_nil)))
      (pss_one (ps_expr (pe_bm PySem.F.plainAttrs_list PySem.F.slot_list_append PySem.F.type_list_append mt_append (pv 5) (pa_cons (pv 6) pa_nil)))))))
      (pss_cons (ps_if (PW.pt (pw_and (pt_cmpR op_lt (pv 1) (pv 2) (nomark _)) (pw_and1 (pt_cmpR op_le (pe_callB call_len_seq (by rfl) hlen PySem.boot_len (pa_cons (pv 5) pa_nil)) (pe_gint rfl g1) (nomark _)))))
      (pss_one (ps_expr (pe_bm0 PySem.F.plainAttrs_list PySem.F.slot_list_pop PySem.F.type_list_pop mt_pop (pv 0))))
      pss_nil)
      (pss_one (ps_ret (pv 5)))))), ?_⟩
    -- told = []
    refine ⟨Nat.zero_le _, fun p hp => ?_⟩
    have hp0 : H0 p = none := s0.free hp
    have nlp : lc ≠ p := ne_of_none hlc hp
    -- the loop
    refine ⟨fun m σ H' => ∃ (told y : List Nat) (v : Option V), σ = [some (.ref lc), some (.int (a : Int)), some (.int (g.ts : Int)), some (.ref rp), some (.ref cp), some (.ref p), v] ∧ Same H0 H' ∧ H' p = some (.lst (vN told)) ∧ H' lc = some (.lst (vN y.reverse)) ∧ Run g a x told y ∧ m = 513 - told.length,
      ⟨_, [], x, none, rfl, same_upd s0 hp0, upd_same, by rw [upd_ne nlp]; exact hlc, Run.start hgood hexp hsy, rfl⟩, ?_⟩
    rintro m σ H1 ⟨told, y, v, rfl, s1, e1, f1, Rn, rfl⟩
    refine ⟨_, rfl, lc, _, rfl, .inl (SqL.of f1), _, _, rfl, rfl, _, rfl, ?_⟩
    cases y with
    | nil =>
      refine iteF (iteF ?_)
      refine ⟨_, rfl, _, rfl, _, _, rfl, rfl, _, rfl, ?_⟩
      by_cases ht : told.length ≤ 512
      · obtain ⟨ea, et⟩ := Rn.endE ht
        have d1 : decide ((a : Int) < (g.ts : Int)) = false := decide_eq_false (by omega)
        rw [d1]
        exact iteF (iteF ⟨_, rfl, q p H1 told [] hp0 s1 (Ne.symm nlp) e1 f1 (.inr ⟨ht, et, good_nil g, fun s hs => nomatch hs⟩)⟩)
      · by_cases ha : a < g.ts
        · have d1 : decide ((a : Int) < (g.ts : Int)) = true := decide_eq_true (by omega)
          have d2 : decide (((vN told).length : Int) ≤ 512) = false := decide_eq_false (by rw [vN_len]; omega)
          rw [d1]
          refine iteT ⟨_, rfl, p, _, rfl, .inl (SqL.of e1), _, _, rfl, rfl, _, rfl, ?_⟩
          rw [d2]
          exact iteF ⟨_, rfl, q p H1 told [] hp0 s1 (Ne.symm nlp) e1 f1 (.inl ⟨by omega, Rn.much ht⟩)⟩
        · have d1 : decide ((a : Int) < (g.ts : Int)) = false := decide_eq_false (by omega)
          rw [d1]
          exact iteF (iteF ⟨_, rfl, q p H1 told [] hp0 s1 (Ne.symm nlp) e1 f1 (.inl ⟨by omega, Rn.much ht⟩)⟩)
    | cons s r =>
      have hrev : vN (s :: r).reverse = vN r.reverse ++ [V.int (s : Int)] := by rw [List.reverse_cons, vN_snoc]
      have f1' := f1
      rw [hrev] at f1 ⊢
      have d0 : decide ((0 : Int) < ((vN r.reverse ++ [V.int (s : Int)]).length : Int)) = true := decide_eq_true (by rw [List.length_append, List.length_singleton]; omega)
      have hlast : (vN r.reverse ++ [V.int (s : Int)])[(vN r.reverse ++ [V.int (s : Int)]).length - 1]? = some (V.int (s : Int)) := by
        rw [List.length_append, List.length_singleton, Nat.add_sub_cancel, List.getElem?_append_right (Nat.le_refl _), Nat.sub_self]
        rfl
      rw [d0]
      refine iteT ⟨_, rfl, _, rfl, lc, _, _, _, rfl, rfl, SqL.of f1, at_last, _, rfl, _, _, rfl, rfl, _, rfl, ?_⟩
      by_cases hs : s < g.ts
      · have d1 : decide ((g.ts : Int) ≤ (s : Int)) = false := decide_eq_false (by omega)
        rw [d1]
        refine iteF (iteF ?_)
        refine ⟨_, rfl, _, rfl, _, _, rfl, rfl, _, rfl, ?_⟩
        by_cases ht : told.length ≤ 512
        · obtain ⟨ea, et⟩ := Rn.endT ht hs
          have d2 : decide ((a : Int) < (g.ts : Int)) = true := decide_eq_true (by omega)
          have d3 : decide (((vN told).length : Int) ≤ 512) = true := decide_eq_true (by rw [vN_len]; omega)
          rw [d2]
          refine iteT ⟨_, rfl, p, _, rfl, .inl (SqL.of e1), _, _, rfl, rfl, _, rfl, ?_⟩
          rw [d3]
          refine iteT ⟨_, rfl, .inl ⟨rfl, _, SqL.of f1⟩, lc, _, _, rfl, rfl, f1, hlast, ?_⟩
          rw [List.dropLast_concat]
          exact ⟨_, rfl, q p _ told r hp0 (same_upd s1 hlc0) (Ne.symm nlp) (by rw [upd_ne (Ne.symm nlp)]; exact e1) upd_same (.inr ⟨ht, et, Rn.good.tail, fun t h => Rn.sy t (List.mem_cons_of_mem _ h)⟩)⟩
        · by_cases ha : a < g.ts
          · have d2 : decide ((a : Int) < (g.ts : Int)) = true := decide_eq_true (by omega)
            have d3 : decide (((vN told).length : Int) ≤ 512) = false := decide_eq_false (by rw [vN_len]; omega)
            rw [d2]
            refine iteT ⟨_, rfl, p, _, rfl, .inl (SqL.of e1), _, _, rfl, rfl, _, rfl, ?_⟩
            rw [d3]
            exact iteF ⟨_, rfl, q p H1 told (s :: r) hp0 s1 (Ne.symm nlp) e1 f1' (.inl ⟨by omega, Rn.much ht⟩)⟩
          · have d2 : decide ((a : Int) < (g.ts : Int)) = false := decide_eq_false (by omega)
            rw [d2]
            exact iteF (iteF ⟨_, rfl, q p H1 told (s :: r) hp0 s1 (Ne.symm nlp) e1 f1' (.inl ⟨by omega, Rn.much ht⟩)⟩)
      · have d1 : decide ((g.ts : Int) ≤ (s : Int)) = true := decide_eq_true (by omega)
        rw [d1]
        refine iteT ⟨_, rfl, p, _, rfl, .inl (SqL.of e1), _, _, rfl, rfl, _, rfl, ?_⟩
        by_cases ht : told.length ≤ 512
        · have d3 : decide (((vN told).length : Int) ≤ 512) = true := decide_eq_true (by rw [vN_len]; omega)
          rw [d3]
          have hsn : s < g.ts + g.nts := Rn.sy s (by simp)
          have ha : a ≤ g.ts := hexp.le
          obtain ⟨i, z, c1, c2, Rn2⟩ := Rn.step wf hcf ht (by omega)
          have hil : i < g.rules.length := (List.getElem?_eq_some_iff.mp c2).1
          obtain ⟨w1, w2, w3⟩ := wf.rl _ (mem_get c2)
          have w2 : z.length ≤ 8 := w2
          refine iteT ⟨fun σ' H'' => ∃ (told' y' : List Nat) (v : Option V), σ' = [some (.ref lc), some (.int (a : Int)), some (.int (g.ts : Int)), some (.ref rp), some (.ref cp), some (.ref p), v] ∧ Same H0 H'' ∧ H'' p = some (.lst (vN told')) ∧ H'' lc = some (.lst (vN y'.reverse)) ∧ Run g a x told' y' ∧ told'.length = told.length + 1, ?_, ?_⟩
          · rintro σ' H'' ⟨told', y', v', e1', e2', e3', e4', e5', e6'⟩
            exact ⟨513 - told'.length, by omega, told', y', v', e1', e2', e3', e4', e5', rfl⟩
          -- number = choices[to_come.pop() - t][token][0]
          have s2 : Same H0 (upd H1 lc (.lst (vN r.reverse ++ [V.int (s : Int)]).dropLast)) := same_upd s1 hlc0
          have f2 : (upd H1 lc (.lst (vN r.reverse ++ [V.int (s : Int)]).dropLast)) lc = some (.lst (vN r.reverse)) := by rw [upd_same, List.dropLast_concat]
          have e2 : (upd H1 lc (.lst (vN r.reverse ++ [V.int (s : Int)]).dropLast)) p = some (.lst (vN told)) := by rw [upd_ne (Ne.symm nlp)]; exact e1
          have tc : (upd H1 lc (.lst (vN r.reverse ++ [V.int (s : Int)]).dropLast)) (C (s - g.ts) a) = some (.lst (vN [i])) := by
            rw [← c1]
            exact s2 _ _ (t3 (s - g.ts) a (by omega) (by omega))
          refine ⟨_, rfl, _, rfl, .inl ⟨rfl, _, SqL.of f1⟩, lc, _, _, rfl, rfl, f1, hlast, _, rfl, _, _, rfl, rfl, cp, _, _, _, rfl, rfl, SqL.of (s2 _ _ t1), at_int (j := s - g.ts) (by omega) (vR_at (by omega)), _, rfl, R (s - g.ts), _, _, _, rfl, rfl, SqL.of (s2 _ _ (t2 _ (by omega))), at_int (j := a) rfl (vR_at (by omega)), C (s - g.ts) a, _, _, _, rfl, rfl, SqL.of tc, at_int (j := 0) rfl rfl, ?_⟩
          generalize upd H1 lc (.lst (vN r.reverse ++ [V.int (s : Int)]).dropLast) = H2 at s2 f2 e2 tc ⊢
          obtain ⟨ra, hra⟩ : ∃ ra, as[i]? = some ra := ⟨as[i], List.getElem?_eq_getElem (by omega)⟩
          obtain ⟨b, hr1, hr2⟩ := (hrules i ra _ hra c2).same s2
          -- to_come.extend(rules[number][1][::-1])
          refine ⟨_, rfl, .inl ⟨rfl, _, SqL.of f2⟩, _, rfl, _, rfl, rp, _, _, _, rfl, rfl, SqL.of (s2 _ _ hrp), at_int (j := i) rfl (by rw [List.getElem?_map, hra]; rfl), ra, _, _, _, rfl, rfl, SqT.of hr1, at_int (j := 1) rfl rfl, _, rfl, rfl, b, _, rfl, SqT.of hr2, fun tz htz => ?_⟩
          have nlz : lc ≠ tz := ne_of_none f2 htz
          have npz : p ≠ tz := ne_of_none e2 htz
          have hxl2 := Rn.xl
          rw [List.length_cons] at hxl2
          refine ⟨lc, tz, _, _, rfl, rfl, (by rw [upd_ne nlz]; exact f2), upd_same, ?_, ?_⟩
          · rw [vN_rev, vN_len, vN_len, List.length_reverse, List.length_reverse]
            exact Nat.le_trans (show r.length + z.length ≤ 6000 by omega) (by decide)
          -- told.append(number)
          have e3 : (upd (upd H2 tz (.tup (vN z).reverse)) lc (.lst (vN r.reverse ++ (vN z).reverse))) p = some (.lst (vN told)) := by rw [upd_ne (Ne.symm nlp), upd_ne npz]; exact e2
          refine ⟨_, rfl, .inl ⟨rfl, _, SqL.of e3⟩, _, rfl, p, _, _, rfl, rfl, e3, ?_, ?_⟩
          · rw [vN_len]
            exact Nat.lt_of_lt_of_le (show told.length < 600 by omega) (by decide)
          refine ⟨told ++ [i], z ++ r, _, rfl, same_upd (same_upd (same_upd s2 (s2.free htz)) hlc0) hp0, ?_, ?_, Rn2, by rw [List.length_append, List.length_singleton]⟩
          · rw [upd_same, vN_snoc]
          · rw [upd_ne nlp, upd_same, vN_rev, ← vN_app, List.reverse_append]
        · have d3 : decide (((vN told).length : Int) ≤ 512) = false := decide_eq_false (by rw [vN_len]; omega)
          rw [d3]
          refine iteF ?_
          refine ⟨_, rfl, _, rfl, _, _, rfl, rfl, _, rfl, ?_⟩
          by_cases ha : a < g.ts
          · have d2 : decide ((a : Int) < (g.ts : Int)) = true := decide_eq_true (by omega)
            rw [d2]
            refine iteT ⟨_, rfl, p, _, rfl, .inl (SqL.of e1), _, _, rfl, rfl, _, rfl, ?_⟩
            rw [d3]
            exact iteF ⟨_, rfl, q p H1 told (s :: r) hp0 s1 (Ne.symm nlp) e1 f1' (.inl ⟨by omega, Rn.much ht⟩)⟩
          · have d2 : decide ((a : Int) < (g.ts : Int)) = false := decide_eq_false (by omega)
            rw [d2]
            exact iteF (iteF ⟨_, rfl, q p H1 told (s :: r) hp0 s1 (Ne.symm nlp) e1 f1' (.inl ⟨by omega, Rn.much ht⟩)⟩)
end
end Gk

set_option Elab.async false
set_option linter.all false
set_option maxRecDepth 100000
set_option maxHeartbeats 4000000
namespace Gk
open PySem PySem.Spec PyProof.Rows L2 Gm
def vI (x : List Int) : List V := x.map V.int
/-! ### the object's attributes -/
def ff (n t : Nat) (rp : Addr) (c : Bool) (np fp op cp kp : Addr) (tc : V) : List (Str × V) := [("nonterminals", .int (n : Int)), ("tokens", .int (t : Int)), ("rules", .ref rp), ("closed", .bl c), ("nullable", .ref np), ("firsts", .ref fp), ("follows", .ref op), ("choices", .ref cp), ("clashes", .ref kp), ("to_come", tc)]
section
variable {n t : Nat} {rp np fp op cp kp : Addr} {c : Bool} {tc : V}
theorem ff_n : (ff n t rp c np fp op cp kp tc).lookup ("nonterminals" : Str) = some (.int (n : Int)) := by kernel_rfl
theorem ff_t : (ff n t rp c np fp op cp kp tc).lookup ("tokens" : Str) = some (.int (t : Int)) := by kernel_rfl
theorem ff_r : (ff n t rp c np fp op cp kp tc).lookup ("rules" : Str) = some (.ref rp) := by kernel_rfl
theorem ff_c : (ff n t rp c np fp op cp kp tc).lookup ("closed" : Str) = some (.bl c) := by kernel_rfl
theorem ff_nl : (ff n t rp c np fp op cp kp tc).lookup ("nullable" : Str) = some (.ref np) := by kernel_rfl
theorem ff_f : (ff n t rp c np fp op cp kp tc).lookup ("firsts" : Str) = some (.ref fp) := by kernel_rfl
theorem ff_o : (ff n t rp c np fp op cp kp tc).lookup ("follows" : Str) = some (.ref op) := by kernel_rfl
theorem ff_ch : (ff n t rp c np fp op cp kp tc).lookup ("choices" : Str) = some (.ref cp) := by kernel_rfl
theorem ff_k : (ff n t rp c np fp op cp kp tc).lookup ("clashes" : Str) = some (.ref kp) := by kernel_rfl
theorem ff_tc : (ff n t rp c np fp op cp kp tc).lookup ("to_come" : Str) = some tc := by kernel_rfl
theorem ff_put_c (c' : Bool) : putF "closed" (.bl c') (ff n t rp c np fp op cp kp tc) = ff n t rp c' np fp op cp kp tc := by kernel_rfl
theorem ff_put_nl (a : Addr) : putF "nullable" (.ref a) (ff n t rp c np fp op cp kp tc) = ff n t rp c a fp op cp kp tc := by kernel_rfl
theorem ff_put_f (a : Addr) : putF "firsts" (.ref a) (ff n t rp c np fp op cp kp tc) = ff n t rp c np a op cp kp tc := by kernel_rfl
theorem ff_put_o (a : Addr) : putF "follows" (.ref a) (ff n t rp c np fp op cp kp tc) = ff n t rp c np fp a cp kp tc := by kernel_rfl
theorem ff_put_ch (a : Addr) : putF "choices" (.ref a) (ff n t rp c np fp op cp kp tc) = ff n t rp c np fp op a kp tc := by kernel_rfl
theorem ff_put_k (a : Addr) : putF "clashes" (.ref a) (ff n t rp c np fp op cp kp tc) = ff n t rp c np fp op cp a tc := by kernel_rfl
theorem ff_put_tc (v : V) : putF "to_come" v (ff n t rp c np fp op cp kp tc) = ff n t rp c np fp op cp kp v := by kernel_rfl
theorem ff_len : (ff n t rp c np fp op cp kp tc).length = 10 := rfl
end
/-- all ten, put one after another -/
def putAll (n t : Nat) (rp : Addr) (c : Bool) (np fp op cp kp : Addr) (tc : V) (fs : List (Str × V)) : List (Str × V) :=
  putF "to_come" tc (putF "clashes" (.ref kp) (putF "choices" (.ref cp) (putF "follows" (.ref op) (putF "firsts" (.ref fp) (putF "nullable" (.ref np) (putF "closed" (.bl c) (putF "rules" (.ref rp) (putF "tokens" (.int (t : Int)) (putF "nonterminals" (.int (n : Int)) fs)))))))))
theorem putAll_nil {n t : Nat} {rp np fp op cp kp : Addr} {c : Bool} {tc : V} : putAll n t rp c np fp op cp kp tc [] = ff n t rp c np fp op cp kp tc := by kernel_rfl
theorem putAll_ff {n t : Nat} {rp np fp op cp kp : Addr} {c : Bool} {tc : V} {n' t' : Nat} {rp' np' fp' op' cp' kp' : Addr} {c' : Bool} {tc' : V} : putAll n t rp c np fp op cp kp tc (ff n' t' rp' c' np' fp' op' cp' kp' tc') = ff n t rp c np fp op cp kp tc := by kernel_rfl
/-- no attribute of this name among them -/
def Free (m : Str) : Prop := ∀ n t rp c np fp op cp kp tc, (ff n t rp c np fp op cp kp tc).lookup m = none
theorem free_begin : Free "begin" := fun n t rp c np fp op cp kp tc => by kernel_rfl
theorem free_fit : Free "symbols_fit" := fun n t rp c np fp op cp kp tc => by kernel_rfl
theorem free_rule : Free "rule" := fun n t rp c np fp op cp kp tc => by kernel_rfl
theorem free_close : Free "close" := fun n t rp c np fp op cp kp tc => by kernel_rfl
theorem free_work : Free "work_out" := fun n t rp c np fp op cp kp tc => by kernel_rfl
theorem free_refusal : Free "refusal" := fun n t rp c np fp op cp kp tc => by kernel_rfl
theorem free_empty : Free "empty" := fun n t rp c np fp op cp kp tc => by kernel_rfl
theorem free_first : Free "first" := fun n t rp c np fp op cp kp tc => by kernel_rfl
theorem free_follow : Free "follow" := fun n t rp c np fp op cp kp tc => by kernel_rfl
theorem free_choose : Free "choose" := fun n t rp c np fp op cp kp tc => by kernel_rfl
theorem free_conflicts : Free "conflicts" := fun n t rp c np fp op cp kp tc => by kernel_rfl
theorem free_start : Free "start" := fun n t rp c np fp op cp kp tc => by kernel_rfl
theorem free_bits : Free "expected_bits" := fun n t rp c np fp op cp kp tc => by kernel_rfl
theorem free_take : Free "take" := fun n t rp c np fp op cp kp tc => by kernel_rfl
theorem free_expected : Free "expected" := fun n t rp c np fp op cp kp tc => by kernel_rfl
/-! ### lists and tuples alone -/
def only (H : Hp) : Hp := fun b => match H b with
  | some (.lst xs) => some (.lst xs)
  | some (.tup xs) => some (.tup xs)
  | _ => none
theorem only_lst {H : Hp} {b : Addr} {xs : List V} (h : H b = some (.lst xs)) : only H b = some (.lst xs) := by
  unfold only
  rw [h]
theorem only_tup {H : Hp} {b : Addr} {xs : List V} (h : H b = some (.tup xs)) : only H b = some (.tup xs) := by
  unfold only
  rw [h]
theorem only_some {H : Hp} {b : Addr} {o : HO} (h : only H b = some o) : H b = some o ∧ ((∃ xs, o = .lst xs) ∨ ∃ xs, o = .tup xs) := by
  unfold only at h
  split at h
  · rename_i e
    cases h
    exact ⟨e, .inl ⟨_, rfl⟩⟩
  · rename_i e
    cases h
    exact ⟨e, .inr ⟨_, rfl⟩⟩
  · cases h
theorem only_same {H H' : Hp} (s : Same H H') : Same (only H) H' := fun b o h => s _ _ (only_some h).1
/-- an instance changed: the lists and tuples stay -/
theorem only_upd {H H' : Hp} {p : Addr} {o : HO} (s : Same (only H) H') (h : ∀ xs, H p ≠ some (.lst xs)) (h2 : ∀ xs, H p ≠ some (.tup xs)) : Same (only H) (upd H' p o) := fun b u q => by
  have q' := only_some q
  have hb : b ≠ p := by
    intro e
    subst e
    obtain ⟨q1, ⟨xs, rfl⟩ | ⟨xs, rfl⟩⟩ := q'
    · exact h xs q1
    · exact h2 xs q1
  rw [upd_ne hb]
  exact s _ _ q
theorem only_ins {H H' : Hp} {p C dx : Addr} {fs : List (Str × V)} {o : HO} (s : Same (only H) H') (h : H p = some (.ins C dx fs)) : Same (only H) (upd H' p o) :=
  only_upd s (fun xs e => by rw [h] at e; cases e) (fun xs e => by rw [h] at e; cases e)
theorem RuleAt.only {H : Hp} {a : Addr} {r : Nat × List Nat} (h : RuleAt H a r) : RuleAt (only H) a r := let ⟨b, h1, h2⟩ := h; ⟨b, only_tup h1, only_tup h2⟩
theorem RulesAt.only {H : Hp} {p : Addr} {rs : List (Nat × List Nat)} (h : RulesAt H p rs) : RulesAt (only H) p rs := let ⟨as, h1, h2, h3⟩ := h; ⟨as, only_lst h1, h2, fun i a r ha hr => (h3 i a r ha hr).only⟩
theorem TabR.only {H : Hp} {p : Addr} {n m : Nat} {f : Nat → Nat → List Nat} (h : TabR H p n m f) : TabR (only H) p n m f :=
  let ⟨R, C, h1, h2, h3⟩ := h
  ⟨R, C, only_lst h1, fun i hi => only_lst (h2 i hi), fun i j hi hj => only_lst (h3 i j hi hj)⟩
/-! ### the object -/
def Closed (H : Hp) (g : Ll.Gram) (np fp op cp kp : Addr) : Prop := ∃ (nl : List Bool) (fs fo : List Nat), H np = some (.lst (vB nl)) ∧ MkSet g.nts nl (Ll.nulls g) ∧ H fp = some (.lst (vN fs)) ∧ BtSets g.nts fs (Ll.firsts g) ∧ H op = some (.lst (vN fo)) ∧ BtSets g.nts fo (Ll.follows g) ∧
  TabR H cp g.nts (g.ts + 1) (fun n a => Ll.choices g (Ll.known g) n a) ∧ H kp = some (.lst (vN (Ll.conflicts g (Ll.known g)).flatten))
theorem Closed.keep {H H' : Hp} {g : Ll.Gram} {np fp op cp kp : Addr} (h : Closed H g np fp op cp kp) (s : Same (only H) H') : Closed H' g np fp op cp kp :=
  let ⟨nl, fs, fo, h1, h2, h3, h4, h5, h6, h7, h8⟩ := h
  ⟨nl, fs, fo, s _ _ (only_lst h1), h2, s _ _ (only_lst h3), h4, s _ _ (only_lst h5), h6, h7.only.same s, s _ _ (only_lst h8)⟩
def TextOk (g : Ll.Gram) (x : List Nat) : Prop := x.length ≤ 512 ∧ Good g x ∧ (∀ s ∈ x, s < g.ts + g.nts) ∧ Ll.conflicts g (Ll.known g) = []
def TextAt (H : Hp) (g : Ll.Gram) (closed : Bool) (tc : V) : Option (List Nat) → Prop
  | none => tc = .non
  | some x => closed = true ∧ ∃ a, tc = .ref a ∧ H a = some (.lst (vN x.reverse)) ∧ TextOk g x
theorem TextAt.keep {H H' : Hp} {g : Ll.Gram} {c : Bool} {tc : V} : ∀ {o : Option (List Nat)}, TextAt H g c tc o → Same (only H) H' → TextAt H' g c tc o
  | none, h, _ => h
  | some _, ⟨h1, a, h2, h3, h4⟩, s => ⟨h1, a, h2, s _ _ (only_lst h3), h4⟩
def ObjAt (C : Addr) (H : Hp) (p rp : Addr) (s : Ll.State) : Prop := ∃ (dx np fp op cp kp : Addr) (tc : V), H p = some (.ins C dx (ff s.g.nts s.g.ts rp s.closed np fp op cp kp tc)) ∧ WF s.g ∧ RulesAt H rp s.g.rules ∧ (s.closed = true → Closed H s.g np fp op cp kp) ∧ TextAt H s.g s.closed tc s.text
theorem ObjAt.keep {C : Addr} {H H' : Hp} {p rp : Addr} {s : Ll.State} (h : ObjAt C H p rp s) (e : ∀ o, H p = some o → H' p = some o) (k : Same (only H) H') : ObjAt C H' p rp s :=
  let ⟨dx, np, fp, op, cp, kp, tc, h1, h2, h3, h4, h5⟩ := h
  ⟨dx, np, fp, op, cp, kp, tc, e _ h1, h2, h3.only.same k, fun z => (h4 z).keep k, h5.keep k⟩
theorem ObjAt.same {C : Addr} {H H' : Hp} {p rp : Addr} {s : Ll.State} (h : ObjAt C H p rp s) (k : Same H H') : ObjAt C H' p rp s := h.keep (fun o q => k _ _ q) (only_same k)
/-- what a call's promise hands on -/
def Out (C : Addr) (H : Hp) (p rp : Addr) (s : Ll.State) (c : Ll.Call) (Q : VK) : Prop := ∀ (l rp' : Addr) (H' : Hp), H l = none → (∀ b o, H b = some o → b ≠ p → b ≠ rp → H' b = some o) → (rp' = rp ∨ H rp' = none) → ObjAt C H' p rp' (Ll.step s c).1 → H' l = some (.lst (vI (LlNeutral.shown (Ll.step s c).2))) → Q (.ref l) H'
theorem Out.stay {C : Addr} {H : Hp} {p rp : Addr} {s : Ll.State} {c : Ll.Call} {Q : VK} (o : Out C H p rp s c Q) (ob : ObjAt C H p rp s) {a : Ll.Answer} (e : Ll.step s c = (s, a)) {l : Addr} {H' : Hp} (hl : H l = none) (k : Same H H') (h : H' l = some (.lst (vI (LlNeutral.shown a)))) : Q (.ref l) H' := by
  refine o l rp H' hl (fun b u q _ _ => k b u q) (.inl rfl) ?_ ?_
  · rw [e]
    exact ob.same k
  · rw [e]
    exact h
theorem Out.no {C : Addr} {H : Hp} {p rp : Addr} {s : Ll.State} {c : Ll.Call} {Q : VK} (o : Out C H p rp s c Q) (ob : ObjAt C H p rp s) {n : Nat} {z : Int} (e : Ll.step s c = Ll.no s n) (hz : z = -(n : Int)) {l : Addr} (hl : H l = none) : Q (.ref l) (upd H l (.lst [.int z])) :=
  o.stay ob e hl (same_upd (Same.refl H) hl) (by rw [upd_same, hz]; rfl)
/-! ### what of the text the class must have -/
structure Txt (K : PySem.W.Frag) (mg : Str → Option Value) (C : Addr) : Prop where
  cl : Cls K C
  n_n : NoAttr K C "nonterminals"
  n_t : NoAttr K C "tokens"
  n_r : NoAttr K C "rules"
  n_c : NoAttr K C "closed"
  n_nl : NoAttr K C "nullable"
  n_f : NoAttr K C "firsts"
  n_o : NoAttr K C "follows"
  n_ch : NoAttr K C "choices"
  n_k : NoAttr K C "clashes"
  n_tc : NoAttr K C "to_come"
  len : mg "len" = none
  range : mg "range" = none
  tuple : mg "tuple" = none
  list : mg "list" = none
  enum : mg "enumerate" = none
  rev : mg "reversed" = none
  g_done : ∃ t, mg "DONE" = some (.int 0 t)
  g_out : ∃ t, mg "OUT_OF_RANGE" = some (.int (-1) t)
  g_many : ∃ t, mg "TOO_MANY" = some (.int (-2) t)
  g_now : ∃ t, mg "NOT_NOW" = some (.int (-3) t)
  g_fits : ∃ t, mg "NONE_FITS" = some (.int (-4) t)
  g_sev : ∃ t, mg "SEVERAL" = some (.int (-5) t)
  g_use : ∃ t, mg "USELESS" = some (.int (-6) t)
  g_mn : ∃ t, mg "MOST_NONTERMINALS" = some (.int 32 t)
  g_mt : ∃ t, mg "MOST_TOKENS" = some (.int 63 t)
  g_mr : ∃ t, mg "MOST_RULES" = some (.int 128 t)
  g_ms : ∃ t, mg "MOST_SYMBOLS" = some (.int 8 t)
  g_told : ∃ t, mg "MOST_TOLD" = some (.int 512 t)
  g_come : ∃ t, mg "MOST_TO_COME" = some (.int 512 t)
/-- a method of the class -/
structure MDef (K : PySem.W.Frag) (C : Addr) (m q : Str) (st : Stmt) (ps : List Str) (f : Addr) (fd : FuncData) : Prop where
  fn : Fun K m q st f fd
  mt : Meth K C m f
  b : Binds K fd ps []
section
variable {P : Program} {w : World} {K : PySem.W.Frag} {mg : Str → Option Value} {base : Heap} {C : Addr}
/-! ### refusal -/
abbrev s_refusal : Stmt := inClass (top 33) 6
theorem sc_refusal : FnScope ["self", "a"] ["self", "a"] (defScope s_refusal) := ⟨rfl, rfl, rfl, by decide +kernel, rfl, by decide +kernel, by decide +kernel⟩
def spRefusal (C : Addr) : Sp := fun vs H Q _ => ∃ (p rp : Addr) (s : Ll.State) (a : Nat), vs = [.ref p, .int (a : Int)] ∧ ObjAt C H p rp s ∧
  ∀ l, H l = none → Q (.ref l) (upd H l (.lst (if s.closed = false then [.int (-3)] else if s.g.nts ≤ a then [.int (-1)] else [])))
theorem ok_refusal {f : Addr} {fd : FuncData} (T : Txt K mg C) (F : MDef K C "refusal" "Grammar.refusal" s_refusal ["self", "a"] f fd) : FnOk P w K mg base CX0 1 f fd ["self", "a"] (spRefusal C) := by
  refine F.fn.ok sc_refusal (fun vs H Q E h => ?_) (fun cdv A outer s H vs Q E hr h => ?_)
  · obtain ⟨p, rp, st, a, rfl, _⟩ := h
    rfl
  · obtain ⟨p, rp, st, a, rfl, ⟨dx, np, fp, op, cp, kp, tc, h1, wf, h3, h4, h5⟩, q⟩ := h
    refine ⟨_, (pss_cons (ps_if (pt_not (pt_val (pe_fld (pv 0) rfl)))
      (pss_one (ps_ret (pe_lst (pa_cons (pe_gint rfl T.g_now) pa_nil))))
      pss_nil)
      (pss_cons (ps_if (pt_cmpR op_ge (pv 1) (pe_fld (pv 0) rfl) (nomark _))
      (pss_one (ps_ret (pe_lst (pa_cons (pe_gint rfl T.g_out) pa_nil))))
      pss_nil)
      (pss_one (ps_ret (pe_lst pa_nil))))), ?_⟩
    refine ⟨_, rfl, p, C, dx, _, _, rfl, h1, T.cl, T.n_c, ff_c, _, rfl, ?_⟩
    cases e : st.closed with
    | false =>
      rw [e, if_pos rfl] at q
      exact iteT ⟨(by show 1 ≤ sizeLine; decide), fun l hl => q l hl⟩
    | true =>
      rw [e, if_neg (by decide)] at q
      refine iteF ⟨_, rfl, _, rfl, p, C, dx, _, _, rfl, h1, T.cl, T.n_n, ff_n, _, _, rfl, rfl, _, rfl, ?_⟩
      by_cases h : st.g.nts ≤ a
      · rw [if_pos h] at q
        have d : decide ((st.g.nts : Int) ≤ (a : Int)) = true := decide_eq_true (by omega)
        rw [d]
        exact iteT ⟨(by show 1 ≤ sizeLine; decide), fun l hl => q l hl⟩
      · rw [if_neg h] at q
        have d : decide ((st.g.nts : Int) ≤ (a : Int)) = false := decide_eq_false (by omega)
        rw [d]
        exact iteF ⟨Nat.zero_le _, fun l hl => q l hl⟩
end
end Gk

set_option Elab.async false
set_option linter.all false
set_option maxRecDepth 100000
set_option maxHeartbeats 4000000
namespace Gk
open PySem PySem.Spec PyProof.Rows L2 Gm
theorem but_new {p l : Addr} {H H' : Hp} {o : HO} (e : But p H H') (hl : H l = none) : But p H (upd H' l o) := fun b u q hb => by
  rw [upd_ne (ne_of_none q hl)]
  exact e b u q hb
/-- free where the heap before, p aside, has grown -/
theorem but_free {p l : Addr} {H H' : Hp} (e : But p H H') (hp : H p ≠ none) (hp' : H' p ≠ none) (hl : H' l = none) : H l = none := by
  cases q : H l with
  | none => rfl
  | some u =>
    by_cases z : l = p
    · subst z
      exact absurd hl hp'
    · rw [e l u q z] at hl
      cases hl
section
variable {P : Program} {w : World} {K : PySem.W.Frag} {mg : Str → Option Value} {base : Heap} {C : Addr}
/-! ### begin -/
abbrev s_begin : Stmt := inClass (top 33) 1
theorem sc_begin : FnScope ["self", "n", "t"] ["self", "n", "t"] (defScope s_begin) := ⟨rfl, rfl, rfl, by decide +kernel, rfl, by decide +kernel, by decide +kernel⟩
def badSize (n t : Nat) : Prop := n < 1 ∨ 32 < n ∨ t < 1 ∨ 63 < t
def spBegin (C : Addr) : Sp := fun vs H Q _ => ∃ (p dx : Addr) (fs : List (Str × V)) (n t : Nat), vs = [.ref p, .int (n : Int), .int (t : Int)] ∧ H p = some (.ins C dx fs) ∧ fs.length ≤ 10 ∧ (∀ n t rp c np fp op cp kp tc, putAll n t rp c np fp op cp kp tc fs = ff n t rp c np fp op cp kp tc) ∧
  (badSize n t → ∀ l, H l = none → Q (.ref l) (upd H l (.lst [.int (-1)]))) ∧
  (¬ badSize n t → ∀ (l rp : Addr) (H' : Hp), H l = none → H rp = none → But p H H' → ObjAt C H' p rp ⟨⟨n, t, []⟩, false, none⟩ → H' l = some (.lst [.int 0]) → Q (.ref l) H')
theorem putF_le {f : Str} {v : V} {fs : List (Str × V)} {k : Nat} (h : fs.length ≤ k) : (putF f v fs).length ≤ k + 1 := Nat.le_trans (length_putF f v fs) (Nat.succ_le_succ h)
theorem ok_begin {f : Addr} {fd : FuncData} (T : Txt K mg C) (F : MDef K C "begin" "Grammar.begin" s_begin ["self", "n", "t"] f fd) : FnOk P w K mg base CX0 1 f fd ["self", "n", "t"] (spBegin C) := by
  refine F.fn.ok sc_begin (fun vs H Q E h => ?_) (fun cdv A outer s H vs Q E hr h => ?_)
  · obtain ⟨p, dx, fs, n, t, rfl, _⟩ := h
    rfl
  · obtain ⟨p, dx, fs, n, t, rfl, hp, hfs, hall, q1, q2⟩ := h
    refine ⟨_, (pss_cons (ps_if (PW.pt (pw_or (pt_cmpR op_lt (pv 1) pe_int (nomark _)) (pw_or (pt_cmpR op_gt (pv 1) (pe_gint rfl T.g_mn) (nomark _)) (pw_or (pt_cmpR op_lt (pv 2) pe_int (nomark _)) (pw_or1 (pt_cmpR op_gt (pv 2) (pe_gint rfl T.g_mt) (nomark _)))))))
      (pss_one (ps_ret (pe_lst (pa_cons (pe_gint rfl T.g_out) pa_nil))))
      pss_nil)
      (pss_cons (ps_fld (pv 0) (pv 1) rfl)
      (pss_cons (ps_fld (pv 0) (pv 2) rfl)
      (pss_cons (ps_fld (pv 0) (pe_lst pa_nil) rfl)
      (pss_cons (ps_fld (pv 0) pe_bl rfl)
      (pss_cons (ps_fld (pv 0) (pe_lst pa_nil) rfl)
      (pss_cons (ps_fld (pv 0) (pe_lst pa_nil) rfl)
      (pss_cons (ps_fld (pv 0) (pe_lst pa_nil) rfl)
      (pss_cons (ps_fld (pv 0) (pe_lst pa_nil) rfl)
      (pss_cons (ps_fld (pv 0) (pe_lst pa_nil) rfl)
      (pss_cons (ps_fld (pv 0) pe_non rfl)
      (pss_one (ps_ret (pe_lst (pa_cons (pe_gint rfl T.g_done) pa_nil))))))))))))))), ?_⟩
    refine ⟨_, rfl, _, _, rfl, rfl, _, rfl, ?_⟩
    by_cases b1 : n < 1
    · rw [show decide ((n : Int) < 1) = true from decide_eq_true (by omega)]
      exact iteT (iteT ⟨(by show 1 ≤ sizeLine; decide), fun l hl => q1 (.inl b1) l hl⟩)
    rw [show decide ((n : Int) < 1) = false from decide_eq_false (by omega)]
    refine iteF ⟨_, rfl, _, _, rfl, rfl, _, rfl, ?_⟩
    by_cases b2 : 32 < n
    · rw [show decide ((32 : Int) < (n : Int)) = true from decide_eq_true (by omega)]
      exact iteT (iteT ⟨(by show 1 ≤ sizeLine; decide), fun l hl => q1 (.inr (.inl b2)) l hl⟩)
    rw [show decide ((32 : Int) < (n : Int)) = false from decide_eq_false (by omega)]
    refine iteF ⟨_, rfl, _, _, rfl, rfl, _, rfl, ?_⟩
    by_cases b3 : t < 1
    · rw [show decide ((t : Int) < 1) = true from decide_eq_true (by omega)]
      exact iteT (iteT ⟨(by show 1 ≤ sizeLine; decide), fun l hl => q1 (.inr (.inr (.inl b3))) l hl⟩)
    rw [show decide ((t : Int) < 1) = false from decide_eq_false (by omega)]
    refine iteF ⟨_, rfl, _, _, rfl, rfl, _, rfl, ?_⟩
    by_cases b4 : 63 < t
    · rw [show decide ((63 : Int) < (t : Int)) = true from decide_eq_true (by omega)]
      exact iteT ⟨(by show 1 ≤ sizeLine; decide), fun l hl => q1 (.inr (.inr (.inr b4))) l hl⟩
    rw [show decide ((63 : Int) < (t : Int)) = false from decide_eq_false (by omega)]
    refine iteF ?_
    have good : ¬ badSize n t := by
      unfold badSize
      omega
    have hpn : H p ≠ none := by rw [hp]; exact fun z => nomatch z
    -- self.nonterminals = n; self.tokens = t
    refine ⟨_, rfl, _, rfl, p, C, dx, _, rfl, hp, T.cl, T.n_n, (by omega), ?_⟩
    refine ⟨_, rfl, _, rfl, p, C, dx, _, rfl, upd_same, T.cl, T.n_t, (by have := putF_le (f := "nonterminals") (v := .int (n : Int)) hfs; omega), ?_⟩
    have k2 := putF_le (f := "tokens") (v := .int (t : Int)) (putF_le (f := "nonterminals") (v := .int (n : Int)) hfs)
    have B2 : But p H (upd (upd H p (.ins C dx (putF "nonterminals" (.int (n : Int)) fs))) p (.ins C dx (putF "tokens" (.int (t : Int)) (putF "nonterminals" (.int (n : Int)) fs)))) := (But.refl p H).upd.upd
    have P2 : (upd (upd H p (.ins C dx (putF "nonterminals" (.int (n : Int)) fs))) p (.ins C dx (putF "tokens" (.int (t : Int)) (putF "nonterminals" (.int (n : Int)) fs)))) p = some (.ins C dx (putF "tokens" (.int (t : Int)) (putF "nonterminals" (.int (n : Int)) fs))) := upd_same
    generalize upd (upd H p (.ins C dx (putF "nonterminals" (.int (n : Int)) fs))) p (.ins C dx (putF "tokens" (.int (t : Int)) (putF "nonterminals" (.int (n : Int)) fs))) = H2 at B2 P2 ⊢
    -- self.rules = []
    refine ⟨Nat.zero_le _, fun rp hrp => ?_⟩
    have frp : H rp = none := but_free B2 hpn (by rw [P2]; exact fun z => nomatch z) hrp
    have nrp : p ≠ rp := ne_of_none P2 hrp
    refine ⟨_, rfl, p, C, dx, _, rfl, (by rw [upd_ne nrp]; exact P2), T.cl, T.n_r, (by omega), ?_⟩
    have k3 := putF_le (f := "rules") (v := .ref rp) k2
    have step : ∀ (H3 : Hp) (l : Addr) (g : Str) (v : V) (gs : List (Str × V)), But p H H3 → H3 p = some (.ins C dx gs) → H3 rp = some (.lst []) → H3 l = none →
        H l = none ∧ (upd H3 l (.lst [])) p = some (.ins C dx gs) ∧ But p H (upd (upd H3 l (.lst [])) p (.ins C dx (putF g v gs))) ∧ (upd (upd H3 l (.lst [])) p (.ins C dx (putF g v gs))) p = some (.ins C dx (putF g v gs)) ∧ (upd (upd H3 l (.lst [])) p (.ins C dx (putF g v gs))) rp = some (.lst []) := by
      intro H3 l g v gs B3 P3 R3 hl
      have fl : H l = none := but_free B3 hpn (by rw [P3]; exact fun z => nomatch z) hl
      exact ⟨fl, by rw [upd_ne (ne_of_none P3 hl)]; exact P3, (but_new B3 fl).upd, upd_same, by rw [upd_ne (Ne.symm nrp), upd_ne (ne_of_none R3 hl)]; exact R3⟩
    have B3 : But p H (upd (upd H2 rp (.lst [])) p (.ins C dx (putF "rules" (.ref rp) (putF "tokens" (.int (t : Int)) (putF "nonterminals" (.int (n : Int)) fs))))) := (but_new B2 frp).upd
    have P3 : (upd (upd H2 rp (.lst [])) p (.ins C dx (putF "rules" (.ref rp) (putF "tokens" (.int (t : Int)) (putF "nonterminals" (.int (n : Int)) fs))))) p = some _ := upd_same
    have R3 : (upd (upd H2 rp (.lst [])) p (.ins C dx (putF "rules" (.ref rp) (putF "tokens" (.int (t : Int)) (putF "nonterminals" (.int (n : Int)) fs))))) rp = some (.lst []) := by rw [upd_ne (Ne.symm nrp), upd_same]
    generalize upd (upd H2 rp (.lst [])) p (.ins C dx (putF "rules" (.ref rp) (putF "tokens" (.int (t : Int)) (putF "nonterminals" (.int (n : Int)) fs)))) = H3 at B3 P3 R3 ⊢
    -- self.closed = False
    refine ⟨_, rfl, p, C, dx, _, rfl, P3, T.cl, T.n_c, (by omega), ?_⟩
    have k4 := putF_le (f := "closed") (v := .bl false) k3
    have B4 := B3.upd (o := .ins C dx (putF "closed" (.bl false) (putF "rules" (.ref rp) (putF "tokens" (.int (t : Int)) (putF "nonterminals" (.int (n : Int)) fs)))))
    have P4 : (upd H3 p (.ins C dx (putF "closed" (.bl false) (putF "rules" (.ref rp) (putF "tokens" (.int (t : Int)) (putF "nonterminals" (.int (n : Int)) fs)))))) p = some _ := upd_same
    have R4 : (upd H3 p (.ins C dx (putF "closed" (.bl false) (putF "rules" (.ref rp) (putF "tokens" (.int (t : Int)) (putF "nonterminals" (.int (n : Int)) fs)))))) rp = some (.lst []) := by rw [upd_ne (Ne.symm nrp)]; exact R3
    generalize upd H3 p (.ins C dx (putF "closed" (.bl false) (putF "rules" (.ref rp) (putF "tokens" (.int (t : Int)) (putF "nonterminals" (.int (n : Int)) fs))))) = H4 at B4 P4 R4 ⊢
    -- five empty lists
    refine ⟨Nat.zero_le _, fun np hnp => ?_⟩
    obtain ⟨_, p5, B5, P5, R5⟩ := step H4 np "nullable" (.ref np) _ B4 P4 R4 hnp
    refine ⟨_, rfl, p, C, dx, _, rfl, p5, T.cl, T.n_nl, (by omega), ?_⟩
    have k5 := putF_le (f := "nullable") (v := .ref np) k4
    generalize upd (upd H4 np (.lst [])) p _ = H5 at B5 P5 R5 ⊢
    refine ⟨Nat.zero_le _, fun fp hfp => ?_⟩
    obtain ⟨_, p6, B6, P6, R6⟩ := step H5 fp "firsts" (.ref fp) _ B5 P5 R5 hfp
    refine ⟨_, rfl, p, C, dx, _, rfl, p6, T.cl, T.n_f, (by omega), ?_⟩
    have k6 := putF_le (f := "firsts") (v := .ref fp) k5
    generalize upd (upd H5 fp (.lst [])) p _ = H6 at B6 P6 R6 ⊢
    refine ⟨Nat.zero_le _, fun op hop => ?_⟩
    obtain ⟨_, p7, B7, P7, R7⟩ := step H6 op "follows" (.ref op) _ B6 P6 R6 hop
    refine ⟨_, rfl, p, C, dx, _, rfl, p7, T.cl, T.n_o, (by omega), ?_⟩
    have k7 := putF_le (f := "follows") (v := .ref op) k6
    generalize upd (upd H6 op (.lst [])) p _ = H7 at B7 P7 R7 ⊢
    refine ⟨Nat.zero_le _, fun cp hcp => ?_⟩
    obtain ⟨_, p8, B8, P8, R8⟩ := step H7 cp "choices" (.ref cp) _ B7 P7 R7 hcp
    refine ⟨_, rfl, p, C, dx, _, rfl, p8, T.cl, T.n_ch, (by omega), ?_⟩
    have k8 := putF_le (f := "choices") (v := .ref cp) k7
    generalize upd (upd H7 cp (.lst [])) p _ = H8 at B8 P8 R8 ⊢
    refine ⟨Nat.zero_le _, fun kp hkp => ?_⟩
    obtain ⟨_, p9, B9, P9, R9⟩ := step H8 kp "clashes" (.ref kp) _ B8 P8 R8 hkp
    refine ⟨_, rfl, p, C, dx, _, rfl, p9, T.cl, T.n_k, (by omega), ?_⟩
    have k9 := putF_le (f := "clashes") (v := .ref kp) k8
    generalize upd (upd H8 kp (.lst [])) p _ = H9 at B9 P9 R9 ⊢
    -- self.to_come = None; return [DONE]
    refine ⟨_, rfl, p, C, dx, _, rfl, P9, T.cl, T.n_tc, (by omega), ?_⟩
    have e := hall n t rp false np fp op cp kp .non
    unfold putAll at e
    rw [e]
    refine ⟨(by show 1 ≤ sizeLine; decide), fun l hl => ?_⟩
    have B10 : But p H (upd H9 p (.ins C dx (ff n t rp false np fp op cp kp .non))) := B9.upd
    have P10 : (upd H9 p (.ins C dx (ff n t rp false np fp op cp kp .non))) p = some _ := upd_same
    have fl : H l = none := but_free B10 hpn (by rw [P10]; exact fun z => nomatch z) hl
    have R10 : (upd H9 p (.ins C dx (ff n t rp false np fp op cp kp .non))) rp = some (.lst []) := by rw [upd_ne (Ne.symm nrp)]; exact R9
    refine q2 good l rp _ fl frp (but_new B10 fl) ⟨dx, np, fp, op, cp, kp, .non, by rw [upd_ne (ne_of_none P10 hl)]; exact P10, ⟨by show 1 ≤ n; omega, by show n ≤ 32; omega, by show 1 ≤ t; omega, by show t ≤ 63; omega, by show 0 ≤ 128; omega, fun r hr => nomatch hr⟩, ⟨[], by rw [upd_ne (ne_of_none R10 hl)]; exact R10, rfl, fun i a r ha => by cases ha⟩, (fun z => (by cases z)), rfl⟩ upd_same
/-! ### __init__ -/
abbrev s_init : Stmt := inClass (top 33) 0
theorem sc_init : FnScope ["self"] ["self"] (defScope s_init) := ⟨rfl, rfl, rfl, by decide +kernel, rfl, by decide +kernel, by decide +kernel⟩
def spInit (C : Addr) : Sp := fun vs H Q _ => ∃ (p dx : Addr), vs = [.ref p] ∧ H p = some (.ins C dx []) ∧ ∀ (rp : Addr) (H' : Hp), H rp = none → But p H H' → ObjAt C H' p rp Ll.start → Q .non H'
theorem ok_init {f f1 : Addr} {fd fd1 : FuncData} (T : Txt K mg C) (F : Fun K "__init__" "Grammar.__init__" s_init f fd) (F1 : MDef K C "begin" "Grammar.begin" s_begin ["self", "n", "t"] f1 fd1) : FnOk P w K mg base CX0 2 f fd ["self"] (spInit C) := by
  have G1 : FnOk P w K mg base CX0 1 f1 fd1 _ (spBegin C) := ok_begin T F1
  refine F.ok sc_init (fun vs H Q E h => ?_) (fun cdv A outer s H vs Q E hr h => ?_)
  · obtain ⟨p, dx, rfl, _⟩ := h
    rfl
  · obtain ⟨p, dx, rfl, hp, q⟩ := h
    refine ⟨_, (pss_one (ps_expr (pe_meth (pv 0) T.cl F1.mt G1 hr F1.b .nil pass0 (pa_cons pe_int (pa_cons pe_int pa_nil))))), ?_⟩
    refine ⟨_, rfl, p, dx, _, rfl, hp, rfl, p, dx, [], 1, 1, rfl, hp, Nat.zero_le _, fun _ _ _ _ _ _ _ _ _ _ => putAll_nil, fun h => absurd h (by unfold badSize; omega), fun _ l rp H' hl hrp b o e => ?_⟩
    exact q rp H' hrp b o
end
end Gk

set_option Elab.async false
set_option linter.all false
set_option maxRecDepth 100000
set_option maxHeartbeats 4000000
namespace Gk
open PySem PySem.Spec PyProof.Rows L2 Gm
def fits (g : Ll.Gram) (x : List Nat) : Bool := decide (x.length ≤ 8) && !(x.any fun c => decide (g.ts + g.nts ≤ c))
section
variable {P : Program} {w : World} {K : PySem.W.Frag} {mg : Str → Option Value} {base : Heap} {C : Addr}
/-! ### symbols_fit -/
abbrev s_fit : Stmt := inClass (top 33) 2
theorem sc_fit : FnScope ["self", "symbols", "symbol"] ["self", "symbols"] (defScope s_fit) := ⟨rfl, rfl, rfl, by decide +kernel, rfl, by decide +kernel, by decide +kernel⟩
def spFit (C : Addr) : Sp := fun vs H Q _ => ∃ (p rp b : Addr) (s : Ll.State) (x : List Nat), vs = [.ref p, .ref b] ∧ ObjAt C H p rp s ∧ H b = some (.lst (vN x)) ∧ Q (.bl (fits s.g x)) H
theorem ok_fit {f : Addr} {fd : FuncData} (T : Txt K mg C) (F : MDef K C "symbols_fit" "Grammar.symbols_fit" s_fit ["self", "symbols"] f fd) : FnOk P w K mg base CX0 1 f fd ["self", "symbols"] (spFit C) := by
  refine F.fn.ok sc_fit (fun vs H Q E h => ?_) (fun cdv A outer s H vs Q E hr h => ?_)
  · obtain ⟨p, rp, b, st, x, rfl, _⟩ := h
    rfl
  · obtain ⟨p, rp, b, st, x, rfl, ⟨dx, np, fp, op, cp, kp, tc, h1, wf, h3, h4, h5⟩, hb, q⟩ := h
    refine ⟨_, (pss_cons (ps_if (pt_cmpR op_gt (pe_callB call_len_seq (by rfl) T.len PySem.boot_len (pa_cons (pv 1) pa_nil)) (pe_gint rfl T.g_ms) (nomark _))
      (pss_one (ps_ret pe_bl))
      pss_nil)
      (pss_cons (ps_for PassesOwn.never rfl (pi_list (pv 1)) (pg_name (i := 2) sc_fit.nd rfl (Or.inl rfl))
      (pss_one (ps_if (pt_cmpR op_ge (pv 2) (pe_op op_add (pe_fld (pv 0) rfl) (pe_fld (pv 0) rfl)) (nomark _))
      (pss_one (ps_ret pe_bl))
      pss_nil)))
      (pss_one (ps_ret pe_bl)))), ?_⟩
    refine ⟨_, rfl, b, _, rfl, .inl (SqL.of hb), _, _, rfl, rfl, _, rfl, ?_⟩
    unfold fits at q
    by_cases hl : 8 < x.length
    · rw [show decide ((8 : Int) < ((vN x).length : Int)) = true from decide_eq_true (by rw [vN_len]; omega)]
      rw [decide_eq_false (show ¬ x.length ≤ 8 by omega), Bool.false_and] at q
      exact iteT q
    rw [show decide ((8 : Int) < ((vN x).length : Int)) = false from decide_eq_false (by rw [vN_len]; omega)]
    rw [decide_eq_true (show x.length ≤ 8 by omega), Bool.true_and] at q
    refine iteF ?_
    refine ⟨_, rfl, b, rfl, ⟨_, SqL.of hb⟩, for_list (K := K) (a := b) (xs := vN x) (fun i σ H' => ∃ v : Option V, σ = [some (.ref p), some (.ref b), v] ∧ H' = H ∧ ((x.take i).any fun c => decide (st.g.ts + st.g.nts ≤ c)) = false)
      ⟨none, rfl, rfl, rfl⟩ (fun i σ H' _ ⟨_, _, e, _⟩ => by rw [e]; exact SqL.of hb) ?_ ?_⟩
    · rintro i y σ H' hi ⟨v, rfl, rfl, ht⟩
      obtain ⟨z, hz, rfl⟩ := vN_get hi
      refine ⟨_, rfl, _, rfl, p, C, dx, _, _, rfl, h1, T.cl, T.n_t, ff_t, _, rfl, p, C, dx, _, _, rfl, h1, T.cl, T.n_n, ff_n, _, _, rfl, rfl, _, _, rfl, rfl, _, rfl, ?_⟩
      by_cases hz2 : st.g.ts + st.g.nts ≤ z
      · rw [show decide ((st.g.ts : Int) + (st.g.nts : Int) ≤ (z : Int)) = true from decide_eq_true (by omega)]
        have e : (x.any fun c => decide (st.g.ts + st.g.nts ≤ c)) = true := List.any_eq_true.mpr ⟨z, mem_get hz, decide_eq_true hz2⟩
        rw [e] at q
        exact iteT q
      · rw [show decide ((st.g.ts : Int) + (st.g.nts : Int) ≤ (z : Int)) = false from decide_eq_false (by omega)]
        refine iteF ⟨_, rfl, rfl, ?_⟩
        rw [take_snoc hz, List.any_append, ht, Bool.false_or]
        simp
        omega
    · rintro σ H' ⟨v, rfl, rfl, ht⟩
      rw [vN_len, List.take_length] at ht
      rw [ht] at q
      exact q
/-! ### rule -/
abbrev s_rule : Stmt := inClass (top 33) 3
theorem sc_rule : FnScope ["self", "a", "symbols"] ["self", "a", "symbols"] (defScope s_rule) := ⟨rfl, rfl, rfl, by decide +kernel, rfl, by decide +kernel, by decide +kernel⟩
def spRule (C : Addr) : Sp := fun vs H Q _ => ∃ (p rp b : Addr) (s : Ll.State) (a : Nat) (x : List Nat), vs = [.ref p, .int (a : Int), .ref b] ∧ ObjAt C H p rp s ∧ H b = some (.lst (vN x)) ∧ Out C H p rp s (.rule a x) Q
theorem step_rule_no {s : Ll.State} {a : Nat} {x : List Nat} (hc : s.closed = false) (h : ¬ a < s.g.nts ∨ fits s.g x = false) : Ll.step s (.rule a x) = Ll.no s 1 := by
  unfold Ll.step
  simp only
  rw [if_neg (by rw [hc]; decide), if_pos]
  unfold fits at h
  rcases h with h | h
  · exact .inl (by omega)
  · rw [Bool.and_eq_false_iff] at h
    rcases h with h | h
    · exact .inr (.inl (by show 8 < x.length; have := of_decide_eq_false h; omega))
    · refine .inr (.inr ?_)
      simpa using h
theorem step_rule_yes {s : Ll.State} {a : Nat} {x : List Nat} (hc : s.closed = false) (h1 : a < s.g.nts) (h : fits s.g x = true) : Ll.step s (.rule a x) = if 128 ≤ s.g.rules.length then Ll.no s 2 else ({ s with g := { s.g with rules := s.g.rules ++ [(a, x)] } }, .told [s.g.rules.length]) := by
  unfold fits at h
  rw [Bool.and_eq_true] at h
  have h2 := of_decide_eq_true h.1
  unfold Ll.step
  simp only
  rw [if_neg (by rw [hc]; decide), if_neg]
  · rfl
  rintro (q | q | q)
  · omega
  · have q : 8 < x.length := q
    omega
  · rw [q] at h
    exact absurd h.2 (by decide)
theorem fits_iff {g : Ll.Gram} {x : List Nat} (h : fits g x = true) : x.length ≤ 8 ∧ ∀ s ∈ x, s < g.ts + g.nts := by
  unfold fits at h
  rw [Bool.and_eq_true] at h
  refine ⟨of_decide_eq_true h.1, fun s hs => ?_⟩
  have h2 := h.2
  rw [Bool.not_eq_true', List.any_eq_false] at h2
  have := h2 s hs
  simp at this
  omega
theorem ok_rule {f f1 : Addr} {fd fd1 : FuncData} (T : Txt K mg C) (F : MDef K C "rule" "Grammar.rule" s_rule ["self", "a", "symbols"] f fd) (F1 : MDef K C "symbols_fit" "Grammar.symbols_fit" s_fit ["self", "symbols"] f1 fd1) : FnOk P w K mg base CX0 2 f fd ["self", "a", "symbols"] (spRule C) := by
  have G1 : FnOk P w K mg base CX0 1 f1 fd1 _ (spFit C) := ok_fit T F1
  refine F.fn.ok sc_rule (fun vs H Q E h => ?_) (fun cdv A outer s H vs Q E hr h => ?_)
  · obtain ⟨p, rp, b, st, a, x, rfl, _⟩ := h
    rfl
  · obtain ⟨p, rp, b, st, a, x, rfl, ob, hb, q⟩ := h
    have ob' := ob
    obtain ⟨dx, np, fp, op, cp, kp, tc, h1, wf, ⟨as, hrp, hal, hrules⟩, h4, h5⟩ := ob'
    refine ⟨_, (pss_cons (ps_if (pt_val (pe_fld (pv 0) rfl))
      (pss_one (ps_ret (pe_lst (pa_cons (pe_gint rfl T.g_now) pa_nil))))
      pss_nil)
      (pss_cons (ps_if (PW.pt (pw_or (pt_cmpR op_ge (pv 1) (pe_fld (pv 0) rfl) (nomark _)) (pw_or1 (pt_not (pt_val (pe_meth (pv 0) T.cl F1.mt G1 hr F1.b .nil pass0 (pa_cons (pv 2) pa_nil)))))))
      (pss_one (ps_ret (pe_lst (pa_cons (pe_gint rfl T.g_out) pa_nil))))
      pss_nil)
      (pss_cons (ps_if (pt_cmpR op_ge (pe_callB call_len_seq (by rfl) T.len PySem.boot_len (pa_cons (pe_fld (pv 0) rfl) pa_nil)) (pe_gint rfl T.g_mr) (nomark _))
      (pss_one (ps_ret (pe_lst (pa_cons (pe_gint rfl T.g_many) pa_nil))))
      pss_nil)
      (pss_cons (ps_expr (pe_bm PySem.F.plainAttrs_list PySem.F.slot_list_append PySem.F.type_list_append mt_append (pe_fld (pv 0) rfl) (pa_cons (pe_tup (pa_cons (pv 1) (pa_cons (pe_callTy call_tuple_of (by rfl) T.tuple PyProof.Rows.boot_tuple (pa_cons (pv 2) pa_nil)) pa_nil))) pa_nil)))
      (pss_one (ps_ret (pe_lst (pa_cons (pe_gint rfl T.g_done) (pa_cons (pe_op op_sub (pe_callB call_len_seq (by rfl) T.len PySem.boot_len (pa_cons (pe_fld (pv 0) rfl) pa_nil)) pe_int) pa_nil))))))))), ?_⟩
    have one : (1 : Nat) ≤ sizeLine := by decide
    refine ⟨_, rfl, p, C, dx, _, _, rfl, h1, T.cl, T.n_c, ff_c, _, rfl, ?_⟩
    cases hc : st.closed with
    | true =>
      refine iteT ⟨one, fun l hl => q.no ob (n := 3) ?_ rfl hl⟩
      unfold Ll.step
      simp only
      rw [if_pos hc]
    | false =>
      rw [hc] at h1
      refine iteF ⟨_, rfl, _, rfl, p, C, dx, _, _, rfl, h1, T.cl, T.n_n, ff_n, _, _, rfl, rfl, _, rfl, ?_⟩
      by_cases ha : st.g.nts ≤ a
      · rw [show decide ((st.g.nts : Int) ≤ (a : Int)) = true from decide_eq_true (by omega)]
        exact iteT (iteT ⟨one, fun l hl => q.no ob (step_rule_no hc (.inl (by omega))) rfl hl⟩)
      rw [show decide ((st.g.nts : Int) ≤ (a : Int)) = false from decide_eq_false (by omega)]
      refine iteF ⟨_, rfl, p, dx, _, rfl, h1, free_fit _ _ _ _ _ _ _ _ _ _, _, rfl, p, rp, b, st, x, rfl, ob, hb, _, rfl, ?_⟩
      cases hf : fits st.g x with
      | false => exact iteT ⟨one, fun l hl => q.no ob (step_rule_no hc (.inr hf)) rfl hl⟩
      | true =>
        have hstep := step_rule_yes (a := a) hc (by omega) hf
        refine iteF ⟨_, rfl, p, C, dx, _, _, rfl, h1, T.cl, T.n_r, ff_r, rp, _, rfl, .inl (SqL.of hrp), _, _, rfl, rfl, _, rfl, ?_⟩
        rw [List.length_map, hal]
        by_cases hm : 128 ≤ st.g.rules.length
        · rw [if_pos hm] at hstep
          rw [show decide ((128 : Int) ≤ (st.g.rules.length : Int)) = true from decide_eq_true (by omega)]
          exact iteT ⟨one, fun l hl => q.no ob hstep rfl hl⟩
        rw [if_neg hm] at hstep
        rw [show decide ((128 : Int) ≤ (st.g.rules.length : Int)) = false from decide_eq_false (by omega)]
        refine iteF ?_
        obtain ⟨f1, f2⟩ := fits_iff hf
        -- self.rules.append((a, tuple(symbols)))
        refine ⟨_, rfl, p, C, dx, _, _, rfl, h1, T.cl, T.n_r, ff_r, .inl ⟨rfl, _, SqL.of hrp⟩, _, rfl, _, rfl, b, _, rfl, .inl ⟨SqL.of hb, fun tb htb => ?_⟩⟩
        refine ⟨(by show 2 ≤ sizeLine; decide), fun ra hra => ?_⟩
        have k1 : Same H (upd H tb (.tup (vN x))) := same_upd (Same.refl H) htb
        have k2 : Same H (upd (upd H tb (.tup (vN x))) ra (.tup [.int (a : Int), .ref tb])) := same_upd k1 (k1.free hra)
        have ntr : tb ≠ ra := ne_of_none (upd_same (H := H) (a := tb) (o := .tup (vN x))) hra
        refine ⟨rp, _, _, rfl, rfl, k2 _ _ hrp, (by rw [List.length_map, hal]; exact Nat.lt_of_lt_of_le (show st.g.rules.length < 128 by omega) (by decide)), ?_⟩
        have nrp : p ≠ rp := ne_of h1 hrp (by intro z; cases z)
        have ntb : tb ≠ rp := Ne.symm (ne_of_none hrp htb)
        have nra : ra ≠ rp := Ne.symm (ne_of_none hrp (k1.free hra))
        have e1 : (upd (upd (upd H tb (.tup (vN x))) ra (.tup [.int (a : Int), .ref tb])) rp (.lst (as.map V.ref ++ [.ref ra]))) p = some (.ins C dx (ff st.g.nts st.g.ts rp false np fp op cp kp tc)) := by rw [upd_ne nrp]; exact k2 _ _ h1
        -- return [DONE, len(self.rules) - 1]
        refine ⟨_, rfl, p, C, dx, _, _, rfl, e1, T.cl, T.n_r, ff_r, rp, _, rfl, .inl (SqL.of upd_same), _, _, rfl, rfl, (by show 2 ≤ sizeLine; decide), fun l hl => ?_⟩
        have hl2 : H l = none := by
          refine k2.free ?_
          by_cases z : l = rp
          · rw [z, upd_same] at hl; cases hl
          · rw [upd_ne z] at hl; exact hl
        have nlrp : rp ≠ l := ne_of_none hrp hl2
        refine q l rp _ hl2 (fun u o e hu1 hu2 => ?_) (.inl rfl) ?_ ?_
        · rw [upd_ne (ne_of_none e hl2), upd_ne hu2]
          exact k2 _ _ e
        · rw [hstep]
          refine ⟨dx, np, fp, op, cp, kp, tc, ?_, ⟨wf.n1, wf.n32, wf.t1, wf.t63, ?_, ?_⟩, ⟨as ++ [ra], ?_, ?_, ?_⟩, ?_, ?_⟩
          · rw [upd_ne (ne_of_none h1 hl2), upd_ne nrp]
            show upd (upd H tb _) ra _ p = some (.ins C dx (ff st.g.nts st.g.ts rp st.closed np fp op cp kp tc))
            rw [hc]
            exact k2 _ _ h1
          · show (st.g.rules ++ [(a, x)]).length ≤ 128
            rw [List.length_append, List.length_singleton]
            omega
          · intro r hr
            rcases List.mem_append.mp hr with hr | hr
            · exact wf.rl r hr
            · simp at hr
              subst hr
              exact ⟨by show a < st.g.nts; omega, f1, f2⟩
          · rw [upd_ne nlrp, upd_same, List.map_append]
            rfl
          · show (as ++ [ra]).length = (st.g.rules ++ [(a, x)]).length
            rw [List.length_append, List.length_append, hal]
            rfl
          · intro i u r hu hr
            have hr : (st.g.rules ++ [(a, x)])[i]? = some r := hr
            by_cases hi : i < as.length
            · rw [List.getElem?_append_left hi] at hu
              rw [List.getElem?_append_left (by omega)] at hr
              obtain ⟨b', r1, r2⟩ := hrules i u r hu hr
              have n1 : u ≠ rp := ne_of r1 hrp (by intro z; cases z)
              have n2 : b' ≠ rp := ne_of r2 hrp (by intro z; cases z)
              exact ⟨b', by rw [upd_ne (ne_of_none r1 hl2), upd_ne n1]; exact k2 _ _ r1, by rw [upd_ne (ne_of_none r2 hl2), upd_ne n2]; exact k2 _ _ r2⟩
            · rw [List.getElem?_append_right (by omega)] at hu
              rw [List.getElem?_append_right (by omega)] at hr
              have hi2 : i - as.length = 0 := by
                have := (List.getElem?_eq_some_iff.mp hu).1
                simp at this
                omega
              rw [hi2] at hu
              rw [← hal, hi2] at hr
              have hu : ra = u := Option.some.inj hu
              have hr : (a, x) = r := Option.some.inj hr
              subst hu hr
              have nral : ra ≠ l := by
                intro z
                subst z
                rw [upd_ne nra, upd_same] at hl
                cases hl
              have ntbl : tb ≠ l := by
                intro z
                subst z
                rw [upd_ne ntb, upd_ne ntr, upd_same] at hl
                cases hl
              exact ⟨tb, by rw [upd_ne nral, upd_ne nra, upd_same], by rw [upd_ne ntbl, upd_ne ntb, upd_ne ntr, upd_same]⟩
          · intro z
            have z : st.closed = true := z
            rw [hc] at z
            cases z
          · cases ht : st.text with
            | none =>
              rw [ht] at h5
              exact h5
            | some y =>
              rw [ht] at h5
              have := h5.1
              rw [hc] at this
              cases this
        · rw [hstep, upd_same, List.length_append, List.length_map, hal]
          show some (HO.lst [.int 0, .int (((st.g.rules.length + 1 : Nat) : Int) - 1)]) = some (HO.lst [.int 0, .int (st.g.rules.length : Int)])
          have e : ((st.g.rules.length + 1 : Nat) : Int) - 1 = (st.g.rules.length : Int) := by omega
          rw [e]
end
end Gk

set_option Elab.async false
set_option linter.all false
set_option maxRecDepth 100000
set_option maxHeartbeats 4000000
namespace Gk
open PySem PySem.Spec PyProof.Rows L2 Gm
theorem but_same {p : Addr} {H H1 H2 : Hp} (e : But p H H1) (s : Same H1 H2) : But p H H2 := fun b u q hb => s _ _ (e b u q hb)
section
variable {P : Program} {w : World} {K : PySem.W.Frag} {mg : Str → Option Value} {base : Heap} {C : Addr}
/-! ### work_out -/
abbrev s_work : Stmt := inClass (top 33) 5
theorem sc_work : FnScope ["self", "n", "t"] ["self"] (defScope s_work) := ⟨rfl, rfl, rfl, by decide +kernel, rfl, by decide +kernel, by decide +kernel⟩
def spWork (C : Addr) : Sp := fun vs H Q _ => ∃ (p rp dx np fp op cp kp : Addr) (g : Ll.Gram) (c : Bool) (tc : V), vs = [.ref p] ∧ H p = some (.ins C dx (ff g.nts g.ts rp c np fp op cp kp tc)) ∧ WF g ∧ RulesAt H rp g.rules ∧
  ∀ (np' fp' op' cp' kp' : Addr) (H' : Hp), But p H H' → H' p = some (.ins C dx (ff g.nts g.ts rp c np' fp' op' cp' kp' tc)) → Closed H' g np' fp' op' cp' kp' → Q .non H'
/-- the defs of derivations.py that the class calls -/
structure Dvs (P : Program) (w : World) (K : PySem.W.Frag) (mg : Str → Option Value) (base : Heap) (f1 f2 f3 f4 f5 f6 : Addr) (fd1 fd2 fd3 fd4 fd5 fd6 : FuncData) : Prop where
  d1 : Def K mg "find_nullable" s_nullable ["n", "t", "rules"] f1 fd1
  d2 : Def K mg "find_firsts" s_firsts ["n", "t", "rules", "nullable"] f2 fd2
  d3 : Def K mg "find_follows" s_follows ["n", "t", "rules", "nullable", "firsts"] f3 fd3
  d4 : Def K mg "find_choices" s_choices ["n", "t", "rules", "nullable", "firsts", "follows"] f4 fd4
  d5 : Def K mg "find_conflicts" s_conflicts_ ["choices"] f5 fd5
  d6 : Def K mg "find_useless" s_useless ["n", "t", "rules"] f6 fd6
  g1 : FnOk P w K mg base CX0 3 f1 fd1 ["n", "t", "rules"] spNullable
  g2 : FnOk P w K mg base CX0 3 f2 fd2 ["n", "t", "rules", "nullable"] spFirsts
  g3 : FnOk P w K mg base CX0 3 f3 fd3 ["n", "t", "rules", "nullable", "firsts"] spFollows
  g4 : FnOk P w K mg base CX0 3 f4 fd4 ["n", "t", "rules", "nullable", "firsts", "follows"] spChoices
  g5 : FnOk P w K mg base CX0 3 f5 fd5 ["choices"] spConflicts_
  g6 : FnOk P w K mg base CX0 3 f6 fd6 ["n", "t", "rules"] spUseless
theorem ok_work {f f1 f2 f3 f4 f5 f6 : Addr} {fd fd1 fd2 fd3 fd4 fd5 fd6 : FuncData} (T : Txt K mg C) (F : MDef K C "work_out" "Grammar.work_out" s_work ["self"] f fd) (D : Dvs P w K mg base f1 f2 f3 f4 f5 f6 fd1 fd2 fd3 fd4 fd5 fd6) : FnOk P w K mg base CX0 4 f fd ["self"] (spWork C) := by
  refine F.fn.ok sc_work (fun vs H Q E h => ?_) (fun cdv A outer s H vs Q E hr h => ?_)
  · obtain ⟨p, rp, dx, np, fp, op, cp, kp, g, c, tc, rfl, _⟩ := h
    rfl
  · obtain ⟨p, rp, dx, np, fp, op, cp, kp, g, c, tc, rfl, h1, wf, hR, q⟩ := h
    refine ⟨_, (pss_cons (ps_set (i := 1) sc_work.nd rfl (Or.inl rfl) (pe_fld (pv 0) rfl))
      (pss_cons (ps_set (i := 2) sc_work.nd rfl (Or.inl rfl) (pe_fld (pv 0) rfl))
      (pss_cons (ps_fld (pv 0) (pe_call D.g1 hr rfl D.d1.mg D.d1.fn.kp D.d1.b .nil pass0 (pa_cons (pv 1) (pa_cons (pv 2) (pa_cons (pe_fld (pv 0) rfl) pa_nil)))) rfl)
      (pss_cons (ps_fld (pv 0) (pe_call D.g2 hr rfl D.d2.mg D.d2.fn.kp D.d2.b .nil pass0 (pa_cons (pv 1) (pa_cons (pv 2) (pa_cons (pe_fld (pv 0) rfl) (pa_cons (pe_fld (pv 0) rfl) pa_nil))))) rfl)
      (pss_cons (ps_fld (pv 0) (pe_call D.g3 hr rfl D.d3.mg D.d3.fn.kp D.d3.b .nil pass0 (pa_cons (pv 1) (pa_cons (pv 2) (pa_cons (pe_fld (pv 0) rfl) (pa_cons (pe_fld (pv 0) rfl) (pa_cons (pe_fld (pv 0) rfl) pa_nil)))))) rfl)
      (pss_cons (ps_fld (pv 0) (pe_call D.g4 hr rfl D.d4.mg D.d4.fn.kp D.d4.b .nil pass0 (pa_cons (pv 1) (pa_cons (pv 2) (pa_cons (pe_fld (pv 0) rfl) (pa_cons (pe_fld (pv 0) rfl) (pa_cons (pe_fld (pv 0) rfl) (pa_cons (pe_fld (pv 0) rfl) pa_nil))))))) rfl)
      (pss_one (ps_fld (pv 0) (pe_call D.g5 hr rfl D.d5.mg D.d5.fn.kp D.d5.b .nil pass0 (pa_cons (pe_fld (pv 0) rfl) pa_nil)) rfl)))))))), ?_⟩
    refine ⟨_, rfl, p, C, dx, _, _, rfl, h1, T.cl, T.n_n, ff_n, ?_⟩
    refine ⟨_, rfl, p, C, dx, _, _, rfl, h1, T.cl, T.n_t, ff_t, ?_⟩
    have few : ∀ {n t rp c np fp op cp kp tc}, (ff n t rp c np fp op cp kp tc).length < 1000 := by
      intro n t rp c np fp op cp kp tc
      show 10 < 1000
      decide
    -- nullable
    refine ⟨_, rfl, _, rfl, _, rfl, p, C, dx, _, _, rfl, h1, T.cl, T.n_r, ff_r, g, rp, wf, rfl, hR, fun np' H1 nl n1 s1 e1 m1 => ?_⟩
    have p1 := s1 _ _ h1
    refine ⟨_, rfl, p, C, dx, _, rfl, p1, T.cl, T.n_nl, few, ?_⟩
    rw [ff_put_nl]
    have K1 : Same (only H1) (upd H1 p (.ins C dx (ff g.nts g.ts rp c np' fp op cp kp tc))) := only_ins (only_same (Same.refl H1)) p1
    have B2 : But p H (upd H1 p (.ins C dx (ff g.nts g.ts rp c np' fp op cp kp tc))) := (but_same (But.refl p H) s1).upd
    have P2 : (upd H1 p (.ins C dx (ff g.nts g.ts rp c np' fp op cp kp tc))) p = some _ := upd_same
    have R2 := (hR.same s1).only.same K1
    have E2 := K1 _ _ (only_lst e1)
    generalize upd H1 p (.ins C dx (ff g.nts g.ts rp c np' fp op cp kp tc)) = H2 at B2 P2 R2 E2 ⊢
    -- firsts
    refine ⟨_, rfl, _, rfl, _, rfl, p, C, dx, _, _, rfl, P2, T.cl, T.n_r, ff_r, _, rfl, p, C, dx, _, _, rfl, P2, T.cl, T.n_nl, ff_nl, g, rp, np', nl, wf, rfl, R2, E2, m1, fun fp' H3 fs n3 s3 e3 m3 => ?_⟩
    have p3 := s3 _ _ P2
    refine ⟨_, rfl, p, C, dx, _, rfl, p3, T.cl, T.n_f, few, ?_⟩
    rw [ff_put_f]
    have K3 : Same (only H3) (upd H3 p (.ins C dx (ff g.nts g.ts rp c np' fp' op cp kp tc))) := only_ins (only_same (Same.refl H3)) p3
    have B4 : But p H (upd H3 p (.ins C dx (ff g.nts g.ts rp c np' fp' op cp kp tc))) := (but_same B2 s3).upd
    have P4 : (upd H3 p (.ins C dx (ff g.nts g.ts rp c np' fp' op cp kp tc))) p = some _ := upd_same
    have R4 := (R2.same s3).only.same K3
    have E4 := K3 _ _ (only_lst (s3 _ _ E2))
    have E4f := K3 _ _ (only_lst e3)
    generalize upd H3 p (.ins C dx (ff g.nts g.ts rp c np' fp' op cp kp tc)) = H4 at B4 P4 R4 E4 E4f ⊢
    -- follows
    refine ⟨_, rfl, _, rfl, _, rfl, p, C, dx, _, _, rfl, P4, T.cl, T.n_r, ff_r, _, rfl, p, C, dx, _, _, rfl, P4, T.cl, T.n_nl, ff_nl, _, rfl, p, C, dx, _, _, rfl, P4, T.cl, T.n_f, ff_f, g, rp, np', fp', nl, fs, wf, rfl, R4, E4, m1, E4f, m3, fun op' H5 fo n5 s5 e5 m5 => ?_⟩
    have p5 := s5 _ _ P4
    refine ⟨_, rfl, p, C, dx, _, rfl, p5, T.cl, T.n_o, few, ?_⟩
    rw [ff_put_o]
    have K5 : Same (only H5) (upd H5 p (.ins C dx (ff g.nts g.ts rp c np' fp' op' cp kp tc))) := only_ins (only_same (Same.refl H5)) p5
    have B6 : But p H (upd H5 p (.ins C dx (ff g.nts g.ts rp c np' fp' op' cp kp tc))) := (but_same B4 s5).upd
    have P6 : (upd H5 p (.ins C dx (ff g.nts g.ts rp c np' fp' op' cp kp tc))) p = some _ := upd_same
    have R6 := (R4.same s5).only.same K5
    have E6 := K5 _ _ (only_lst (s5 _ _ E4))
    have E6f := K5 _ _ (only_lst (s5 _ _ E4f))
    have E6o := K5 _ _ (only_lst e5)
    generalize upd H5 p (.ins C dx (ff g.nts g.ts rp c np' fp' op' cp kp tc)) = H6 at B6 P6 R6 E6 E6f E6o ⊢
    -- choices
    refine ⟨_, rfl, _, rfl, _, rfl, p, C, dx, _, _, rfl, P6, T.cl, T.n_r, ff_r, _, rfl, p, C, dx, _, _, rfl, P6, T.cl, T.n_nl, ff_nl, _, rfl, p, C, dx, _, _, rfl, P6, T.cl, T.n_f, ff_f, _, rfl, p, C, dx, _, _, rfl, P6, T.cl, T.n_o, ff_o, g, rp, np', fp', op', nl, fs, fo, wf, rfl, R6, E6, m1, E6f, m3, E6o, m5, fun cp' H7 n7 s7 t7 => ?_⟩
    have p7 := s7 _ _ P6
    refine ⟨_, rfl, p, C, dx, _, rfl, p7, T.cl, T.n_ch, few, ?_⟩
    rw [ff_put_ch]
    have K7 : Same (only H7) (upd H7 p (.ins C dx (ff g.nts g.ts rp c np' fp' op' cp' kp tc))) := only_ins (only_same (Same.refl H7)) p7
    have B8 : But p H (upd H7 p (.ins C dx (ff g.nts g.ts rp c np' fp' op' cp' kp tc))) := (but_same B6 s7).upd
    have P8 : (upd H7 p (.ins C dx (ff g.nts g.ts rp c np' fp' op' cp' kp tc))) p = some _ := upd_same
    have E8 := K7 _ _ (only_lst (s7 _ _ E6))
    have E8f := K7 _ _ (only_lst (s7 _ _ E6f))
    have E8o := K7 _ _ (only_lst (s7 _ _ E6o))
    have T8 := t7.only.same K7
    generalize upd H7 p (.ins C dx (ff g.nts g.ts rp c np' fp' op' cp' kp tc)) = H8 at B8 P8 E8 E8f E8o T8 ⊢
    -- clashes
    refine ⟨_, rfl, p, C, dx, _, _, rfl, P8, T.cl, T.n_ch, ff_ch, cp', g.nts, g.ts + 1, _, rfl, wf.n32, (by have := wf.t63; omega), T8, fun kp' H9 n9 s9 e9 => ?_⟩
    have p9 := s9 _ _ P8
    refine ⟨_, rfl, p, C, dx, _, rfl, p9, T.cl, T.n_k, few, ?_⟩
    rw [ff_put_k]
    have K9 : Same (only H9) (upd H9 p (.ins C dx (ff g.nts g.ts rp c np' fp' op' cp' kp' tc))) := only_ins (only_same (Same.refl H9)) p9
    rw [← conflicts_flat] at e9
    exact q np' fp' op' cp' kp' _ ((but_same B8 s9).upd) upd_same ⟨nl, fs, fo, K9 _ _ (only_lst (s9 _ _ E8)), m1, K9 _ _ (only_lst (s9 _ _ E8f)), m3, K9 _ _ (only_lst (s9 _ _ E8o)), m5, (T8.same s9).only.same K9, K9 _ _ (only_lst e9)⟩
/-! ### close -/
abbrev s_close : Stmt := inClass (top 33) 4
theorem sc_close : FnScope ["self", "useless"] ["self"] (defScope s_close) := ⟨rfl, rfl, rfl, by decide +kernel, rfl, by decide +kernel, by decide +kernel⟩
def spClose (C : Addr) : Sp := fun vs H Q _ => ∃ (p rp : Addr) (s : Ll.State), vs = [.ref p] ∧ ObjAt C H p rp s ∧ Out C H p rp s .close Q
theorem useless_cons {g : Ll.Gram} {a : Nat} {l : List Nat} (h : useless g = a :: l) : Ll.uselessOf g = some a := by
  unfold Ll.uselessOf
  unfold useless at h
  rw [← List.head?_filter, h]
  rfl
theorem useless_nil {g : Ll.Gram} (h : useless g = []) : Ll.uselessOf g = none := by
  unfold Ll.uselessOf
  unfold useless at h
  rw [← List.head?_filter, h]
  rfl
theorem ok_close {f f0 f1 f2 f3 f4 f5 f6 : Addr} {fd fd0 fd1 fd2 fd3 fd4 fd5 fd6 : FuncData} (T : Txt K mg C) (F : MDef K C "close" "Grammar.close" s_close ["self"] f fd) (F0 : MDef K C "work_out" "Grammar.work_out" s_work ["self"] f0 fd0) (D : Dvs P w K mg base f1 f2 f3 f4 f5 f6 fd1 fd2 fd3 fd4 fd5 fd6) : FnOk P w K mg base CX0 5 f fd ["self"] (spClose C) := by
  have G0 : FnOk P w K mg base CX0 4 f0 fd0 _ (spWork C) := ok_work T F0 D
  refine F.fn.ok sc_close (fun vs H Q E h => ?_) (fun cdv A outer s H vs Q E hr h => ?_)
  · obtain ⟨p, rp, st, rfl, _⟩ := h
    rfl
  · obtain ⟨p, rp, st, rfl, ob, q⟩ := h
    have ob' := ob
    obtain ⟨dx, np, fp, op, cp, kp, tc, h1, wf, hR, h4, h5⟩ := ob'
    have hr3 : Room 3 _ := hr.mono (by decide)
    refine ⟨_, (pss_cons (ps_if (pt_val (pe_fld (pv 0) rfl))
      (pss_one (ps_ret (pe_lst (pa_cons (pe_gint rfl T.g_now) pa_nil))))
      pss_nil)
      (pss_cons (ps_set (i := 1) sc_close.nd rfl (Or.inl rfl) (pe_call D.g6 hr3 rfl D.d6.mg D.d6.fn.kp D.d6.b .nil pass0 (pa_cons (pe_fld (pv 0) rfl) (pa_cons (pe_fld (pv 0) rfl) (pa_cons (pe_fld (pv 0) rfl) pa_nil)))))
      (pss_cons (ps_if (pt_cmpR op_gt (pe_callB call_len_seq (by rfl) T.len PySem.boot_len (pa_cons (pv 1) pa_nil)) pe_int (nomark _))
      (pss_one (ps_ret (pe_lst (pa_cons (pe_gint rfl T.g_use) (pa_cons (pe_ix ix_list (pv 1) pe_int (fun _ _ => rfl)) pa_nil)))))
      pss_nil)
      (pss_cons (ps_expr (pe_meth0 (pv 0) T.cl F0.mt G0 hr F0.b .nil pass0))
      (pss_cons (ps_fld (pv 0) pe_bl rfl)
      (pss_one (ps_ret (pe_lst (pa_cons (pe_gint rfl T.g_done) pa_nil))))))))), ?_⟩
    have one : (1 : Nat) ≤ sizeLine := by decide
    refine ⟨_, rfl, p, C, dx, _, _, rfl, h1, T.cl, T.n_c, ff_c, _, rfl, ?_⟩
    cases hc : st.closed with
    | true =>
      refine iteT ⟨one, fun l hl => q.no ob (n := 3) ?_ rfl hl⟩
      unfold Ll.step
      simp only
      rw [if_pos hc]
    | false =>
      rw [hc] at h1
      refine iteF ⟨_, rfl, p, C, dx, _, _, rfl, h1, T.cl, T.n_n, ff_n, _, rfl, p, C, dx, _, _, rfl, h1, T.cl, T.n_t, ff_t, _, rfl, p, C, dx, _, _, rfl, h1, T.cl, T.n_r, ff_r, st.g, rp, wf, rfl, hR, fun u H1 nu s1 eu => ?_⟩
      have hx : st.text = none := by
        cases ht : st.text with
        | none => rfl
        | some y =>
          rw [ht] at h5
          have := h5.1
          rw [hc] at this
          cases this
      refine ⟨_, rfl, u, _, rfl, .inl (SqL.of eu), _, _, rfl, rfl, _, rfl, ?_⟩
      cases e : useless st.g with
      | cons a l =>
        rw [e] at eu
        rw [show decide ((0 : Int) < ((vN (a :: l)).length : Int)) = true from decide_eq_true (by rw [vN_len, List.length_cons]; omega)]
        refine iteT ⟨_, rfl, u, _, _, _, rfl, rfl, SqL.of eu, at_int (j := 0) rfl rfl, (by show 2 ≤ sizeLine; decide), fun m hm => ?_⟩
        refine q.stay ob (a := .refused 6 [a]) ?_ (s1.free hm) (same_upd s1 (s1.free hm)) ?_
        · unfold Ll.step
          simp only
          rw [if_neg (by rw [hc]; decide), useless_cons e]
        · rw [upd_same]
          rfl
      | nil =>
        rw [e] at eu
        refine iteF ?_
        have p1 := s1 _ _ h1
        refine ⟨_, rfl, p, dx, _, rfl, p1, free_work _ _ _ _ _ _ _ _ _ _, p, rp, dx, np, fp, op, cp, kp, st.g, false, tc, rfl, p1, wf, hR.same s1, fun np' fp' op' cp' kp' H2 B2 P2 C2 => ?_⟩
        refine ⟨_, rfl, p, C, dx, _, rfl, P2, T.cl, T.n_c, (by show 10 < 1000; decide), ?_⟩
        rw [ff_put_c]
        refine ⟨one, fun l hl => ?_⟩
        have K2 : Same (only H2) (upd H2 p (.ins C dx (ff st.g.nts st.g.ts rp true np' fp' op' cp' kp' tc))) := only_ins (only_same (Same.refl H2)) P2
        have B3 : But p H (upd H2 p (.ins C dx (ff st.g.nts st.g.ts rp true np' fp' op' cp' kp' tc))) := fun b o z hb => by
          rw [upd_ne hb]
          exact B2 b o (s1 _ _ z) hb
        have P3 : (upd H2 p (.ins C dx (ff st.g.nts st.g.ts rp true np' fp' op' cp' kp' tc))) p = some (.ins C dx (ff st.g.nts st.g.ts rp true np' fp' op' cp' kp' tc)) := upd_same
        have hRk : Same (only H) H2 := fun b o z => by
          have z' := only_some z
          refine B2 b o (s1 _ _ z'.1) ?_
          obtain ⟨z1, ⟨xs, rfl⟩ | ⟨xs, rfl⟩⟩ := z'
          · exact ne_of z1 h1 (by intro y; cases y)
          · exact ne_of z1 h1 (by intro y; cases y)
        have R2 : RulesAt H2 rp st.g.rules := hR.only.same hRk
        have R3 := R2.only.same K2
        have C3 := C2.keep K2
        generalize upd H2 p (.ins C dx (ff st.g.nts st.g.ts rp true np' fp' op' cp' kp' tc)) = H3 at hl B3 P3 R3 C3 ⊢
        have fl : H l = none := but_free B3 (by rw [h1]; exact fun z => nomatch z) (by rw [P3]; exact fun z => nomatch z) hl
        have s4 : Same H3 (upd H3 l (.lst [.int 0])) := same_upd (Same.refl H3) hl
        have hstep : Ll.step st .close = ({ st with closed := true }, .told []) := by
          unfold Ll.step
          simp only
          rw [if_neg (by rw [hc]; decide), useless_nil e]
        refine q l rp _ fl (fun b o z hb _ => s4 _ _ (B3 b o z hb)) (.inl rfl) ?_ ?_
        · rw [hstep]
          refine ⟨dx, np', fp', op', cp', kp', tc, s4 _ _ P3, wf, R3.same s4, fun _ => C3.keep (only_same s4), ?_⟩
          rw [hx] at h5
          show TextAt _ _ _ tc st.text
          rw [hx]
          exact h5
        · rw [hstep, upd_same]
          rfl
end
end Gk

set_option Elab.async false
set_option linter.all false
set_option maxRecDepth 100000
set_option maxHeartbeats 4000000
namespace Gk
open PySem PySem.Spec PyProof.Rows L2 Gm
theorem told_vI (l : List Nat) : vI (LlNeutral.shown (.told l)) = V.int 0 :: vN l := by
  unfold vI LlNeutral.shown vN
  rw [List.map_cons, List.map_map]
  rfl
section
variable {P : Program} {w : World} {K : PySem.W.Frag} {mg : Str → Option Value} {base : Heap} {C : Addr}
theorem asks_no3 {s : Ll.State} {n : Nat} {l : List Nat} (h : s.closed = false) : Ll.asks s n l = Ll.no s 3 := by
  unfold Ll.asks
  rw [if_pos h]
theorem asks_no1 {s : Ll.State} {n : Nat} {l : List Nat} (h : s.closed = true) (h2 : s.g.nts ≤ n) : Ll.asks s n l = Ll.no s 1 := by
  unfold Ll.asks
  rw [if_neg (by rw [h]; decide), if_pos h2]
theorem asks_yes {s : Ll.State} {n : Nat} {l : List Nat} (h : s.closed = true) (h2 : ¬ s.g.nts ≤ n) : Ll.asks s n l = (s, .told l) := by
  unfold Ll.asks
  rw [if_neg (by rw [h]; decide), if_neg h2]
/-! ### empty -/
abbrev s_empty : Stmt := inClass (top 33) 7
theorem sc_empty : FnScope ["self", "a", "refused"] ["self", "a"] (defScope s_empty) := ⟨rfl, rfl, rfl, by decide +kernel, rfl, by decide +kernel, by decide +kernel⟩
def spAsk (C : Addr) (c : Nat → Ll.Call) : Sp := fun vs H Q _ => ∃ (p rp : Addr) (s : Ll.State) (a : Nat), vs = [.ref p, .int (a : Int)] ∧ ObjAt C H p rp s ∧ Out C H p rp s (c a) Q
theorem ok_empty {f f1 : Addr} {fd fd1 : FuncData} (T : Txt K mg C) (F : MDef K C "empty" "Grammar.empty" s_empty ["self", "a"] f fd) (F1 : MDef K C "refusal" "Grammar.refusal" s_refusal ["self", "a"] f1 fd1) : FnOk P w K mg base CX0 2 f fd ["self", "a"] (spAsk C .empty_) := by
  have G1 : FnOk P w K mg base CX0 1 f1 fd1 _ (spRefusal C) := ok_refusal T F1
  refine F.fn.ok sc_empty (fun vs H Q E h => ?_) (fun cdv A outer s H vs Q E hr h => ?_)
  · obtain ⟨p, rp, st, a, rfl, _⟩ := h
    rfl
  · obtain ⟨p, rp, st, a, rfl, ob, q⟩ := h
    have ob' := ob
    obtain ⟨dx, np, fp, op, cp, kp, tc, h1, wf, hR, h4, h5⟩ := ob'
    refine ⟨_, (pss_cons (ps_set (i := 2) sc_empty.nd rfl (Or.inl rfl) (pe_meth (pv 0) T.cl F1.mt G1 hr F1.b .nil pass0 (pa_cons (pv 1) pa_nil)))
      (pss_cons (ps_if (pt_cmpR op_gt (pe_callB call_len_seq (by rfl) T.len PySem.boot_len (pa_cons (pv 2) pa_nil)) pe_int (nomark _))
      (pss_one (ps_ret (pv 2)))
      pss_nil)
      (pss_one (ps_ret (pe_lst (pa_cons (pe_gint rfl T.g_done) (pa_cons (pe_ifExp (pt_val (pe_ix ix_list (pe_fld (pv 0) rfl) (pv 1) (fun _ _ => rfl))) pe_int pe_int) pa_nil))))))), ?_⟩
    refine ⟨_, rfl, p, dx, _, rfl, h1, free_refusal _ _ _ _ _ _ _ _ _ _, _, rfl, p, rp, st, a, rfl, ob, fun l hl => ?_⟩
    cases hc : st.closed with
    | false =>
      rw [if_pos rfl]
      refine ⟨_, rfl, l, _, rfl, .inl (SqL.of upd_same), _, _, rfl, rfl, _, rfl, ?_⟩
      exact iteT ⟨_, rfl, q.no ob (n := 3) (asks_no3 hc) rfl hl⟩
    | true =>
      rw [if_neg (by decide)]
      by_cases ha : st.g.nts ≤ a
      · rw [if_pos ha]
        refine ⟨_, rfl, l, _, rfl, .inl (SqL.of upd_same), _, _, rfl, rfl, _, rfl, ?_⟩
        exact iteT ⟨_, rfl, q.no ob (n := 1) (asks_no1 hc ha) rfl hl⟩
      · rw [if_neg ha]
        refine ⟨_, rfl, l, _, rfl, .inl (SqL.of upd_same), _, _, rfl, rfl, _, rfl, ?_⟩
        refine iteF ?_
        have k : Same H (upd H l (.lst [])) := same_upd (Same.refl H) hl
        obtain ⟨nl, fs, fo, c1, c2, c3, c4, c5, c6, c7, c8⟩ := h4 hc
        have hstep : Ll.step st (.empty_ a) = (st, .told [if (Ll.nulls st.g).contains a = true then 1 else 0]) := asks_yes hc ha
        refine ⟨_, rfl, p, C, dx, _, _, rfl, k _ _ h1, T.cl, T.n_nl, ff_nl, _, rfl, np, _, _, _, rfl, rfl, SqL.of (k _ _ c1), at_int (j := a) rfl (vB_at (by rw [c2.1]; omega)), _, rfl, ?_⟩
        rw [mkSet_get c2 a]
        cases e : (Ll.nulls st.g).contains a with
        | true =>
          rw [e, if_pos rfl] at hstep
          exact iteT ⟨(by show 2 ≤ sizeLine; decide), fun m hm => q.stay ob hstep (k.free hm) (same_upd k (k.free hm)) (by rw [upd_same]; rfl)⟩
        | false =>
          rw [e, if_neg (by decide)] at hstep
          exact iteF ⟨(by show 2 ≤ sizeLine; decide), fun m hm => q.stay ob hstep (k.free hm) (same_upd k (k.free hm)) (by rw [upd_same]; rfl)⟩
/-! ### first -/
abbrev s_first : Stmt := inClass (top 33) 8
theorem sc_first : FnScope ["self", "a", "refused"] ["self", "a"] (defScope s_first) := ⟨rfl, rfl, rfl, by decide +kernel, rfl, by decide +kernel, by decide +kernel⟩
theorem ok_first {f f1 f2 : Addr} {fd fd1 fd2 : FuncData} (T : Txt K mg C) (F : MDef K C "first" "Grammar.first" s_first ["self", "a"] f fd) (F1 : MDef K C "refusal" "Grammar.refusal" s_refusal ["self", "a"] f1 fd1) (F2 : Def K mg "members" s_members ["bits", "t"] f2 fd2) : FnOk P w K mg base CX0 2 f fd ["self", "a"] (spAsk C .first) := by
  have G1 : FnOk P w K mg base CX0 1 f1 fd1 _ (spRefusal C) := ok_refusal T F1
  have G2 : FnOk P w K mg base CX0 1 f2 fd2 _ spMembers := ok_members T.range F2
  refine F.fn.ok sc_first (fun vs H Q E h => ?_) (fun cdv A outer s H vs Q E hr h => ?_)
  · obtain ⟨p, rp, st, a, rfl, _⟩ := h
    rfl
  · obtain ⟨p, rp, st, a, rfl, ob, q⟩ := h
    have ob' := ob
    obtain ⟨dx, np, fp, op, cp, kp, tc, h1, wf, hR, h4, h5⟩ := ob'
    refine ⟨_, (pss_cons (ps_set (i := 2) sc_first.nd rfl (Or.inl rfl) (pe_meth (pv 0) T.cl F1.mt G1 hr F1.b .nil pass0 (pa_cons (pv 1) pa_nil)))
      (pss_cons (ps_if (pt_cmpR op_gt (pe_callB call_len_seq (by rfl) T.len PySem.boot_len (pa_cons (pv 2) pa_nil)) pe_int (nomark _))
      (pss_one (ps_ret (pv 2)))
      pss_nil)
      (pss_one (ps_ret (pe_op op_cat (pe_lst (pa_cons (pe_gint rfl T.g_done) pa_nil)) (pe_call G2 hr rfl F2.mg F2.fn.kp F2.b .nil pass0 (pa_cons (pe_ix ix_list (pe_fld (pv 0) rfl) (pv 1) (fun _ _ => rfl)) (pa_cons (pe_fld (pv 0) rfl) pa_nil)))))))), ?_⟩
    refine ⟨_, rfl, p, dx, _, rfl, h1, free_refusal _ _ _ _ _ _ _ _ _ _, _, rfl, p, rp, st, a, rfl, ob, fun l hl => ?_⟩
    cases hc : st.closed with
    | false =>
      rw [if_pos rfl]
      refine ⟨_, rfl, l, _, rfl, .inl (SqL.of upd_same), _, _, rfl, rfl, _, rfl, ?_⟩
      exact iteT ⟨_, rfl, q.no ob (n := 3) (asks_no3 hc) rfl hl⟩
    | true =>
      rw [if_neg (by decide)]
      by_cases ha : st.g.nts ≤ a
      · rw [if_pos ha]
        refine ⟨_, rfl, l, _, rfl, .inl (SqL.of upd_same), _, _, rfl, rfl, _, rfl, ?_⟩
        exact iteT ⟨_, rfl, q.no ob (n := 1) (asks_no1 hc ha) rfl hl⟩
      · rw [if_neg ha]
        refine ⟨_, rfl, l, _, rfl, .inl (SqL.of upd_same), _, _, rfl, rfl, _, rfl, ?_⟩
        refine iteF ?_
        have k : Same H (upd H l (.lst [])) := same_upd (Same.refl H) hl
        obtain ⟨nl, fs, fo, c1, c2, c3, c4, c5, c6, c7, c8⟩ := h4 hc
        have hstep : Ll.step st (.first a) = (st, .told (Ll.sorted_ st.g (Ll.setOf (Ll.firsts st.g) a))) := asks_yes hc ha
        refine ⟨(by show 1 ≤ sizeLine; decide), fun l0 hl0 => ?_⟩
        have k0 := same_upd (o := .lst [.int 0]) k (k.free hl0)
        have e0 : (upd (upd H l (.lst [])) l0 (.lst [.int 0])) l0 = some (.lst [.int 0]) := upd_same
        generalize upd (upd H l (.lst [])) l0 (.lst [.int 0]) = H0 at k0 e0 ⊢
        refine ⟨_, rfl, p, C, dx, _, _, rfl, k0 _ _ h1, T.cl, T.n_f, ff_f, _, rfl, fp, _, _, _, rfl, rfl, SqL.of (k0 _ _ c3), at_int (j := a) rfl (vN_at (by rw [c4.1]; omega)), _, rfl, p, C, dx, _, _, rfl, k0 _ _ h1, T.cl, T.n_t, ff_t, _, _, rfl, wf.t63, fun mp H2 n2 s2 e2 => ?_⟩
        refine ⟨l0, mp, _, _, rfl, rfl, s2 _ _ e0, e2, ?_, fun m hm => ?_⟩
        · rw [vN_len]
          have := bits_len (fs.getD a 0) st.g.ts
          have := wf.t63
          exact Nat.le_trans (show 1 + (bits (fs.getD a 0) st.g.ts).length ≤ 65 by omega) (by decide)
        · have k2 := k0.trans s2
          refine q.stay ob hstep (k2.free hm) (same_upd k2 (k2.free hm)) ?_
          rw [upd_same, told_vI, bits_sorted c4]
          rfl
/-! ### follow -/
abbrev s_follow : Stmt := inClass (top 33) 9
theorem sc_follow : FnScope ["self", "a", "refused"] ["self", "a"] (defScope s_follow) := ⟨rfl, rfl, rfl, by decide +kernel, rfl, by decide +kernel, by decide +kernel⟩
theorem ok_follow {f f1 f2 : Addr} {fd fd1 fd2 : FuncData} (T : Txt K mg C) (F : MDef K C "follow" "Grammar.follow" s_follow ["self", "a"] f fd) (F1 : MDef K C "refusal" "Grammar.refusal" s_refusal ["self", "a"] f1 fd1) (F2 : Def K mg "members" s_members ["bits", "t"] f2 fd2) : FnOk P w K mg base CX0 2 f fd ["self", "a"] (spAsk C .follow) := by
  have G1 : FnOk P w K mg base CX0 1 f1 fd1 _ (spRefusal C) := ok_refusal T F1
  have G2 : FnOk P w K mg base CX0 1 f2 fd2 _ spMembers := ok_members T.range F2
  refine F.fn.ok sc_follow (fun vs H Q E h => ?_) (fun cdv A outer s H vs Q E hr h => ?_)
  · obtain ⟨p, rp, st, a, rfl, _⟩ := h
    rfl
  · obtain ⟨p, rp, st, a, rfl, ob, q⟩ := h
    have ob' := ob
    obtain ⟨dx, np, fp, op, cp, kp, tc, h1, wf, hR, h4, h5⟩ := ob'
    refine ⟨_, (pss_cons (ps_set (i := 2) sc_follow.nd rfl (Or.inl rfl) (pe_meth (pv 0) T.cl F1.mt G1 hr F1.b .nil pass0 (pa_cons (pv 1) pa_nil)))
      (pss_cons (ps_if (pt_cmpR op_gt (pe_callB call_len_seq (by rfl) T.len PySem.boot_len (pa_cons (pv 2) pa_nil)) pe_int (nomark _))
      (pss_one (ps_ret (pv 2)))
      pss_nil)
      (pss_one (ps_ret (pe_op op_cat (pe_lst (pa_cons (pe_gint rfl T.g_done) pa_nil)) (pe_call G2 hr rfl F2.mg F2.fn.kp F2.b .nil pass0 (pa_cons (pe_ix ix_list (pe_fld (pv 0) rfl) (pv 1) (fun _ _ => rfl)) (pa_cons (pe_fld (pv 0) rfl) pa_nil)))))))), ?_⟩
    refine ⟨_, rfl, p, dx, _, rfl, h1, free_refusal _ _ _ _ _ _ _ _ _ _, _, rfl, p, rp, st, a, rfl, ob, fun l hl => ?_⟩
    cases hc : st.closed with
    | false =>
      rw [if_pos rfl]
      refine ⟨_, rfl, l, _, rfl, .inl (SqL.of upd_same), _, _, rfl, rfl, _, rfl, ?_⟩
      exact iteT ⟨_, rfl, q.no ob (n := 3) (asks_no3 hc) rfl hl⟩
    | true =>
      rw [if_neg (by decide)]
      by_cases ha : st.g.nts ≤ a
      · rw [if_pos ha]
        refine ⟨_, rfl, l, _, rfl, .inl (SqL.of upd_same), _, _, rfl, rfl, _, rfl, ?_⟩
        exact iteT ⟨_, rfl, q.no ob (n := 1) (asks_no1 hc ha) rfl hl⟩
      · rw [if_neg ha]
        refine ⟨_, rfl, l, _, rfl, .inl (SqL.of upd_same), _, _, rfl, rfl, _, rfl, ?_⟩
        refine iteF ?_
        have k : Same H (upd H l (.lst [])) := same_upd (Same.refl H) hl
        obtain ⟨nl, fs, fo, c1, c2, c3, c4, c5, c6, c7, c8⟩ := h4 hc
        have hstep : Ll.step st (.follow a) = (st, .told (Ll.sorted_ st.g (Ll.setOf (Ll.follows st.g) a))) := asks_yes hc ha
        refine ⟨(by show 1 ≤ sizeLine; decide), fun l0 hl0 => ?_⟩
        have k0 := same_upd (o := .lst [.int 0]) k (k.free hl0)
        have e0 : (upd (upd H l (.lst [])) l0 (.lst [.int 0])) l0 = some (.lst [.int 0]) := upd_same
        generalize upd (upd H l (.lst [])) l0 (.lst [.int 0]) = H0 at k0 e0 ⊢
        refine ⟨_, rfl, p, C, dx, _, _, rfl, k0 _ _ h1, T.cl, T.n_o, ff_o, _, rfl, op, _, _, _, rfl, rfl, SqL.of (k0 _ _ c5), at_int (j := a) rfl (vN_at (by rw [c6.1]; omega)), _, rfl, p, C, dx, _, _, rfl, k0 _ _ h1, T.cl, T.n_t, ff_t, _, _, rfl, wf.t63, fun mp H2 n2 s2 e2 => ?_⟩
        refine ⟨l0, mp, _, _, rfl, rfl, s2 _ _ e0, e2, ?_, fun m hm => ?_⟩
        · rw [vN_len]
          have := bits_len (fo.getD a 0) st.g.ts
          have := wf.t63
          exact Nat.le_trans (show 1 + (bits (fo.getD a 0) st.g.ts).length ≤ 65 by omega) (by decide)
        · have k2 := k0.trans s2
          refine q.stay ob hstep (k2.free hm) (same_upd k2 (k2.free hm)) ?_
          rw [upd_same, told_vI, bits_sorted c6]
          rfl
end
end Gk

set_option Elab.async false
set_option linter.all false
set_option maxRecDepth 100000
set_option maxHeartbeats 4000000
namespace Gk
open PySem PySem.Spec PyProof.Rows L2 Gm
section
variable {P : Program} {w : World} {K : PySem.W.Frag} {mg : Str → Option Value} {base : Heap} {C : Addr}
/-! ### choose -/
abbrev s_choose : Stmt := inClass (top 33) 10
theorem sc_choose : FnScope ["self", "a", "token", "refused", "numbers"] ["self", "a", "token"] (defScope s_choose) := ⟨rfl, rfl, rfl, by decide +kernel, rfl, by decide +kernel, by decide +kernel⟩
def spChoose (C : Addr) : Sp := fun vs H Q _ => ∃ (p rp : Addr) (s : Ll.State) (a b : Nat), vs = [.ref p, .int (a : Int), .int (b : Int)] ∧ ObjAt C H p rp s ∧ Out C H p rp s (.choose a b) Q
theorem ok_choose {f f1 : Addr} {fd fd1 : FuncData} (T : Txt K mg C) (F : MDef K C "choose" "Grammar.choose" s_choose ["self", "a", "token"] f fd) (F1 : MDef K C "refusal" "Grammar.refusal" s_refusal ["self", "a"] f1 fd1) : FnOk P w K mg base CX0 2 f fd ["self", "a", "token"] (spChoose C) := by
  have G1 : FnOk P w K mg base CX0 1 f1 fd1 _ (spRefusal C) := ok_refusal T F1
  refine F.fn.ok sc_choose (fun vs H Q E h => ?_) (fun cdv A outer s H vs Q E hr h => ?_)
  · obtain ⟨p, rp, st, a, b, rfl, _⟩ := h
    rfl
  · obtain ⟨p, rp, st, a, b, rfl, ob, q⟩ := h
    have ob' := ob
    obtain ⟨dx, np, fp, op, cp, kp, tc, h1, wf, hR, h4, h5⟩ := ob'
    refine ⟨_, (pss_cons (ps_set (i := 3) sc_choose.nd rfl (Or.inl rfl) (pe_meth (pv 0) T.cl F1.mt G1 hr F1.b .nil pass0 (pa_cons (pv 1) pa_nil)))
      (pss_cons (ps_if (pt_cmpR op_gt (pe_callB call_len_seq (by rfl) T.len PySem.boot_len (pa_cons (pv 3) pa_nil)) pe_int (nomark _))
      (pss_one (ps_ret (pv 3)))
      pss_nil)
      (pss_cons (ps_if (pt_cmpR op_gt (pv 2) (pe_fld (pv 0) rfl) (nomark _))
      (pss_one (ps_ret (pe_lst (pa_cons (pe_gint rfl T.g_out) pa_nil))))
      pss_nil)
      (pss_cons (ps_set (i := 4) sc_choose.nd rfl (Or.inl rfl) (pe_ix ix_list (pe_ix ix_list (pe_fld (pv 0) rfl) (pv 1) (fun _ _ => rfl)) (pv 2) (fun _ _ => rfl)))
      (pss_cons (ps_if (pt_cmpR op_gt (pe_callB call_len_seq (by rfl) T.len PySem.boot_len (pa_cons (pv 4) pa_nil)) pe_int (nomark _))
      (pss_one (ps_ret (pe_lst (pa_cons (pe_gint rfl T.g_sev) pa_nil))))
      pss_nil)
      (pss_cons (ps_if (pt_cmpR op_eq (pe_callB call_len_seq (by rfl) T.len PySem.boot_len (pa_cons (pv 4) pa_nil)) pe_int (nomark _))
      (pss_one (ps_ret (pe_lst (pa_cons (pe_gint rfl T.g_fits) pa_nil))))
      pss_nil)
      (pss_one (ps_ret (pe_lst (pa_cons (pe_gint rfl T.g_done) (pa_cons (pe_ix ix_list (pv 4) pe_int (fun _ _ => rfl)) pa_nil))))))))))), ?_⟩
    have one : (1 : Nat) ≤ sizeLine := by decide
    refine ⟨_, rfl, p, dx, _, rfl, h1, free_refusal _ _ _ _ _ _ _ _ _ _, _, rfl, p, rp, st, a, rfl, ob, fun l hl => ?_⟩
    cases hc : st.closed with
    | false =>
      rw [if_pos rfl]
      refine ⟨_, rfl, l, _, rfl, .inl (SqL.of upd_same), _, _, rfl, rfl, _, rfl, ?_⟩
      refine iteT ⟨_, rfl, q.no ob (n := 3) ?_ rfl hl⟩
      unfold Ll.step
      simp only
      rw [if_pos hc]
    | true =>
      rw [if_neg (by decide)]
      have hs0 : ∀ X, Ll.step st (.choose a b) = X ↔ (if st.g.nts ≤ a ∨ st.g.ts < b then Ll.no st 1 else (match Ll.choices st.g (Ll.known st.g) a b with
          | [] => Ll.no st 4
          | [i] => (st, .told [i])
          | _ => Ll.no st 5)) = X := by
        intro X
        conv => lhs; unfold Ll.step
        simp only
        rw [if_neg (by rw [hc]; decide)]
        exact Iff.rfl
      by_cases ha : st.g.nts ≤ a
      · rw [if_pos ha]
        refine ⟨_, rfl, l, _, rfl, .inl (SqL.of upd_same), _, _, rfl, rfl, _, rfl, ?_⟩
        exact iteT ⟨_, rfl, q.no ob (n := 1) ((hs0 _).mpr (if_pos (.inl ha))) rfl hl⟩
      · rw [if_neg ha]
        refine ⟨_, rfl, l, _, rfl, .inl (SqL.of upd_same), _, _, rfl, rfl, _, rfl, ?_⟩
        refine iteF ?_
        have k : Same H (upd H l (.lst [])) := same_upd (Same.refl H) hl
        obtain ⟨nl, fs, fo, c1, c2, c3, c4, c5, c6, c7, c8⟩ := h4 hc
        refine ⟨_, rfl, _, rfl, p, C, dx, _, _, rfl, k _ _ h1, T.cl, T.n_t, ff_t, _, _, rfl, rfl, _, rfl, ?_⟩
        have fin : ∀ {m : Addr} {z : Int} {n : Nat}, Ll.step st (.choose a b) = Ll.no st n → z = -(n : Int) → (upd H l (.lst [])) m = none → Q (.ref m) (upd (upd H l (.lst [])) m (.lst [.int z])) := fun e hz hm => q.stay ob e (k.free hm) (same_upd k (k.free hm)) (by rw [upd_same, hz]; rfl)
        by_cases hb : st.g.ts < b
        · rw [show decide ((st.g.ts : Int) < (b : Int)) = true from decide_eq_true (by omega)]
          exact iteT ⟨one, fun m hm => fin ((hs0 _).mpr (if_pos (.inr hb))) rfl hm⟩
        rw [show decide ((st.g.ts : Int) < (b : Int)) = false from decide_eq_false (by omega)]
        refine iteF ?_
        have hs1 : ∀ {X}, (match Ll.choices st.g (Ll.known st.g) a b with
          | [] => Ll.no st 4
          | [i] => (st, .told [i])
          | _ => Ll.no st 5) = X → Ll.step st (.choose a b) = X := fun {X} e => (hs0 X).mpr (by rw [if_neg (by omega)]; exact e)
        obtain ⟨R, Ce, t1, t2, t3⟩ := c7
        have t3' : (upd H l (.lst [])) (Ce a b) = some (.lst (vN (Ll.choices st.g (Ll.known st.g) a b))) := k _ _ (t3 a b (by omega) (by omega))
        refine ⟨_, rfl, p, C, dx, _, _, rfl, k _ _ h1, T.cl, T.n_ch, ff_ch, _, rfl, cp, _, _, _, rfl, rfl, SqL.of (k _ _ t1), at_int (j := a) rfl (vR_at (by omega)), _, rfl, R a, _, _, _, rfl, rfl, SqL.of (k _ _ (t2 a (by omega))), at_int (j := b) rfl (vR_at (by omega)), ?_⟩
        refine ⟨_, rfl, Ce a b, _, rfl, .inl (SqL.of t3'), _, _, rfl, rfl, _, rfl, ?_⟩
        cases e : Ll.choices st.g (Ll.known st.g) a b with
        | nil =>
          rw [e] at t3' hs1
          refine iteF ⟨_, rfl, Ce a b, _, rfl, .inl (SqL.of t3'), rfl, _, rfl, ?_⟩
          exact iteT ⟨one, fun m hm => fin (hs1 rfl) rfl hm⟩
        | cons i r =>
          cases r with
          | nil =>
            rw [e] at t3' hs1
            refine iteF ⟨_, rfl, Ce a b, _, rfl, .inl (SqL.of t3'), rfl, _, rfl, ?_⟩
            refine iteF ⟨_, rfl, Ce a b, _, _, _, rfl, rfl, SqL.of t3', at_int (j := 0) rfl rfl, (by show 2 ≤ sizeLine; decide), fun m hm => ?_⟩
            exact q.stay ob (hs1 rfl) (k.free hm) (same_upd k (k.free hm)) (by rw [upd_same]; rfl)
          | cons j r =>
            rw [e] at hs1
            rw [show decide ((1 : Int) < ((vN (i :: j :: r)).length : Int)) = true from decide_eq_true (by rw [vN_len, List.length_cons, List.length_cons]; omega)]
            exact iteT ⟨one, fun m hm => fin (hs1 rfl) rfl hm⟩
/-! ### conflicts -/
abbrev s_conflicts : Stmt := inClass (top 33) 11
theorem sc_conflicts : FnScope ["self"] ["self"] (defScope s_conflicts) := ⟨rfl, rfl, rfl, by decide +kernel, rfl, by decide +kernel, by decide +kernel⟩
def spSelf (C : Addr) (c : Ll.Call) : Sp := fun vs H Q _ => ∃ (p rp : Addr) (s : Ll.State), vs = [.ref p] ∧ ObjAt C H p rp s ∧ Out C H p rp s c Q
theorem ok_conflicts {f : Addr} {fd : FuncData} (T : Txt K mg C) (F : MDef K C "conflicts" "Grammar.conflicts" s_conflicts ["self"] f fd) : FnOk P w K mg base CX0 1 f fd ["self"] (spSelf C .conflicts) := by
  refine F.fn.ok sc_conflicts (fun vs H Q E h => ?_) (fun cdv A outer s H vs Q E hr h => ?_)
  · obtain ⟨p, rp, st, rfl, _⟩ := h
    rfl
  · obtain ⟨p, rp, st, rfl, ob, q⟩ := h
    have ob' := ob
    obtain ⟨dx, np, fp, op, cp, kp, tc, h1, wf, hR, h4, h5⟩ := ob'
    refine ⟨_, (pss_cons (ps_if (pt_not (pt_val (pe_fld (pv 0) rfl)))
      (pss_one (ps_ret (pe_lst (pa_cons (pe_gint rfl T.g_now) pa_nil))))
      pss_nil)
      (pss_one (ps_ret (pe_op op_cat (pe_lst (pa_cons (pe_gint rfl T.g_done) pa_nil)) (pe_fld (pv 0) rfl))))), ?_⟩
    have one : (1 : Nat) ≤ sizeLine := by decide
    refine ⟨_, rfl, p, C, dx, _, _, rfl, h1, T.cl, T.n_c, ff_c, _, rfl, ?_⟩
    cases hc : st.closed with
    | false =>
      refine iteT ⟨one, fun l hl => q.no ob (n := 3) ?_ rfl hl⟩
      unfold Ll.step
      simp only
      rw [if_pos hc]
    | true =>
      obtain ⟨nl, fs, fo, c1, c2, c3, c4, c5, c6, c7, c8⟩ := h4 hc
      refine iteF ⟨one, fun l0 hl0 => ?_⟩
      have k := same_upd (o := .lst [.int 0]) (Same.refl H) hl0
      refine ⟨_, rfl, p, C, dx, _, _, rfl, k _ _ h1, T.cl, T.n_k, ff_k, l0, kp, _, _, rfl, rfl, upd_same, k _ _ c8, ?_, fun m hm => ?_⟩
      · rw [vN_len, conflicts_flat]
        have a1 := cfAll_len (fun n a => Ll.choices st.g (Ll.known st.g) n a) (st.g.ts + 1) st.g.nts
        have a3 : st.g.nts * (4 * (st.g.ts + 1)) ≤ 32 * (4 * 64) := Nat.mul_le_mul wf.n32 (by have := wf.t63; omega)
        exact Nat.le_trans (show 1 + (cfAll (fun n a => Ll.choices st.g (Ll.known st.g) n a) st.g.nts (st.g.ts + 1)).length ≤ 9000 by omega) (by decide)
      · refine q.stay ob (a := .told (Ll.conflicts st.g (Ll.known st.g)).flatten) ?_ (k.free hm) (same_upd k (k.free hm)) ?_
        · unfold Ll.step
          simp only
          rw [if_neg (by rw [hc]; decide)]
        · rw [upd_same, told_vI]
          rfl
/-! ### start -/
abbrev s_start : Stmt := inClass (top 33) 12
theorem sc_start : FnScope ["self"] ["self"] (defScope s_start) := ⟨rfl, rfl, rfl, by decide +kernel, rfl, by decide +kernel, by decide +kernel⟩
theorem ok_start {f : Addr} {fd : FuncData} (T : Txt K mg C) (F : MDef K C "start" "Grammar.start" s_start ["self"] f fd) : FnOk P w K mg base CX0 1 f fd ["self"] (spSelf C .start) := by
  refine F.fn.ok sc_start (fun vs H Q E h => ?_) (fun cdv A outer s H vs Q E hr h => ?_)
  · obtain ⟨p, rp, st, rfl, _⟩ := h
    rfl
  · obtain ⟨p, rp, st, rfl, ob, q⟩ := h
    have ob' := ob
    obtain ⟨dx, np, fp, op, cp, kp, tc, h1, wf, hR, h4, h5⟩ := ob'
    refine ⟨_, (pss_cons (ps_if (pt_not (pt_val (pe_fld (pv 0) rfl)))
      (pss_one (ps_ret (pe_lst (pa_cons (pe_gint rfl T.g_now) pa_nil))))
      pss_nil)
      (pss_cons (ps_if (pt_cmpR op_gt (pe_callB call_len_seq (by rfl) T.len PySem.boot_len (pa_cons (pe_fld (pv 0) rfl) pa_nil)) pe_int (nomark _))
      (pss_one (ps_ret (pe_lst (pa_cons (pe_gint rfl T.g_sev) pa_nil))))
      pss_nil)
      (pss_cons (ps_fld (pv 0) (pe_lst (pa_cons (pe_fld (pv 0) rfl) pa_nil)) rfl)
      (pss_one (ps_ret (pe_lst (pa_cons (pe_gint rfl T.g_done) pa_nil))))))), ?_⟩
    have one : (1 : Nat) ≤ sizeLine := by decide
    refine ⟨_, rfl, p, C, dx, _, _, rfl, h1, T.cl, T.n_c, ff_c, _, rfl, ?_⟩
    cases hc : st.closed with
    | false =>
      refine iteT ⟨one, fun l hl => q.no ob (n := 3) ?_ rfl hl⟩
      unfold Ll.step
      simp only
      rw [if_pos hc]
    | true =>
      rw [hc] at h1
      obtain ⟨nl, fs, fo, c1, c2, c3, c4, c5, c6, c7, c8⟩ := h4 hc
      refine iteF ⟨_, rfl, p, C, dx, _, _, rfl, h1, T.cl, T.n_k, ff_k, kp, _, rfl, .inl (SqL.of c8), _, _, rfl, rfl, _, rfl, ?_⟩
      rw [vN_len]
      have hfl : (Ll.conflicts st.g (Ll.known st.g)).flatten = [] ↔ Ll.conflicts st.g (Ll.known st.g) = [] := flatten_nil conflicts_some
      by_cases he : Ll.conflicts st.g (Ll.known st.g) = []
      · rw [hfl.mpr he]
        refine iteF ⟨_, rfl, p, C, dx, _, _, rfl, h1, T.cl, T.n_t, ff_t, one, fun a ha => ?_⟩
        have k := same_upd (o := .lst [.int (st.g.ts : Int)]) (Same.refl H) ha
        have e1 : (upd H a (.lst [.int (st.g.ts : Int)])) a = some (.lst (vN [st.g.ts])) := upd_same
        generalize upd H a (.lst [.int (st.g.ts : Int)]) = H1 at k e1 ⊢
        have p1 := k _ _ h1
        refine ⟨_, rfl, p, C, dx, _, rfl, p1, T.cl, T.n_tc, (by show 10 < 1000; decide), ?_⟩
        rw [ff_put_tc]
        refine ⟨one, fun l hl => ?_⟩
        have K2 : Same (only H1) (upd H1 p (.ins C dx (ff st.g.nts st.g.ts rp true np fp op cp kp (.ref a)))) := only_ins (only_same (Same.refl H1)) p1
        have B2 : But p H (upd H1 p (.ins C dx (ff st.g.nts st.g.ts rp true np fp op cp kp (.ref a)))) := (but_same (But.refl p H) k).upd
        have P2 : (upd H1 p (.ins C dx (ff st.g.nts st.g.ts rp true np fp op cp kp (.ref a)))) p = some (.ins C dx (ff st.g.nts st.g.ts rp true np fp op cp kp (.ref a))) := upd_same
        generalize upd H1 p (.ins C dx (ff st.g.nts st.g.ts rp true np fp op cp kp (.ref a))) = H2 at hl K2 B2 P2 ⊢
        have fl : H l = none := but_free B2 (by rw [h1]; exact fun z => nomatch z) (by rw [P2]; exact fun z => nomatch z) hl
        have s4 : Same H2 (upd H2 l (.lst [.int 0])) := same_upd (Same.refl H2) hl
        have hstep : Ll.step st .start = ({ st with text := some [st.g.ts] }, .told []) := by
          unfold Ll.step
          simp only
          rw [if_neg (by rw [hc]; decide), if_neg (by rw [he]; simp)]
        refine q l rp _ fl (fun b o z hb _ => s4 _ _ (B2 b o z hb)) (.inl rfl) ?_ ?_
        · rw [hstep]
          have kk : Same (only H) H2 := fun b o z => K2 b o (by
            obtain ⟨z1, ⟨xs, rfl⟩ | ⟨xs, rfl⟩⟩ := only_some z
            · exact only_lst (k _ _ z1)
            · exact only_tup (k _ _ z1))
          refine ⟨dx, np, fp, op, cp, kp, .ref a, ?_, wf, (hR.only.same kk).same s4, fun _ => ((h4 hc).keep kk).keep (only_same s4), ?_⟩
          · have P2' := s4 _ _ P2
            rw [← hc] at P2'
            exact P2'
          · refine ⟨hc, a, rfl, s4 _ _ (K2 _ _ (only_lst e1)), ?_, good_start wf, ?_, he⟩
            · show 1 ≤ 512
              omega
            · intro s hs
              simp at hs
              subst hs
              have := wf.n1
              show st.g.ts < st.g.ts + st.g.nts
              omega
        · rw [hstep, upd_same]
          rfl
      · have hpos : 0 < (Ll.conflicts st.g (Ll.known st.g)).flatten.length := by
          rcases Nat.eq_zero_or_pos (Ll.conflicts st.g (Ll.known st.g)).flatten.length with z | z
          · exact absurd (hfl.mp (List.eq_nil_of_length_eq_zero z)) he
          · exact z
        rw [show decide ((0 : Int) < ((Ll.conflicts st.g (Ll.known st.g)).flatten.length : Int)) = true from decide_eq_true (by omega)]
        refine iteT ⟨one, fun l hl => q.no ob (n := 5) ?_ rfl hl⟩
        unfold Ll.step
        simp only
        rw [if_neg (by rw [hc]; decide), if_pos he]
end
end Gk

set_option Elab.async false
set_option linter.all false
set_option maxRecDepth 100000
set_option maxHeartbeats 4000000
namespace Gk
open PySem PySem.Spec PyProof.Rows L2 Gm
section
variable {P : Program} {w : World} {K : PySem.W.Frag} {mg : Str → Option Value} {base : Heap} {C : Addr}
/-! ### expected_bits -/
abbrev s_bits : Stmt := inClass (top 33) 13
theorem sc_bits : FnScope ["self"] ["self"] (defScope s_bits) := ⟨rfl, rfl, rfl, by decide +kernel, rfl, by decide +kernel, by decide +kernel⟩
def spBits (C : Addr) : Sp := fun vs H Q _ => ∃ (p rp : Addr) (s : Ll.State) (x : List Nat), vs = [.ref p] ∧ ObjAt C H p rp s ∧ s.text = some x ∧ ∀ (m : Nat) (H' : Hp), Same H H' → (∀ a, m.testBit a = true ↔ Exp s.g x a) → bits m s.g.ts = Ll.expected s.g (Ll.known s.g) x → Q (.int (m : Int)) H'
theorem ok_bits {f f1 f2 f3 : Addr} {fd fd1 fd2 fd3 : FuncData} (T : Txt K mg C) (F : MDef K C "expected_bits" "Grammar.expected_bits" s_bits ["self"] f fd) (F1 : Def K mg "find_expected" s_find_expected ["to_come", "t", "nullable", "firsts"] f1 fd1) (F2 : Def K mg "row_first" s_row_first ["symbols", "t", "nullable", "firsts"] f2 fd2)
    (F3 : Def K mg "row_settles" s_row_settles ["symbols", "t", "settled", "tokens_stay"] f3 fd3) : FnOk P w K mg base CX0 3 f fd ["self"] (spBits C) := by
  have G1 : FnOk P w K mg base CX0 2 f1 fd1 _ spFindExpected := ok_find_expected F1 F2 F3
  refine F.fn.ok sc_bits (fun vs H Q E h => ?_) (fun cdv A outer s H vs Q E hr h => ?_)
  · obtain ⟨p, rp, st, x, rfl, _⟩ := h
    rfl
  · obtain ⟨p, rp, st, x, rfl, ⟨dx, np, fp, op, cp, kp, tc, h1, wf, hR, h4, h5⟩, ht, q⟩ := h
    refine ⟨_, (pss_one (ps_ret (pe_call G1 hr rfl F1.mg F1.fn.kp F1.b .nil pass0 (pa_cons (pe_fld (pv 0) rfl) (pa_cons (pe_fld (pv 0) rfl) (pa_cons (pe_fld (pv 0) rfl) (pa_cons (pe_fld (pv 0) rfl) pa_nil))))))), ?_⟩
    rw [ht] at h5
    obtain ⟨hc, a, rfl, ha, x1, x2, x3, x4⟩ := h5
    obtain ⟨nl, fs, fo, c1, c2, c3, c4, c5, c6, c7, c8⟩ := h4 hc
    exact ⟨_, rfl, p, C, dx, _, _, rfl, h1, T.cl, T.n_tc, ff_tc, _, rfl, p, C, dx, _, _, rfl, h1, T.cl, T.n_t, ff_t, _, rfl, p, C, dx, _, _, rfl, h1, T.cl, T.n_nl, ff_nl, _, rfl, p, C, dx, _, _, rfl, h1, T.cl, T.n_f, ff_f, a, np, fp, x, st.g.ts, nl, fs, rfl, ha, c1, c3, wf.t63, (by rw [c2.1, c4.1]), (by rw [c4.1]; exact x3), fun H' k => q _ H' k (fun b => expMask_bit c2 c4) (bits_expected c2 c4 x)⟩
/-! ### expected -/
abbrev s_expected : Stmt := inClass (top 33) 15
theorem sc_expected : FnScope ["self"] ["self"] (defScope s_expected) := ⟨rfl, rfl, rfl, by decide +kernel, rfl, by decide +kernel, by decide +kernel⟩
theorem ok_expected {f f1 f2 : Addr} {fd fd1 fd2 : FuncData} (T : Txt K mg C) (F : MDef K C "expected" "Grammar.expected" s_expected ["self"] f fd) (F1 : MDef K C "expected_bits" "Grammar.expected_bits" s_bits ["self"] f1 fd1) (G1 : FnOk P w K mg base CX0 3 f1 fd1 ["self"] (spBits C)) (F2 : Def K mg "members" s_members ["bits", "t"] f2 fd2) : FnOk P w K mg base CX0 4 f fd ["self"] (spSelf C .expected) := by
  have G2 : FnOk P w K mg base CX0 3 f2 fd2 _ spMembers := (ok_members T.range F2).mono (by decide)
  refine F.fn.ok sc_expected (fun vs H Q E h => ?_) (fun cdv A outer s H vs Q E hr h => ?_)
  · obtain ⟨p, rp, st, rfl, _⟩ := h
    rfl
  · obtain ⟨p, rp, st, rfl, ob, q⟩ := h
    have ob' := ob
    obtain ⟨dx, np, fp, op, cp, kp, tc, h1, wf, hR, h4, h5⟩ := ob'
    refine ⟨_, (pss_cons (ps_if (pt_cmpR op_isN (pe_fld (pv 0) rfl) pe_non (nomark _))
      (pss_one (ps_ret (pe_lst (pa_cons (pe_gint rfl T.g_now) pa_nil))))
      pss_nil)
      (pss_one (ps_ret (pe_op op_cat (pe_lst (pa_cons (pe_gint rfl T.g_done) pa_nil)) (pe_call G2 hr rfl F2.mg F2.fn.kp F2.b .nil pass0 (pa_cons (pe_meth0 (pv 0) T.cl F1.mt G1 hr F1.b .nil pass0) (pa_cons (pe_fld (pv 0) rfl) pa_nil))))))), ?_⟩
    have one : (1 : Nat) ≤ sizeLine := by decide
    refine ⟨_, rfl, p, C, dx, _, _, rfl, h1, T.cl, T.n_tc, ff_tc, rfl, _, rfl, ?_⟩
    cases ht : st.text with
    | none =>
      rw [ht] at h5
      have h5 : tc = .non := h5
      subst h5
      refine iteT ⟨one, fun l hl => q.no ob (n := 3) ?_ rfl hl⟩
      unfold Ll.step
      simp only
      rw [ht]
    | some x =>
      rw [ht] at h5
      obtain ⟨hc, a, rfl, ha, x1, x2, x3, x4⟩ := h5
      refine iteF ⟨one, fun l0 hl0 => ?_⟩
      have k := same_upd (o := .lst [.int 0]) (Same.refl H) hl0
      have e0 : (upd H l0 (.lst [.int 0])) l0 = some (.lst [.int 0]) := upd_same
      generalize upd H l0 (.lst [.int 0]) = H0 at k e0 ⊢
      refine ⟨_, rfl, p, dx, _, rfl, k _ _ h1, free_bits _ _ _ _ _ _ _ _ _ _, p, rp, st, x, rfl, ob.same k, ht, fun m H1 k1 hm1 hm2 => ?_⟩
      have k01 := k.trans k1
      refine ⟨_, rfl, p, C, dx, _, _, rfl, k01 _ _ h1, T.cl, T.n_t, ff_t, m, st.g.ts, rfl, wf.t63, fun mp H2 n2 s2 e2 => ?_⟩
      have k02 := k01.trans s2
      refine ⟨l0, mp, _, _, rfl, rfl, s2 _ _ (k1 _ _ e0), e2, ?_, fun r hr => ?_⟩
      · rw [vN_len]
        have := bits_len m st.g.ts
        have := wf.t63
        exact Nat.le_trans (show 1 + (bits m st.g.ts).length ≤ 65 by omega) (by decide)
      · refine q.stay ob (a := .told (Ll.expected st.g (Ll.known st.g) x)) ?_ (k02.free hr) (same_upd k02 (k02.free hr)) ?_
        · unfold Ll.step
          simp only
          rw [ht]
        · rw [upd_same, told_vI, hm2]
          rfl
/-! ### take -/
abbrev s_take : Stmt := inClass (top 33) 14
theorem sc_take : FnScope ["self", "token", "left", "told"] ["self", "token"] (defScope s_take) := ⟨rfl, rfl, rfl, by decide +kernel, rfl, by decide +kernel, by decide +kernel⟩
theorem step_next {s : Ll.State} {x : List Nat} {b : Nat} (ht : s.text = some x) : Ll.step s (.next b) = if s.g.ts < b then Ll.no s 1 else if (Ll.expected s.g (Ll.known s.g) x).contains b = false then Ll.no s 4 else match Ll.takes s.g (Ll.known s.g) b 513 x with
    | none => Ll.no s 2
    | some (l, y) => if 512 < y.length then Ll.no s 2 else ({ s with text := if b = s.g.ts then none else some y }, .told l) := by
  unfold Ll.step
  simp only
  rw [ht]
  rfl
theorem ok_take {f f1 f2 f3 : Addr} {fd fd1 fd2 fd3 : FuncData} (T : Txt K mg C) (F : MDef K C "take" "Grammar.take" s_take ["self", "token"] f fd) (F1 : MDef K C "expected_bits" "Grammar.expected_bits" s_bits ["self"] f1 fd1) (G1 : FnOk P w K mg base CX0 3 f1 fd1 ["self"] (spBits C))
    (F2 : Def K mg "take_away" s_take_away ["to_come", "token", "t", "rules", "choices"] f2 fd2) (F3 : Def K mg "is_too_much" s_much ["told", "to_come"] f3 fd3) : FnOk P w K mg base CX0 4 f fd ["self", "token"] (spAsk C .next) := by
  have G2 : FnOk P w K mg base CX0 3 f2 fd2 _ spTakeAway := (ok_take_away T.len T.g_told F2).mono (by decide)
  have G3 : FnOk P w K mg base CX0 3 f3 fd3 _ spMuch := (ok_much T.len T.g_told T.g_come F3).mono (by decide)
  refine F.fn.ok sc_take (fun vs H Q E h => ?_) (fun cdv A outer s H vs Q E hr h => ?_)
  · obtain ⟨p, rp, st, b, rfl, _⟩ := h
    rfl
  · obtain ⟨p, rp, st, b, rfl, ob, q⟩ := h
    have ob' := ob
    obtain ⟨dx, np, fp, op, cp, kp, tc, h1, wf, hR, h4, h5⟩ := ob'
    refine ⟨_, (pss_cons (ps_if (pt_cmpR op_isN (pe_fld (pv 0) rfl) pe_non (nomark _))
      (pss_one (ps_ret (pe_lst (pa_cons (pe_gint rfl T.g_now) pa_nil))))
      pss_nil)
      (pss_cons (ps_if (pt_cmpR op_gt (pv 1) (pe_fld (pv 0) rfl) (nomark _))
      (pss_one (ps_ret (pe_lst (pa_cons (pe_gint rfl T.g_out) pa_nil))))
      pss_nil)
      (pss_cons (ps_if (pt_cmpR op_eq (pe_op op_andN (pe_op op_shrN (pe_meth0 (pv 0) T.cl F1.mt G1 hr F1.b .nil pass0) (pv 1)) pe_int) pe_int (nomark _))
      (pss_one (ps_ret (pe_lst (pa_cons (pe_gint rfl T.g_fits) pa_nil))))
      pss_nil)
      (pss_cons (ps_set (i := 2) sc_take.nd rfl (Or.inl rfl) (pe_callTy call_list_of (by rfl) T.list PyProof.Rows.boot_list (pa_cons (pe_fld (pv 0) rfl) pa_nil)))
      (pss_cons (ps_set (i := 3) sc_take.nd rfl (Or.inl rfl) (pe_call G2 hr rfl F2.mg F2.fn.kp F2.b .nil pass0 (pa_cons (pv 2) (pa_cons (pv 1) (pa_cons (pe_fld (pv 0) rfl) (pa_cons (pe_fld (pv 0) rfl) (pa_cons (pe_fld (pv 0) rfl) pa_nil)))))))
      (pss_cons (ps_if (pt_val (pe_call G3 hr rfl F3.mg F3.fn.kp F3.b .nil pass0 (pa_cons (pv 3) (pa_cons (pv 2) pa_nil))))
      (pss_one (ps_ret (pe_lst (pa_cons (pe_gint rfl T.g_many) pa_nil))))
      pss_nil)
      (pss_cons (ps_fld (pv 0) (pe_ifExp (pt_cmpR op_eq (pv 1) (pe_fld (pv 0) rfl) (nomark _)) pe_non (pv 2)) rfl)
      (pss_one (ps_ret (pe_op op_cat (pe_lst (pa_cons (pe_gint rfl T.g_done) pa_nil)) (pv 3))))))))))), ?_⟩
    have one : (1 : Nat) ≤ sizeLine := by decide
    refine ⟨_, rfl, p, C, dx, _, _, rfl, h1, T.cl, T.n_tc, ff_tc, rfl, _, rfl, ?_⟩
    cases ht : st.text with
    | none =>
      rw [ht] at h5
      have h5 : tc = .non := h5
      subst h5
      refine iteT ⟨one, fun l hl => q.no ob (n := 3) ?_ rfl hl⟩
      unfold Ll.step
      simp only
      rw [ht]
    | some x =>
      have hstep := step_next (b := b) ht
      rw [ht] at h5
      obtain ⟨hc, a, rfl, ha, x1, x2, x3, x4⟩ := h5
      have hcl := h4 hc
      obtain ⟨nl, fs, fo, c1, c2, c3, c4, c5, c6, c7, c8⟩ := h4 hc
      refine iteF ⟨_, rfl, _, rfl, p, C, dx, _, _, rfl, h1, T.cl, T.n_t, ff_t, _, _, rfl, rfl, _, rfl, ?_⟩
      by_cases hb : st.g.ts < b
      · rw [if_pos hb] at hstep
        rw [show decide ((st.g.ts : Int) < (b : Int)) = true from decide_eq_true (by omega)]
        exact iteT ⟨one, fun l hl => q.no ob hstep rfl hl⟩
      rw [if_neg hb] at hstep
      rw [show decide ((st.g.ts : Int) < (b : Int)) = false from decide_eq_false (by omega)]
      refine iteF ⟨_, rfl, p, dx, _, rfl, h1, free_bits _ _ _ _ _ _ _ _ _ _, p, rp, st, x, rfl, ob, ht, fun m H1 k1 hm1 hm2 => ?_⟩
      refine ⟨_, rfl, m, b, rfl, rfl, _, rfl, rfl, rfl, _, rfl, ?_⟩
      rw [bit_no]
      have fin : ∀ {H' : Hp} {l : Addr} {z : Int} {n : Nat}, Ll.step st (.next b) = Ll.no st n → z = -(n : Int) → Same H H' → H' l = none → Q (.ref l) (upd H' l (.lst [.int z])) := fun e hz k hm => q.stay ob e (k.free hm) (same_upd k (k.free hm)) (by rw [upd_same, hz]; rfl)
      cases hbit : m.testBit b with
      | false =>
        have hno : (Ll.expected st.g (Ll.known st.g) x).contains b = false := by
          cases z : (Ll.expected st.g (Ll.known st.g) x).contains b with
          | false => rfl
          | true =>
            have := (hm1 b).mpr (mem_expected.mp (List.contains_iff_mem.mp z))
            rw [hbit] at this
            cases this
        rw [if_pos hno] at hstep
        exact iteT ⟨one, fun l hl => fin hstep rfl k1 hl⟩
      | true =>
        have hex : Exp st.g x b := (hm1 b).mp hbit
        have hyes : (Ll.expected st.g (Ll.known st.g) x).contains b = true := List.contains_iff_mem.mpr (mem_expected.mpr hex)
        rw [if_neg (by rw [hyes]; decide)] at hstep
        refine iteF ?_
        -- left = list(self.to_come)
        refine ⟨_, rfl, p, C, dx, _, _, rfl, k1 _ _ h1, T.cl, T.n_tc, ff_tc, a, _, rfl, .inl (SqL.of (k1 _ _ ha)), fun lc hlc => ?_⟩
        have k2 : Same H1 (upd H1 lc (.lst (vN x.reverse))) := same_upd (Same.refl H1) hlc
        have p2 := k2 _ _ (k1 _ _ h1)
        -- told = take_away(..)
        refine ⟨_, rfl, _, rfl, _, rfl, p, C, dx, _, _, rfl, p2, T.cl, T.n_t, ff_t, _, rfl, p, C, dx, _, _, rfl, p2, T.cl, T.n_r, ff_r, _, rfl, p, C, dx, _, _, rfl, p2, T.cl, T.n_ch, ff_ch, st.g, H1, lc, rp, cp, b, x, wf, x4, rfl, k2, hlc, hR.same k1, c7.same k1, upd_same, x1, x2, hex, x3, fun tp H3 told left ntp k3 nel e3 f3 took => ?_⟩
        have k13 : Same H H3 := k1.trans k3
        have p3 := k13 _ _ h1
        refine ⟨_, rfl, _, rfl, tp, lc, told, left.reverse, rfl, e3, f3, _, rfl, ?_⟩
        rw [List.length_reverse]
        rcases took with ⟨t1, t2⟩ | ⟨t1, t2, t3, t4⟩
        · rw [decide_eq_true (Or.inl t1)]
          rw [t2] at hstep
          exact iteT ⟨one, fun l hl => fin hstep rfl k13 hl⟩
        rw [t2] at hstep
        have hstep : Ll.step st (.next b) = if 512 < left.length then Ll.no st 2 else ({ st with text := if b = st.g.ts then none else some left }, .told told) := hstep
        by_cases hl : 512 < left.length
        · rw [decide_eq_true (Or.inr hl)]
          rw [if_pos hl] at hstep
          exact iteT ⟨one, fun l hl => fin hstep rfl k13 hl⟩
        rw [if_neg hl] at hstep
        rw [decide_eq_false (show ¬ (512 < told.length ∨ 512 < left.length) by omega)]
        refine iteF ?_
        -- self.to_come = None if token == self.tokens else left
        have fin2 : ∀ (v : V) (l0 r : Addr), TextAt H3 st.g st.closed v (if b = st.g.ts then none else some left) → (upd H3 p (.ins C dx (ff st.g.nts st.g.ts rp st.closed np fp op cp kp v))) l0 = none → (upd (upd H3 p (.ins C dx (ff st.g.nts st.g.ts rp st.closed np fp op cp kp v))) l0 (.lst [.int 0])) r = none →
            Q (.ref r) (upd (upd (upd H3 p (.ins C dx (ff st.g.nts st.g.ts rp st.closed np fp op cp kp v))) l0 (.lst [.int 0])) r (.lst ([.int 0] ++ vN told))) := by
          intro v l0 r hv hl0 hr
          have K4 : Same (only H3) (upd H3 p (.ins C dx (ff st.g.nts st.g.ts rp st.closed np fp op cp kp v))) := only_ins (only_same (Same.refl H3)) p3
          have B4 : But p H (upd H3 p (.ins C dx (ff st.g.nts st.g.ts rp st.closed np fp op cp kp v))) := (but_same (But.refl p H) k13).upd
          have P4 : (upd H3 p (.ins C dx (ff st.g.nts st.g.ts rp st.closed np fp op cp kp v))) p = some (.ins C dx (ff st.g.nts st.g.ts rp st.closed np fp op cp kp v)) := upd_same
          have V4 := hv.keep K4
          have kk : Same (only H) (upd H3 p (.ins C dx (ff st.g.nts st.g.ts rp st.closed np fp op cp kp v))) := fun u o z => K4 u o (by
            obtain ⟨z1, ⟨xs, rfl⟩ | ⟨xs, rfl⟩⟩ := only_some z
            · exact only_lst (k13 _ _ z1)
            · exact only_tup (k13 _ _ z1))
          generalize upd H3 p (.ins C dx (ff st.g.nts st.g.ts rp st.closed np fp op cp kp v)) = H4 at hl0 hr K4 B4 P4 V4 kk ⊢
          have k5 : Same H4 (upd H4 l0 (.lst [.int 0])) := same_upd (Same.refl H4) hl0
          have k6 : Same H4 (upd (upd H4 l0 (.lst [.int 0])) r (.lst ([.int 0] ++ vN told))) := same_upd k5 (k5.free hr)
          have fr : H r = none := but_free B4 (by rw [h1]; exact fun z => nomatch z) (by rw [P4]; exact fun z => nomatch z) (k5.free hr)
          refine q r rp _ fr (fun u o z hu _ => k6 _ _ (B4 u o z hu)) (.inl rfl) ?_ ?_
          · rw [hstep]
            exact ⟨dx, np, fp, op, cp, kp, v, k6 _ _ P4, wf, (hR.only.same kk).same k6, fun _ => (hcl.keep kk).keep (only_same k6), V4.keep (only_same k6)⟩
          · rw [hstep, upd_same, told_vI]
            rfl
        refine ⟨_, rfl, _, rfl, p, C, dx, _, _, rfl, p3, T.cl, T.n_t, ff_t, rfl, _, rfl, ?_⟩
        have few : ∀ {n t rp c np fp op cp kp tc}, (ff n t rp c np fp op cp kp tc).length < 1000 := by
          intro n t rp c np fp op cp kp tc
          show 10 < 1000
          decide
        have hsz : ([V.int 0] : List V).length + (vN told).length ≤ sizeLine := by
          rw [vN_len]
          exact Nat.le_trans (show 1 + told.length ≤ 600 by omega) (by decide)
        have ntp3 : tp ≠ p := Ne.symm (ne_of p3 e3 (by intro z; cases z))
        by_cases hbt : b = st.g.ts
        · rw [show decide (V.int (b : Int) = V.int (st.g.ts : Int)) = true from decide_eq_true (by rw [hbt])]
          refine iteT ⟨_, rfl, p, C, dx, _, rfl, p3, T.cl, T.n_tc, few, ?_⟩
          rw [ff_put_tc]
          refine ⟨one, fun l0 hl0 => ?_⟩
          have e4 : (upd H3 p (.ins C dx (ff st.g.nts st.g.ts rp st.closed np fp op cp kp .non))) tp = some (.lst (vN told)) := by rw [upd_ne ntp3]; exact e3
          refine ⟨_, rfl, l0, tp, _, _, rfl, rfl, upd_same, (by rw [upd_ne (ne_of_none e4 hl0)]; exact e4), hsz, fun r hr => fin2 .non l0 r ?_ hl0 hr⟩
          rw [if_pos hbt]
          rfl
        · rw [show decide (V.int (b : Int) = V.int (st.g.ts : Int)) = false from decide_eq_false (fun z => hbt (by injection z with z; omega))]
          refine iteF ⟨_, rfl, _, rfl, p, C, dx, _, rfl, p3, T.cl, T.n_tc, few, ?_⟩
          rw [ff_put_tc]
          refine ⟨one, fun l0 hl0 => ?_⟩
          have e4 : (upd H3 p (.ins C dx (ff st.g.nts st.g.ts rp st.closed np fp op cp kp (.ref lc)))) tp = some (.lst (vN told)) := by rw [upd_ne ntp3]; exact e3
          refine ⟨_, rfl, l0, tp, _, _, rfl, rfl, upd_same, (by rw [upd_ne (ne_of_none e4 hl0)]; exact e4), hsz, fun r hr => fin2 (.ref lc) l0 r ?_ hl0 hr⟩
          rw [if_neg hbt]
          exact ⟨hc, lc, rfl, f3, by omega, t3, t4, x4⟩
end
end Gk

set_option Elab.async false
set_option linter.all false
set_option maxRecDepth 100000
set_option maxHeartbeats 4000000
namespace Gk
open PySem PySem.Spec PyProof.Rows L2 Gm
def code : Ll.Call → Nat
  | .begin_ _ _ => 0
  | .rule _ _ => 1
  | .close => 2
  | .empty_ _ => 3
  | .first _ => 4
  | .follow _ => 5
  | .choose _ _ => 6
  | .conflicts => 7
  | .start => 8
  | .next _ => 9
  | .expected => 10
def argc : Nat → Nat
  | 0 => 2
  | 1 => 2
  | 3 => 1
  | 4 => 1
  | 5 => 1
  | 6 => 2
  | 9 => 1
  | _ => 0
theorem flat_code (x : Ll.Call) : (flat x)[0]? = some (code x) := by cases x <;> rfl
theorem flat_pos (x : Ll.Call) : 0 < (flat x).length := by cases x <;> simp [flat]
theorem code_le (x : Ll.Call) : code x ≤ 10 := by cases x <;> simp [code]
theorem flat_len {x : Ll.Call} (h : code x ≠ 1) : (flat x).length = 1 + argc (code x) := by
  cases x <;> first | rfl | exact absurd rfl h
theorem flat_rule {x : Ll.Call} (h : code x = 1) : ∃ a y, x = .rule a y := by
  cases x <;> first | (exact ⟨_, _, rfl⟩) | (exact absurd h (by simp [code]))
/-- the module's dict of how many numbers stand behind a call's own -/
structure Args (K : PySem.W.Frag) (mg : Str → Option Value) (d : Addr) (es : Array DictEntry) (n : Nat) : Prop where
  mg : mg "ARGUMENTS" = some (.ref d)
  lk : K.lookup d = some ⟨.type "dict", none, .dict es n, #[]⟩
  keys : KeysI es
  get : ∀ i : Nat, i ≤ 10 → ∃ t, findBy Value.isInt es (i : Int) = some (.int (argc i : Nat) t)
theorem iteN {A B : Prop} {x y : Int} (h : x ≠ y) (b : B) : if decide (V.int x = V.int y) = true then A else B := by
  rw [decide_eq_false (fun z => h (by injection z))]
  exact iteF b
theorem iteY {A B : Prop} {x y : Int} (h : x = y) (a : A) : if decide (V.int x = V.int y) = true then A else B := by
  subst h
  rw [decide_eq_true rfl]
  exact iteT a
theorem Out.same {C : Addr} {H H1 : Hp} {p rp : Addr} {s : Ll.State} {c : Ll.Call} {Q : VK} (o : Out C H p rp s c Q) (k : Same H H1) : Out C H1 p rp s c Q :=
  fun l rp' H' hl fr hrp ob e => o l rp' H' (k.free hl) (fun b u z h1 h2 => fr b u (k _ _ z) h1 h2) (hrp.imp id (fun z => k.free z)) ob e
section
variable {P : Program} {w : World} {K : PySem.W.Frag} {mg : Str → Option Value} {base : Heap} {C : Addr}
/-! ### place_behind -/
abbrev s_place : Stmt := top 46
theorem sc_place : FnScope ["calls", "place", "behind"] ["calls", "place"] (defScope s_place) := ⟨rfl, rfl, rfl, by decide +kernel, rfl, by decide +kernel, by decide +kernel⟩
def spPlace (K : PySem.W.Frag) : Sp := fun vs H Q _ => ∃ (a : Addr) (pre rest : List Nat) (x : Ll.Call), vs = [.ref a, .int (pre.length : Int)] ∧ SqL K H a (vN (pre ++ (flat x ++ rest))) ∧ Q (.int ((pre.length + (flat x).length : Nat) : Int)) H
theorem ok_place {f d : Addr} {fd : FuncData} {es : Array DictEntry} {n : Nat} (hA : Args K mg d es n) (g1 : ∃ t, mg "RULE" = some (.int 1 t)) (F : Def K mg "place_behind" s_place ["calls", "place"] f fd) : FnOk P w K mg base CX0 1 f fd ["calls", "place"] (spPlace K) := by
  refine F.fn.ok sc_place (fun vs H Q E h => ?_) (fun cdv A outer s H vs Q E hr h => ?_)
  · obtain ⟨a, pre, rest, x, rfl, _⟩ := h
    rfl
  · obtain ⟨a, pre, rest, x, rfl, hS, q⟩ := h
    refine ⟨_, (pss_cons (ps_set (i := 2) sc_place.nd rfl (Or.inl rfl) (pe_op op_add (pe_op op_add (pv 1) pe_int) (pe_dgetG rfl hA.mg hA.lk hA.keys (pe_ix ix_list (pv 0) (pv 1) (fun _ _ => rfl)) (fun _ _ => rfl))))
      (pss_cons (ps_if (pt_cmpR op_eq (pe_ix ix_list (pv 0) (pv 1) (fun _ _ => rfl)) (pe_gint rfl g1) (nomark _))
      (pss_one (ps_ret (pe_op op_add (pv 2) (pe_ix ix_list (pv 0) (pe_op op_sub (pv 2) pe_int) (fun _ _ => rfl)))))
      pss_nil)
      (pss_one (ps_ret (pv 2))))), ?_⟩
    have hpos := flat_pos x
    have h0 : (pre ++ (flat x ++ rest))[pre.length]? = some (code x) := by
      rw [List.getElem?_append_right (Nat.le_refl _), Nat.sub_self, List.getElem?_append_left hpos, flat_code]
    have h0' : (vN (pre ++ (flat x ++ rest)))[pre.length]? = some (V.int ((code x : Nat) : Int)) := by
      unfold vN
      rw [List.getElem?_map, h0]
      rfl
    obtain ⟨tk, hget⟩ := hA.get (code x) (code_le x)
    refine ⟨_, rfl, _, _, rfl, rfl, _, rfl, _, rfl, a, _, _, _, rfl, rfl, hS, at_int (j := pre.length) rfl h0', _, .int (argc (code x) : Nat), _, rfl, hget, ⟨_, rfl⟩, _, _, rfl, rfl, ?_⟩
    refine ⟨_, rfl, _, rfl, a, _, _, _, rfl, rfl, hS, at_int (j := pre.length) rfl h0', rfl, _, rfl, ?_⟩
    by_cases hc : code x = 1
    · obtain ⟨b, y, rfl⟩ := flat_rule hc
      refine iteY rfl ?_
      have h2 : (vN (pre ++ (flat (.rule b y) ++ rest)))[pre.length + 2]? = some (V.int ((y.length : Nat) : Int)) := by
        unfold vN
        rw [List.getElem?_map, List.getElem?_append_right (by omega), Nat.add_sub_cancel_left]
        rfl
      refine ⟨_, rfl, _, rfl, _, rfl, _, _, rfl, rfl, a, _, _, _, rfl, rfl, hS, at_int (j := pre.length + 2) ?_ h2, _, _, rfl, rfl, ?_⟩
      · show (pre.length : Int) + 1 + 2 - 1 = ((pre.length + 2 : Nat) : Int)
        omega
      · have e : ((pre.length + (flat (.rule b y)).length : Nat) : Int) = (pre.length : Int) + 1 + 2 + (y.length : Int) := by
          show ((pre.length + (y.length + 1 + 1 + 1) : Nat) : Int) = _
          omega
        rw [e] at q
        exact q
    · refine iteN (by omega) ⟨_, rfl, ?_⟩
      have e : ((pre.length + (flat x).length : Nat) : Int) = (pre.length : Int) + 1 + ((argc (code x) : Nat) : Int) := by
        rw [flat_len hc]
        omega
      rw [e] at q
      exact q
/-! ### answer -/
abbrev s_answer : Stmt := top 47
theorem sc_answer : FnScope ["grammar", "call"] ["grammar", "call"] (defScope s_answer) := ⟨rfl, rfl, rfl, by decide +kernel, rfl, by decide +kernel, by decide +kernel⟩
def spAnswer (C : Addr) : Sp := fun vs H Q _ => ∃ (p rp b : Addr) (s : Ll.State) (x : Ll.Call), vs = [.ref p, .ref b] ∧ ObjAt C H p rp s ∧ H b = some (.lst (vN (flat x))) ∧ Out C H p rp s x Q
/-- the methods that answer calls, their promises -/
structure Ms (P : Program) (w : World) (K : PySem.W.Frag) (mg : Str → Option Value) (base : Heap) (C : Addr) (f0 f1 f2 f3 f4 f5 f6 f7 f8 f9 f10 : Addr) (fd0 fd1 fd2 fd3 fd4 fd5 fd6 fd7 fd8 fd9 fd10 : FuncData) : Prop where
  m0 : MDef K C "begin" "Grammar.begin" s_begin ["self", "n", "t"] f0 fd0
  o0 : FnOk P w K mg base CX0 5 f0 fd0 ["self", "n", "t"] (spBegin C)
  m1 : MDef K C "rule" "Grammar.rule" s_rule ["self", "a", "symbols"] f1 fd1
  o1 : FnOk P w K mg base CX0 5 f1 fd1 ["self", "a", "symbols"] (spRule C)
  m2 : MDef K C "close" "Grammar.close" s_close ["self"] f2 fd2
  o2 : FnOk P w K mg base CX0 5 f2 fd2 ["self"] (spClose C)
  m3 : MDef K C "empty" "Grammar.empty" s_empty ["self", "a"] f3 fd3
  o3 : FnOk P w K mg base CX0 5 f3 fd3 ["self", "a"] (spAsk C .empty_)
  m4 : MDef K C "first" "Grammar.first" s_first ["self", "a"] f4 fd4
  o4 : FnOk P w K mg base CX0 5 f4 fd4 ["self", "a"] (spAsk C .first)
  m5 : MDef K C "follow" "Grammar.follow" s_follow ["self", "a"] f5 fd5
  o5 : FnOk P w K mg base CX0 5 f5 fd5 ["self", "a"] (spAsk C .follow)
  m6 : MDef K C "choose" "Grammar.choose" s_choose ["self", "a", "token"] f6 fd6
  o6 : FnOk P w K mg base CX0 5 f6 fd6 ["self", "a", "token"] (spChoose C)
  m7 : MDef K C "conflicts" "Grammar.conflicts" s_conflicts ["self"] f7 fd7
  o7 : FnOk P w K mg base CX0 5 f7 fd7 ["self"] (spSelf C .conflicts)
  m8 : MDef K C "start" "Grammar.start" s_start ["self"] f8 fd8
  o8 : FnOk P w K mg base CX0 5 f8 fd8 ["self"] (spSelf C .start)
  m9 : MDef K C "take" "Grammar.take" s_take ["self", "token"] f9 fd9
  o9 : FnOk P w K mg base CX0 5 f9 fd9 ["self", "token"] (spAsk C .next)
  m10 : MDef K C "expected" "Grammar.expected" s_expected ["self"] f10 fd10
  o10 : FnOk P w K mg base CX0 5 f10 fd10 ["self"] (spSelf C .expected)
/-- the calls' numbers -/
structure Cd (mg : Str → Option Value) : Prop where
  k0 : ∃ t, mg "BEGIN" = some (.int 0 t)
  k1 : ∃ t, mg "RULE" = some (.int 1 t)
  k2 : ∃ t, mg "CLOSE" = some (.int 2 t)
  k3 : ∃ t, mg "EMPTY" = some (.int 3 t)
  k4 : ∃ t, mg "FIRST" = some (.int 4 t)
  k5 : ∃ t, mg "FOLLOW" = some (.int 5 t)
  k6 : ∃ t, mg "CHOOSE" = some (.int 6 t)
  k7 : ∃ t, mg "CONFLICTS" = some (.int 7 t)
  k8 : ∃ t, mg "START" = some (.int 8 t)
  k9 : ∃ t, mg "NEXT" = some (.int 9 t)
theorem ok_answer {f f0 f1 f2 f3 f4 f5 f6 f7 f8 f9 f10 : Addr} {fd fd0 fd1 fd2 fd3 fd4 fd5 fd6 fd7 fd8 fd9 fd10 : FuncData} (T : Txt K mg C) (D : Cd mg) (M : Ms P w K mg base C f0 f1 f2 f3 f4 f5 f6 f7 f8 f9 f10 fd0 fd1 fd2 fd3 fd4 fd5 fd6 fd7 fd8 fd9 fd10) (F : Def K mg "answer" s_answer ["grammar", "call"] f fd) : FnOk P w K mg base CX0 6 f fd ["grammar", "call"] (spAnswer C) := by
  refine F.fn.ok sc_answer (fun vs H Q E h => ?_) (fun cdv A outer s H vs Q E hr h => ?_)
  · obtain ⟨p, rp, b, st, x, rfl, _⟩ := h
    rfl
  · obtain ⟨p, rp, b, st, x, rfl, ob, hb, q⟩ := h
    have ob' := ob
    obtain ⟨dx, np, fp, op, cp, kp, tc, h1, wf, hR, h4, h5⟩ := ob'
    refine ⟨_, (pss_cons (ps_if (pt_cmpR op_eq (pe_ix ix_list (pv 1) pe_int (fun _ _ => rfl)) (pe_gint rfl D.k0) (nomark _))
      (pss_one (ps_ret (pe_meth (pv 0) T.cl M.m0.mt M.o0 hr M.m0.b .nil pass0 (pa_cons (pe_ix ix_list (pv 1) pe_int (fun _ _ => rfl)) (pa_cons (pe_ix ix_list (pv 1) pe_int (fun _ _ => rfl)) pa_nil)))))
      pss_nil)
      (pss_cons (ps_if (pt_cmpR op_eq (pe_ix ix_list (pv 1) pe_int (fun _ _ => rfl)) (pe_gint rfl D.k1) (nomark _))
      (pss_one (ps_ret (pe_meth (pv 0) T.cl M.m1.mt M.o1 hr M.m1.b .nil pass0 (pa_cons (pe_ix ix_list (pv 1) pe_int (fun _ _ => rfl)) (pa_cons (pe_slice sl_list (pv 1) (po_some pe_int) po_none) pa_nil)))))
      pss_nil)
      (pss_cons (ps_if (pt_cmpR op_eq (pe_ix ix_list (pv 1) pe_int (fun _ _ => rfl)) (pe_gint rfl D.k2) (nomark _))
      (pss_one (ps_ret (pe_meth0 (pv 0) T.cl M.m2.mt M.o2 hr M.m2.b .nil pass0)))
      pss_nil)
      (pss_cons (ps_if (pt_cmpR op_eq (pe_ix ix_list (pv 1) pe_int (fun _ _ => rfl)) (pe_gint rfl D.k3) (nomark _))
      (pss_one (ps_ret (pe_meth (pv 0) T.cl M.m3.mt M.o3 hr M.m3.b .nil pass0 (pa_cons (pe_ix ix_list (pv 1) pe_int (fun _ _ => rfl)) pa_nil))))
      pss_nil)
      (pss_cons (ps_if (pt_cmpR op_eq (pe_ix ix_list (pv 1) pe_int (fun _ _ => rfl)) (pe_gint rfl D.k4) (nomark _))
      (pss_one (ps_ret (pe_meth (pv 0) T.cl M.m4.mt M.o4 hr M.m4.b .nil pass0 (pa_cons (pe_ix ix_list (pv 1) pe_int (fun _ _ => rfl)) pa_nil))))
      pss_nil)
      (pss_cons (ps_if (pt_cmpR op_eq (pe_ix ix_list (pv 1) pe_int (fun _ _ => rfl)) (pe_gint rfl D.k5) (nomark _))
      (pss_one (ps_ret (pe_meth (pv 0) T.cl M.m5.mt M.o5 hr M.m5.b .nil pass0 (pa_cons (pe_ix ix_list (pv 1) pe_int (fun _ _ => rfl)) pa_nil))))
      pss_nil)
      (pss_cons (ps_if (pt_cmpR op_eq (pe_ix ix_list (pv 1) pe_int (fun _ _ => rfl)) (pe_gint rfl D.k6) (nomark _))
      (pss_one (ps_ret (pe_meth (pv 0) T.cl M.m6.mt M.o6 hr M.m6.b .nil pass0 (pa_cons (pe_ix ix_list (pv 1) pe_int (fun _ _ => rfl)) (pa_cons (pe_ix ix_list (pv 1) pe_int (fun _ _ => rfl)) pa_nil)))))
      pss_nil)
      (pss_cons (ps_if (pt_cmpR op_eq (pe_ix ix_list (pv 1) pe_int (fun _ _ => rfl)) (pe_gint rfl D.k7) (nomark _))
      (pss_one (ps_ret (pe_meth0 (pv 0) T.cl M.m7.mt M.o7 hr M.m7.b .nil pass0)))
      pss_nil)
      (pss_cons (ps_if (pt_cmpR op_eq (pe_ix ix_list (pv 1) pe_int (fun _ _ => rfl)) (pe_gint rfl D.k8) (nomark _))
      (pss_one (ps_ret (pe_meth0 (pv 0) T.cl M.m8.mt M.o8 hr M.m8.b .nil pass0)))
      pss_nil)
      (pss_cons (ps_if (pt_cmpR op_eq (pe_ix ix_list (pv 1) pe_int (fun _ _ => rfl)) (pe_gint rfl D.k9) (nomark _))
      (pss_one (ps_ret (pe_meth (pv 0) T.cl M.m9.mt M.o9 hr M.m9.b .nil pass0 (pa_cons (pe_ix ix_list (pv 1) pe_int (fun _ _ => rfl)) pa_nil))))
      pss_nil)
      (pss_one (ps_ret (pe_meth0 (pv 0) T.cl M.m10.mt M.o10 hr M.m10.b .nil pass0))))))))))))), ?_⟩
    cases x with
    | begin_ n t =>
      refine ⟨_, rfl, b, _, _, _, rfl, rfl, SqL.of hb, at_int (j := 0) rfl rfl, rfl, _, rfl, ?_⟩
      refine iteY rfl ?_
      refine ⟨_, rfl, p, dx, _, rfl, h1, free_begin _ _ _ _ _ _ _ _ _ _, _, rfl, b, _, _, _, rfl, rfl, SqL.of hb, at_int (j := 1) rfl rfl, _, rfl, b, _, _, _, rfl, rfl, SqL.of hb, at_int (j := 2) rfl rfl, p, dx, _, n, t, rfl, h1, (by show 10 ≤ 10; decide), fun _ _ _ _ _ _ _ _ _ _ => putAll_ff, fun hbad l hl => ?_, fun hgood l rp' H' hl hrp B o e => ?_⟩
      · refine q.no ob (n := 1) ?_ rfl hl
        unfold Ll.step
        simp only
        exact if_pos hbad
      · have hstep : Ll.step st (.begin_ n t) = (⟨⟨n, t, []⟩, false, none⟩, .told []) := by
          unfold Ll.step
          simp only
          exact if_neg hgood
        refine q l rp' H' hl (fun u o z hu _ => B u o z hu) (.inr hrp) ?_ ?_
        · rw [hstep]
          exact o
        · rw [hstep]
          exact e
    | rule a y =>
      refine ⟨_, rfl, b, _, _, _, rfl, rfl, SqL.of hb, at_int (j := 0) rfl rfl, rfl, _, rfl, ?_⟩
      refine iteN (by decide) ?_
      refine ⟨_, rfl, b, _, _, _, rfl, rfl, SqL.of hb, at_int (j := 0) rfl rfl, rfl, _, rfl, ?_⟩
      refine iteY rfl ?_
      refine ⟨_, rfl, p, dx, _, rfl, h1, free_rule _ _ _ _ _ _ _ _ _ _, _, rfl, b, _, _, _, rfl, rfl, SqL.of hb, at_int (j := 1) rfl rfl, _, rfl, _, rfl, b, _, rfl, SqL.of hb, fun c hc => ?_⟩
      have k := same_upd (o := .lst (cutV (vN (flat (.rule a y))) (some 3) none)) (Same.refl H) hc
      have e : cutV (vN (flat (.rule a y))) (some 3) none = vN y := by
        unfold cutV
        rw [vN_len]
        show ((vN (1 :: a :: y.length :: y)).drop (min 3 (y.length + 1 + 1 + 1))).take ((y.length + 1 + 1 + 1) - min 3 (y.length + 1 + 1 + 1)) = vN y
        rw [Nat.min_eq_left (by omega)]
        show (vN y).take _ = vN y
        refine List.take_of_length_le ?_
        rw [vN_len]
        omega
      exact ⟨p, rp, c, st, a, y, rfl, ob.same k, by rw [upd_same, e], q.same k⟩
    | close =>
      refine ⟨_, rfl, b, _, _, _, rfl, rfl, SqL.of hb, at_int (j := 0) rfl rfl, rfl, _, rfl, ?_⟩
      refine iteN (by decide) ?_
      refine ⟨_, rfl, b, _, _, _, rfl, rfl, SqL.of hb, at_int (j := 0) rfl rfl, rfl, _, rfl, ?_⟩
      refine iteN (by decide) ?_
      refine ⟨_, rfl, b, _, _, _, rfl, rfl, SqL.of hb, at_int (j := 0) rfl rfl, rfl, _, rfl, ?_⟩
      refine iteY rfl ?_
      exact ⟨_, rfl, p, dx, _, rfl, h1, free_close _ _ _ _ _ _ _ _ _ _, p, rp, st, rfl, ob, q⟩
    | empty_ a =>
      refine ⟨_, rfl, b, _, _, _, rfl, rfl, SqL.of hb, at_int (j := 0) rfl rfl, rfl, _, rfl, ?_⟩
      refine iteN (by decide) ?_
      refine ⟨_, rfl, b, _, _, _, rfl, rfl, SqL.of hb, at_int (j := 0) rfl rfl, rfl, _, rfl, ?_⟩
      refine iteN (by decide) ?_
      refine ⟨_, rfl, b, _, _, _, rfl, rfl, SqL.of hb, at_int (j := 0) rfl rfl, rfl, _, rfl, ?_⟩
      refine iteN (by decide) ?_
      refine ⟨_, rfl, b, _, _, _, rfl, rfl, SqL.of hb, at_int (j := 0) rfl rfl, rfl, _, rfl, ?_⟩
      refine iteY rfl ?_
      exact ⟨_, rfl, p, dx, _, rfl, h1, free_empty _ _ _ _ _ _ _ _ _ _, _, rfl, b, _, _, _, rfl, rfl, SqL.of hb, at_int (j := 1) rfl rfl, p, rp, st, a, rfl, ob, q⟩
    | first a =>
      refine ⟨_, rfl, b, _, _, _, rfl, rfl, SqL.of hb, at_int (j := 0) rfl rfl, rfl, _, rfl, ?_⟩
      refine iteN (by decide) ?_
      refine ⟨_, rfl, b, _, _, _, rfl, rfl, SqL.of hb, at_int (j := 0) rfl rfl, rfl, _, rfl, ?_⟩
      refine iteN (by decide) ?_
      refine ⟨_, rfl, b, _, _, _, rfl, rfl, SqL.of hb, at_int (j := 0) rfl rfl, rfl, _, rfl, ?_⟩
      refine iteN (by decide) ?_
      refine ⟨_, rfl, b, _, _, _, rfl, rfl, SqL.of hb, at_int (j := 0) rfl rfl, rfl, _, rfl, ?_⟩
      refine iteN (by decide) ?_
      refine ⟨_, rfl, b, _, _, _, rfl, rfl, SqL.of hb, at_int (j := 0) rfl rfl, rfl, _, rfl, ?_⟩
      refine iteY rfl ?_
      exact ⟨_, rfl, p, dx, _, rfl, h1, free_first _ _ _ _ _ _ _ _ _ _, _, rfl, b, _, _, _, rfl, rfl, SqL.of hb, at_int (j := 1) rfl rfl, p, rp, st, a, rfl, ob, q⟩
    | follow a =>
      refine ⟨_, rfl, b, _, _, _, rfl, rfl, SqL.of hb, at_int (j := 0) rfl rfl, rfl, _, rfl, ?_⟩
      refine iteN (by decide) ?_
      refine ⟨_, rfl, b, _, _, _, rfl, rfl, SqL.of hb, at_int (j := 0) rfl rfl, rfl, _, rfl, ?_⟩
      refine iteN (by decide) ?_
      refine ⟨_, rfl, b, _, _, _, rfl, rfl, SqL.of hb, at_int (j := 0) rfl rfl, rfl, _, rfl, ?_⟩
      refine iteN (by decide) ?_
      refine ⟨_, rfl, b, _, _, _, rfl, rfl, SqL.of hb, at_int (j := 0) rfl rfl, rfl, _, rfl, ?_⟩
      refine iteN (by decide) ?_
      refine ⟨_, rfl, b, _, _, _, rfl, rfl, SqL.of hb, at_int (j := 0) rfl rfl, rfl, _, rfl, ?_⟩
      refine iteN (by decide) ?_
      refine ⟨_, rfl, b, _, _, _, rfl, rfl, SqL.of hb, at_int (j := 0) rfl rfl, rfl, _, rfl, ?_⟩
      refine iteY rfl ?_
      exact ⟨_, rfl, p, dx, _, rfl, h1, free_follow _ _ _ _ _ _ _ _ _ _, _, rfl, b, _, _, _, rfl, rfl, SqL.of hb, at_int (j := 1) rfl rfl, p, rp, st, a, rfl, ob, q⟩
    | choose a t =>
      refine ⟨_, rfl, b, _, _, _, rfl, rfl, SqL.of hb, at_int (j := 0) rfl rfl, rfl, _, rfl, ?_⟩
      refine iteN (by decide) ?_
      refine ⟨_, rfl, b, _, _, _, rfl, rfl, SqL.of hb, at_int (j := 0) rfl rfl, rfl, _, rfl, ?_⟩
      refine iteN (by decide) ?_
      refine ⟨_, rfl, b, _, _, _, rfl, rfl, SqL.of hb, at_int (j := 0) rfl rfl, rfl, _, rfl, ?_⟩
      refine iteN (by decide) ?_
      refine ⟨_, rfl, b, _, _, _, rfl, rfl, SqL.of hb, at_int (j := 0) rfl rfl, rfl, _, rfl, ?_⟩
      refine iteN (by decide) ?_
      refine ⟨_, rfl, b, _, _, _, rfl, rfl, SqL.of hb, at_int (j := 0) rfl rfl, rfl, _, rfl, ?_⟩
      refine iteN (by decide) ?_
      refine ⟨_, rfl, b, _, _, _, rfl, rfl, SqL.of hb, at_int (j := 0) rfl rfl, rfl, _, rfl, ?_⟩
      refine iteN (by decide) ?_
      refine ⟨_, rfl, b, _, _, _, rfl, rfl, SqL.of hb, at_int (j := 0) rfl rfl, rfl, _, rfl, ?_⟩
      refine iteY rfl ?_
      exact ⟨_, rfl, p, dx, _, rfl, h1, free_choose _ _ _ _ _ _ _ _ _ _, _, rfl, b, _, _, _, rfl, rfl, SqL.of hb, at_int (j := 1) rfl rfl, _, rfl, b, _, _, _, rfl, rfl, SqL.of hb, at_int (j := 2) rfl rfl, p, rp, st, a, t, rfl, ob, q⟩
    | conflicts =>
      refine ⟨_, rfl, b, _, _, _, rfl, rfl, SqL.of hb, at_int (j := 0) rfl rfl, rfl, _, rfl, ?_⟩
      refine iteN (by decide) ?_
      refine ⟨_, rfl, b, _, _, _, rfl, rfl, SqL.of hb, at_int (j := 0) rfl rfl, rfl, _, rfl, ?_⟩
      refine iteN (by decide) ?_
      refine ⟨_, rfl, b, _, _, _, rfl, rfl, SqL.of hb, at_int (j := 0) rfl rfl, rfl, _, rfl, ?_⟩
      refine iteN (by decide) ?_
      refine ⟨_, rfl, b, _, _, _, rfl, rfl, SqL.of hb, at_int (j := 0) rfl rfl, rfl, _, rfl, ?_⟩
      refine iteN (by decide) ?_
      refine ⟨_, rfl, b, _, _, _, rfl, rfl, SqL.of hb, at_int (j := 0) rfl rfl, rfl, _, rfl, ?_⟩
      refine iteN (by decide) ?_
      refine ⟨_, rfl, b, _, _, _, rfl, rfl, SqL.of hb, at_int (j := 0) rfl rfl, rfl, _, rfl, ?_⟩
      refine iteN (by decide) ?_
      refine ⟨_, rfl, b, _, _, _, rfl, rfl, SqL.of hb, at_int (j := 0) rfl rfl, rfl, _, rfl, ?_⟩
      refine iteN (by decide) ?_
      refine ⟨_, rfl, b, _, _, _, rfl, rfl, SqL.of hb, at_int (j := 0) rfl rfl, rfl, _, rfl, ?_⟩
      refine iteY rfl ?_
      exact ⟨_, rfl, p, dx, _, rfl, h1, free_conflicts _ _ _ _ _ _ _ _ _ _, p, rp, st, rfl, ob, q⟩
    | start =>
      refine ⟨_, rfl, b, _, _, _, rfl, rfl, SqL.of hb, at_int (j := 0) rfl rfl, rfl, _, rfl, ?_⟩
      refine iteN (by decide) ?_
      refine ⟨_, rfl, b, _, _, _, rfl, rfl, SqL.of hb, at_int (j := 0) rfl rfl, rfl, _, rfl, ?_⟩
      refine iteN (by decide) ?_
      refine ⟨_, rfl, b, _, _, _, rfl, rfl, SqL.of hb, at_int (j := 0) rfl rfl, rfl, _, rfl, ?_⟩
      refine iteN (by decide) ?_
      refine ⟨_, rfl, b, _, _, _, rfl, rfl, SqL.of hb, at_int (j := 0) rfl rfl, rfl, _, rfl, ?_⟩
      refine iteN (by decide) ?_
      refine ⟨_, rfl, b, _, _, _, rfl, rfl, SqL.of hb, at_int (j := 0) rfl rfl, rfl, _, rfl, ?_⟩
      refine iteN (by decide) ?_
      refine ⟨_, rfl, b, _, _, _, rfl, rfl, SqL.of hb, at_int (j := 0) rfl rfl, rfl, _, rfl, ?_⟩
      refine iteN (by decide) ?_
      refine ⟨_, rfl, b, _, _, _, rfl, rfl, SqL.of hb, at_int (j := 0) rfl rfl, rfl, _, rfl, ?_⟩
      refine iteN (by decide) ?_
      refine ⟨_, rfl, b, _, _, _, rfl, rfl, SqL.of hb, at_int (j := 0) rfl rfl, rfl, _, rfl, ?_⟩
      refine iteN (by decide) ?_
      refine ⟨_, rfl, b, _, _, _, rfl, rfl, SqL.of hb, at_int (j := 0) rfl rfl, rfl, _, rfl, ?_⟩
      refine iteY rfl ?_
      exact ⟨_, rfl, p, dx, _, rfl, h1, free_start _ _ _ _ _ _ _ _ _ _, p, rp, st, rfl, ob, q⟩
    | next a =>
      refine ⟨_, rfl, b, _, _, _, rfl, rfl, SqL.of hb, at_int (j := 0) rfl rfl, rfl, _, rfl, ?_⟩
      refine iteN (by decide) ?_
      refine ⟨_, rfl, b, _, _, _, rfl, rfl, SqL.of hb, at_int (j := 0) rfl rfl, rfl, _, rfl, ?_⟩
      refine iteN (by decide) ?_
      refine ⟨_, rfl, b, _, _, _, rfl, rfl, SqL.of hb, at_int (j := 0) rfl rfl, rfl, _, rfl, ?_⟩
      refine iteN (by decide) ?_
      refine ⟨_, rfl, b, _, _, _, rfl, rfl, SqL.of hb, at_int (j := 0) rfl rfl, rfl, _, rfl, ?_⟩
      refine iteN (by decide) ?_
      refine ⟨_, rfl, b, _, _, _, rfl, rfl, SqL.of hb, at_int (j := 0) rfl rfl, rfl, _, rfl, ?_⟩
      refine iteN (by decide) ?_
      refine ⟨_, rfl, b, _, _, _, rfl, rfl, SqL.of hb, at_int (j := 0) rfl rfl, rfl, _, rfl, ?_⟩
      refine iteN (by decide) ?_
      refine ⟨_, rfl, b, _, _, _, rfl, rfl, SqL.of hb, at_int (j := 0) rfl rfl, rfl, _, rfl, ?_⟩
      refine iteN (by decide) ?_
      refine ⟨_, rfl, b, _, _, _, rfl, rfl, SqL.of hb, at_int (j := 0) rfl rfl, rfl, _, rfl, ?_⟩
      refine iteN (by decide) ?_
      refine ⟨_, rfl, b, _, _, _, rfl, rfl, SqL.of hb, at_int (j := 0) rfl rfl, rfl, _, rfl, ?_⟩
      refine iteN (by decide) ?_
      refine ⟨_, rfl, b, _, _, _, rfl, rfl, SqL.of hb, at_int (j := 0) rfl rfl, rfl, _, rfl, ?_⟩
      refine iteY rfl ?_
      exact ⟨_, rfl, p, dx, _, rfl, h1, free_take _ _ _ _ _ _ _ _ _ _, _, rfl, b, _, _, _, rfl, rfl, SqL.of hb, at_int (j := 1) rfl rfl, p, rp, st, a, rfl, ob, q⟩
    | expected =>
      refine ⟨_, rfl, b, _, _, _, rfl, rfl, SqL.of hb, at_int (j := 0) rfl rfl, rfl, _, rfl, ?_⟩
      refine iteN (by decide) ?_
      refine ⟨_, rfl, b, _, _, _, rfl, rfl, SqL.of hb, at_int (j := 0) rfl rfl, rfl, _, rfl, ?_⟩
      refine iteN (by decide) ?_
      refine ⟨_, rfl, b, _, _, _, rfl, rfl, SqL.of hb, at_int (j := 0) rfl rfl, rfl, _, rfl, ?_⟩
      refine iteN (by decide) ?_
      refine ⟨_, rfl, b, _, _, _, rfl, rfl, SqL.of hb, at_int (j := 0) rfl rfl, rfl, _, rfl, ?_⟩
      refine iteN (by decide) ?_
      refine ⟨_, rfl, b, _, _, _, rfl, rfl, SqL.of hb, at_int (j := 0) rfl rfl, rfl, _, rfl, ?_⟩
      refine iteN (by decide) ?_
      refine ⟨_, rfl, b, _, _, _, rfl, rfl, SqL.of hb, at_int (j := 0) rfl rfl, rfl, _, rfl, ?_⟩
      refine iteN (by decide) ?_
      refine ⟨_, rfl, b, _, _, _, rfl, rfl, SqL.of hb, at_int (j := 0) rfl rfl, rfl, _, rfl, ?_⟩
      refine iteN (by decide) ?_
      refine ⟨_, rfl, b, _, _, _, rfl, rfl, SqL.of hb, at_int (j := 0) rfl rfl, rfl, _, rfl, ?_⟩
      refine iteN (by decide) ?_
      refine ⟨_, rfl, b, _, _, _, rfl, rfl, SqL.of hb, at_int (j := 0) rfl rfl, rfl, _, rfl, ?_⟩
      refine iteN (by decide) ?_
      refine ⟨_, rfl, b, _, _, _, rfl, rfl, SqL.of hb, at_int (j := 0) rfl rfl, rfl, _, rfl, ?_⟩
      refine iteN (by decide) ?_
      exact ⟨_, rfl, p, dx, _, rfl, h1, free_expected _ _ _ _ _ _ _ _ _ _, p, rp, st, rfl, ob, q⟩
end
end Gk

set_option Elab.async false
set_option linter.all false
set_option maxRecDepth 100000
set_option maxHeartbeats 4000000
namespace Gk
open PySem PySem.Spec PyProof.Rows L2 Gm
/-- the heap without one object -/
def del (q : Addr) (H : Hp) : Hp := fun b => if b = q then none else H b
theorem del_ne {q b : Addr} {H : Hp} (h : b ≠ q) : del q H b = H b := by
  unfold del
  rw [if_neg h]
theorem del_same {q : Addr} {H : Hp} : del q H q = none := by
  unfold del
  rw [if_pos rfl]
theorem del_upd {q : Addr} {H : Hp} {o : HO} : del q (upd H q o) = del q H := by
  funext b
  unfold del
  by_cases h : b = q
  · rw [if_pos h, if_pos h]
  · rw [if_neg h, if_neg h, upd_ne h]
theorem same_del {q : Addr} {H : Hp} {o : HO} : Same (del q H) (upd H q o) := fun b u z => by
  have h : b ≠ q := by
    intro e
    subst e
    rw [del_same] at z
    cases z
  rw [upd_ne h]
  rw [del_ne h] at z
  exact z
/-- an object that stands in a heap where q is locked stands there without q -/
theorem ObjAt.without {C : Addr} {H : Hp} {p rp q : Addr} {s : Ll.State} {od : Obj} {u : HO} (h : ObjAt C H p rp s) (hq : H q = some (.frz od u)) : ObjAt C (del q H) p rp s := by
  refine h.keep (fun o z => ?_) (fun b o z => ?_)
  · obtain ⟨dx, np, fp, op, cp, kp, tc, h1, _⟩ := h
    rw [del_ne (ne_of h1 hq (by intro e; cases e))]
    exact z
  · obtain ⟨z1, ⟨xs, rfl⟩ | ⟨xs, rfl⟩⟩ := only_some z
    · rw [del_ne (ne_of z1 hq (by intro e; cases e))]
      exact z1
    · rw [del_ne (ne_of z1 hq (by intro e; cases e))]
      exact z1
theorem vI_app (x y : List Int) : vI (x ++ y) = vI x ++ vI y := by
  unfold vI
  rw [List.map_append]
theorem vI_len (x : List Int) : (vI x).length = x.length := by simp [vI]
theorem cut_mid (pre y rest : List Nat) : cutV (vN (pre ++ (y ++ rest))) (some (pre.length : Int)) (some ((pre.length + y.length : Nat) : Int)) = vN y := by
  unfold cutV
  rw [HT.sIx_nat, HT.sIx_nat, vN_len, List.length_append, List.length_append, Nat.min_eq_left (by omega), Nat.min_eq_left (by omega), Nat.add_sub_cancel_left, vN_app, vN_app]
  rw [List.drop_append_of_le_length (by rw [vN_len]; exact Nat.le_refl _), ← vN_len pre, List.drop_length, List.nil_append, List.take_append_of_le_length (by rw [vN_len]; exact Nat.le_refl _), ← vN_len y, List.take_length]
section
variable {P : Program} {w : World} {K : PySem.W.Frag} {mg : Str → Option Value} {base : Heap} {C : Addr}
/-! ### answers -/
abbrev s_answers : Stmt := top 48
theorem sc_answers : FnScope ["calls", "grammar", "given", "place", "behind", "numbers"] ["calls"] (defScope s_answers) := ⟨rfl, rfl, rfl, by decide +kernel, rfl, by decide +kernel, by decide +kernel⟩
def spAnswers (K : PySem.W.Frag) : Sp := fun vs H Q _ => ∃ (a : Addr) (xs : List Ll.Call), vs = [.ref a] ∧ SqL K H a (vN (xs.flatMap flat)) ∧ xs.length ≤ 400 ∧ ∀ (H' : Hp) (q : Addr), H' q = some (.lst (vI (run Ll.start xs))) → Q (.ref q) H'
theorem ok_answers {f fI f1 f2 : Addr} {fd fdI fd1 fd2 : FuncData} (T : Txt K mg C) (hC : mg "Grammar" = some (.ref C)) (Mk0 : Mk K C fI) (bI : Binds K fdI ["self"] []) (GI : FnOk P w K mg base CX0 2 fI fdI ["self"] (spInit C))
    (F1 : Def K mg "place_behind" s_place ["calls", "place"] f1 fd1) (G1' : FnOk P w K mg base CX0 1 f1 fd1 ["calls", "place"] (spPlace K)) (F2 : Def K mg "answer" s_answer ["grammar", "call"] f2 fd2) (G2 : FnOk P w K mg base CX0 6 f2 fd2 ["grammar", "call"] (spAnswer C))
    (F : Def K mg "answers" s_answers ["calls"] f fd) : FnOk P w K mg base CX0 7 f fd ["calls"] (spAnswers K) := by
  have G1 : FnOk P w K mg base CX0 6 f1 fd1 ["calls", "place"] (spPlace K) := G1'.mono (by decide)
  refine F.fn.ok sc_answers (fun vs H Q E h => ?_) (fun cdv A outer s H vs Q E hr h => ?_)
  · obtain ⟨a, xs, rfl, _⟩ := h
    rfl
  · obtain ⟨a, xs, rfl, hS, hxs, k⟩ := h
    have hr3 : Room 3 _ := hr.mono (by decide)
    refine ⟨_, (pss_cons (ps_set (i := 1) sc_answers.nd rfl (Or.inl rfl) (pe_make0 Mk0 GI hr3 rfl hC bI .nil pass0))
      (pss_cons (ps_set (i := 2) sc_answers.nd rfl (Or.inl rfl) (pe_lst pa_nil))
      (pss_cons (ps_set (i := 3) sc_answers.nd rfl (Or.inl rfl) pe_int)
      (pss_cons (ps_while PassesOwn.never (pt_cmpR op_lt (pv 3) (pe_callB call_len_seq (by rfl) T.len PySem.boot_len (pa_cons (pv 0) pa_nil)) (nomark _))
      (pss_cons (ps_set (i := 4) sc_answers.nd rfl (Or.inl rfl) (pe_call G1 hr rfl F1.mg F1.fn.kp F1.b .nil pass0 (pa_cons (pv 0) (pa_cons (pv 3) pa_nil))))
      (pss_cons (ps_set (i := 5) sc_answers.nd rfl (Or.inl rfl) (pe_lock (pe_call G2 hr rfl F2.mg F2.fn.kp F2.b .nil pass0 (pa_cons (pv 1) (pa_cons (pe_slice sl_list (pv 0) (po_some (pv 3)) (po_some (pv 4))) pa_nil)))))
      (pss_cons (ps_expr (pe_bm PySem.F.plainAttrs_list PySem.F.slot_list_append PySem.F.type_list_append mt_append (pv 2) (pa_cons (pe_callB call_len_seq (by rfl) T.len PySem.boot_len (pa_cons (pv 5) pa_nil)) pa_nil)))
      (pss_cons (ps_expr (pe_bm PySem.F.plainAttrs_list PySem.F.slot_list_extend PySem.F.type_list_extend mt_extend (pv 2) (pa_cons (pv 5) pa_nil)))
      (pss_one (ps_set (i := 3) sc_answers.nd rfl (Or.inl rfl) (pv 4))))))))
      (pss_one (ps_ret (pv 2))))))), ?_⟩
    -- grammar = Grammar()
    intro p dx np ndx ne
    refine ⟨p, dx, rfl, upd_same, fun rp H1 hrp B1 ob1 => ⟨rfl, ?_⟩⟩
    have s1 : Same H H1 := fun b o z => by
      have h1 : b ≠ p := ne_of_none z np
      have h2 : b ≠ dx := ne_of_none z ndx
      refine B1 b o ?_ h1
      rw [upd_ne h1, upd_ne h2]
      exact z
    have frp : H rp = none := by
      by_cases z : rp = p
      · rw [z]; exact np
      · rw [upd_ne z] at hrp
        by_cases z2 : rp = dx
        · rw [z2]; exact ndx
        · rw [upd_ne z2] at hrp
          exact hrp
    -- given = []; place = 0
    refine ⟨Nat.zero_le _, fun q hq => ?_⟩
    have fq : H q = none := s1.free hq
    have ob2 : ObjAt C (del q (upd H1 q (.lst []))) p rp Ll.start := by
      rw [del_upd]
      refine ob1.same fun b o z => ?_
      rw [del_ne (ne_of_none z hq)]
      exact z
    refine ⟨fun m σ H' => ∃ (pre : List Nat) (rest : List Ll.Call) (st : Ll.State) (given : List Int) (rp : Addr) (v4 v5 : Option V), σ = [some (.ref a), some (.ref p), some (.ref q), some (.int (pre.length : Int)), v4, v5] ∧ Same H H' ∧ H rp = none ∧ ObjAt C (del q H') p rp st ∧ H' q = some (.lst (vI given)) ∧
        xs.flatMap flat = pre ++ rest.flatMap flat ∧ run Ll.start xs = given ++ run st rest ∧ given.length + 9001 * rest.length ≤ 9001 * 400 ∧ m = rest.length,
      ⟨_, [], xs, Ll.start, [], rp, none, none, rfl, same_upd s1 fq, frp, ob2, upd_same, rfl, rfl, by simp; omega, rfl⟩, ?_⟩
    rintro m σ H2 ⟨pre, rest, st, given, rp, v4, v5, rfl, s2, frp, ob, hq2, hflat, hrun, hlen, rfl⟩
    have hS2 := s2.seq hS
    refine ⟨_, rfl, _, rfl, a, _, rfl, .inl hS2, _, _, rfl, rfl, _, rfl, ?_⟩
    rw [vN_len]
    have hl0 : (xs.flatMap flat).length = pre.length + (rest.flatMap flat).length := by rw [hflat, List.length_append]
    cases rest with
    | nil =>
      rw [show decide ((pre.length : Int) < ((xs.flatMap flat).length : Int)) = false from decide_eq_false (by rw [hl0]; simp)]
      refine iteF ⟨_, rfl, k H2 q ?_⟩
      rw [hrun, hq2]
      show _ = some (HO.lst (vI (given ++ [])))
      rw [List.append_nil]
    | cons x r =>
      have hpos := flat_pos x
      rw [show decide ((pre.length : Int) < ((xs.flatMap flat).length : Int)) = true from decide_eq_true (by rw [hl0, List.flatMap_cons, List.length_append]; omega)]
      rw [hflat, List.flatMap_cons] at hS2
      rw [List.length_cons] at hlen
      refine iteT ⟨fun σ' H' => ∃ (pre : List Nat) (st : Ll.State) (given : List Int) (rp : Addr) (v4 v5 : Option V), σ' = [some (.ref a), some (.ref p), some (.ref q), some (.int (pre.length : Int)), v4, v5] ∧ Same H H' ∧ H rp = none ∧ ObjAt C (del q H') p rp st ∧ H' q = some (.lst (vI given)) ∧
          xs.flatMap flat = pre ++ r.flatMap flat ∧ run Ll.start xs = given ++ run st r ∧ given.length + 9001 * r.length ≤ 9001 * 400, ?_, ?_⟩
      · rintro σ' H' ⟨pre', st', given', rp', v4', v5', e1, e2, e3, e4, e5, e6, e7, e8⟩
        exact ⟨r.length, by rw [List.length_cons]; omega, pre', r, st', given', rp', v4', v5', e1, e2, e3, e4, e5, e6, e7, e8, rfl⟩
      -- behind = place_behind(calls, place)
      refine ⟨_, rfl, _, rfl, a, pre, r.flatMap flat, x, rfl, hS2, ?_⟩
      -- numbers = answer(grammar, calls[place:behind]), given locked
      refine ⟨q, _, hq2, True.intro, fun od => ?_⟩
      have sL : Same H (upd H2 q (.frz od (.lst (vI given)))) := same_upd s2 fq
      have qL : (upd H2 q (.frz od (.lst (vI given)))) q = some (.frz od (.lst (vI given))) := upd_same
      have obL : ObjAt C (upd H2 q (.frz od (.lst (vI given)))) p rp st := ob.same same_del
      have hSL : SqL K (upd H2 q (.frz od (.lst (vI given)))) a (vN (pre ++ (flat x ++ r.flatMap flat))) := by
        have := sL.seq hS
        rw [hflat, List.flatMap_cons] at this
        exact this
      have dL : del q (upd H2 q (.frz od (.lst (vI given)))) = del q H2 := del_upd
      generalize upd H2 q (.frz od (.lst (vI given))) = HL at sL qL obL hSL dL ⊢
      refine ⟨_, rfl, _, rfl, _, rfl, _, rfl, _, rfl, _, rfl, a, _, rfl, hSL, fun c hc => ?_⟩
      rw [cut_mid]
      have sc : Same HL (upd HL c (.lst (vN (flat x)))) := same_upd (Same.refl HL) hc
      refine ⟨p, rp, c, st, x, rfl, obL.same sc, upd_same, fun l rp' H3 hl fr hrp' ob3 e3 => ?_⟩
      have hnpq : q ≠ p := by
        obtain ⟨dx', _, _, _, _, _, _, z, _⟩ := obL
        exact ne_of qL z (by intro y; cases y)
      have hnrq : q ≠ rp := by
        obtain ⟨dx', _, _, _, _, _, _, _, _, ⟨as, z, _⟩, _⟩ := obL
        exact ne_of qL z (by intro y; cases y)
      have q3 : H3 q = some (.frz od (.lst (vI given))) := fr q _ (sc _ _ qL) hnpq hnrq
      have s3 : Same H H3 := fun b o z => fr b o (sc _ _ (sL _ _ z)) (fun y => by
        subst y
        rw [np] at z
        cases z) (fun y => by
        subst y
        rw [frp] at z
        cases z)
      have frp' : H rp' = none := by
        rcases hrp' with y | y
        · rw [y]; exact frp
        · exact sL.free (sc.free y)
      have nql : l ≠ q := by
        intro y
        subst y
        rw [sc _ _ qL] at hl
        cases hl
      have wf : WF st.g := by
        obtain ⟨_, _, _, _, _, _, _, _, z, _⟩ := ob
        exact z
      have hsl := step_len wf x
      have ob4 := ob3.without q3
      generalize hst : (Ll.step st x).1 = st' at ob3 ob4
      generalize hsh : LlNeutral.shown (Ll.step st x).2 = ans at e3 hsl
      refine ⟨q3, ?_⟩
      -- given.append(len(numbers))
      have e4 : (upd H3 q (.lst (vI given))) l = some (.lst (vI ans)) := by rw [upd_ne nql]; exact e3
      refine ⟨_, rfl, .inl ⟨rfl, _, SqL.of upd_same⟩, _, rfl, l, _, rfl, .inl (SqL.of e4), q, _, _, rfl, rfl, upd_same, (by rw [vI_len]; exact Nat.lt_of_lt_of_le (show given.length < 4000000 by omega) (by decide)), ?_⟩
      -- given.extend(numbers)
      rw [upd_upd]
      have e5 : (upd H3 q (.lst (vI given ++ [.int ((vI ans).length : Int)]))) l = some (.lst (vI ans)) := by rw [upd_ne nql]; exact e3
      refine ⟨_, rfl, .inl ⟨rfl, _, SqL.of upd_same⟩, _, rfl, q, l, _, _, rfl, rfl, upd_same, e5, ?_, ?_⟩
      · rw [List.length_append, vI_len, vI_len, List.length_singleton]
        exact Nat.le_trans (show given.length + 1 + ans.length ≤ 4000000 by omega) (by decide)
      rw [upd_upd]
      -- place = behind
      refine ⟨_, rfl, pre ++ flat x, st', given ++ ((ans.length : Int) :: ans), rp', some (.int ((pre.length + (flat x).length : Nat) : Int)), some (.ref l), ?_, same_upd s3 fq, frp', ?_, ?_, ?_, ?_, ?_⟩
      · rw [List.length_append]
        rfl
      · rw [del_upd]
        exact ob4
      · rw [upd_same, vI_app, vI_len, List.append_assoc]
        rfl
      · rw [hflat, List.flatMap_cons, List.append_assoc]
      · rw [hrun]
        show given ++ ((((LlNeutral.shown (Ll.step st x).2).length : Int) :: LlNeutral.shown (Ll.step st x).2) ++ run (Ll.step st x).1 r) = _
        rw [hst, hsh, List.append_assoc]
      · rw [List.length_append, List.length_cons]
        omega
end
end Gk

section
set_option Elab.async false
set_option linter.all false
set_option maxRecDepth 100000
set_option maxHeartbeats 2000000
namespace L2
open PySem PySem.Spec PyProof.Rows
open PySem.W (WData Codec OpenSpec Well WellAll ReadsW ReadsAllW)
/-! ### an answer as data -/
mutual
/-- x stands for the datum d, lists and tuples all the way -/
inductive Dw (K : PySem.W.Frag) (H : Hp) : V → WData → Prop
  | non : Dw K H .non .none
  | bl (b : Bool) : Dw K H (.bl b) (.bool b)
  | int (i : Int) : Dw K H (.int i) (.int i)
  | str (x : Str) : Dw K H (.str x) (.str x)
  | byt (b : Array UInt8) : Dw K H (.byt b) (.bytes b.toList)
  | lst {a : Addr} {xs : List V} {ds : List WData} : SqL K H a xs → DwAll K H xs ds → Dw K H (.ref a) (.list ds)
  | tup {a : Addr} {xs : List V} {ds : List WData} : SqT K H a xs → DwAll K H xs ds → Dw K H (.ref a) (.tuple ds)
inductive DwAll (K : PySem.W.Frag) (H : Hp) : List V → List WData → Prop
  | nil : DwAll K H [] []
  | cons {v : V} {vs : List V} {d : WData} {ds : List WData} : Dw K H v d → DwAll K H vs ds → DwAll K H (v :: vs) (d :: ds)
end
theorem dw_ints {K : PySem.W.Frag} {H : Hp} : ∀ ns : List Int, DwAll K H (ns.map V.int) (ns.map WData.int)
  | [] => .nil
  | n :: r => .cons (.int n) (dw_ints r)
theorem ints_dw {K : PySem.W.Frag} {H : Hp} : ∀ (ns : List Int) (xs : List V), DwAll K H xs (ns.map WData.int) → xs = ns.map V.int
  | [], xs, h => by
    cases h
    rfl
  | n :: r, xs, h => by
    cases h with
    | cons h1 h2 =>
      cases h1
      rw [ints_dw r _ h2] <;> rfl
section
variable {P : Program} {w : World} {K : PySem.W.Frag} {H : Hp} {h : Heap} {R : PySem.W.WRecords} {cl : Str → Option Addr}
theorem sqL_at {a : Addr} {xs : List V} (hok : HOk P w H h) (KX : K.In h) (q : SqL K H a xs) : ∃ (its : List Value) (o : Obj) (n : Nat), Vals xs its ∧ h.get? a = some o ∧ o.cls = .type "list" ∧ o.data = .seq its.toArray n := by
  rcases q with q | ⟨o, its, n, e, hc, _, hd, _, hv⟩
  · obtain ⟨_, its, n, hv, e⟩ := (show ObjOk P w H h a (.lst xs) from q.ok hok)
    exact ⟨its, _, n, hv, e, rfl, rfl⟩
  · exact ⟨its.toList, o, n, hv, KX _ _ e, hc, by simp [hd]⟩
theorem sqT_at {a : Addr} {xs : List V} (hok : HOk P w H h) (KX : K.In h) (q : SqT K H a xs) : ∃ (its : List Value) (o : Obj) (n : Nat), Vals xs its ∧ h.get? a = some o ∧ o.cls = .type "tuple" ∧ o.data = .seq its.toArray n := by
  rcases q with q | ⟨o, its, n, e, hc, hd, _, hv⟩
  · obtain ⟨_, its, hv, o, e, hc, n, hd⟩ := (show ObjOk P w H h a (.tup xs) from q.ok hok)
    exact ⟨its, o, n, hv, e, hc, hd⟩
  · exact ⟨its.toList, o, n, hv, KX _ _ e, hc, by simp [hd]⟩
mutual
theorem Dw.reads (hok : HOk P w H h) (KX : K.In h) : ∀ (d : WData) (v : V) (u : Value), Dw K H v d → RelV v u → ∃ as, ReadsW R cl h u d as
  | .none, _, _, x, r => by
    cases x
    cases r
    exact ⟨_, ReadsW.none⟩
  | .bool b, _, _, x, r => by
    cases x
    cases r
    exact ⟨_, ReadsW.bool b⟩
  | .int i, _, _, x, r => by
    cases x
    obtain ⟨t, rfl⟩ := r
    exact ⟨_, ReadsW.int i t⟩
  | .str s, _, _, x, r => by
    cases x
    obtain ⟨t, rfl⟩ := r
    exact ⟨_, ReadsW.str s t⟩
  | .bytes b, _, _, x, r => by
    cases x
    obtain ⟨t, rfl⟩ := r
    exact ⟨_, ReadsW.bytes _ t⟩
  | .list ds, _, _, x, r => by
    cases x with
    | lst hs ha =>
      cases r
      obtain ⟨its, o, n, rv, ho, hc, hd⟩ := sqL_at hok KX hs
      obtain ⟨as, hr⟩ := Dw.readsAll hok KX ds _ its ha rv
      exact ⟨_, ReadsW.list ho hc hd hr⟩
  | .tuple ds, _, _, x, r => by
    cases x with
    | tup hs ha =>
      cases r
      obtain ⟨its, o, n, rv, ho, hc, hd⟩ := sqT_at hok KX hs
      obtain ⟨as, hr⟩ := Dw.readsAll hok KX ds _ its ha rv
      exact ⟨_, ReadsW.tuple ho hc hd hr⟩
  | .float _, _, _, x, _ => by cases x
  | .dict _, _, _, x, _ => by cases x
  | .bytearray _, _, _, x, _ => by cases x
  | .set _, _, _, x, _ => by cases x
  | .frozenset _, _, _, x, _ => by cases x
  | .obj _ _, _, _, x, _ => by cases x
theorem Dw.readsAll (hok : HOk P w H h) (KX : K.In h) : ∀ (ds : List WData) (vs : List V) (us : List Value), DwAll K H vs ds → Vals vs us → ∃ as, ReadsAllW R cl h us ds as
  | [], _, _, x, r => by
    cases x
    cases r
    exact ⟨_, ReadsAllW.nil⟩
  | d :: ds, _, _, x, r => by
    cases x with
    | cons h1 h2 =>
      cases r with
      | cons r1 r2 =>
        obtain ⟨as, q1⟩ := Dw.reads hok KX d _ _ h1 r1
        obtain ⟨bs, q2⟩ := Dw.readsAll hok KX ds _ _ h2 r2
        exact ⟨_, ReadsAllW.cons q1 q2⟩
end
end
/-! ### the arguments -/
mutual
/-- data that a codec tells -/
def plW : WData → Bool
  | .none => true
  | .bool _ => true
  | .int _ => true
  | .str _ => true
  | .bytes _ => true
  | .list xs => plWs xs
  | .tuple xs => plWs xs
  | _ => false
def plWs : List WData → Bool
  | [] => true
  | x :: r => plW x && plWs r
end
theorem plWs_map {α : Type} {f : α → WData} (h : ∀ a, plW (f a) = true) : ∀ l : List α, plWs (l.map f) = true
  | [] => rfl
  | x :: r => by
    show (plW (f x) && plWs (r.map f)) = true
    rw [h x, plWs_map h r] <;> rfl
theorem pl_enc : ∀ (c : Codec) (a : c.denote), plW (c.enc a) = true
  | .unit, _ => rfl
  | .bool, _ => rfl
  | .int _ _, _ => rfl
  | .nat _ _, _ => rfl
  | .u8, _ => rfl
  | .bytes _ _, _ => rfl
  | .text _ _ _ _, _ => rfl
  | .list _ _ c, a => plWs_map (fun x => pl_enc c x) a
  | .pair c d, a => by
    show (plW (c.enc a.1) && (plW (d.enc a.2) && true)) = true
    rw [pl_enc c a.1, pl_enc d a.2] <;> rfl
  | .triple c d e, a => by
    show (plW (c.enc a.1) && (plW (d.enc a.2.1) && (plW (e.enc a.2.2) && true))) = true
    rw [pl_enc c a.1, pl_enc d a.2.1, pl_enc e a.2.2] <;> rfl
  | .option c, none => rfl
  | .option c, some x => pl_enc c x
theorem pl_encAll : ∀ (cs : List Codec) (a : Codec.denoteAll cs), plWs (Codec.encAll cs a) = true
  | [], _ => rfl
  | c :: cs, a => by
    show (plW (c.enc a.1) && plWs (Codec.encAll cs a.2)) = true
    rw [pl_enc c a.1, pl_encAll cs a.2] <;> rfl
theorem weight_mem : ∀ {xs : List WData} {d : WData}, d ∈ xs → d.weight ≤ WData.weightAll xs
  | [], d, h => absurd h (by simp)
  | x :: r, d, h => by
    show d.weight ≤ x.weight + 1 + WData.weightAll r
    rcases List.mem_cons.mp h with e | m
    · rw [e]
      omega
    · have z := weight_mem m
      omega
def toV : Value → V
  | .none => .non
  | .bool b => .bl b
  | .int i _ => .int i
  | .str x _ => .str x
  | .bytes b _ => .byt b
  | .ref a => .ref a
  | _ => .non
/-- a value of the arguments, its objects among A -/
def OkU (A : List Addr) : Value → Prop
  | .none => True
  | .bool _ => True
  | .int _ _ => True
  | .str _ _ => True
  | .bytes _ _ => True
  | .ref a => a ∈ A
  | _ => False
theorem OkU.mono {A B : List Addr} (h : ∀ a ∈ A, a ∈ B) : ∀ {u : Value}, OkU A u → OkU B u := fun {u} x => by
  cases u with
  | ref a => exact h a x
  | none => trivial
  | bool b => trivial
  | int i t => trivial
  | str s t => trivial
  | bytes b t => trivial
  | _ => exact False.elim x
theorem relV_toV {A : List Addr} {u : Value} (x : OkU A u) : RelV (toV u) u := by
  cases u with
  | ref a => rfl
  | none => rfl
  | bool b => rfl
  | int i t => exact ⟨t, rfl⟩
  | str s t => exact ⟨t, rfl⟩
  | bytes b t => exact ⟨t, rfl⟩
  | _ => exact False.elim x
theorem vals_toV {A : List Addr} : ∀ {vs : List Value}, (∀ u ∈ vs, OkU A u) → Vals (vs.map toV) vs
  | [], _ => .nil
  | u :: r, h => .cons (relV_toV (h u (List.mem_cons_self ..))) (vals_toV fun x hx => h x (List.mem_cons_of_mem _ hx))
/-- an object of the arguments -/
def ArgOb (h : Heap) (A : List Addr) (a : Addr) : Prop := ∃ vs : List Value, vs.length ≤ sizeLine ∧ (∀ u ∈ vs, OkU A u) ∧
  (h.get? a = some { cls := .type "list", data := .seq vs.toArray } ∨ h.get? a = some { cls := .type "tuple", data := .seq vs.toArray })
theorem ArgOb.mono {h : Heap} {A B : List Addr} {a : Addr} (k : ∀ a ∈ A, a ∈ B) (x : ArgOb h A a) : ArgOb h B a := by
  obtain ⟨vs, h1, h2, h3⟩ := x
  exact ⟨vs, h1, fun u hu => (h2 u hu).mono k, h3⟩
theorem wellAll_len {P : Params} {h : Heap} : ∀ {vs : List Value} {ds : List WData}, WellAll P h vs ds → vs.length = ds.length
  | _, _, .nil => rfl
  | _, _, .cons _ b => by
    show _ + 1 = _ + 1
    rw [wellAll_len b]
theorem well_list {P : Params} {h : Heap} {v : Value} {ds : List WData} (x : Well P h v (.list ds)) : ∃ (a : Addr) (vs : List Value), v = .ref a ∧ h.get? a = some { cls := .type "list", data := .seq vs.toArray } ∧ WellAll P h vs ds := by
  cases x with
  | list ho hall => exact ⟨_, _, rfl, ho, hall⟩
theorem well_tuple {P : Params} {h : Heap} {v : Value} {ds : List WData} (x : Well P h v (.tuple ds)) : ∃ (a : Addr) (vs : List Value), v = .ref a ∧ h.get? a = some { cls := .type "tuple", data := .seq vs.toArray } ∧ WellAll P h vs ds := by
  cases x with
  | tuple ho hall => exact ⟨_, _, rfl, ho, hall⟩
theorem well_cons {P : Params} {h : Heap} {us : List Value} {d : WData} {ds : List WData} (x : WellAll P h us (d :: ds)) : ∃ (v : Value) (vs : List Value), us = v :: vs ∧ Well P h v d ∧ WellAll P h vs ds := by
  cases x with
  | cons a b => exact ⟨_, _, rfl, a, b⟩
theorem line_of {n : Nat} (h : n ≤ 1048576) : n ≤ sizeLine := Nat.le_trans h (by decide)
section
variable {P : Params} {h : Heap}
mutual
theorem area_one : ∀ (d : WData) (v : Value), Well P h v d → plW d = true → d.weight ≤ 1048576 → ∃ A : List Addr, OkU A v ∧ ∀ a ∈ A, ArgOb h A a
  | .none, _, x, _, _ => by
    cases x
    exact ⟨[], trivial, fun a m => absurd m (by simp)⟩
  | .bool b, _, x, _, _ => by
    cases x
    exact ⟨[], trivial, fun a m => absurd m (by simp)⟩
  | .int i, _, x, _, _ => by
    cases x
    exact ⟨[], trivial, fun a m => absurd m (by simp)⟩
  | .str s, _, x, _, _ => by
    cases x
    exact ⟨[], trivial, fun a m => absurd m (by simp)⟩
  | .bytes b, _, x, _, _ => by
    cases x
    exact ⟨[], trivial, fun a m => absurd m (by simp)⟩
  | .list ds, _, x, p, z => by
    obtain ⟨a, vs, rfl, ho, hall⟩ := well_list x
    have z2 : WData.weightAll ds ≤ 1048576 := z
    obtain ⟨A, h1, h2⟩ := area_all ds _ hall p fun d hd => Nat.le_trans (weight_mem hd) z2
    have k : ∀ b ∈ A, b ∈ a :: A := fun b hb => List.mem_cons_of_mem _ hb
    refine ⟨a :: A, List.mem_cons_self .., fun b hb => ?_⟩
    rcases List.mem_cons.mp hb with e | m
    · rw [e]
      exact ⟨vs, line_of (by rw [wellAll_len hall]; exact Nat.le_trans (PySem.W.length_le_weightAllW ds) z2), fun u hu => (h1 u hu).mono k, .inl ho⟩
    · exact (h2 b m).mono k
  | .tuple ds, _, x, p, z => by
    obtain ⟨a, vs, rfl, ho, hall⟩ := well_tuple x
    have z2 : WData.weightAll ds ≤ 1048576 := z
    obtain ⟨A, h1, h2⟩ := area_all ds _ hall p fun d hd => Nat.le_trans (weight_mem hd) z2
    have k : ∀ b ∈ A, b ∈ a :: A := fun b hb => List.mem_cons_of_mem _ hb
    refine ⟨a :: A, List.mem_cons_self .., fun b hb => ?_⟩
    rcases List.mem_cons.mp hb with e | m
    · rw [e]
      exact ⟨vs, line_of (by rw [wellAll_len hall]; exact Nat.le_trans (PySem.W.length_le_weightAllW ds) z2), fun u hu => (h1 u hu).mono k, .inr ho⟩
    · exact (h2 b m).mono k
  | .float _, _, _, p, _ => Bool.noConfusion (show false = true from p)
  | .dict _, _, _, p, _ => Bool.noConfusion (show false = true from p)
  | .bytearray _, _, _, p, _ => Bool.noConfusion (show false = true from p)
  | .set _, _, _, p, _ => Bool.noConfusion (show false = true from p)
  | .frozenset _, _, _, p, _ => Bool.noConfusion (show false = true from p)
  | .obj _ _, _, _, p, _ => Bool.noConfusion (show false = true from p)
theorem area_all : ∀ (ds : List WData) (vs : List Value), WellAll P h vs ds → plWs ds = true → (∀ d ∈ ds, d.weight ≤ 1048576) → ∃ A : List Addr, (∀ u ∈ vs, OkU A u) ∧ ∀ a ∈ A, ArgOb h A a
  | [], _, x, _, _ => by
    cases x
    exact ⟨[], fun u m => absurd m (by simp), fun a m => absurd m (by simp)⟩
  | d :: ds, _, x, p, z => by
    obtain ⟨v, vs, rfl, x1, x2⟩ := well_cons x
    have q : plW d = true ∧ plWs ds = true := Bool.and_eq_true_iff.mp p
    obtain ⟨A, a1, a2⟩ := area_one d v x1 q.1 (z d (List.mem_cons_self ..))
    obtain ⟨B, b1, b2⟩ := area_all ds vs x2 q.2 fun e he => z e (List.mem_cons_of_mem _ he)
    have kA : ∀ b ∈ A, b ∈ A ++ B := fun b hb => List.mem_append.mpr (.inl hb)
    have kB : ∀ b ∈ B, b ∈ A ++ B := fun b hb => List.mem_append.mpr (.inr hb)
    refine ⟨A ++ B, fun u hu => ?_, fun b hb => ?_⟩
    · rcases List.mem_cons.mp hu with e | m
      · rw [e]
        exact a1.mono kA
      · exact (b1 u m).mono kB
    · rcases List.mem_append.mp hb with m | m
      · exact (a2 b m).mono kA
      · exact (b2 b m).mono kB
end
end
/-- what is tracked of an argument's object -/
def hoOf (o : Obj) : Option HO := match o.data with
  | .seq vs _ => if (o.cls == Value.type "list") = true then some (.frz o (.lst (vs.toList.map toV))) else some (.frz o (.tup (vs.toList.map toV)))
  | _ => none
def argH (K : PySem.W.Frag) (h : Heap) (A : List Addr) : Hp := fun b => if b ∈ A then (if (K.lookup b).isNone = true then (h.get? b).bind hoOf else none) else none
/-- nothing is tracked but what is known to the object -/
def OnlyF (H : Hp) : Prop := ∀ b, H b = none ∨ ∃ o u, H b = some (.frz o u)
theorem hoOf_lst (vs : List Value) : hoOf { cls := .type "list", data := .seq vs.toArray } = some (.frz { cls := .type "list", data := .seq vs.toArray } (.lst (vs.map toV))) := by
  show (if (Value.type "list" == Value.type "list") = true then some (HO.frz { cls := .type "list", data := .seq vs.toArray } (.lst (vs.toArray.toList.map toV))) else some (HO.frz { cls := .type "list", data := .seq vs.toArray } (.tup (vs.toArray.toList.map toV)))) = _
  rw [if_pos (beq_self_eq_true _)]
theorem hoOf_tup (vs : List Value) : hoOf { cls := .type "tuple", data := .seq vs.toArray } = some (.frz { cls := .type "tuple", data := .seq vs.toArray } (.tup (vs.map toV))) := by
  show (if (Value.type "tuple" == Value.type "list") = true then some (HO.frz { cls := .type "tuple", data := .seq vs.toArray } (.lst (vs.toArray.toList.map toV))) else some (HO.frz { cls := .type "tuple", data := .seq vs.toArray } (.tup (vs.toArray.toList.map toV)))) = _
  rw [if_neg (by decide)]
section
variable {P : Program} {w : World} {K : PySem.W.Frag} {h : Heap} {A : List Addr}
theorem argH_at {b : Addr} {o : Obj} (hb : b ∈ A) (hk : K.lookup b = none) (e : h.get? b = some o) : argH K h A b = hoOf o := by
  unfold argH
  rw [if_pos hb, hk, if_pos (show (none : Option Obj).isNone = true from rfl), e] <;> rfl
theorem of_argH {b : Addr} {u : HO} (q : argH K h A b = some u) : b ∈ A ∧ K.lookup b = none := by
  unfold argH at q
  by_cases hb : b ∈ A
  · rw [if_pos hb] at q
    cases hk : K.lookup b with
    | none => exact ⟨hb, rfl⟩
    | some o =>
      rw [hk, if_neg (by simp)] at q
      cases q
  · rw [if_neg hb] at q
    cases q
/-- what stands tracked -/
theorem argH_is (ar : ∀ a ∈ A, ArgOb h A a) {b : Addr} {u : HO} (q : argH K h A b = some u) : K.lookup b = none ∧ ∃ vs : List Value, vs.length ≤ sizeLine ∧ (∀ u ∈ vs, OkU A u) ∧
    ((h.get? b = some { cls := .type "list", data := .seq vs.toArray } ∧ u = .frz { cls := .type "list", data := .seq vs.toArray } (.lst (vs.map toV))) ∨
     (h.get? b = some { cls := .type "tuple", data := .seq vs.toArray } ∧ u = .frz { cls := .type "tuple", data := .seq vs.toArray } (.tup (vs.map toV)))) := by
  obtain ⟨hb, hk⟩ := of_argH q
  obtain ⟨vs, h1, h2, h3⟩ := ar b hb
  refine ⟨hk, vs, h1, h2, ?_⟩
  rcases h3 with e | e
  · rw [argH_at hb hk e, hoOf_lst] at q
    exact .inl ⟨e, (Option.some.inj q).symm⟩
  · rw [argH_at hb hk e, hoOf_tup] at q
    exact .inr ⟨e, (Option.some.inj q).symm⟩
theorem argH_only (ar : ∀ a ∈ A, ArgOb h A a) : OnlyF (argH K h A) := fun b => by
  cases q : argH K h A b with
  | none => exact .inl rfl
  | some u =>
    obtain ⟨_, vs, _, _, ⟨_, e⟩ | ⟨_, e⟩⟩ := argH_is ar q
    · exact .inr ⟨_, _, by rw [e]⟩
    · exact .inr ⟨_, _, by rw [e]⟩
theorem argH_ok (ar : ∀ a ∈ A, ArgOb h A a) : HOk P w (argH K h A) h := fun b u q => by
  obtain ⟨_, vs, h1, h2, ⟨e, rfl⟩ | ⟨e, rfl⟩⟩ := argH_is ar q
  · exact ⟨e, by rw [List.length_map]; exact h1, vs, _, vals_toV h2, e⟩
  · exact ⟨e, by rw [List.length_map]; exact h1, vs, vals_toV h2, _, e, rfl, _, rfl⟩
theorem seq_inj {c c' : Value} {vs us : List Value} (e : (some { cls := c, data := .seq vs.toArray } : Option Obj) = some { cls := c', data := .seq us.toArray }) : c = c' ∧ vs = us := by
  have e1 := Option.some.inj e
  have e2 : c = c' := congrArg Obj.cls e1
  have e3 : Data.seq vs.toArray = Data.seq us.toArray := congrArg Obj.data e1
  injection e3 with e4
  refine ⟨e2, ?_⟩
  have e5 := congrArg Array.toList e4
  simpa using e5
/-- a list argument -/
theorem argL (KX : K.In h) (ar : ∀ a ∈ A, ArgOb h A a) {a : Addr} {vs : List Value} (ha : a ∈ A) (e : h.get? a = some { cls := .type "list", data := .seq vs.toArray }) : (∀ u ∈ vs, OkU A u) ∧ SqL K (argH K h A) a (vs.map toV) := by
  obtain ⟨us, h1, h2, h3⟩ := ar a ha
  have hu : us = vs := by
    rcases h3 with q | q
    · rw [e] at q
      exact (seq_inj q).2.symm
    · rw [e] at q
      exact absurd (Value.type.inj (seq_inj q).1) (by decide)
  subst hu
  refine ⟨h2, ?_⟩
  cases hk : K.lookup a with
  | none => exact .inl (.inr ⟨_, by rw [argH_at ha hk e, hoOf_lst]⟩)
  | some o =>
    have e2 := KX a o hk
    rw [e] at e2
    obtain rfl := Option.some.inj e2
    exact .inr ⟨_, us.toArray, _, hk, rfl, rfl, rfl, by rw [List.size_toArray]; exact h1, by simpa using vals_toV h2⟩
theorem argT (KX : K.In h) (ar : ∀ a ∈ A, ArgOb h A a) {a : Addr} {vs : List Value} (ha : a ∈ A) (e : h.get? a = some { cls := .type "tuple", data := .seq vs.toArray }) : (∀ u ∈ vs, OkU A u) ∧ SqT K (argH K h A) a (vs.map toV) := by
  obtain ⟨us, h1, h2, h3⟩ := ar a ha
  have hu : us = vs := by
    rcases h3 with q | q
    · rw [e] at q
      exact absurd (Value.type.inj (seq_inj q).1) (by decide)
    · rw [e] at q
      exact (seq_inj q).2.symm
  subst hu
  refine ⟨h2, ?_⟩
  cases hk : K.lookup a with
  | none => exact .inl (.inr ⟨_, by rw [argH_at ha hk e, hoOf_tup]⟩)
  | some o =>
    have e2 := KX a o hk
    rw [e] at e2
    obtain rfl := Option.some.inj e2
    exact .inr ⟨_, us.toArray, _, hk, rfl, rfl, by rw [List.size_toArray]; exact h1, by simpa using vals_toV h2⟩
mutual
theorem dw_one {Pm : Params} (KX : K.In h) (ar : ∀ a ∈ A, ArgOb h A a) : ∀ (d : WData) (v : Value), Well Pm h v d → plW d = true → OkU A v → Dw K (argH K h A) (toV v) d
  | .none, _, x, _, _ => by
    cases x
    exact .non
  | .bool b, _, x, _, _ => by
    cases x
    exact .bl b
  | .int i, _, x, _, _ => by
    cases x
    exact .int i
  | .str s, _, x, _, _ => by
    cases x
    exact .str s
  | .bytes b, _, x, _, _ => by
    cases x
    have z := Dw.byt (K := K) (H := argH K h A) b.toArray
    exact z
  | .list ds, _, x, p, hu => by
    obtain ⟨a, vs, rfl, ho, hall⟩ := well_list x
    obtain ⟨h2, hs⟩ := argL KX ar hu ho
    exact .lst hs (dw_all KX ar ds _ hall p h2)
  | .tuple ds, _, x, p, hu => by
    obtain ⟨a, vs, rfl, ho, hall⟩ := well_tuple x
    obtain ⟨h2, hs⟩ := argT KX ar hu ho
    exact .tup hs (dw_all KX ar ds _ hall p h2)
  | .float _, _, _, p, _ => Bool.noConfusion (show false = true from p)
  | .dict _, _, _, p, _ => Bool.noConfusion (show false = true from p)
  | .bytearray _, _, _, p, _ => Bool.noConfusion (show false = true from p)
  | .set _, _, _, p, _ => Bool.noConfusion (show false = true from p)
  | .frozenset _, _, _, p, _ => Bool.noConfusion (show false = true from p)
  | .obj _ _, _, _, p, _ => Bool.noConfusion (show false = true from p)
theorem dw_all {Pm : Params} (KX : K.In h) (ar : ∀ a ∈ A, ArgOb h A a) : ∀ (ds : List WData) (vs : List Value), WellAll Pm h vs ds → plWs ds = true → (∀ u ∈ vs, OkU A u) → DwAll K (argH K h A) (vs.map toV) ds
  | [], _, x, _, _ => by
    cases x
    exact .nil
  | d :: ds, _, x, p, hu => by
    obtain ⟨v, vs, rfl, x1, x2⟩ := well_cons x
    have q : plW d = true ∧ plWs ds = true := Bool.and_eq_true_iff.mp p
    exact .cons (dw_one KX ar d v x1 q.1 (hu _ (List.mem_cons_self ..))) (dw_all KX ar ds vs x2 q.2 fun u m => hu u (List.mem_cons_of_mem _ m))
end
end
/-! ### the call -/
theorem spec_call {P : Program} {w : World} {K : PySem.W.Frag} {mg mb : Str → Option Value} {CX : CXT} {k : Nat} {fa : Addr} {fd : FuncData} {ps : List Str} {sp : Sp} {s₁ : Shared} {vals : List Value} {ds : List WData} {R : PySem.W.WRecords} {cl : Str → Option Addr} {d0 : WData}
    (KX : K.In s₁.heap) (hns : s₁.heap.Ns mainGlobals mg) (hb : s₁.heap.Ns builtinsNs mb) (hbb : ∀ x : Str, x ≠ "__name__" → mb x = bootBuiltins x) (hlim : s₁.heap.NoLimit) (hg : s₁.gens = #[])
    (hwl : WellAll w.params s₁.heap vals ds) (hpl : plWs ds = true) (hwt : ∀ d ∈ ds, d.weight ≤ 1048576) (hr : Room k callerA)
    (F : ∀ base : Heap, K.In base → base.Ns mainGlobals mg → FnOk P w K mg base CX k fa fd ps sp) (hbind : ∀ (s : Shared) (us : List Value), us.length = ps.length → BindsTo s fd ⟨us, []⟩ (ps.zip us)) (hlen : ds.length = ps.length)
    (hsp : ∀ (H : Hp) (xs : List V), OnlyF H → DwAll K H xs ds → sp xs H (fun v H' => Dw K H' v d0) fun _ _ _ => False)
    (hCX : ∀ H e s', CX [] H s₁ (fun _ _ _ => False) e s' → False) :
    codeAny (model P w) callerA (.call (.ref fa) ⟨vals, []⟩) (fun r s' => ∃ u as, r = .ok (.ret u) ∧ ReadsW R cl s'.heap u d0 as ∧ OldK s₁.heap s'.heap ∧ s'.os = s₁.os ∧ AllBare s'.gens) s₁ := by
  obtain ⟨A, ho, ar⟩ := area_all ds vals hwl hpl hwt
  have hO : OnlyF (argH K s₁.heap A) := argH_only ar
  have hok : HOk P w (argH K s₁.heap A) s₁.heap := argH_ok ar
  have hS := dw_all KX ar ds vals hwl hpl ho
  have hV := vals_toV ho
  have hK : ∀ b u, argH K s₁.heap A b = some u → K.lookup b = none := fun b u q => (argH_is ar q).1
  have noA : ∀ {b : Addr} {o : Obj} {es : Array DictEntry} {ep : Nat}, s₁.heap.get? b = some o → o.data = .dict es ep → argH K s₁.heap A b = none := fun {b o es ep} e d => by
    cases q : argH K s₁.heap A b with
    | none => rfl
    | some u =>
      obtain ⟨_, vs, _, _, ⟨e2, _⟩ | ⟨e2, _⟩⟩ := argH_is ar q
      · rw [e2] at e
        cases e
        have d' : Data.seq vs.toArray _ = Data.dict es ep := d
        cases d'
      · rw [e2] at e
        cases e
        have d' : Data.seq vs.toArray _ = Data.dict es ep := d
        cases d'
  generalize argH K s₁.heap A = H at hO hok hS hK noA
  have base_of : ∀ {b : Addr} {o : Obj}, s₁.heap.get? b = some o → H b = none → (hidT s₁.heap H).get? b = some o := fun e n => hidT_get e n
  have nsK : ∀ {b : Addr} {m : Str → Option Value}, s₁.heap.Ns b m → (hidT s₁.heap H).Ns b m := fun {b m} ⟨o, es, ep, e, d, r⟩ => ⟨o, es, ep, base_of e (noA e d), d, r⟩
  have nK : ∀ b o, K.lookup b = some o → H b = none := fun b o e => by
    cases q : H b with
    | none => rfl
    | some u =>
      rw [hK b u q] at e
      cases e
  have hKb : K.In (hidT s₁.heap H) := fun b o e => base_of (KX b o e) (nK b o e)
  have hM : Mod K mg (hidT s₁.heap H) := ⟨hKb, nsK hns, ⟨mb, nsK hb, hbb⟩, let ⟨mc, h1, h2⟩ := hlim; ⟨mc, nsK h1, h2⟩⟩
  have e0 : Env0 P w K mg (hidT s₁.heap H) callerA [] s₁ H := ⟨rfl, hM, fun b o e => of_hidT e, Nat.le_of_eq (hidT_size _ _), trivial, fun b hb => absurd (show b ∈ ([] : List Addr) from hb) (by simp), hok, .of_eq hg⟩
  have hl : vals.length = ps.length := by rw [wellAll_len hwl]; exact hlen
  refine codeAny_mono ((F _ hKb (nsK hns)).run callerA [] s₁ H ⟨vals, []⟩ vals (vals.map toV) _ _ hr e0 (hbind s₁ vals hl) hV (hsp H _ hO hS)) fun r s' x => ?_
  cases r with
  | error e => exact (hCX H e s' x).elim
  | ok fl =>
    cases fl with
    | next => exact False.elim x
    | brk => exact False.elim x
    | cont => exact False.elim x
    | ret u =>
      obtain ⟨v, H', os, bare, un, hok', r', q⟩ := x
      have kept : ∀ b o, s₁.heap.get? b = some o → s'.heap.get? b = some o := fun b o e => by
        cases q2 : H b with
        | none => exact un.keep b o e q2 (by intro z; exact absurd (show b ∈ ([] : List Addr) from z) (by simp)) (by simp)
        | some u2 =>
          rcases hO b with z | ⟨ob, u3, z⟩
          · rw [q2] at z
            cases z
          · have z2 := un.frzs b ob _ z
            obtain ⟨e1, _⟩ := hok b _ z
            obtain ⟨e2, _⟩ := hok' b _ z2
            rw [e] at e1
            cases e1
            exact e2
      have KX' : K.In s'.heap := fun b o e => kept b o (KX b o e)
      obtain ⟨as, hrd⟩ := Dw.reads (R := R) (cl := cl) hok' KX' d0 v u q r'
      exact ⟨u, as, rfl, hrd, OldK.of_keep kept, os, bare⟩
/-! ### the row -/
theorem layable_weight {ds : List WData} (h : WData.layableAll ds = true) : ∀ d ∈ ds, d.weight ≤ 1048576 := fun d hd =>
  (PySem.W.layableW_iff.mp (List.all_eq_true.mp h d hd)).2.2
theorem encAll_len : ∀ (cs : List Codec) (a : Codec.denoteAll cs), (Codec.encAll cs a).length = cs.length
  | [], _ => rfl
  | c :: cs, a => by
    show (Codec.encAll cs a.2).length + 1 = cs.length + 1
    rw [encAll_len cs a.2]
/-- the goal that k_headS leaves (case hc), from the promise of the row's def: whatever the arguments that the codecs let and the row asks for, the def gives what stands for enc (f ..) -/
theorem walk_spec {r : OpenSpec} {k : Nat} {q : Program} {loose : List Str} {XP : (Str → Option Value) → Heap → Prop} {YP : World → Heap → Prop} {d : DefRec} {K : Params → PySem.W.Frag} {CX : World → CXT} {ps : List Str} {sp : World → Sp}
    (hwell : r.wellSaid = true) (hdf : d.params.defaults = []) (hlen : r.args.length = ps.length) (hr : Room k callerA)
    (hY : ∀ (w : World) (h : Heap), YP w h → (K w.params).In h)
    (F : ∀ (w : World) (mg : Str → Option Value) (fa : Addr) (h : Heap), YP w h → (K w.params).In h → h.Ns mainGlobals mg → mg d.name = some (.ref fa) →
      ∃ fd : FuncData, (∀ (s : Shared) (us : List Value), us.length = ps.length → BindsTo s fd ⟨us, []⟩ (ps.zip us)) ∧
        ∀ base : Heap, (K w.params).In base → base.Ns mainGlobals mg → FnOk r.prog w (K w.params) mg base (CX w) k fa fd ps (sp w))
    (hsp : ∀ (w : World) (H : Hp) (xs : List V) (a : Codec.denoteAll r.args), OnlyF H → Codec.withinAll r.args a = true → Codec.app r.args r.asked a = true → DwAll (K w.params) H xs (Codec.encAll r.args a) →
      sp w xs H (fun v H' => Dw (K w.params) H' v (r.ret.enc (Codec.app r.args r.f a))) fun _ _ _ => False)
    (hCX : ∀ (w : World) (H : Hp) (s : Shared) (e : Value) (s' : Shared), CX w [] H s (fun _ _ _ => False) e s' → False) :
    PySem.W.WalkOS q loose XP YP r d [] (fun f vs => PySem.call f vs) := by
  intro w s_0 s₁ mg mb G Y fa o pm cd doc dV kV ho hd hcd hD hmg hg args vals as hpre hlay hrd hwl hlo
  obtain ⟨a, e1, e2⟩ := PySem.W.os_pre_some hpre
  obtain ⟨e3, hwi⟩ := Codec.encAll_of_decAll r.args args a e1
  subst e3
  have KX := hY w _ Y
  obtain ⟨fd, hb, hF⟩ := F w mg fa _ Y KX G.T.g hmg
  refine PySem.W.enter_call (codeAny_mono (spec_call (R := []) (cl := classAt s_0.heap) (d0 := r.ret.enc (Codec.app r.args r.f a)) KX G.T.g G.T.b G.T.builtins G.T.nolimit hg hwl (pl_encAll _ _) (layable_weight hlay) hr hF hb (by rw [encAll_len]; exact hlen)
    (fun H xs hO hS => hsp w H xs a hO hwi e2 hS) fun H e s' => hCX w H s₁ e s') fun r' s' hq => ?_)
  obtain ⟨u, as', rfl, h1, h2, h3, h4⟩ := hq
  exact ⟨.inl ⟨u, _, as', rfl, fun _ => rfl, h1, (OpenSpec.post_iff hwell hwi _ _).mpr rfl, fun z => Bool.noConfusion (show false = true from z)⟩, h2, h3, h4⟩
/-- the same where the promise hangs on the written part alone -/
theorem walk_specK {r : OpenSpec} {k : Nat} {q : Program} {loose : List Str} {XP : (Str → Option Value) → Heap → Prop} {YP : World → Heap → Prop} {d : DefRec} {K : Params → PySem.W.Frag} {CX : CXT} {ps : List Str} {sp : PySem.W.Frag → Sp}
    (hwell : r.wellSaid = true) (hdf : d.params.defaults = []) (hlen : r.args.length = ps.length) (hr : Room k callerA)
    (hY : ∀ (w : World) (h : Heap), YP w h → (K w.params).In h)
    (F : ∀ (w : World) (mg : Str → Option Value) (fa : Addr) (h : Heap), YP w h → (K w.params).In h → h.Ns mainGlobals mg → mg d.name = some (.ref fa) →
      ∃ fd : FuncData, (∀ (s : Shared) (us : List Value), us.length = ps.length → BindsTo s fd ⟨us, []⟩ (ps.zip us)) ∧
        ∀ base : Heap, (K w.params).In base → base.Ns mainGlobals mg → FnOk r.prog w (K w.params) mg base CX k fa fd ps (sp (K w.params)))
    (hsp : ∀ (K : PySem.W.Frag) (H : Hp) (xs : List V) (a : Codec.denoteAll r.args), OnlyF H → Codec.withinAll r.args a = true → Codec.app r.args r.asked a = true → DwAll K H xs (Codec.encAll r.args a) →
      sp K xs H (fun v H' => Dw K H' v (r.ret.enc (Codec.app r.args r.f a))) fun _ _ _ => False)
    (hCX : ∀ (H : Hp) (s : Shared) (e : Value) (s' : Shared), CX [] H s (fun _ _ _ => False) e s' → False) :
    PySem.W.WalkOS q loose XP YP r d [] (fun f vs => PySem.call f vs) :=
  walk_spec (K := K) (CX := fun _ => CX) (sp := fun w => sp (K w.params)) hwell hdf hlen hr hY F (fun w H xs a h1 h2 h3 h4 => hsp (K w.params) H xs a h1 h2 h3 h4) fun _ H s e s' => hCX H s e s'
end L2
-- rests on (row put in by the clerk, for the bench that shows a file only what it spells): KE.SpHead KE.OsShapes
end

set_option Elab.async false
set_option linter.all false
set_option maxRecDepth 100000
set_option maxHeartbeats 4000000
namespace Gk
open PySem PySem.Spec PyProof.Rows L2 Gm
open PySem.W (nsIn findIn isFn keepIn codeIn fnOf mg_of mg_none_of)
section
variable {K : PySem.W.Frag} {h : Heap} {mg : Str → Option Value}
theorem def_mk {x : Str} {st : Stmt} {ps : List Str} {f : Addr} {oc : Value} {od an : Option Addr} {osl : Array (Option Value)} {kV doc pm cdv ct : Value} (X : K.In h) (G : h.Ns mainGlobals mg) (a : nsIn K mainGlobals x = some (some (.ref f)))
    (l : K.lookup f = some ⟨oc, od, .func (fnOf x x (defArgs st) (defBody st) (defScope st) .none kV doc pm an cdv ct), osl⟩) (c : codeIn K cdv x = true) (k : keepIn K (.ref f) = true)
    (hb : ∀ (kV doc pm : Value) (an : Option Addr) (cdv ct : Value) (us : List Value), us.length = ps.length → bindArgs (fnOf x x (defArgs st) (defBody st) (defScope st) .none kV doc pm an cdv ct) ⟨us, []⟩ = pure (ps.zip us)) :
    Def K mg x st ps f (fnOf x x (defArgs st) (defBody st) (defScope st) .none kV doc pm an cdv ct) := ⟨fun_mk l c k, mg_of X G a, (fun_mk l c k).binds hb⟩
theorem mdef_mk {C : Addr} {x q : Str} {st : Stmt} {ps : List Str} {f : Addr} {oc : Value} {od an : Option Addr} {osl : Array (Option Value)} {kV doc pm cdv ct : Value} (a : findIn K (.ref C) x = some (some (.ref f))) (i : isFn K (.ref f) = true)
    (l : K.lookup f = some ⟨oc, od, .func (fnOf x q (defArgs st) (defBody st) (defScope st) .none kV doc pm an cdv ct), osl⟩) (c : codeIn K cdv q = true) (k : keepIn K (.ref f) = true)
    (hb : ∀ (kV doc pm : Value) (an : Option Addr) (cdv ct : Value) (us : List Value), us.length = ps.length → bindArgs (fnOf x q (defArgs st) (defBody st) (defScope st) .none kV doc pm an cdv ct) ⟨us, []⟩ = pure (ps.zip us)) :
    MDef K C x q st ps f (fnOf x q (defArgs st) (defBody st) (defScope st) .none kV doc pm an cdv ct) := ⟨fun_mk l c k, ⟨a, i, k⟩, (fun_mk l c k).binds hb⟩
theorem int_mk {x : Str} {i : Int} {t : Tok} (X : K.In h) (G : h.Ns mainGlobals mg) (a : nsIn K mainGlobals x = some (some (.int i t))) : ∃ t, mg x = some (.int i t) := ⟨t, mg_of X G a⟩
theorem ar1 {F : List Value → Prop} (h : ∀ a, F [a]) : ∀ us : List Value, us.length = 1 → F us := fun us hl => match us, hl with | [a], _ => h a
theorem ar2 {F : List Value → Prop} (h : ∀ a b, F [a, b]) : ∀ us : List Value, us.length = 2 → F us := fun us hl => match us, hl with | [a, b], _ => h a b
theorem ar3 {F : List Value → Prop} (h : ∀ a b c, F [a, b, c]) : ∀ us : List Value, us.length = 3 → F us := fun us hl => match us, hl with | [a, b, c], _ => h a b c
theorem ar4 {F : List Value → Prop} (h : ∀ a b c d, F [a, b, c, d]) : ∀ us : List Value, us.length = 4 → F us := fun us hl => match us, hl with | [a, b, c, d], _ => h a b c d
theorem ar5 {F : List Value → Prop} (h : ∀ a b c d e, F [a, b, c, d, e]) : ∀ us : List Value, us.length = 5 → F us := fun us hl => match us, hl with | [a, b, c, d, e], _ => h a b c d e
theorem ar6 {F : List Value → Prop} (h : ∀ a b c d e f, F [a, b, c, d, e, f]) : ∀ us : List Value, us.length = 6 → F us := fun us hl => match us, hl with | [a, b, c, d, e, f], _ => h a b c d e f
def keysB (es : Array DictEntry) : Bool := es.toList.all fun e => match e.key with
  | .int k _ => decide (e.hash = hashInt k)
  | _ => false
theorem keys_of {es : Array DictEntry} (h : keysB es = true) : KeysI es := by
  intro e he
  unfold keysB at h
  rw [List.all_eq_true] at h
  have := h e (Array.mem_toList_iff.mpr he)
  split at this
  · rename_i k t z
    exact ⟨k, by rw [z]; simp [Value.isInt], of_decide_eq_true this⟩
  · cases this
def getB (es : Array DictEntry) : Bool := (List.range 11).all fun i => match findBy Value.isInt es (i : Int) with
  | some (.int v _) => decide (v = (argc i : Nat))
  | _ => false
theorem get_of {es : Array DictEntry} (h : getB es = true) : ∀ i : Nat, i ≤ 10 → ∃ t, findBy Value.isInt es (i : Int) = some (.int (argc i : Nat) t) := by
  intro i hi
  unfold getB at h
  rw [List.all_eq_true] at h
  have := h i (List.mem_range.mpr (by omega))
  split at this
  · rename_i v t z
    have e := of_decide_eq_true this
    subst e
    exact ⟨t, z⟩
  · cases this
end
section
variable {P : Program} {w : World} {K : PySem.W.Frag} {h : Heap} {mg : Str → Option Value}
theorem txt_mk {C : Addr} {t_g_done t_g_out t_g_many t_g_now t_g_fits t_g_sev t_g_use t_g_mn t_g_mt t_g_mr t_g_ms t_g_told t_g_come : Tok} (X : K.In h) (G : h.Ns mainGlobals mg) (pg : PySem.W.plainGet K C Str.empty = true) (hd : PySem.W.hasDictIn K C = true) (po : PySem.W.plainOver K C = true) (sa : findIn K (.ref C) "__setattr__" = some (some (.builtin "object.__setattr__")))
    (n_n : findIn K (.ref C) "nonterminals" = some none)
    (n_t : findIn K (.ref C) "tokens" = some none)
    (n_r : findIn K (.ref C) "rules" = some none)
    (n_c : findIn K (.ref C) "closed" = some none)
    (n_nl : findIn K (.ref C) "nullable" = some none)
    (n_f : findIn K (.ref C) "firsts" = some none)
    (n_o : findIn K (.ref C) "follows" = some none)
    (n_ch : findIn K (.ref C) "choices" = some none)
    (n_k : findIn K (.ref C) "clashes" = some none)
    (n_tc : findIn K (.ref C) "to_come" = some none)
    (b_len : nsIn K mainGlobals "len" = some none)
    (b_range : nsIn K mainGlobals "range" = some none)
    (b_tuple : nsIn K mainGlobals "tuple" = some none)
    (b_list : nsIn K mainGlobals "list" = some none)
    (b_enum : nsIn K mainGlobals "enumerate" = some none)
    (b_rev : nsIn K mainGlobals "reversed" = some none)
    (g_done : nsIn K mainGlobals "DONE" = some (some (.int (0) t_g_done)))
    (g_out : nsIn K mainGlobals "OUT_OF_RANGE" = some (some (.int (-1) t_g_out)))
    (g_many : nsIn K mainGlobals "TOO_MANY" = some (some (.int (-2) t_g_many)))
    (g_now : nsIn K mainGlobals "NOT_NOW" = some (some (.int (-3) t_g_now)))
    (g_fits : nsIn K mainGlobals "NONE_FITS" = some (some (.int (-4) t_g_fits)))
    (g_sev : nsIn K mainGlobals "SEVERAL" = some (some (.int (-5) t_g_sev)))
    (g_use : nsIn K mainGlobals "USELESS" = some (some (.int (-6) t_g_use)))
    (g_mn : nsIn K mainGlobals "MOST_NONTERMINALS" = some (some (.int (32) t_g_mn)))
    (g_mt : nsIn K mainGlobals "MOST_TOKENS" = some (some (.int (63) t_g_mt)))
    (g_mr : nsIn K mainGlobals "MOST_RULES" = some (some (.int (128) t_g_mr)))
    (g_ms : nsIn K mainGlobals "MOST_SYMBOLS" = some (some (.int (8) t_g_ms)))
    (g_told : nsIn K mainGlobals "MOST_TOLD" = some (some (.int (512) t_g_told)))
    (g_come : nsIn K mainGlobals "MOST_TO_COME" = some (some (.int (512) t_g_come))) : Txt K mg C :=
  ⟨⟨pg, hd, po, sa⟩, n_n, n_t, n_r, n_c, n_nl, n_f, n_o, n_ch, n_k, n_tc, mg_none_of X G b_len, mg_none_of X G b_range, mg_none_of X G b_tuple, mg_none_of X G b_list, mg_none_of X G b_enum, mg_none_of X G b_rev, int_mk X G g_done, int_mk X G g_out, int_mk X G g_many, int_mk X G g_now, int_mk X G g_fits, int_mk X G g_sev, int_mk X G g_use, int_mk X G g_mn, int_mk X G g_mt, int_mk X G g_mr, int_mk X G g_ms, int_mk X G g_told, int_mk X G g_come⟩
theorem cd_mk {t0 t1 t2 t3 t4 t5 t6 t7 t8 t9 : Tok} (X : K.In h) (G : h.Ns mainGlobals mg) (k0 : nsIn K mainGlobals "BEGIN" = some (some (.int 0 t0))) (k1 : nsIn K mainGlobals "RULE" = some (some (.int 1 t1))) (k2 : nsIn K mainGlobals "CLOSE" = some (some (.int 2 t2))) (k3 : nsIn K mainGlobals "EMPTY" = some (some (.int 3 t3))) (k4 : nsIn K mainGlobals "FIRST" = some (some (.int 4 t4))) (k5 : nsIn K mainGlobals "FOLLOW" = some (some (.int 5 t5))) (k6 : nsIn K mainGlobals "CHOOSE" = some (some (.int 6 t6))) (k7 : nsIn K mainGlobals "CONFLICTS" = some (some (.int 7 t7))) (k8 : nsIn K mainGlobals "START" = some (some (.int 8 t8))) (k9 : nsIn K mainGlobals "NEXT" = some (some (.int 9 t9))) : Cd mg :=
  ⟨int_mk X G k0, int_mk X G k1, int_mk X G k2, int_mk X G k3, int_mk X G k4, int_mk X G k5, int_mk X G k6, int_mk X G k7, int_mk X G k8, int_mk X G k9⟩
theorem all_mk {fa C dA : Addr} {eA : Array DictEntry} {nA : Nat}
    {oc0 kV0 dc0 pm0 cd0 ct0 : Value} {od0 an0 : Option Addr} {sl0 : Array (Option Value)} {f0 : Addr}
    {oc1 kV1 dc1 pm1 cd1 ct1 : Value} {od1 an1 : Option Addr} {sl1 : Array (Option Value)} {f1 : Addr}
    {oc2 kV2 dc2 pm2 cd2 ct2 : Value} {od2 an2 : Option Addr} {sl2 : Array (Option Value)} {f2 : Addr}
    {oc3 kV3 dc3 pm3 cd3 ct3 : Value} {od3 an3 : Option Addr} {sl3 : Array (Option Value)} {f3 : Addr}
    {oc4 kV4 dc4 pm4 cd4 ct4 : Value} {od4 an4 : Option Addr} {sl4 : Array (Option Value)} {f4 : Addr}
    {oc5 kV5 dc5 pm5 cd5 ct5 : Value} {od5 an5 : Option Addr} {sl5 : Array (Option Value)} {f5 : Addr}
    {oc6 kV6 dc6 pm6 cd6 ct6 : Value} {od6 an6 : Option Addr} {sl6 : Array (Option Value)} {f6 : Addr}
    {oc7 kV7 dc7 pm7 cd7 ct7 : Value} {od7 an7 : Option Addr} {sl7 : Array (Option Value)} {f7 : Addr}
    {oc8 kV8 dc8 pm8 cd8 ct8 : Value} {od8 an8 : Option Addr} {sl8 : Array (Option Value)} {f8 : Addr}
    {oc9 kV9 dc9 pm9 cd9 ct9 : Value} {od9 an9 : Option Addr} {sl9 : Array (Option Value)} {f9 : Addr}
    {oc10 kV10 dc10 pm10 cd10 ct10 : Value} {od10 an10 : Option Addr} {sl10 : Array (Option Value)} {f10 : Addr}
    {oc11 kV11 dc11 pm11 cd11 ct11 : Value} {od11 an11 : Option Addr} {sl11 : Array (Option Value)} {f11 : Addr}
    {oc12 kV12 dc12 pm12 cd12 ct12 : Value} {od12 an12 : Option Addr} {sl12 : Array (Option Value)} {f12 : Addr}
    {oc13 kV13 dc13 pm13 cd13 ct13 : Value} {od13 an13 : Option Addr} {sl13 : Array (Option Value)} {f13 : Addr}
    {oc14 kV14 dc14 pm14 cd14 ct14 : Value} {od14 an14 : Option Addr} {sl14 : Array (Option Value)} {f14 : Addr}
    {oc15 kV15 dc15 pm15 cd15 ct15 : Value} {od15 an15 : Option Addr} {sl15 : Array (Option Value)} {f15 : Addr}
    {oc16 kV16 dc16 pm16 cd16 ct16 : Value} {od16 an16 : Option Addr} {sl16 : Array (Option Value)} {f16 : Addr}
    {oc17 kV17 dc17 pm17 cd17 ct17 : Value} {od17 an17 : Option Addr} {sl17 : Array (Option Value)} {f17 : Addr}
    {oc18 kV18 dc18 pm18 cd18 ct18 : Value} {od18 an18 : Option Addr} {sl18 : Array (Option Value)} {f18 : Addr}
    {oc19 kV19 dc19 pm19 cd19 ct19 : Value} {od19 an19 : Option Addr} {sl19 : Array (Option Value)} {f19 : Addr}
    {oc20 kV20 dc20 pm20 cd20 ct20 : Value} {od20 an20 : Option Addr} {sl20 : Array (Option Value)} {f20 : Addr}
    {oc21 kV21 dc21 pm21 cd21 ct21 : Value} {od21 an21 : Option Addr} {sl21 : Array (Option Value)} {f21 : Addr}
    {oc22 kV22 dc22 pm22 cd22 ct22 : Value} {od22 an22 : Option Addr} {sl22 : Array (Option Value)} {f22 : Addr}
    {oc23 kV23 dc23 pm23 cd23 ct23 : Value} {od23 an23 : Option Addr} {sl23 : Array (Option Value)} {f23 : Addr}
    {oc24 kV24 dc24 pm24 cd24 ct24 : Value} {od24 an24 : Option Addr} {sl24 : Array (Option Value)} {f24 : Addr}
    {oc25 kV25 dc25 pm25 cd25 ct25 : Value} {od25 an25 : Option Addr} {sl25 : Array (Option Value)} {f25 : Addr}
    {oc26 kV26 dc26 pm26 cd26 ct26 : Value} {od26 an26 : Option Addr} {sl26 : Array (Option Value)} {f26 : Addr}
    {oc27 kV27 dc27 pm27 cd27 ct27 : Value} {od27 an27 : Option Addr} {sl27 : Array (Option Value)} {f27 : Addr}
    {oc28 kV28 dc28 pm28 cd28 ct28 : Value} {od28 an28 : Option Addr} {sl28 : Array (Option Value)} {f28 : Addr}
    {oc29 kV29 dc29 pm29 cd29 ct29 : Value} {od29 an29 : Option Addr} {sl29 : Array (Option Value)} {f29 : Addr}
    {oc30 kV30 dc30 pm30 cd30 ct30 : Value} {od30 an30 : Option Addr} {sl30 : Array (Option Value)} {f30 : Addr}
    {oc31 kV31 dc31 pm31 cd31 ct31 : Value} {od31 an31 : Option Addr} {sl31 : Array (Option Value)} {f31 : Addr}
    {oc32 kV32 dc32 pm32 cd32 ct32 : Value} {od32 an32 : Option Addr} {sl32 : Array (Option Value)} {f32 : Addr}
    {oc33 kV33 dc33 pm33 cd33 ct33 : Value} {od33 an33 : Option Addr} {sl33 : Array (Option Value)} {f33 : Addr}
    {oc34 kV34 dc34 pm34 cd34 ct34 : Value} {od34 an34 : Option Addr} {sl34 : Array (Option Value)} {f34 : Addr}
    {oc35 kV35 dc35 pm35 cd35 ct35 : Value} {od35 an35 : Option Addr} {sl35 : Array (Option Value)} {f35 : Addr}
    (X : K.In h) (G : h.Ns mainGlobals mg) (hfa : mg "answers" = some (.ref fa)) (T : Txt K mg C) (Cc : Cd mg) (aC : nsIn K mainGlobals "Grammar" = some (some (.ref C))) (mk : PySem.W.makesIn K C = true) (kc : keepIn K (.ref C) = true)
    (aA : nsIn K mainGlobals "ARGUMENTS" = some (some (.ref dA))) (lA : K.lookup dA = some ⟨.type "dict", none, .dict eA nA, #[]⟩) (kA : keysB eA = true) (gA : getB eA = true)
    (a0 : nsIn K mainGlobals "row_settles" = some (some (.ref f0))) (l0 : K.lookup f0 = some ⟨oc0, od0, .func (fnOf "row_settles" "row_settles" (defArgs s_row_settles) (defBody s_row_settles) (defScope s_row_settles) .none kV0 dc0 pm0 an0 cd0 ct0), sl0⟩) (c0 : codeIn K cd0 "row_settles" = true) (k0 : keepIn K (.ref f0) = true)
    (a1 : nsIn K mainGlobals "settling" = some (some (.ref f1))) (l1 : K.lookup f1 = some ⟨oc1, od1, .func (fnOf "settling" "settling" (defArgs s_settling) (defBody s_settling) (defScope s_settling) .none kV1 dc1 pm1 an1 cd1 ct1), sl1⟩) (c1 : codeIn K cd1 "settling" = true) (k1 : keepIn K (.ref f1) = true)
    (a2 : nsIn K mainGlobals "find_nullable" = some (some (.ref f2))) (l2 : K.lookup f2 = some ⟨oc2, od2, .func (fnOf "find_nullable" "find_nullable" (defArgs s_nullable) (defBody s_nullable) (defScope s_nullable) .none kV2 dc2 pm2 an2 cd2 ct2), sl2⟩) (c2 : codeIn K cd2 "find_nullable" = true) (k2 : keepIn K (.ref f2) = true)
    (a3 : nsIn K mainGlobals "mark_nonterminals" = some (some (.ref f3))) (l3 : K.lookup f3 = some ⟨oc3, od3, .func (fnOf "mark_nonterminals" "mark_nonterminals" (defArgs s_mark) (defBody s_mark) (defScope s_mark) .none kV3 dc3 pm3 an3 cd3 ct3), sl3⟩) (c3 : codeIn K cd3 "mark_nonterminals" = true) (k3 : keepIn K (.ref f3) = true)
    (a4 : nsIn K mainGlobals "find_reached" = some (some (.ref f4))) (l4 : K.lookup f4 = some ⟨oc4, od4, .func (fnOf "find_reached" "find_reached" (defArgs s_reached) (defBody s_reached) (defScope s_reached) .none kV4 dc4 pm4 an4 cd4 ct4), sl4⟩) (c4 : codeIn K cd4 "find_reached" = true) (k4 : keepIn K (.ref f4) = true)
    (a5 : nsIn K mainGlobals "find_useless" = some (some (.ref f5))) (l5 : K.lookup f5 = some ⟨oc5, od5, .func (fnOf "find_useless" "find_useless" (defArgs s_useless) (defBody s_useless) (defScope s_useless) .none kV5 dc5 pm5 an5 cd5 ct5), sl5⟩) (c5 : codeIn K cd5 "find_useless" = true) (k5 : keepIn K (.ref f5) = true)
    (a6 : nsIn K mainGlobals "row_first" = some (some (.ref f6))) (l6 : K.lookup f6 = some ⟨oc6, od6, .func (fnOf "row_first" "row_first" (defArgs s_row_first) (defBody s_row_first) (defScope s_row_first) .none kV6 dc6 pm6 an6 cd6 ct6), sl6⟩) (c6 : codeIn K cd6 "row_first" = true) (k6 : keepIn K (.ref f6) = true)
    (a7 : nsIn K mainGlobals "find_firsts" = some (some (.ref f7))) (l7 : K.lookup f7 = some ⟨oc7, od7, .func (fnOf "find_firsts" "find_firsts" (defArgs s_firsts) (defBody s_firsts) (defScope s_firsts) .none kV7 dc7 pm7 an7 cd7 ct7), sl7⟩) (c7 : codeIn K cd7 "find_firsts" = true) (k7 : keepIn K (.ref f7) = true)
    (a8 : nsIn K mainGlobals "spread_follow" = some (some (.ref f8))) (l8 : K.lookup f8 = some ⟨oc8, od8, .func (fnOf "spread_follow" "spread_follow" (defArgs s_spread) (defBody s_spread) (defScope s_spread) .none kV8 dc8 pm8 an8 cd8 ct8), sl8⟩) (c8 : codeIn K cd8 "spread_follow" = true) (k8 : keepIn K (.ref f8) = true)
    (a9 : nsIn K mainGlobals "find_follows" = some (some (.ref f9))) (l9 : K.lookup f9 = some ⟨oc9, od9, .func (fnOf "find_follows" "find_follows" (defArgs s_follows) (defBody s_follows) (defScope s_follows) .none kV9 dc9 pm9 an9 cd9 ct9), sl9⟩) (c9 : codeIn K cd9 "find_follows" = true) (k9 : keepIn K (.ref f9) = true)
    (a10 : nsIn K mainGlobals "rule_tokens" = some (some (.ref f10))) (l10 : K.lookup f10 = some ⟨oc10, od10, .func (fnOf "rule_tokens" "rule_tokens" (defArgs s_rule_tokens) (defBody s_rule_tokens) (defScope s_rule_tokens) .none kV10 dc10 pm10 an10 cd10 ct10), sl10⟩) (c10 : codeIn K cd10 "rule_tokens" = true) (k10 : keepIn K (.ref f10) = true)
    (a11 : nsIn K mainGlobals "find_choices" = some (some (.ref f11))) (l11 : K.lookup f11 = some ⟨oc11, od11, .func (fnOf "find_choices" "find_choices" (defArgs s_choices) (defBody s_choices) (defScope s_choices) .none kV11 dc11 pm11 an11 cd11 ct11), sl11⟩) (c11 : codeIn K cd11 "find_choices" = true) (k11 : keepIn K (.ref f11) = true)
    (a12 : nsIn K mainGlobals "find_conflicts" = some (some (.ref f12))) (l12 : K.lookup f12 = some ⟨oc12, od12, .func (fnOf "find_conflicts" "find_conflicts" (defArgs s_conflicts_) (defBody s_conflicts_) (defScope s_conflicts_) .none kV12 dc12 pm12 an12 cd12 ct12), sl12⟩) (c12 : codeIn K cd12 "find_conflicts" = true) (k12 : keepIn K (.ref f12) = true)
    (a13 : nsIn K mainGlobals "find_expected" = some (some (.ref f13))) (l13 : K.lookup f13 = some ⟨oc13, od13, .func (fnOf "find_expected" "find_expected" (defArgs s_find_expected) (defBody s_find_expected) (defScope s_find_expected) .none kV13 dc13 pm13 an13 cd13 ct13), sl13⟩) (c13 : codeIn K cd13 "find_expected" = true) (k13 : keepIn K (.ref f13) = true)
    (a14 : nsIn K mainGlobals "take_away" = some (some (.ref f14))) (l14 : K.lookup f14 = some ⟨oc14, od14, .func (fnOf "take_away" "take_away" (defArgs s_take_away) (defBody s_take_away) (defScope s_take_away) .none kV14 dc14 pm14 an14 cd14 ct14), sl14⟩) (c14 : codeIn K cd14 "take_away" = true) (k14 : keepIn K (.ref f14) = true)
    (a15 : nsIn K mainGlobals "is_too_much" = some (some (.ref f15))) (l15 : K.lookup f15 = some ⟨oc15, od15, .func (fnOf "is_too_much" "is_too_much" (defArgs s_much) (defBody s_much) (defScope s_much) .none kV15 dc15 pm15 an15 cd15 ct15), sl15⟩) (c15 : codeIn K cd15 "is_too_much" = true) (k15 : keepIn K (.ref f15) = true)
    (a16 : nsIn K mainGlobals "members" = some (some (.ref f16))) (l16 : K.lookup f16 = some ⟨oc16, od16, .func (fnOf "members" "members" (defArgs s_members) (defBody s_members) (defScope s_members) .none kV16 dc16 pm16 an16 cd16 ct16), sl16⟩) (c16 : codeIn K cd16 "members" = true) (k16 : keepIn K (.ref f16) = true)
    (a17 : nsIn K mainGlobals "place_behind" = some (some (.ref f17))) (l17 : K.lookup f17 = some ⟨oc17, od17, .func (fnOf "place_behind" "place_behind" (defArgs s_place) (defBody s_place) (defScope s_place) .none kV17 dc17 pm17 an17 cd17 ct17), sl17⟩) (c17 : codeIn K cd17 "place_behind" = true) (k17 : keepIn K (.ref f17) = true)
    (a18 : nsIn K mainGlobals "answer" = some (some (.ref f18))) (l18 : K.lookup f18 = some ⟨oc18, od18, .func (fnOf "answer" "answer" (defArgs s_answer) (defBody s_answer) (defScope s_answer) .none kV18 dc18 pm18 an18 cd18 ct18), sl18⟩) (c18 : codeIn K cd18 "answer" = true) (k18 : keepIn K (.ref f18) = true)
    (a19 : nsIn K mainGlobals "answers" = some (some (.ref f19))) (l19 : K.lookup f19 = some ⟨oc19, od19, .func (fnOf "answers" "answers" (defArgs s_answers) (defBody s_answers) (defScope s_answers) .none kV19 dc19 pm19 an19 cd19 ct19), sl19⟩) (c19 : codeIn K cd19 "answers" = true) (k19 : keepIn K (.ref f19) = true)
    (a20 : findIn K (.ref C) "__init__" = some (some (.ref f20))) (i20 : isFn K (.ref f20) = true) (l20 : K.lookup f20 = some ⟨oc20, od20, .func (fnOf "__init__" "Grammar.__init__" (defArgs s_init) (defBody s_init) (defScope s_init) .none kV20 dc20 pm20 an20 cd20 ct20), sl20⟩) (c20 : codeIn K cd20 "Grammar.__init__" = true) (k20 : keepIn K (.ref f20) = true)
    (a21 : findIn K (.ref C) "begin" = some (some (.ref f21))) (i21 : isFn K (.ref f21) = true) (l21 : K.lookup f21 = some ⟨oc21, od21, .func (fnOf "begin" "Grammar.begin" (defArgs s_begin) (defBody s_begin) (defScope s_begin) .none kV21 dc21 pm21 an21 cd21 ct21), sl21⟩) (c21 : codeIn K cd21 "Grammar.begin" = true) (k21 : keepIn K (.ref f21) = true)
    (a22 : findIn K (.ref C) "symbols_fit" = some (some (.ref f22))) (i22 : isFn K (.ref f22) = true) (l22 : K.lookup f22 = some ⟨oc22, od22, .func (fnOf "symbols_fit" "Grammar.symbols_fit" (defArgs s_fit) (defBody s_fit) (defScope s_fit) .none kV22 dc22 pm22 an22 cd22 ct22), sl22⟩) (c22 : codeIn K cd22 "Grammar.symbols_fit" = true) (k22 : keepIn K (.ref f22) = true)
    (a23 : findIn K (.ref C) "rule" = some (some (.ref f23))) (i23 : isFn K (.ref f23) = true) (l23 : K.lookup f23 = some ⟨oc23, od23, .func (fnOf "rule" "Grammar.rule" (defArgs s_rule) (defBody s_rule) (defScope s_rule) .none kV23 dc23 pm23 an23 cd23 ct23), sl23⟩) (c23 : codeIn K cd23 "Grammar.rule" = true) (k23 : keepIn K (.ref f23) = true)
    (a24 : findIn K (.ref C) "close" = some (some (.ref f24))) (i24 : isFn K (.ref f24) = true) (l24 : K.lookup f24 = some ⟨oc24, od24, .func (fnOf "close" "Grammar.close" (defArgs s_close) (defBody s_close) (defScope s_close) .none kV24 dc24 pm24 an24 cd24 ct24), sl24⟩) (c24 : codeIn K cd24 "Grammar.close" = true) (k24 : keepIn K (.ref f24) = true)
    (a25 : findIn K (.ref C) "work_out" = some (some (.ref f25))) (i25 : isFn K (.ref f25) = true) (l25 : K.lookup f25 = some ⟨oc25, od25, .func (fnOf "work_out" "Grammar.work_out" (defArgs s_work) (defBody s_work) (defScope s_work) .none kV25 dc25 pm25 an25 cd25 ct25), sl25⟩) (c25 : codeIn K cd25 "Grammar.work_out" = true) (k25 : keepIn K (.ref f25) = true)
    (a26 : findIn K (.ref C) "refusal" = some (some (.ref f26))) (i26 : isFn K (.ref f26) = true) (l26 : K.lookup f26 = some ⟨oc26, od26, .func (fnOf "refusal" "Grammar.refusal" (defArgs s_refusal) (defBody s_refusal) (defScope s_refusal) .none kV26 dc26 pm26 an26 cd26 ct26), sl26⟩) (c26 : codeIn K cd26 "Grammar.refusal" = true) (k26 : keepIn K (.ref f26) = true)
    (a27 : findIn K (.ref C) "empty" = some (some (.ref f27))) (i27 : isFn K (.ref f27) = true) (l27 : K.lookup f27 = some ⟨oc27, od27, .func (fnOf "empty" "Grammar.empty" (defArgs s_empty) (defBody s_empty) (defScope s_empty) .none kV27 dc27 pm27 an27 cd27 ct27), sl27⟩) (c27 : codeIn K cd27 "Grammar.empty" = true) (k27 : keepIn K (.ref f27) = true)
    (a28 : findIn K (.ref C) "first" = some (some (.ref f28))) (i28 : isFn K (.ref f28) = true) (l28 : K.lookup f28 = some ⟨oc28, od28, .func (fnOf "first" "Grammar.first" (defArgs s_first) (defBody s_first) (defScope s_first) .none kV28 dc28 pm28 an28 cd28 ct28), sl28⟩) (c28 : codeIn K cd28 "Grammar.first" = true) (k28 : keepIn K (.ref f28) = true)
    (a29 : findIn K (.ref C) "follow" = some (some (.ref f29))) (i29 : isFn K (.ref f29) = true) (l29 : K.lookup f29 = some ⟨oc29, od29, .func (fnOf "follow" "Grammar.follow" (defArgs s_follow) (defBody s_follow) (defScope s_follow) .none kV29 dc29 pm29 an29 cd29 ct29), sl29⟩) (c29 : codeIn K cd29 "Grammar.follow" = true) (k29 : keepIn K (.ref f29) = true)
    (a30 : findIn K (.ref C) "choose" = some (some (.ref f30))) (i30 : isFn K (.ref f30) = true) (l30 : K.lookup f30 = some ⟨oc30, od30, .func (fnOf "choose" "Grammar.choose" (defArgs s_choose) (defBody s_choose) (defScope s_choose) .none kV30 dc30 pm30 an30 cd30 ct30), sl30⟩) (c30 : codeIn K cd30 "Grammar.choose" = true) (k30 : keepIn K (.ref f30) = true)
    (a31 : findIn K (.ref C) "conflicts" = some (some (.ref f31))) (i31 : isFn K (.ref f31) = true) (l31 : K.lookup f31 = some ⟨oc31, od31, .func (fnOf "conflicts" "Grammar.conflicts" (defArgs s_conflicts) (defBody s_conflicts) (defScope s_conflicts) .none kV31 dc31 pm31 an31 cd31 ct31), sl31⟩) (c31 : codeIn K cd31 "Grammar.conflicts" = true) (k31 : keepIn K (.ref f31) = true)
    (a32 : findIn K (.ref C) "start" = some (some (.ref f32))) (i32 : isFn K (.ref f32) = true) (l32 : K.lookup f32 = some ⟨oc32, od32, .func (fnOf "start" "Grammar.start" (defArgs s_start) (defBody s_start) (defScope s_start) .none kV32 dc32 pm32 an32 cd32 ct32), sl32⟩) (c32 : codeIn K cd32 "Grammar.start" = true) (k32 : keepIn K (.ref f32) = true)
    (a33 : findIn K (.ref C) "expected_bits" = some (some (.ref f33))) (i33 : isFn K (.ref f33) = true) (l33 : K.lookup f33 = some ⟨oc33, od33, .func (fnOf "expected_bits" "Grammar.expected_bits" (defArgs s_bits) (defBody s_bits) (defScope s_bits) .none kV33 dc33 pm33 an33 cd33 ct33), sl33⟩) (c33 : codeIn K cd33 "Grammar.expected_bits" = true) (k33 : keepIn K (.ref f33) = true)
    (a34 : findIn K (.ref C) "take" = some (some (.ref f34))) (i34 : isFn K (.ref f34) = true) (l34 : K.lookup f34 = some ⟨oc34, od34, .func (fnOf "take" "Grammar.take" (defArgs s_take) (defBody s_take) (defScope s_take) .none kV34 dc34 pm34 an34 cd34 ct34), sl34⟩) (c34 : codeIn K cd34 "Grammar.take" = true) (k34 : keepIn K (.ref f34) = true)
    (a35 : findIn K (.ref C) "expected" = some (some (.ref f35))) (i35 : isFn K (.ref f35) = true) (l35 : K.lookup f35 = some ⟨oc35, od35, .func (fnOf "expected" "Grammar.expected" (defArgs s_expected) (defBody s_expected) (defScope s_expected) .none kV35 dc35 pm35 an35 cd35 ct35), sl35⟩) (c35 : codeIn K cd35 "Grammar.expected" = true) (k35 : keepIn K (.ref f35) = true) :
    ∃ fd : FuncData, (∀ (s : Shared) (us : List Value), us.length = (["calls"] : List Str).length → BindsTo s fd ⟨us, []⟩ ((["calls"] : List Str).zip us)) ∧ ∀ base : Heap, K.In base → base.Ns mainGlobals mg → FnOk P w K mg base CX0 7 fa fd ["calls"] (spAnswers K) := by
  have e := hfa.symm.trans (mg_of X G a19)
  cases e
  have D0 := def_mk (st := s_row_settles) (ps := ["symbols", "t", "settled", "tokens_stay"]) X G a0 l0 c0 k0 (fun _ _ _ _ _ _ => ar4 (fun _ _ _ _ => rfl))
  have D1 := def_mk (st := s_settling) (ps := ["n", "t", "rules", "tokens_stay"]) X G a1 l1 c1 k1 (fun _ _ _ _ _ _ => ar4 (fun _ _ _ _ => rfl))
  have D2 := def_mk (st := s_nullable) (ps := ["n", "t", "rules"]) X G a2 l2 c2 k2 (fun _ _ _ _ _ _ => ar3 (fun _ _ _ => rfl))
  have D3 := def_mk (st := s_mark) (ps := ["symbols", "t", "marked"]) X G a3 l3 c3 k3 (fun _ _ _ _ _ _ => ar3 (fun _ _ _ => rfl))
  have D4 := def_mk (st := s_reached) (ps := ["n", "t", "rules"]) X G a4 l4 c4 k4 (fun _ _ _ _ _ _ => ar3 (fun _ _ _ => rfl))
  have D5 := def_mk (st := s_useless) (ps := ["n", "t", "rules"]) X G a5 l5 c5 k5 (fun _ _ _ _ _ _ => ar3 (fun _ _ _ => rfl))
  have D6 := def_mk (st := s_row_first) (ps := ["symbols", "t", "nullable", "firsts"]) X G a6 l6 c6 k6 (fun _ _ _ _ _ _ => ar4 (fun _ _ _ _ => rfl))
  have D7 := def_mk (st := s_firsts) (ps := ["n", "t", "rules", "nullable"]) X G a7 l7 c7 k7 (fun _ _ _ _ _ _ => ar4 (fun _ _ _ _ => rfl))
  have D8 := def_mk (st := s_spread) (ps := ["rule", "t", "nullable", "firsts", "follows"]) X G a8 l8 c8 k8 (fun _ _ _ _ _ _ => ar5 (fun _ _ _ _ _ => rfl))
  have D9 := def_mk (st := s_follows) (ps := ["n", "t", "rules", "nullable", "firsts"]) X G a9 l9 c9 k9 (fun _ _ _ _ _ _ => ar5 (fun _ _ _ _ _ => rfl))
  have D10 := def_mk (st := s_rule_tokens) (ps := ["rule", "t", "nullable", "firsts", "follows"]) X G a10 l10 c10 k10 (fun _ _ _ _ _ _ => ar5 (fun _ _ _ _ _ => rfl))
  have D11 := def_mk (st := s_choices) (ps := ["n", "t", "rules", "nullable", "firsts", "follows"]) X G a11 l11 c11 k11 (fun _ _ _ _ _ _ => ar6 (fun _ _ _ _ _ _ => rfl))
  have D12 := def_mk (st := s_conflicts_) (ps := ["choices"]) X G a12 l12 c12 k12 (fun _ _ _ _ _ _ => ar1 (fun _ => rfl))
  have D13 := def_mk (st := s_find_expected) (ps := ["to_come", "t", "nullable", "firsts"]) X G a13 l13 c13 k13 (fun _ _ _ _ _ _ => ar4 (fun _ _ _ _ => rfl))
  have D14 := def_mk (st := s_take_away) (ps := ["to_come", "token", "t", "rules", "choices"]) X G a14 l14 c14 k14 (fun _ _ _ _ _ _ => ar5 (fun _ _ _ _ _ => rfl))
  have D15 := def_mk (st := s_much) (ps := ["told", "to_come"]) X G a15 l15 c15 k15 (fun _ _ _ _ _ _ => ar2 (fun _ _ => rfl))
  have D16 := def_mk (st := s_members) (ps := ["bits", "t"]) X G a16 l16 c16 k16 (fun _ _ _ _ _ _ => ar2 (fun _ _ => rfl))
  have D17 := def_mk (st := s_place) (ps := ["calls", "place"]) X G a17 l17 c17 k17 (fun _ _ _ _ _ _ => ar2 (fun _ _ => rfl))
  have D18 := def_mk (st := s_answer) (ps := ["grammar", "call"]) X G a18 l18 c18 k18 (fun _ _ _ _ _ _ => ar2 (fun _ _ => rfl))
  have D19 := def_mk (st := s_answers) (ps := ["calls"]) X G a19 l19 c19 k19 (fun _ _ _ _ _ _ => ar1 (fun _ => rfl))
  have D20 := mdef_mk (st := s_init) (ps := ["self"]) a20 i20 l20 c20 k20 (fun _ _ _ _ _ _ => ar1 (fun _ => rfl))
  have D21 := mdef_mk (st := s_begin) (ps := ["self", "n", "t"]) a21 i21 l21 c21 k21 (fun _ _ _ _ _ _ => ar3 (fun _ _ _ => rfl))
  have D22 := mdef_mk (st := s_fit) (ps := ["self", "symbols"]) a22 i22 l22 c22 k22 (fun _ _ _ _ _ _ => ar2 (fun _ _ => rfl))
  have D23 := mdef_mk (st := s_rule) (ps := ["self", "a", "symbols"]) a23 i23 l23 c23 k23 (fun _ _ _ _ _ _ => ar3 (fun _ _ _ => rfl))
  have D24 := mdef_mk (st := s_close) (ps := ["self"]) a24 i24 l24 c24 k24 (fun _ _ _ _ _ _ => ar1 (fun _ => rfl))
  have D25 := mdef_mk (st := s_work) (ps := ["self"]) a25 i25 l25 c25 k25 (fun _ _ _ _ _ _ => ar1 (fun _ => rfl))
  have D26 := mdef_mk (st := s_refusal) (ps := ["self", "a"]) a26 i26 l26 c26 k26 (fun _ _ _ _ _ _ => ar2 (fun _ _ => rfl))
  have D27 := mdef_mk (st := s_empty) (ps := ["self", "a"]) a27 i27 l27 c27 k27 (fun _ _ _ _ _ _ => ar2 (fun _ _ => rfl))
  have D28 := mdef_mk (st := s_first) (ps := ["self", "a"]) a28 i28 l28 c28 k28 (fun _ _ _ _ _ _ => ar2 (fun _ _ => rfl))
  have D29 := mdef_mk (st := s_follow) (ps := ["self", "a"]) a29 i29 l29 c29 k29 (fun _ _ _ _ _ _ => ar2 (fun _ _ => rfl))
  have D30 := mdef_mk (st := s_choose) (ps := ["self", "a", "token"]) a30 i30 l30 c30 k30 (fun _ _ _ _ _ _ => ar3 (fun _ _ _ => rfl))
  have D31 := mdef_mk (st := s_conflicts) (ps := ["self"]) a31 i31 l31 c31 k31 (fun _ _ _ _ _ _ => ar1 (fun _ => rfl))
  have D32 := mdef_mk (st := s_start) (ps := ["self"]) a32 i32 l32 c32 k32 (fun _ _ _ _ _ _ => ar1 (fun _ => rfl))
  have D33 := mdef_mk (st := s_bits) (ps := ["self"]) a33 i33 l33 c33 k33 (fun _ _ _ _ _ _ => ar1 (fun _ => rfl))
  have D34 := mdef_mk (st := s_take) (ps := ["self", "token"]) a34 i34 l34 c34 k34 (fun _ _ _ _ _ _ => ar2 (fun _ _ => rfl))
  have D35 := mdef_mk (st := s_expected) (ps := ["self"]) a35 i35 l35 c35 k35 (fun _ _ _ _ _ _ => ar1 (fun _ => rfl))
  have hA : Args K mg dA eA nA := ⟨mg_of X G aA, lA, keys_of kA, get_of gA⟩
  refine ⟨fnOf "answers" "answers" (defArgs s_answers) (defBody s_answers) (defScope s_answers) .none kV19 dc19 pm19 an19 cd19 ct19, fun s => ar1 (fun _ => .of_eq rfl), fun base _ _ => ?_⟩
  have V : Dvs P w K mg base f2 f7 f9 f11 f12 f5 _ _ _ _ _ _ := ⟨D2, D7, D9, D11, D12, D5, (ok_nullable D2 D1 D0), (ok_firsts D7 D6).mono (by decide), (ok_follows T.rev D9 D8).mono (by decide), (ok_choices T.range T.enum D11 D10 D6 D0), (ok_conflicts_ T.len T.enum D12).mono (by decide), (ok_useless T.range D5 D1 D0 D4 D3)⟩
  have GB : FnOk P w K mg base CX0 3 f33 _ ["self"] (spBits C) := ok_bits T D33 D13 D6 D0
  have M : Ms P w K mg base C f21 f23 f24 f27 f28 f29 f30 f31 f32 f34 f35 _ _ _ _ _ _ _ _ _ _ _ := ⟨D21, (ok_begin T D21).mono (by decide), D23, (ok_rule T D23 D22).mono (by decide), D24, ok_close T D24 D25 V, D27, (ok_empty T D27 D26).mono (by decide), D28, (ok_first T D28 D26 D16).mono (by decide), D29, (ok_follow T D29 D26 D16).mono (by decide), D30, (ok_choose T D30 D26).mono (by decide), D31, (ok_conflicts T D31).mono (by decide), D32, (ok_start T D32).mono (by decide), D34, (ok_take T D34 D33 GB D14 D15).mono (by decide), D35, (ok_expected T D35 D33 GB D16).mono (by decide)⟩
  have GA : FnOk P w K mg base CX0 6 f18 _ ["grammar", "call"] (spAnswer C) := ok_answer T Cc M D18
  exact ok_answers T (mg_of X G aC) ⟨mk, a20, i20, kc⟩ D20.b (ok_init T D20.fn D21) D17 (ok_place hA Cc.k1 D17) D18 GA D19
end
end Gk

set_option Elab.async false
open PySem PySem.W PyProof.Rows
set_option maxRecDepth 100000 in
set_option maxHeartbeats 0 in
theorem PySem.Challenge.cw_grammarlook_s01_answers_holds : PySem.Challenge.rw_grammarlook_s01_answers.Holds := by
  w_on; k_headS; (case hw => exact ⟨[.list [.int 2]], by decide +kernel, by decide +kernel⟩)
  k_fillS
  refine L2.walk_specK (r := PySem.Challenge.rw_grammarlook_s01_answers) (k := 7) (CX := L2.CX0) (ps := ["calls"]) (sp := Gk.spAnswers) (by decide +kernel) rfl rfl ⟨rfl, by decide, by decide⟩ (fun w h Y => PySem.W.kIn_of Y) ?F ?S (fun _ _ _ _ z => z)
  case F =>
    intro w mg fa h Y KX G hmg
    refine' Gk.all_mk KX G hmg ?T ?Cc ?aC ?mk ?kc ?aA ?lA ?kA ?gA ?a0 ?l0 ?c0 ?k0 ?a1 ?l1 ?c1 ?k1 ?a2 ?l2 ?c2 ?k2 ?a3 ?l3 ?c3 ?k3 ?a4 ?l4 ?c4 ?k4 ?a5 ?l5 ?c5 ?k5 ?a6 ?l6 ?c6 ?k6 ?a7 ?l7 ?c7 ?k7 ?a8 ?l8 ?c8 ?k8 ?a9 ?l9 ?c9 ?k9 ?a10 ?l10 ?c10 ?k10 ?a11 ?l11 ?c11 ?k11 ?a12 ?l12 ?c12 ?k12 ?a13 ?l13 ?c13 ?k13 ?a14 ?l14 ?c14 ?k14 ?a15 ?l15 ?c15 ?k15 ?a16 ?l16 ?c16 ?k16 ?a17 ?l17 ?c17 ?k17 ?a18 ?l18 ?c18 ?k18 ?a19 ?l19 ?c19 ?k19 ?a20 ?i20 ?l20 ?c20 ?k20 ?a21 ?i21 ?l21 ?c21 ?k21 ?a22 ?i22 ?l22 ?c22 ?k22 ?a23 ?i23 ?l23 ?c23 ?k23 ?a24 ?i24 ?l24 ?c24 ?k24 ?a25 ?i25 ?l25 ?c25 ?k25 ?a26 ?i26 ?l26 ?c26 ?k26 ?a27 ?i27 ?l27 ?c27 ?k27 ?a28 ?i28 ?l28 ?c28 ?k28 ?a29 ?i29 ?l29 ?c29 ?k29 ?a30 ?i30 ?l30 ?c30 ?k30 ?a31 ?i31 ?l31 ?c31 ?k31 ?a32 ?i32 ?l32 ?c32 ?k32 ?a33 ?i33 ?l33 ?c33 ?k33 ?a34 ?i34 ?l34 ?c34 ?k34 ?a35 ?i35 ?l35 ?c35 ?k35
    (case aC => k_is)
    case T =>
      refine' Gk.txt_mk KX G ?pg ?hd ?po ?sa ?n_n ?n_t ?n_r ?n_c ?n_nl ?n_f ?n_o ?n_ch ?n_k ?n_tc ?b_len ?b_range ?b_tuple ?b_list ?b_enum ?b_rev ?g_done ?g_out ?g_many ?g_now ?g_fits ?g_sev ?g_use ?g_mn ?g_mt ?g_mr ?g_ms ?g_told ?g_come
      (case pg => k_is); (case hd => k_is); (case po => k_is); (case sa => k_is); (case n_n => k_is); (case n_t => k_is); (case n_r => k_is); (case n_c => k_is); (case n_nl => k_is); (case n_f => k_is); (case n_o => k_is); (case n_ch => k_is); (case n_k => k_is); (case n_tc => k_is); (case b_len => k_is); (case b_range => k_is); (case b_tuple => k_is); (case b_list => k_is); (case b_enum => k_is); (case b_rev => k_is); (case g_done => k_is); (case g_out => k_is); (case g_many => k_is); (case g_now => k_is); (case g_fits => k_is); (case g_sev => k_is); (case g_use => k_is); (case g_mn => k_is); (case g_mt => k_is); (case g_mr => k_is); (case g_ms => k_is); (case g_told => k_is); (case g_come => k_is)
    case Cc =>
      refine' Gk.cd_mk KX G ?qq0 ?qq1 ?qq2 ?qq3 ?qq4 ?qq5 ?qq6 ?qq7 ?qq8 ?qq9
      (case qq0 => k_is); (case qq1 => k_is); (case qq2 => k_is); (case qq3 => k_is); (case qq4 => k_is); (case qq5 => k_is); (case qq6 => k_is); (case qq7 => k_is); (case qq8 => k_is); (case qq9 => k_is)
    (case mk => k_is); (case kc => k_is); (case aA => k_is); (case lA => k_is)
    (case kA => decide +kernel); (case gA => decide +kernel)
    (case a0 => k_is)
    (case l0 => k_is)
    (case c0 => k_is)
    (case k0 => k_is)
    (case a1 => k_is)
    (case l1 => k_is)
    (case c1 => k_is)
    (case k1 => k_is)
    (case a2 => k_is)
    (case l2 => k_is)
    (case c2 => k_is)
    (case k2 => k_is)
    (case a3 => k_is)
    (case l3 => k_is)
    (case c3 => k_is)
    (case k3 => k_is)
    (case a4 => k_is)
    (case l4 => k_is)
    (case c4 => k_is)
    (case k4 => k_is)
    (case a5 => k_is)
    (case l5 => k_is)
    (case c5 => k_is)
    (case k5 => k_is)
    (case a6 => k_is)
    (case l6 => k_is)
    (case c6 => k_is)
    (case k6 => k_is)
    (case a7 => k_is)
    (case l7 => k_is)
    (case c7 => k_is)
    (case k7 => k_is)
    (case a8 => k_is)
    (case l8 => k_is)
    (case c8 => k_is)
    (case k8 => k_is)
    (case a9 => k_is)
    (case l9 => k_is)
    (case c9 => k_is)
    (case k9 => k_is)
    (case a10 => k_is)
    (case l10 => k_is)
    (case c10 => k_is)
    (case k10 => k_is)
    (case a11 => k_is)
    (case l11 => k_is)
    (case c11 => k_is)
    (case k11 => k_is)
    (case a12 => k_is)
    (case l12 => k_is)
    (case c12 => k_is)
    (case k12 => k_is)
    (case a13 => k_is)
    (case l13 => k_is)
    (case c13 => k_is)
    (case k13 => k_is)
    (case a14 => k_is)
    (case l14 => k_is)
    (case c14 => k_is)
    (case k14 => k_is)
    (case a15 => k_is)
    (case l15 => k_is)
    (case c15 => k_is)
    (case k15 => k_is)
    (case a16 => k_is)
    (case l16 => k_is)
    (case c16 => k_is)
    (case k16 => k_is)
    (case a17 => k_is)
    (case l17 => k_is)
    (case c17 => k_is)
    (case k17 => k_is)
    (case a18 => k_is)
    (case l18 => k_is)
    (case c18 => k_is)
    (case k18 => k_is)
    (case a19 => k_is)
    (case l19 => k_is)
    (case c19 => k_is)
    (case k19 => k_is)
    (case a20 => k_is)
    (case i20 => k_is)
    (case l20 => k_is)
    (case c20 => k_is)
    (case k20 => k_is)
    (case a21 => k_is)
    (case i21 => k_is)
    (case l21 => k_is)
    (case c21 => k_is)
    (case k21 => k_is)
    (case a22 => k_is)
    (case i22 => k_is)
    (case l22 => k_is)
    (case c22 => k_is)
    (case k22 => k_is)
    (case a23 => k_is)
    (case i23 => k_is)
    (case l23 => k_is)
    (case c23 => k_is)
    (case k23 => k_is)
    (case a24 => k_is)
    (case i24 => k_is)
    (case l24 => k_is)
    (case c24 => k_is)
    (case k24 => k_is)
    (case a25 => k_is)
    (case i25 => k_is)
    (case l25 => k_is)
    (case c25 => k_is)
    (case k25 => k_is)
    (case a26 => k_is)
    (case i26 => k_is)
    (case l26 => k_is)
    (case c26 => k_is)
    (case k26 => k_is)
    (case a27 => k_is)
    (case i27 => k_is)
    (case l27 => k_is)
    (case c27 => k_is)
    (case k27 => k_is)
    (case a28 => k_is)
    (case i28 => k_is)
    (case l28 => k_is)
    (case c28 => k_is)
    (case k28 => k_is)
    (case a29 => k_is)
    (case i29 => k_is)
    (case l29 => k_is)
    (case c29 => k_is)
    (case k29 => k_is)
    (case a30 => k_is)
    (case i30 => k_is)
    (case l30 => k_is)
    (case c30 => k_is)
    (case k30 => k_is)
    (case a31 => k_is)
    (case i31 => k_is)
    (case l31 => k_is)
    (case c31 => k_is)
    (case k31 => k_is)
    (case a32 => k_is)
    (case i32 => k_is)
    (case l32 => k_is)
    (case c32 => k_is)
    (case k32 => k_is)
    (case a33 => k_is)
    (case i33 => k_is)
    (case l33 => k_is)
    (case c33 => k_is)
    (case k33 => k_is)
    (case a34 => k_is)
    (case i34 => k_is)
    (case l34 => k_is)
    (case c34 => k_is)
    (case k34 => k_is)
    (case a35 => k_is)
    (case i35 => k_is)
    (case l35 => k_is)
    (case c35 => k_is)
    (case k35 => k_is)
  case S =>
    intro K H xs a hO hwi hask hx
    cases hx with
    | cons h1 h2 =>
      cases h2
      cases h1 with
      | lst hs ha =>
        have e := L2.ints_dw a.1 _ ha
        subst e
        have hask : PyWqamag.answers_asked a.1 = true := hask
        obtain ⟨cs, c1, c2, c3⟩ := Gm.asked_run hask
        have e : a.1.map L2.V.int = Gk.vN (cs.flatMap Gm.flat) := by
          rw [c2]
          unfold Gm.cn Gk.vN
          rw [List.map_map]
          rfl
        rw [e] at hs
        refine ⟨_, cs, rfl, hs, c1, fun H' p hp => ?_⟩
        rw [← c3] at hp
        exact .lst (L2.SqL.of hp) (L2.dw_ints _)
