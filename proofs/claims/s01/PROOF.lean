import PyProof.Rows.All
import Wide.All
import OpenK.AllK
import Wide.FinOn
import PyProof.EqAt
import PyProof.EqKinds
import PyProof.TupleCall
import KE.BitLaws
import Open.SpecLaws
import KE.OsHead
import KE.OsGo
import PySem.Challenge.RW_treewaysdesk_s01_answers
section
set_option Elab.async false
set_option linter.all false
set_option maxRecDepth 100000
/-! THE HAND LAYER, for ints, bools, texts, own classes, lists, tuples, dicts, comprehensions, walks over dicts, enumerate, zip, reversed, texts, calls, loops. Paste it whole ahead of your own text; what your proof does not reach may be deleted. -/
namespace L2
open PySem PySem.Spec PyProof.Rows

/-- a key: an int or a str -/
abbrev Key := Sum Int Str
def keyIs : Key → Value → Bool
  | .inl k, v => Value.isInt k v
  | .inr x, v => Value.isStrOf x v
def keyH (w : World) : Key → Int
  | .inl k => hashInt k
  | .inr x => hashStr w x
theorem keyIs_shape : ∀ {k : Key} {v : Value}, keyIs k v = true → (∃ i t, k = Sum.inl i ∧ v = Value.int i t) ∨ (∃ x t, k = Sum.inr x ∧ v = Value.str x t)
  | .inl i, v, h => by
    obtain ⟨t, e⟩ := Value.isInt_shape (k := i) (v := v) h
    exact .inl ⟨i, t, rfl, e⟩
  | .inr x, v, h => by
    obtain ⟨t, e⟩ := Value.isStrOf_shape (x := x) (v := v) h
    exact .inr ⟨x, t, rfl, e⟩
theorem key_ll (a b : Int) : decide ((Sum.inl a : Key) = Sum.inl b) = (a == b) := by
  by_cases e : a = b
  · subst e; simp
  · have h : ¬ (Sum.inl a : Key) = Sum.inl b := fun q => e (Sum.inl.inj q)
    rw [decide_eq_false h]
    exact (beq_eq_false_iff_ne.mpr e).symm
theorem key_rr (a b : Str) : decide ((Sum.inr a : Key) = Sum.inr b) = decide (a = b) := by
  by_cases e : a = b
  · subst e; simp
  · have h : ¬ (Sum.inr a : Key) = Sum.inr b := fun q => e (Sum.inr.inj q)
    rw [decide_eq_false h, decide_eq_false e]
theorem key_lr (a : Int) (b : Str) : decide ((Sum.inl a : Key) = Sum.inr b) = false := decide_eq_false (fun q => nomatch q)
theorem key_rl (a : Str) (b : Int) : decide ((Sum.inr a : Key) = Sum.inl b) = false := decide_eq_false (fun q => nomatch q)

def mixKind (prog : Program) (w : World) : PySem.KeyKind prog w Key where
  is := keyIs
  hash := keyH w
  inj := fun v a b ha hb => by
    rcases keyIs_shape ha with ⟨i, t, rfl, rfl⟩ | ⟨x, t, rfl, rfl⟩
    · rcases keyIs_shape hb with ⟨j, u, rfl, e⟩ | ⟨y, u, rfl, e⟩
      · injection e with e1 _; rw [e1]
      · exact nomatch e
    · rcases keyIs_shape hb with ⟨j, u, rfl, e⟩ | ⟨y, u, rfl, e⟩
      · exact nomatch e
      · injection e with e1 _; rw [e1]
  byValue := fun k v h => by
    rcases keyIs_shape h with ⟨i, t, rfl, rfl⟩ | ⟨x, t, rfl, rfl⟩ <;> rfl
  pyHash := fun hv h => by
    rcases keyIs_shape hv with ⟨i, t, rfl, rfl⟩ | ⟨x, t, rfl, rfl⟩
    · exact wpAny_pyHash_int h
    · exact wpAny_pyHash_str h
  eqBool := fun hu hv h => by
    rcases keyIs_shape hu with ⟨i, t, rfl, rfl⟩ | ⟨x, t, rfl, rfl⟩
    · rcases keyIs_shape hv with ⟨j, u, rfl, rfl⟩ | ⟨y, u, rfl, rfl⟩
      · rw [key_ll] at h; exact wpAny_eqBool_int h
      · rw [key_lr] at h; exact SeqAt.EqAt.int_str i t y u _ _ _ _ h
    · rcases keyIs_shape hv with ⟨j, u, rfl, rfl⟩ | ⟨y, u, rfl, rfl⟩
      · rw [key_rl] at h; exact SeqAt.EqAt.str_int x t j u _ _ _ _ h
      · rw [key_rr] at h; exact wpAny_eqBool_str h
  «strs» := fun k x t v h => by
    rcases keyIs_shape h with ⟨i, u, rfl, e⟩ | ⟨y, u, rfl, e⟩
    · exact nomatch e
    · injection e with e1 _
      subst e1
      cases v <;> rfl

end L2

namespace L2
open PySem PySem.Spec PyProof.Rows

/-- a value, without the heap -/
inductive V where
  | non | bl (b : Bool) | int (i : Int) | str (x : Str) | byt (b : Array UInt8) | flt (b : UInt64) | ref (a : Addr) | ty (n : String)
  deriving DecidableEq

def RelV : V → Value → Prop
  | .non, u => u = Value.none
  | .bl b, u => u = Value.bool b
  | .int i, u => ∃ t, u = Value.int i t
  | .str x, u => ∃ t, u = Value.str x t
  | .byt b, u => ∃ t, u = Value.bytes b t
  | .flt b, u => ∃ t, u = Value.float b t
  | .ref a, u => u = Value.ref a
  | .ty n, u => u = Value.type n

abbrev Vals : List V → List Value → Prop := Paired RelV
theorem Vals.length {xs : List V} {us : List Value} (r : Vals xs us) : xs.length = us.length := Paired.length r
theorem Vals.get : ∀ {xs : List V} {us : List Value} {i : Nat} {x : V}, Vals xs us → xs[i]? = some x → ∃ u, us[i]? = some u ∧ RelV x u
  | _, _, _, _, .nil, e => by simp at e
  | _, _, 0, _, .cons r _, e => by simp at e; subst e; exact ⟨_, rfl, r⟩
  | _, _, i + 1, x, .cons _ t, e => by
    obtain ⟨u, h1, h2⟩ := Vals.get (i := i) (x := x) t (by simpa using e)
    exact ⟨u, by simpa using h1, h2⟩
theorem Vals.set {x : V} {u : Value} (r : RelV x u) : ∀ {xs : List V} {us : List Value} (i : Nat), Vals xs us → Vals (xs.set i x) (us.set i u)
  | _, _, _, .nil => .nil
  | _, _, 0, .cons _ t => .cons r t
  | _, _, i + 1, .cons q t => .cons q (Vals.set r i t)
theorem Vals.append : ∀ {xs ys : List V} {us ws : List Value}, Vals xs us → Vals ys ws → Vals (xs ++ ys) (us ++ ws)
  | _, _, _, _, .nil, s => s
  | _, _, _, _, .cons r t, s => .cons r (Vals.append t s)
theorem Vals.take : ∀ {xs : List V} {us : List Value} (n : Nat), Vals xs us → Vals (xs.take n) (us.take n)
  | _, _, 0, _ => .nil
  | _, _, _ + 1, .nil => .nil
  | _, _, n + 1, .cons r t => .cons r (Vals.take n t)
theorem Vals.drop : ∀ {xs : List V} {us : List Value} (n : Nat), Vals xs us → Vals (xs.drop n) (us.drop n)
  | _, _, 0, r => r
  | _, _, _ + 1, .nil => .nil
  | _, _, n + 1, .cons _ t => Vals.drop n t
def RelO : Option V → Option Value → Prop
  | some v, some u => RelV v u
  | none, none => True
  | _, _ => False
def KV {κ : Type} : List (κ × V) → List (κ × Value) → Prop := Paired fun (p : κ × V) (q : κ × Value) => p.1 = q.1 ∧ RelV p.2 q.2

/-- a key of a dict (00_mix): an int or a text -/
def kV : Key → V
  | .inl i => .int i
  | .inr x => .str x

/-- what stands at a tracked address -/
inductive HO where
  /-- a list -/
  | lst (xs : List V)
  /-- a tuple (never changes) -/
  | tup (xs : List V)
  /-- a dict whose keys are ints and texts; one whose keys are tuples of ints and texts (the empty one is both) -/
  | dK (kvs : List (Key × V)) | dT (kvs : List (List Key × V))
  /-- a set of ints: its members, its size -/
  | set (S : Int → Bool) (n : Nat)
  /-- an instance of the class at C, its dict at dx, its attributes -/
  | ins (C dx : Addr) (fs : List (Str × V))
  /-- the dict of the instance at x -/
  | own (x : Addr)
  /-- the dict of an exception -/
  | xd (fs : List (Str × V))
  /-- a bound method, f of x -/
  | met (f x : Addr)
  /-- a range object lo, lo + 1, .. below hi -/
  | rng (lo hi : Int)
  /-- a thing that is known to the object (the script; a dict while a loop walks it): read, never written while it is so -/
  | frz (o : Obj) (u : HO)
  /-- a code object's table -/
  | tbl (ps : Array Value)
  /-- any other thing, by what is true of its one object (a def of one's own: SetO a S n := HO.ext fun h => ..) -/
  | ext (φ : Heap → Prop)

abbrev Hp := Addr → Option HO
def upd (H : Hp) (a : Addr) (o : HO) : Hp := fun b => if b = a then some o else H b
theorem upd_same {H : Hp} {a : Addr} {o : HO} : upd H a o a = some o := by unfold upd; rw [if_pos rfl]
theorem upd_ne {H : Hp} {a b : Addr} {o : HO} (h : b ≠ a) : upd H a o b = H b := by unfold upd; rw [if_neg h]
theorem upd_upd {H : Hp} {a : Addr} {o u : HO} : upd (upd H a o) a u = upd H a u := by
  funext b; unfold upd; split <;> rfl
/-- two objects of different content stand apart -/
theorem ne_of {H : Hp} {a b : Addr} {o u : HO} (h : H a = some o) (h' : H b = some u) (d : o ≠ u) : a ≠ b := by
  intro e; subst e; rw [h] at h'; exact d (Option.some.inj h')
theorem ne_of_none {H : Hp} {a b : Addr} {o : HO} (h : H a = some o) (h' : H b = none) : a ≠ b := by
  intro e; subst e; rw [h] at h'; cases h'

section
variable (P : Program) (w : World)
def ObjOk (H : Hp) (h : Heap) (a : Addr) : HO → Prop
  | .lst xs => xs.length ≤ sizeLine ∧ ∃ (its : List Value) (n : Nat), Vals xs its ∧ h.get? a = some { cls := .type "list", data := .seq its.toArray n }
  | .tup xs => xs.length ≤ sizeLine ∧ ∃ its : List Value, Vals xs its ∧ IsTup h a its.toArray
  | .dK kvs => kvs.length ≤ sizeLine ∧ (a == sysModules) = false ∧ ∃ vs, KV kvs vs ∧ h.DictOf (mixKind P w) a vs
  | .dT kvs => kvs.length ≤ sizeLine ∧ (a == sysModules) = false ∧ ∃ xs : List (List Key × Addr × Value),
      Paired (fun (p : List Key × V) (q : List Key × Addr × Value) => p.1 = q.1 ∧ H q.2.1 = some (.tup (p.1.map kV)) ∧ RelV p.2 q.2.2) kvs xs ∧
      ∃ o es ep, h.get? a = some o ∧ o.ExactDict ∧ o.data = .dict es ep ∧ es.toList = xs.map (entryOfKey (tupleKind (mixKind P w))) ∧ (xs.map (·.1)).Nodup
  | .set S n => h.SetOf (intKind P w) a S n
  | .ins C dx fs => H dx = some (.own a) ∧ fs.length ≤ 1000 ∧ dx ≠ a ∧ h.get? a = some (PySem.W.instObj C dx) ∧
      ∃ mA, h.Ns1 dx mA ∧ (∀ f, RelO (fs.lookup f) (mA f)) ∧ PySem.Within mA (fs.map (·.1))
  | .own _ => ∃ o, h.get? a = some o
  | .xd fs => ∃ mA, h.Ns1 a mA ∧ ∀ f, RelO (fs.lookup f) (mA f)
  | .rng lo hi => ∃ t u v, h.get? a = some { cls := .type "range", data := .fields #[.int lo t, .int hi u, .int 1 v] }
  | .frz o u => h.get? a = some o ∧ ObjOk H h a u
  | .tbl ps => h.get? a = some { cls := .none, data := .fields ps }
  | .met f x => h.get? a = some (PySem.W.methodObj (.ref f) (.ref x))
  | .ext φ => φ h ∧ (∃ o, h.get? a = some o) ∧ ∀ h1 h2 : Heap, φ h1 → (∀ o, h1.get? a = some o → h2.get? a = some o) → φ h2
/-- the abstract heap is held -/
def HOk (H : Hp) (h : Heap) : Prop := ∀ a o, H a = some o → ObjOk P w H h a o
end

section
variable {P : Program} {w : World} {H H' : Hp} {h h' : Heap} {a : Addr} {o : HO}
theorem ObjOk.lt (x : ObjOk P w H h a o) : a < h.objs.size := by
  cases o with
  | lst xs => obtain ⟨_, _, _, _, e⟩ := x; exact Heap.lt_size e
  | tup xs => obtain ⟨_, _, _, p⟩ := x; exact p.lt
  | dK kvs => obtain ⟨_, _, _, _, o, _, _, e, _⟩ := x; exact Heap.lt_size e
  | dT kvs => obtain ⟨_, _, _, _, o, _, _, e, _⟩ := x; exact Heap.lt_size e
  | set S n => obtain ⟨o, _, _, _, e, _⟩ := x; exact Heap.lt_size e
  | ins C dx fs => obtain ⟨_, _, _, e, _⟩ := x; exact Heap.lt_size e
  | own y => obtain ⟨_, e⟩ := x; exact Heap.lt_size e
  | xd fs => obtain ⟨_, ⟨_, _, _, e, _⟩, _⟩ := x; exact Heap.lt_size e
  | rng lo hi => obtain ⟨_, _, _, e⟩ := x; exact Heap.lt_size e
  | frz ob u => obtain ⟨e, _⟩ := x; exact Heap.lt_size e
  | tbl ps => exact Heap.lt_size (show h.get? a = some _ from x)
  | met f y => exact Heap.lt_size (show h.get? a = some _ from x)
  | ext φ => obtain ⟨_, ⟨_, e⟩, _⟩ := x; exact Heap.lt_size e
theorem Paired.mapP {α β : Type} {F G : α → β → Prop} : ∀ {l₁ : List α} {l₂ : List β}, Paired F l₁ l₂ → (∀ a b, F a b → G a b) → Paired G l₁ l₂
  | _, _, .nil, _ => .nil
  | _, _, .cons r t, f => .cons (f _ _ r) (Paired.mapP t f)
/-- what an object's description leans on: its own object, its own dict, the tuples -/
theorem ObjOk.stay (x : ObjOk P w H h a o) (k : ∀ b u, (b = a ∨ H b = some (.own a)) → h.get? b = some u → h'.get? b = some u)
    (ho : ∀ b, H b = some (.own a) → H' b = some (.own a)) (ht : ∀ b xs, H b = some (.tup xs) → H' b = some (.tup xs)) : ObjOk P w H' h' a o := by
  induction o with
  | lst xs => obtain ⟨z, its, n, r, e⟩ := x; exact ⟨z, its, n, r, k _ _ (.inl rfl) e⟩
  | tup xs => obtain ⟨z, its, r, ob, e, c⟩ := x; exact ⟨z, its, r, ob, k _ _ (.inl rfl) e, c⟩
  | dK kvs => obtain ⟨z, y, vs, r, ob, es, ep, e, c⟩ := x; exact ⟨z, y, vs, r, ob, es, ep, k _ _ (.inl rfl) e, c⟩
  | dT kvs =>
    obtain ⟨z, y, xs, r, ob, es, ep, e, c⟩ := x
    exact ⟨z, y, xs, Paired.mapP r fun p q z => ⟨z.1, ht _ _ z.2.1, z.2.2⟩, ob, es, ep, k _ _ (.inl rfl) e, c⟩
  | set S n => obtain ⟨ob, es, ep, t, e, c⟩ := x; exact ⟨ob, es, ep, t, k _ _ (.inl rfl) e, c⟩
  | ins C dx fs =>
    obtain ⟨d, z, ne, e, mA, ⟨od, es, ep, e2, c⟩, r⟩ := x
    exact ⟨ho _ d, z, ne, k _ _ (.inl rfl) e, mA, ⟨od, es, ep, k _ _ (.inr d) e2, c⟩, r⟩
  | own y => obtain ⟨ob, e⟩ := x; exact ⟨ob, k _ _ (.inl rfl) e⟩
  | xd fs => obtain ⟨mA, ⟨od, es, ep, e, c⟩, r⟩ := x; exact ⟨mA, ⟨od, es, ep, k _ _ (.inl rfl) e, c⟩, r⟩
  | rng lo hi => obtain ⟨t, u, v, e⟩ := x; exact ⟨t, u, v, k _ _ (.inl rfl) e⟩
  | frz ob u ih => obtain ⟨e, q⟩ := x; exact ⟨k _ _ (.inl rfl) e, ih q⟩
  | tbl ps =>
    have e : h.get? a = some { cls := .none, data := .fields ps } := x
    show h'.get? a = some { cls := .none, data := .fields ps }
    exact k a _ (.inl rfl) e
  | met f y =>
    have e : h.get? a = some (PySem.W.methodObj (.ref f) (.ref y)) := x
    show h'.get? a = some (PySem.W.methodObj (.ref f) (.ref y))
    exact k a _ (.inl rfl) e
  | ext φ => obtain ⟨p, ⟨o, e⟩, st⟩ := x; exact ⟨st _ _ p fun o q => k _ _ (.inl rfl) q, ⟨o, k _ _ (.inl rfl) e⟩, st⟩
theorem HOk.lt (x : HOk P w H h) (e : H a = some o) : a < h.objs.size := (x a o e).lt
theorem HOk.fresh (x : HOk P w H h) (e : h.objs.size ≤ a) : H a = none := by
  cases q : H a with
  | none => rfl
  | some u => exact absurd (Nat.lt_of_lt_of_le (x.lt q) e) (Nat.lt_irrefl _)
/-- every object of the heap is kept -/
theorem HOk.kept (x : HOk P w H h) (k : ∀ b u, h.get? b = some u → h'.get? b = some u) : HOk P w H h' := fun a o e =>
  (x a o e).stay (fun b u _ q => k b u q) (fun _ q => q) fun _ _ q => q
/-- a new object is laid and tracked -/
theorem HOk.laid (x : HOk P w H h) (k : ∀ b u, h.get? b = some u → h'.get? b = some u) (hp : h.objs.size ≤ a) (new : ObjOk P w (upd H a o) h' a o) : HOk P w (upd H a o) h' := fun b u e => by
  have hn := x.fresh hp
  by_cases hb : b = a
  · subst hb; rw [upd_same] at e; cases e; exact new
  · rw [upd_ne hb] at e
    exact (x b u e).stay (fun c v _ q => k c v q) (fun c q => by rw [upd_ne (ne_of_none q hn)]; exact q) fun c xs q => by rw [upd_ne (ne_of_none q hn)]; exact q
end

/-- what may be read as u: it is u, or a known u -/
def Rd (H : Hp) (a : Addr) (u : HO) : Prop := H a = some u ∨ ∃ o, H a = some (.frz o u)
theorem Rd.ok {P : Program} {w : World} {H : Hp} {h : Heap} {a : Addr} {u : HO} (r : Rd H a u) (x : HOk P w H h) : ObjOk P w H h a u := by
  rcases r with r | ⟨o, r⟩
  · exact x a u r
  · obtain ⟨_, q⟩ := x a _ r
    exact q
/-- what may be written -/
def Mut : Option HO → Prop
  | some (.lst _) => True
  | some (.dK _) => True
  | some (.dT _) => True
  | some (.set _ _) => True
  | some (.ins _ _ _) => True
  | some (.ext _) => True
  | _ => False
section
variable {P : Program} {w : World} {H : Hp} {h h' : Heap} {x e : Addr} {o' : HO}
/-- the object at e is changed: x itself, or the dict of the instance x -/
theorem HOk.write (ok : HOk P w H h) (mu : Mut (H x)) (he : e = x ∨ H e = some (.own x)) (k : ∀ b u, b ≠ e → h.get? b = some u → h'.get? b = some u) (heo : ∃ u, h'.get? e = some u)
    (new : ObjOk P w (upd H x o') h' x o') : HOk P w (upd H x o') h' := fun b u q => by
  have nown : ∀ c y, H c = some (.own y) → c ≠ x := fun c y r z => by subst z; rw [r] at mu; exact mu
  have ntup : ∀ c xs, H c = some (.tup xs) → c ≠ x := fun c xs r z => by subst z; rw [r] at mu; exact mu
  by_cases hb : b = x
  · subst hb; rw [upd_same] at q; cases q; exact new
  · rw [upd_ne hb] at q
    by_cases hbe : b = e
    · have q' : H b = some (.own x) := by
        rcases he with z | z
        · exact absurd (hbe.trans z) hb
        · rw [hbe]; exact z
      rw [q] at q'; cases q'
      obtain ⟨v, hv⟩ := heo
      exact ⟨v, by rw [hbe]; exact hv⟩
    · refine (ok b u q).stay (fun c v hc r => k c v ?_ r) (fun c r => by rw [upd_ne (nown c b r)]; exact r) fun c xs r => by rw [upd_ne (ntup c xs r)]; exact r
      rcases hc with rfl | hc
      · exact hbe
      · rintro rfl
        rcases he with z | z
        · exact nown c b hc z
        · rw [hc] at z; cases z; exact hb rfl
end

/-! ### kept unless tracked; of the frames at fs (the callers') the slots may change (an exception that passes writes there); of the records at ex (iterators) nothing is said -/
structure Un (fs ex : List Addr) (H H' : Hp) (h h' : Heap) : Prop where
  keep : ∀ b o, h.get? b = some o → H b = none → b ∉ fs → b ∉ ex → h'.get? b = some o
  slot : ∀ b o, h.get? b = some o → H b = none → b ∈ fs → b ∉ ex → ∃ sl, h'.get? b = some { o with slots := sl }
  free : ∀ b o, h.get? b = some o → H b = none → b ∉ ex → H' b = none
  there : ∀ b o, h.get? b = some o → b ∉ ex → ∃ o', h'.get? b = some o'
  tups : ∀ b xs, H b = some (.tup xs) → H' b = some (.tup xs)
  frzs : ∀ b o u, H b = some (.frz o u) → H' b = some (.frz o u)
  tbls : ∀ b ps, H b = some (.tbl ps) → ∃ more, H' b = some (.tbl (ps ++ more))
section
variable {fs fs' ex ex' : List Addr} {H H1 H2 : Hp} {h h1 h2 h' : Heap} {a x e : Addr} {o : HO}
theorem Un.any (u : Un fs ex H H1 h h1) {b : Addr} {ob : Obj} (q : h.get? b = some ob) (n : H b = none) (hx : b ∉ ex) : ∃ sl, h1.get? b = some { ob with slots := sl } := by
  by_cases hb : b ∈ fs
  · exact u.slot b ob q n hb hx
  · exact ⟨ob.slots, u.keep b ob q n hb hx⟩
theorem Un.kept (k : ∀ b u, h.get? b = some u → h'.get? b = some u) : Un fs ex H H h h' :=
  ⟨fun b ob q _ _ _ => k b ob q, fun b ob q _ _ _ => ⟨ob.slots, k b ob q⟩, fun _ _ _ n _ => n, fun b ob q _ => ⟨ob, k b ob q⟩, fun _ _ q => q, fun _ _ _ q => q, fun _ ps q => ⟨#[], by rw [q]; simp⟩⟩
theorem Un.refl : Un fs ex H H h h := Un.kept fun _ _ q => q
theorem Un.laid (k : ∀ b u, h.get? b = some u → h'.get? b = some u) (hp : h.objs.size ≤ a) (hn : H a = none) : Un fs ex H (upd H a o) h h' where
  keep := fun b u q _ _ _ => k b u q
  slot := fun b u q _ _ _ => ⟨u.slots, k b u q⟩
  free := fun b u q n _ => by rw [upd_ne (Nat.ne_of_lt (Nat.lt_of_lt_of_le (Heap.lt_size q) hp))]; exact n
  there := fun b u q _ => ⟨u, k b u q⟩
  tups := fun b xs q => by rw [upd_ne (ne_of_none q hn)]; exact q
  frzs := fun b u xs q => by rw [upd_ne (ne_of_none q hn)]; exact q
  tbls := fun b ps q => ⟨#[], by rw [upd_ne (ne_of_none q hn), q]; simp⟩
theorem Un.write (mu : Mut (H x)) (he : e = x ∨ H e = some (.own x)) (k : ∀ b u, b ≠ e → h.get? b = some u → h'.get? b = some u) (heo : ∃ u, h'.get? e = some u) : Un fs ex H (upd H x o) h h' := by
  have hx : ∀ b, H b = none → b ≠ x := fun b n z => by subst z; rw [n] at mu; exact mu
  have hb : ∀ b, H b = none → b ≠ e := fun b n z => by
    subst z
    rcases he with r | r
    · exact hx b n r
    · rw [n] at r; cases r
  have hm : ∀ b u, H b = some u → ¬ Mut (some u) → b ≠ x := fun b u q nm z => by subst z; rw [q] at mu; exact nm mu
  refine ⟨fun b u q n _ _ => k b u (hb b n) q, fun b u q n _ _ => ⟨u.slots, k b u (hb b n) q⟩, fun b u q n _ => by rw [upd_ne (hx b n)]; exact n, fun b u q _ => ?_,
    fun b xs q => by rw [upd_ne (hm b _ q fun z => z)]; exact q, fun b u xs q => by rw [upd_ne (hm b _ q fun z => z)]; exact q, fun b ps q => ⟨#[], by rw [upd_ne (hm b _ q fun z => z), q]; simp⟩⟩
  by_cases hbe : b = e
  · subst hbe; exact heo
  · exact ⟨u, k b u hbe q⟩
end

/-! ### the heap without what is tracked -/
def trk (h : Heap) (H : Hp) : List Addr := (List.range h.objs.size).filter fun a => (H a).isSome
def hidT (h : Heap) (H : Hp) : Heap := PySem.W.hideAll h (trk h H)
theorem hidT_size (h : Heap) (H : Hp) : (hidT h H).objs.size = h.objs.size := PySem.W.hideAll_size _ _
theorem hidT_get {h : Heap} {H : Hp} {b : Addr} {o : Obj} (e : h.get? b = some o) (n : H b = none) : (hidT h H).get? b = some o :=
  PySem.W.hideAll_get _ e fun hm => by
    have q : (H b).isSome = true := (List.mem_filter.mp hm).2
    rw [n] at q; simp at q
theorem of_hidT {h : Heap} {H : Hp} {b : Addr} {o : Obj} (e : (hidT h H).get? b = some o) : h.get? b = some o ∧ H b = none := by
  have e' : h.get? b = some o := PySem.W.of_hideAll (trk h H) e
  refine ⟨e', ?_⟩
  cases q : H b with
  | none => rfl
  | some x =>
    have hm : b ∈ trk h H := List.mem_filter.mpr ⟨List.mem_range.mpr (Heap.lt_size e'), by simp [q]⟩
    have z : (hidT h H).get? b = none := PySem.W.hideAll_none (trk h H) hm
    rw [z] at e; cases e

/-! ### OpenK's ledger, filled with every new object but one -/
end L2

namespace L2
open PySem PySem.Spec PyProof.Rows

/-- the module's facts, over the base: the heap at the law's entry without what is tracked there -/
structure Mod (K : PySem.W.Frag) (mg : Str → Option Value) (base : Heap) : Prop where
  kin : K.In base
  glob : base.Ns mainGlobals mg
  blt : ∃ mb, base.Ns builtinsNs mb ∧ ∀ x : Str, x ≠ "__name__" → mb x = bootBuiltins x
  nolimit : base.NoLimit

/-- the context: a def's body (or a comprehension's block) running. base: fixed through the whole law; s₀, H₀: the entry; outer: the frames whose slots others may change (a def's callers); stack: all frames that run;
   ex: iterators that were made ahead of the entry and are walked here (a comprehension's); fn: the names whose cells were made at the entry (a def: all; a comprehension's block: its own); calm: not within an except suite; pn: pins that every state bears; xe: what is wanted of an exception that leaves the code -/
structure Cx where
  prog : Program
  w : World
  K : PySem.W.Frag
  mg : Str → Option Value
  base : Heap
  A : Around
  N : List Str
  s_0 : Shared
  H_0 : Hp
  env : Env
  outer : List Env
  stack : List Env
  ex : List Addr
  fn : Str → Bool
  calm : Bool
  pn : List (Addr × Obj)
  xe : Value → Shared → Prop
/-- the callers' frames -/
def frs (l : List Env) : List Addr := l.filterMap (·.frame)
abbrev Cx.fs (X : Cx) : List Addr := frs X.outer

def Vis (sc : Scope) (x : Str) : Prop := sc.names.lookup x = some .local ∨ sc.names.lookup x = some .cell ∨ sc.names.lookup x = some .free
def Loc (sc : Scope) (x : Str) : Prop := sc.names.lookup x = some .local ∨ sc.names.lookup x = some .cell
def Look (env : Env) (h : Heap) (m : Str → Option Value) (x : Str) (u : Value) : Prop :=
  (env.kindOf x = some .local ∧ m x = some u) ∨ ((env.kindOf x = some .cell ∨ env.kindOf x = some .free) ∧ ∃ c, env.cells.lookup x = some c ∧ h.IsCell c (some u))

structure Cx.Ok (X : Cx) : Prop where
  mod : Mod X.K X.mg X.base
  kind : X.env.scope.kind = .function
  glob : X.env.globals = mainGlobals
  blt : X.env.builtins = builtinsNs
  above : X.s_0.heap.objs.size ≤ X.env.locals
  inj : ∀ x y c, X.env.cells.lookup x = some c → X.env.cells.lookup y = some c → x = y
  has : ∀ x, (X.env.kindOf x = some .cell ∨ X.env.kindOf x = some .free) → ∃ c, X.env.cells.lookup x = some c
  cab : ∀ x c, X.fn x = true → X.env.cells.lookup x = some c → X.s_0.heap.objs.size ≤ c
  hd : X.calm = true → X.A.handled = none
  frames : X.A.frames = some X.stack
  stk : X.stack = X.outer ∨ (X.stack = X.env :: X.outer ∧ X.env.frame = some X.env.locals)
  exf : ∀ b ∈ X.ex, b ≠ X.env.locals ∧ ∀ x c, X.env.cells.lookup x = some c → c ≠ b
  bs : ∀ b o, X.base.get? b = some o → X.s_0.heap.get? b = some o ∧ X.H_0 b = none
  bsz : X.base.objs.size ≤ X.s_0.heap.objs.size
  noex : ∀ b o, X.base.get? b = some o → b ∉ X.ex
  exfs : ∀ b ∈ X.ex, b ∉ X.fs
  funs : X.s_0.heap.FunFrames X.base X.outer
  frf : ∀ b ∈ X.fs, X.H_0 b = none

structure Inv (X : Cx) (pins : List (Addr × Obj)) (σ : List (Option V)) (H : Hp) (s : Shared) : Prop where
  ok : X.Ok
  os : s.os = X.s_0.os
  bare : AllBare s.gens
  base : Un X.fs X.ex X.H_0 H X.s_0.heap s.heap
  loc : ∃ m, s.heap.Ns X.env.locals m ∧ ∀ (i : Nat) (x : Str) (v : V), X.N[i]? = some x → σ[i]? = some (some v) → Vis X.env.scope x → ∃ u, RelV v u ∧ Look X.env s.heap m x u
  cell : ∀ x c, X.env.cells.lookup x = some c → ∃ v, s.heap.IsCell c v
  free : H X.env.locals = none
  freeC : ∀ x c, X.env.cells.lookup x = some c → H c = none
  pin : ∀ p ∈ X.pn ++ pins, s.heap.get? p.1 = some p.2 ∧ H p.1 = none ∧ p.1 ≠ X.env.locals ∧ p.1 ∉ X.fs ∧ ∀ v, p.2.data ≠ .cell v
  hok : HOk X.prog X.w H s.heap
  len : σ.length = X.N.length

section
variable {X : Cx} {pins : List (Addr × Obj)} {σ : List (Option V)} {H H' : Hp} {s : Shared} {h' : Heap}

theorem Cx.Ok.nofr (ok : X.Ok) {b : Addr} {o : Obj} (e : X.base.get? b = some o) : b ∉ X.fs := fun hb => by
  have := (ok.funs.mem hb).1
  rw [e] at this; cases this
theorem Inv.bs (I : Inv X pins σ H s) : ∀ b o, X.base.get? b = some o → s.heap.get? b = some o ∧ H b = none := fun b o e =>
  ⟨I.base.keep b o (I.ok.bs b o e).1 (I.ok.bs b o e).2 (I.ok.nofr e) (I.ok.noex b o e), I.base.free b o (I.ok.bs b o e).1 (I.ok.bs b o e).2 (I.ok.noex b o e)⟩
theorem Inv.bk (I : Inv X pins σ H s) : ∀ b o, X.base.get? b = some o → s.heap.get? b = some o := fun b o e => (I.bs b o e).1
theorem Inv.mod (I : Inv X pins σ H s) : Mod X.K X.mg X.base := I.ok.mod
theorem Inv.kIn (I : Inv X pins σ H s) : X.K.In s.heap := I.ok.mod.kin.keeps I.bk
/-- the frame over the base: for OpenK's rules (K.In X.base is I.mod.kin) -/
theorem Inv.fr (I : Inv X pins σ H s) : ∃ m, Fr X.base X.env.locals s.heap m :=
  let ⟨m, hn, _⟩ := I.loc
  ⟨m, hn, I.bk, Nat.le_trans I.ok.bsz I.ok.above⟩
theorem Inv.lt (I : Inv X pins σ H s) : X.env.locals < s.heap.objs.size := let ⟨_, hn, _⟩ := I.loc; hn.lt
theorem Inv.sz (I : Inv X pins σ H s) : X.s_0.heap.objs.size ≤ s.heap.objs.size := Nat.le_trans I.ok.above (Nat.le_of_lt I.lt)
theorem Inv.nofs (I : Inv X pins σ H s) {a : Addr} (h : s.heap.objs.size ≤ a) : a ∉ X.fs := fun hb => by
  obtain ⟨_, o, ho, _⟩ := I.ok.funs.mem hb
  exact absurd (Nat.lt_of_lt_of_le (Heap.lt_size ho) (Nat.le_trans I.sz h)) (Nat.lt_irrefl _)
theorem Inv.cne (I : Inv X pins σ H s) : ∀ x c, X.env.cells.lookup x = some c → c ≠ X.env.locals := fun x c e z => by
  obtain ⟨v, o, ho, hd⟩ := I.cell x c e
  obtain ⟨m, ⟨o', es, ep, ho', hd', _⟩, _⟩ := I.loc
  rw [z, ho'] at ho; cases ho; rw [hd'] at hd; cases hd
theorem Inv.funs (I : Inv X pins σ H s) : s.heap.FunFrames X.base X.outer := by
  have all : ∀ (l : List Env), (∀ b ∈ frs l, b ∈ X.fs) → X.s_0.heap.FunFrames X.base l → s.heap.FunFrames X.base l := by
    intro l
    induction l with
    | nil => intro _ _; trivial
    | cons env r ih =>
      intro hs hl
      obtain ⟨hk, ⟨L, o, hf, hn, ho, hd⟩, hr⟩ := hl
      have hL : L ∈ X.fs := hs L (by unfold frs; rw [List.filterMap_cons, hf]; exact List.mem_cons_self)
      obtain ⟨sl, e⟩ := I.base.slot L o ho (I.ok.frf L hL) hL fun z => I.ok.exfs L z hL
      exact ⟨hk, ⟨L, _, hf, hn, e, hd⟩, ih (fun b hb => hs b (by unfold frs; rw [List.filterMap_cons, hf]; exact List.mem_cons_of_mem _ hb)) hr⟩
  exact all X.outer (fun _ hb => hb) I.ok.funs

/-- the frames that run, for a call -/
theorem Inv.stack (I : Inv X pins σ H s) : s.heap.FunFrames X.base X.stack := by
  rcases I.ok.stk with e | ⟨e, hf⟩
  · rw [e]; exact I.funs
  · rw [e]
    obtain ⟨m, hn, _⟩ := I.loc
    refine .cons (by rw [I.ok.kind]; decide) hf hn ?_ I.funs
    exact Heap.get?_none_of_le (Nat.le_trans I.ok.bsz I.ok.above)
theorem Inv.stkSub (I : Inv X pins σ H s) : ∀ b ∈ frs X.stack, b ∈ X.env.locals :: X.fs := fun b hb => by
  rcases I.ok.stk with e | ⟨e, hf⟩
  · rw [e] at hb; exact List.mem_cons_of_mem _ hb
  · rw [e] at hb
    unfold frs at hb
    rw [List.filterMap_cons, hf] at hb
    exact hb
theorem Inv.stkFree (I : Inv X pins σ H s) : ∀ b ∈ frs X.stack, H b = none := fun b hb => by
  rcases List.mem_cons.mp (I.stkSub b hb) with e | hb
  · rw [e]; exact I.free
  · obtain ⟨_, o, ho, _⟩ := I.ok.funs.mem hb
    exact I.base.free b o ho (I.ok.frf b hb) fun z => I.ok.exfs b z hb

/-- THE STEP: the untracked objects but the frame and the records at ch are kept (the callers' frames up to slots), the frame's map is kept, the new abstract heap is held -/
theorem Inv.step {g' : Array GenState} {t' : Nat} {d' : Drawn} {ch : List Addr} (I : Inv X pins σ H s)
    (hch : ∀ b ∈ ch, (b ∈ X.ex ∨ X.s_0.heap.objs.size ≤ b) ∧ b ≠ X.env.locals ∧ (∀ x c, X.env.cells.lookup x = some c → c ≠ b) ∧ ∀ p ∈ X.pn ++ pins, p.1 ≠ b)
    (keep : ∀ b o, b ≠ X.env.locals → b ∉ X.fs → b ∉ ch → s.heap.get? b = some o → H b = none → h'.get? b = some o)
    (slot : ∀ b o, b ≠ X.env.locals → b ∈ X.fs → b ∉ ch → s.heap.get? b = some o → H b = none → ∃ sl, h'.get? b = some { o with slots := sl }) (free : ∀ b o, b ∉ ch → s.heap.get? b = some o → H b = none → H' b = none)
    (there : ∀ b o, b ∉ ch → s.heap.get? b = some o → ∃ o', h'.get? b = some o')
    (tups : ∀ b xs, H b = some (.tup xs) → H' b = some (.tup xs)) (frzs : ∀ b o u, H b = some (.frz o u) → H' b = some (.frz o u)) (tbls : ∀ b ps, H b = some (.tbl ps) → ∃ more, H' b = some (.tbl (ps ++ more)))
    (ns : ∀ m, s.heap.Ns X.env.locals m → h'.Ns X.env.locals m) (hok : HOk X.prog X.w H' h') (hg : AllBare g') :
    Inv X pins σ H' { s with heap := h', gens := g', drawn := d', toks := t' } := by
  have neL : ∀ b o, X.s_0.heap.get? b = some o → b ≠ X.env.locals := fun b o e => Nat.ne_of_lt (Nat.lt_of_lt_of_le (Heap.lt_size e) I.ok.above)
  have neC : ∀ b o, X.s_0.heap.get? b = some o → b ∉ X.ex → b ∉ ch := fun b o e hx hb => by
    rcases (hch b hb).1 with z | z
    · exact hx z
    · exact absurd (Nat.lt_of_lt_of_le (Heap.lt_size e) z) (Nat.lt_irrefl _)
  have cellK : ∀ x c, X.env.cells.lookup x = some c → ∀ v, s.heap.IsCell c v → h'.IsCell c v := fun x c e v ⟨o, ho, hd⟩ => by
    have nch : c ∉ ch := fun z => (hch c z).2.2.1 x c e rfl
    by_cases hc : c ∈ X.fs
    · obtain ⟨sl, q⟩ := slot c o (I.cne x c e) hc nch ho (I.freeC x c e)
      exact ⟨_, q, hd⟩
    · exact ⟨o, keep c o (I.cne x c e) hc nch ho (I.freeC x c e), hd⟩
  refine ⟨I.ok, I.os, hg, ⟨fun b o e n hb hx => ?_, fun b o e n hb hx => ?_, fun b o e n hx => ?_, fun b o e hx => ?_, fun b xs e => tups b xs (I.base.tups b xs e), fun b o xs e => frzs b o xs (I.base.frzs b o xs e), fun b ps e => ?_⟩, ?_, fun x c e => ?_, ?_, fun x c e => ?_, fun p hp => ?_, hok, I.len⟩
  · exact keep b o (neL b o e) hb (neC b o e hx) (I.base.keep b o e n hb hx) (I.base.free b o e n hx)
  · obtain ⟨sl, e1⟩ := I.base.slot b o e n hb hx
    obtain ⟨sl', e2⟩ := slot b _ (neL b o e) hb (neC b o e hx) e1 (I.base.free b o e n hx)
    exact ⟨sl', e2⟩
  · obtain ⟨o', e1⟩ := I.base.there b o e hx
    exact free b o' (neC b o e hx) e1 (I.base.free b o e n hx)
  · obtain ⟨o', e1⟩ := I.base.there b o e hx
    exact there b o' (neC b o e hx) e1
  · obtain ⟨m1, e1⟩ := I.base.tbls b ps e
    obtain ⟨m2, e2⟩ := tbls b _ e1
    exact ⟨m1 ++ m2, by rw [e2, Array.append_assoc]⟩
  · obtain ⟨m, hn, hl⟩ := I.loc
    refine ⟨m, ns m hn, fun i x v e1 e2 e3 => ?_⟩
    obtain ⟨u, r, l⟩ := hl i x v e1 e2 e3
    refine ⟨u, r, ?_⟩
    rcases l with l | ⟨k, c, e, z⟩
    · exact .inl l
    · exact .inr ⟨k, c, e, cellK x c e _ z⟩
  · obtain ⟨v, z⟩ := I.cell x c e
    exact ⟨v, cellK x c e v z⟩
  · obtain ⟨m, ⟨o, _, _, ho, _⟩, _⟩ := I.loc
    exact free _ o (fun z => (hch _ z).2.1 rfl) ho I.free
  · obtain ⟨v, o, ho, hd⟩ := I.cell x c e
    exact free c o (fun z => (hch c z).2.2.1 x c e rfl) ho (I.freeC x c e)
  · obtain ⟨e, n, ne, nf, d⟩ := I.pin p hp
    have nch : p.1 ∉ ch := fun z => (hch p.1 z).2.2.2 p hp rfl
    exact ⟨keep p.1 p.2 ne nf nch e n, free p.1 p.2 nch e n, ne, nf, d⟩
/-- .. where the frame's own object is kept too -/
theorem Inv.un {t' : Nat} (I : Inv X pins σ H s) (u : Un X.fs [] H H' s.heap h') (hok : HOk X.prog X.w H' h') : Inv X pins σ H' { s with heap := h', toks := t' } := by
  obtain ⟨m, ⟨o, es, ep, ho, r⟩, _⟩ := id I.loc
  obtain ⟨sl, hL⟩ := u.any ho I.free (by simp)
  exact I.step (g' := s.gens) (d' := s.drawn) (ch := []) (fun _ z => nomatch z) (fun b o _ hb _ e n => u.keep b o e n hb (by simp)) (fun b o _ hb _ e n => u.slot b o e n hb (by simp)) (fun b o _ e n => u.free b o e n (by simp)) (fun b o _ e => u.there b o e (by simp)) u.tups u.frzs u.tbls (fun m' hm => by
    obtain ⟨o', es', ep', ho', r'⟩ := hm
    rw [ho] at ho'; cases ho'
    exact ⟨_, es', ep', hL, r'⟩) hok I.bare
/-- behind a call (or a comprehension's block): the slots of this frame may have changed too, the records at ch may have turned -/
theorem Inv.call {g' : Array GenState} {t' : Nat} {d' : Drawn} {ch : List Addr} (I : Inv X pins σ H s) (u : Un (frs X.stack) ch H H' s.heap h') (hok : HOk X.prog X.w H' h') (hg : AllBare g')
    (hch : ∀ b ∈ ch, (b ∈ X.ex ∨ X.s_0.heap.objs.size ≤ b) ∧ b ≠ X.env.locals ∧ (∀ x c, X.env.cells.lookup x = some c → c ≠ b) ∧ ∀ p ∈ X.pn ++ pins, p.1 ≠ b) :
    Inv X pins σ H' { s with heap := h', gens := g', drawn := d', toks := t' } := by
  obtain ⟨m, ⟨o, es, ep, ho, r⟩, _⟩ := id I.loc
  obtain ⟨sl, hL⟩ := u.any ho I.free fun z => (hch _ z).2.1 rfl
  exact I.step (ch := ch) hch (fun b o hL hb hc e n => u.keep b o e n (fun z => (List.mem_cons.mp (I.stkSub b z)).elim hL hb) hc) (fun b o _ _ hc e n => u.any e n hc) (fun b o hc e n => u.free b o e n hc) (fun b o hc e => u.there b o e hc) u.tups u.frzs u.tbls (fun m' hm => by
    obtain ⟨o', es', ep', ho', r'⟩ := hm
    rw [ho] at ho'; cases ho'
    exact ⟨_, es', ep', hL, r'⟩) hok hg
/-- an untracked record of ours (an iterator) has turned -/
theorem Inv.turned {t' : Nat} {it : Addr} (I : Inv X pins σ H s) (k : ∀ b o, b ≠ it → s.heap.get? b = some o → h'.get? b = some o) (hn : H it = none) (hL : it ≠ X.env.locals)
    (h1 : it ∈ X.ex ∨ X.s_0.heap.objs.size ≤ it) (h2 : ∀ x c, X.env.cells.lookup x = some c → c ≠ it) (h3 : ∀ p ∈ X.pn ++ pins, p.1 ≠ it) : Inv X pins σ H { s with heap := h', toks := t' } := by
  have nit : ∀ b u, H b = some u → b ≠ it := fun b u e z => by rw [z, hn] at e; cases e
  refine I.step (g' := s.gens) (d' := s.drawn) (ch := [it]) (fun b hb => ?_) (fun b o _ _ hc e _ => k b o (fun z => hc (by simp [z])) e) (fun b o _ _ hc e _ => ⟨o.slots, k b o (fun z => hc (by simp [z])) e⟩) (fun _ _ _ _ n => n)
    (fun b o hc e => ⟨o, k b o (fun z => hc (by simp [z])) e⟩) (fun _ _ e => e) (fun _ _ _ e => e) (fun b ps e => ⟨#[], by rw [e]; simp⟩) (fun m hm => ?_) (fun b u e => ?_) I.bare
  · have e : b = it := by simpa using hb
    subst e
    exact ⟨h1, hL, h2, h3⟩
  · obtain ⟨o, es, ep, ho, r⟩ := hm
    exact ⟨o, es, ep, k _ o (Ne.symm hL) ho, r⟩
  · refine (I.hok b u e).stay (fun c v hc q => k c v ?_ q) (fun _ q => q) fun _ _ q => q
    rcases hc with z | z
    · rw [z]; exact nit b u e
    · exact nit c _ z
theorem Inv.tok (I : Inv X pins σ H s) (t : Nat) : Inv X pins σ H { s with toks := t } := I.un (h' := s.heap) (t' := t) Un.refl I.hok
/-- all objects kept -/
theorem Inv.kept {t' : Nat} (I : Inv X pins σ H s) (k : ∀ b u, s.heap.get? b = some u → h'.get? b = some u) : Inv X pins σ H { s with heap := h', toks := t' } := I.un (Un.kept k) (I.hok.kept k)
/-- a new object laid and tracked -/
theorem Inv.laid {a : Addr} {o : HO} {t' : Nat} (I : Inv X pins σ H s) (k : ∀ b u, s.heap.get? b = some u → h'.get? b = some u) (hp : s.heap.objs.size ≤ a) (new : ObjOk X.prog X.w (upd H a o) h' a o) :
    Inv X pins σ (upd H a o) { s with heap := h', toks := t' } := I.un (Un.laid k hp (I.hok.fresh hp)) (I.hok.laid k hp new)
/-- an object written -/
theorem Inv.write {x e : Addr} {o : HO} {t' : Nat} (I : Inv X pins σ H s) (mu : Mut (H x)) (he : e = x ∨ H e = some (.own x)) (k : ∀ b u, b ≠ e → s.heap.get? b = some u → h'.get? b = some u) (heo : ∃ u, h'.get? e = some u)
    (new : ObjOk X.prog X.w (upd H x o) h' x o) : Inv X pins σ (upd H x o) { s with heap := h', toks := t' } := I.un (Un.write mu he k heo) (I.hok.write mu he k heo new)
/-- forgetting slots, pins -/
theorem Inv.weak {σ' : List (Option V)} (I : Inv X pins σ H s) (hl : σ'.length = σ.length) (w : ∀ (i : Nat) v, σ'[i]? = some (some v) → σ[i]? = some (some v)) : Inv X pins σ' H s :=
  ⟨I.ok, I.os, I.bare, I.base, let ⟨m, hn, hl'⟩ := I.loc; ⟨m, hn, fun i x v e1 e2 e3 => hl' i x v e1 (w i v e2) e3⟩, I.cell, I.free, I.freeC, I.pin, I.hok, hl.trans I.len⟩
theorem Inv.pins_of {pins' : List (Addr × Obj)} (I : Inv X pins σ H s) (h : ∀ p ∈ pins', s.heap.get? p.1 = some p.2 ∧ H p.1 = none ∧ p.1 ≠ X.env.locals ∧ p.1 ∉ X.fs ∧ ∀ v, p.2.data ≠ .cell v) : Inv X pins' σ H s :=
  ⟨I.ok, I.os, I.bare, I.base, I.loc, I.cell, I.free, I.freeC, fun p hp => (List.mem_append.mp hp).elim (fun z => I.pin p (List.mem_append_left _ z)) (h p), I.hok, I.len⟩

theorem nodup_ix {N : List Str} (hN : N.Nodup) {i j : Nat} {x : Str} (a : N[i]? = some x) (b : N[j]? = some x) : i = j := by
  obtain ⟨h1, e1⟩ := List.getElem?_eq_some_iff.mp a
  obtain ⟨h2, e2⟩ := List.getElem?_eq_some_iff.mp b
  exact (List.getElem_inj hN).mp (e1.trans e2.symm)

/-- a name is stored; what changed -/
theorem store_ok2 {M : Model} {A : Around} {E : Value → Shared → Prop} {i : Nat} {x : Str} {v : V} {u : Value} {Q : Unit → Shared → Prop} (I : Inv X pins σ H s) (hN : X.N.Nodup) (hi : X.N[i]? = some x) (hx : Loc X.env.scope x) (r : RelV v u)
    (h : ∀ s', Inv X pins (σ.set i (some v)) H s' → (∃ a, Heap.SameBut a s.heap s'.heap ∧ (a = X.env.locals ∨ X.env.cells.lookup x = some a)) → Q () s') (hf : X.fn x = true ∨ X.env.scope.names.lookup x = some .local := by first | exact .inl rfl | exact .inr rfl | assumption) : wpAny M A (storeName X.env x u) Q E s := by
  obtain ⟨m, hn, hl⟩ := id I.loc
  have hcls : (X.env.scope.kind == .class || (X.env.scope.kind == .module && X.env.locals != X.env.globals)) = false := by rw [I.ok.kind]; rfl
  have hiσ : i < σ.length := by rw [I.len]; exact (List.getElem?_eq_some_iff.mp hi).1
  have cne := I.cne
  have tracked : ∀ {a : Addr} {h' : Heap}, (∃ o, s.heap.get? a = some o ∧ H a = none) → Heap.SameBut a s.heap h' → HOk X.prog X.w H h' := fun {a h'} ha hs b ob e => by
    obtain ⟨_, _, hfree⟩ := ha
    refine (I.hok b ob e).stay (fun c w' hc q => (hs.2 c ?_).trans q) (fun _ q => q) fun _ _ q => q
    rintro rfl
    rcases hc with rfl | hc
    · rw [hfree] at e; cases e
    · rw [hfree] at hc; cases hc
  rcases hx with hk | hk
  · refine wpAny_storeName_local hk hn (fun h' hn' hs => ?_) hcls
    obtain ⟨oL, _, _, hoL, _⟩ := id hn
    refine h _ ⟨I.ok, I.os, I.bare, ⟨fun b o e n hb hx => ?_, fun b o e n hb hx => ?_, I.base.free, fun b o e hx => ?_, I.base.tups, I.base.frzs, I.base.tbls⟩, ⟨_, hn', fun j y v' e1 e2 e3 => ?_⟩, fun y c e => ?_, I.free, I.freeC, fun p hp => ?_, tracked ⟨oL, hoL, I.free⟩ hs, by simpa using I.len⟩ ⟨_, hs, .inl rfl⟩
    · exact (hs.2 b (Nat.ne_of_lt (Nat.lt_of_lt_of_le (Heap.lt_size e) I.ok.above))).trans (I.base.keep b o e n hb hx)
    · obtain ⟨sl, e1⟩ := I.base.slot b o e n hb hx
      exact ⟨sl, (hs.2 b (Nat.ne_of_lt (Nat.lt_of_lt_of_le (Heap.lt_size e) I.ok.above))).trans e1⟩
    · obtain ⟨o', e1⟩ := I.base.there b o e hx
      exact ⟨o', (hs.2 b (Nat.ne_of_lt (Nat.lt_of_lt_of_le (Heap.lt_size e) I.ok.above))).trans e1⟩
    · by_cases hj : j = i
      · subst hj
        rw [hi] at e1; cases e1
        rw [List.getElem?_set_self hiσ] at e2
        cases e2
        exact ⟨u, r, .inl ⟨hk, by simp⟩⟩
      · rw [List.getElem?_set_ne (Ne.symm hj)] at e2
        obtain ⟨u', r', q⟩ := hl j y v' e1 e2 e3
        refine ⟨u', r', ?_⟩
        rcases q with ⟨k, e⟩ | ⟨k, c, e, z⟩
        · refine .inl ⟨k, ?_⟩
          have : y ≠ x := fun e => hj (nodup_ix hN e1 (e ▸ hi))
          simp [this, e]
        · exact .inr ⟨k, c, e, z.sameBut hs (cne y c e)⟩
    · obtain ⟨w', z⟩ := I.cell y c e
      exact ⟨w', z.sameBut hs (cne y c e)⟩
    · obtain ⟨e, n, ne, nf, d⟩ := I.pin p hp
      exact ⟨(hs.2 p.1 ne).trans e, n, ne, nf, d⟩
  · have hfn : X.fn x = true := by
      rcases hf with z | z
      · exact z
      · rw [z] at hk; cases hk
    obtain ⟨c, hc⟩ := I.ok.has x (.inl hk)
    obtain ⟨w', z⟩ := I.cell x c hc
    refine wpAny_storeName_cell I.ok.kind hk hc z (fun h' hc' hs => ?_)
    obtain ⟨oc, hoc, hocd⟩ := id z
    refine h { s with heap := h' } ⟨I.ok, I.os, I.bare, ⟨fun b o e n hb hx => ?_, fun b o e n hb hx => ?_, I.base.free, fun b o e hx => ?_, I.base.tups, I.base.frzs, I.base.tbls⟩, ⟨m, hn.sameBut hs (Ne.symm (cne x c hc)), fun j y v' e1 e2 e3 => ?_⟩, fun y c' e => ?_, I.free, I.freeC, fun p hp => ?_, tracked ⟨oc, hoc, I.freeC x c hc⟩ hs, by simpa using I.len⟩ ⟨c, hs, .inr hc⟩
    · exact (hs.2 b (Nat.ne_of_lt (Nat.lt_of_lt_of_le (Heap.lt_size e) (I.ok.cab x c hfn hc)))).trans (I.base.keep b o e n hb hx)
    · obtain ⟨sl, e1⟩ := I.base.slot b o e n hb hx
      exact ⟨sl, (hs.2 b (Nat.ne_of_lt (Nat.lt_of_lt_of_le (Heap.lt_size e) (I.ok.cab x c hfn hc)))).trans e1⟩
    · obtain ⟨o', e1⟩ := I.base.there b o e hx
      exact ⟨o', (hs.2 b (Nat.ne_of_lt (Nat.lt_of_lt_of_le (Heap.lt_size e) (I.ok.cab x c hfn hc)))).trans e1⟩
    · by_cases hj : j = i
      · subst hj
        rw [hi] at e1; cases e1
        rw [List.getElem?_set_self hiσ] at e2
        cases e2
        exact ⟨u, r, .inr ⟨.inl hk, c, hc, hc'⟩⟩
      · rw [List.getElem?_set_ne (Ne.symm hj)] at e2
        obtain ⟨u', r', q⟩ := hl j y v' e1 e2 e3
        refine ⟨u', r', ?_⟩
        rcases q with q | ⟨k, c', e, z'⟩
        · exact .inl q
        · refine .inr ⟨k, c', e, z'.sameBut hs ?_⟩
          rintro rfl
          exact hj (nodup_ix hN e1 (I.ok.inj _ _ _ e hc ▸ hi))
    · by_cases hcc : c' = c
      · subst hcc; exact ⟨_, hc'⟩
      · obtain ⟨w2, z2⟩ := I.cell y c' e
        exact ⟨w2, z2.sameBut hs hcc⟩
    · obtain ⟨e, n, ne, nf, d⟩ := I.pin p hp
      refine ⟨(hs.2 p.1 ?_).trans e, n, ne, nf, d⟩
      intro q
      rw [q, hoc] at e
      have q' : oc = p.2 := Option.some.inj e
      exact d w' (by rw [← q']; exact hocd)
theorem store_ok {M : Model} {A : Around} {E : Value → Shared → Prop} {i : Nat} {x : Str} {v : V} {u : Value} {Q : Unit → Shared → Prop} (I : Inv X pins σ H s) (hN : X.N.Nodup) (hi : X.N[i]? = some x) (hx : Loc X.env.scope x) (r : RelV v u)
    (h : ∀ s', Inv X pins (σ.set i (some v)) H s' → Q () s') (hf : X.fn x = true ∨ X.env.scope.names.lookup x = some .local := by first | exact .inl rfl | exact .inr rfl | assumption) : wpAny M A (storeName X.env x u) Q E s :=
  store_ok2 I hN hi hx r (fun s' I' _ => h s' I') hf
/-- behind a call or a block, the state as it is -/
theorem Inv.call' {s' : Shared} {ch : List Addr} (I : Inv X pins σ H s) (ho : s'.os = s.os) (u : Un (frs X.stack) ch H H' s.heap s'.heap) (hok : HOk X.prog X.w H' s'.heap) (hg : AllBare s'.gens)
    (hch : ∀ b ∈ ch, (b ∈ X.ex ∨ X.s_0.heap.objs.size ≤ b) ∧ b ≠ X.env.locals ∧ (∀ x c, X.env.cells.lookup x = some c → c ≠ b) ∧ ∀ p ∈ X.pn ++ pins, p.1 ≠ b) : Inv X pins σ H' s' := by
  obtain ⟨h', g', d', t', o'⟩ := s'
  have e : o' = s.os := ho
  subst e
  exact I.call (g' := g') (t' := t') (d' := d') u hok hg hch
end

/-! ### the judgements -/
/-- an exception: its class, its own dict's address (where it has one), the abstract heap behind it -/
abbrev XK := Value → Option Addr → Hp → Prop
abbrev St := List (Option V)
abbrev VK := V → Hp → Prop
/-- an expression's reading; a test's; an argument list's -/
abbrev TE := St → Hp → VK → Prop
abbrev TT := St → Hp → (Bool → Hp → Prop) → Prop
abbrev TA := St → Hp → (List V → Hp → Prop) → Prop
/-- what is wanted behind a statement -/
structure Ends where
  nx : St → Hp → Prop
  rt : VK
  bk : St → Hp → Prop := fun _ _ => False
  ct : St → Hp → Prop := fun _ _ => False
abbrev TS := Ends → St → Hp → Prop

def EP (X : Cx) (pins : List (Addr × Obj)) (σ : St) (Q : VK) (u : Value) (s' : Shared) : Prop := ∃ v H', Inv X pins σ H' s' ∧ RelV v u ∧ Q v H'
def TP (X : Cx) (pins : List (Addr × Obj)) (σ : St) (Q : Bool → Hp → Prop) (b : Bool) (s' : Shared) : Prop := ∃ H', Inv X pins σ H' s' ∧ Q b H'
def AP (X : Cx) (pins : List (Addr × Obj)) (σ : St) (Q : List V → Hp → Prop) (us : List Value) (s' : Shared) : Prop := ∃ vs H', Inv X pins σ H' s' ∧ Vals vs us ∧ Q vs H'
def SP (X : Cx) (pins : List (Addr × Obj)) (D : Ends) (f : Flow) (s' : Shared) : Prop :=
  match f with
  | .next => ∃ σ' H', Inv X pins σ' H' s' ∧ D.nx σ' H'
  | .brk => ∃ σ' H', Inv X pins σ' H' s' ∧ D.bk σ' H'
  | .cont => ∃ σ' H', Inv X pins σ' H' s' ∧ D.ct σ' H'
  | .ret u => ∃ v σ' H', Inv X pins σ' H' s' ∧ RelV v u ∧ D.rt v H'

def PE (X : Cx) (e : Expr) (t : TE) : Prop :=
  ∀ (pins : List (Addr × Obj)) (s : Shared) (σ : St) (H : Hp) (Q : VK), Inv X pins σ H s → t σ H Q → wpAny (model X.prog X.w) X.A (eval e X.env) (EP X pins σ Q) X.xe s
def PT (X : Cx) (e : Expr) (t : TT) : Prop :=
  ∀ (pins : List (Addr × Obj)) (s : Shared) (σ : St) (H : Hp) (Q : Bool → Hp → Prop), Inv X pins σ H s → t σ H Q → wpAny (model X.prog X.w) X.A (isTrue e X.env (eval e X.env)) (TP X pins σ Q) X.xe s
/-- a test whatever its 'whole' is (and, or) -/
def PW (X : Cx) (e : Expr) (t : TT) : Prop :=
  ∀ (whole : Sem Value) (pins : List (Addr × Obj)) (s : Shared) (σ : St) (H : Hp) (Q : Bool → Hp → Prop), Inv X pins σ H s → t σ H Q → wpAny (model X.prog X.w) X.A (isTrue e X.env whole) (TP X pins σ Q) X.xe s
theorem PW.pt {X : Cx} {e : Expr} {t : TT} (h : PW X e t) : PT X e t := h _
/-- an argument list (no star), from the left -/
def PA (X : Cx) (es : List Expr) (t : TA) : Prop :=
  ∀ (pos : Pos) (pins : List (Addr × Obj)) (s : Shared) (σ : St) (H : Hp) (Q : List V → Hp → Prop), Inv X pins σ H s → t σ H Q → wpAny (model X.prog X.w) X.A (spliced (backTo pos (starEach es X.env))) (AP X pins σ Q) X.xe s
def PS (X : Cx) (st : Stmt) (t : TS) : Prop :=
  ∀ (pins : List (Addr × Obj)) (s : Shared) (σ : St) (H : Hp) (D : Ends), Inv X pins σ H s → t D σ H → wpAny (model X.prog X.w) X.A (exec st X.env) (SP X pins D) X.xe s
def PSs (X : Cx) (st : List Stmt) (t : TS) : Prop :=
  ∀ (pins : List (Addr × Obj)) (s : Shared) (σ : St) (H : Hp) (D : Ends), Inv X pins σ H s → t D σ H → wpAny (model X.prog X.w) X.A (execs st X.env) (SP X pins D) X.xe s
/-- weaken the end -/
theorem thn {α : Type} {t : Sem α} {Q Q' : α → Shared → Prop} {M : Model} {A : Around} {E : Value → Shared → Prop} {s : Shared} (h : wpAny M A t Q E s) (hQ : ∀ a s, Q a s → Q' a s) : wpAny M A t Q' E s := wpAny_mono h hQ fun _ _ x => x
end L2

namespace L2
open PySem PySem.Spec PyProof.Rows
section
variable {X : Cx}

/-- two expressions in a row -/
theorem bin {a b : Expr} {ta tb : TE} (ha : PE X a ta) (hb : PE X b tb) {pins : List (Addr × Obj)} {s : Shared} {σ : St} {H : Hp} {R : V → V → Hp → Prop} (I : Inv X pins σ H s) (h : ta σ H fun x H1 => tb σ H1 fun y H2 => R x y H2)
    {α : Type} {Q : α → Shared → Prop} {f : Value → Value → Sem α}
    (hf : ∀ v u s2 x y H2, Inv X pins σ H2 s2 → RelV x v → RelV y u → R x y H2 → wpAny (model X.prog X.w) X.A (f v u) Q X.xe s2) :
    wpAny (model X.prog X.w) X.A (eval a X.env) (fun v s₁ => wpAny (model X.prog X.w) X.A (eval b X.env) (fun u s₂ => wpAny (model X.prog X.w) X.A (f v u) Q X.xe s₂) X.xe s₁) X.xe s := by
  refine thn (ha pins s σ H _ I h) fun v s1 ⟨x, H1, I1, r1, q1⟩ => ?_
  refine thn (hb pins s1 σ H1 _ I1 q1) fun u s2 ⟨y, H2, I2, r2, q2⟩ => ?_
  exact hf v u s2 x y H2 I2 r1 r2 q2

/-! ### names and constants -/
def tVar (i : Nat) : TE := fun σ H Q => ∃ v, σ[i]? = some (some v) ∧ Q v H
def tC (v : V) : TE := fun _ H Q => Q v H
theorem pe_var {i : Nat} {x : Str} {pos : Pos} (hN : X.N[i]? = some x) (hv : Vis X.env.scope x) (hd : (x == ("__debug__" : Str)) = false := by decide) (hcd : (x == ("__classdict__" : Str)) = false := by decide) : PE X (.Name x pos) (tVar i) := by
  intro pins s σ H Q I h
  obtain ⟨v, e, h⟩ := h
  obtain ⟨m, hn, hl⟩ := I.loc
  obtain ⟨u, r, l⟩ := hl i x v hN e hv
  have fin : EP X pins σ Q u s := ⟨v, H, I, r, h⟩
  rcases l with ⟨hk, hm⟩ | ⟨hk, c, hc, hcell⟩
  · exact wpAny_Name (wpAny_loadName_local I.ok.kind hk hn hm fin) hd
  · rcases hk with hk | hk
    · exact wpAny_Name (wpAny_loadName_cell I.ok.kind hk hc hcell fin) hd
    · exact wpAny_Name (wpAny_loadName_free I.ok.kind hk hc hcell fin hcd) hd
theorem pe_int {i j pos} : PE X (.Constant (.int i) j pos) (tC (.int i)) := fun _ _ _ H _ I h => wpAny_Constant_int ⟨.int i, H, I.tok _, ⟨_, rfl⟩, h⟩
/-- a global name of the def -/
def Gl (X : Cx) (x : Str) : Prop := X.env.kindOf x = some .globalImplicit
theorem ld_glob {E : Value → Shared → Prop} {pins : List (Addr × Obj)} {s : Shared} {σ : St} {H : Hp} {x : Str} {u : Value} {pos : Pos} {Q : Value → Shared → Prop} (I : Inv X pins σ H s) (hg : Gl X x) (hm : X.mg x = some u) (h : Q u s)
    (hd : (x == ("__debug__" : Str)) = false := by decide) : wpAny (model X.prog X.w) X.A (eval (.Name x pos) X.env) Q E s :=
  Calls.Name_function_global I.ok.kind hg (Calls.loadGlobal_global (by rw [I.ok.glob]; exact I.mod.glob.keeps I.bk) hm h) hd
theorem ld_blt {E : Value → Shared → Prop} {pins : List (Addr × Obj)} {s : Shared} {σ : St} {H : Hp} {x : Str} {u : Value} {pos : Pos} {Q : Value → Shared → Prop} (I : Inv X pins σ H s) (hg : Gl X x) (hm : X.mg x = none) (hv : bootBuiltins x = some u) (h : Q u s)
    (hn : x ≠ "__name__" := by decide) (hd : (x == ("__debug__" : Str)) = false := by decide) : wpAny (model X.prog X.w) X.A (eval (.Name x pos) X.env) Q E s := by
  obtain ⟨mb, h1, h2⟩ := I.mod.blt
  exact Calls.Name_function_global I.ok.kind hg (Calls.loadGlobal_builtin (by rw [I.ok.glob]; exact I.mod.glob.keeps I.bk) hm (by rw [I.ok.blt]; exact h1.keeps I.bk) ((h2 x hn).trans hv) h) hd
/-- a module's constant, a class, a function, as a value -/
theorem pe_glob {x : Str} {v : V} {u : Value} {pos : Pos} (hg : Gl X x) (hm : X.mg x = some u) (r : RelV v u) (hd : (x == ("__debug__" : Str)) = false := by decide) : PE X (.Name x pos) (tC v) :=
  fun _ _ _ H _ I h => ld_glob I hg hm ⟨v, H, I, r, h⟩ hd
/-! ### arithmetic -/
variable {a b : Expr} {ta tb : TE} {pos : Pos}
/-! ### comparisons -/
/-! ### and, or, not -/
variable {tA tB' : TT} {rest : List Expr}
def tAnd (t u : TT) : TT := fun σ H Q => t σ H fun c H1 => if c = true then u σ H1 Q else Q false H1
def tOr (t u : TT) : TT := fun σ H Q => t σ H fun c H1 => if c = true then Q true H1 else u σ H1 Q
def tNot (t : TT) : TT := fun σ H Q => t σ H fun c H1 => Q (!c) H1
theorem pw_and1 (ha : PT X a tA) : PW X (.BoolOp .And [a] pos) tA := by
  intro wh pins s σ H Q I h
  refine isTrue_and (thn (ha pins s σ H Q I h) fun c s1 e => ?_)
  cases c with
  | true => exact isTrue_and_nil e
  | false => exact e
theorem pw_or1 (ha : PT X a tA) : PW X (.BoolOp .Or [a] pos) tA := by
  intro wh pins s σ H Q I h
  refine isTrue_or (thn (ha pins s σ H Q I h) fun c s1 e => ?_)
  cases c with
  | false => exact isTrue_or_nil e
  | true => exact e
theorem pw_and (ha : PT X a tA) (hb : PW X (.BoolOp .And (b :: rest) pos) tB') : PW X (.BoolOp .And (a :: b :: rest) pos) (tAnd tA tB') := by
  intro wh pins s σ H Q I h
  refine isTrue_and (thn (ha pins s σ H _ I h) fun c s1 ⟨H1, I1, q1⟩ => ?_)
  cases c with
  | true => exact hb wh pins s1 σ H1 Q I1 q1
  | false => exact ⟨H1, I1, q1⟩
theorem pw_or (ha : PT X a tA) (hb : PW X (.BoolOp .Or (b :: rest) pos) tB') : PW X (.BoolOp .Or (a :: b :: rest) pos) (tOr tA tB') := by
  intro wh pins s σ H Q I h
  refine isTrue_or (thn (ha pins s σ H _ I h) fun c s1 ⟨H1, I1, q1⟩ => ?_)
  cases c with
  | true => exact ⟨H1, I1, q1⟩
  | false => exact hb wh pins s1 σ H1 Q I1 q1
theorem pt_not (ha : PT X a tA) : PT X (.UnaryOp .Not a pos) (tNot tA) := by
  intro pins s σ H Q I h
  exact isTrue_not (ha pins s σ H (fun c H1 => Q (!c) H1) I h)
/-- .. as values (bools) -/
def tAndV (ta tb : TE) : TE := fun σ H Q => ta σ H fun x H1 => ∃ c, x = .bl c ∧ if c = true then tb σ H1 Q else Q (.bl false) H1
theorem pe_one {op} {t : TE} (h : PE X a t) : PE X (.BoolOp op [a] pos) t := fun pins s σ H Q I hw => BoolOp_one (h pins s σ H Q I hw)
theorem pe_and (ha : PE X a ta) (hb : PE X (.BoolOp .And (b :: rest) pos) tb) : PE X (.BoolOp .And (a :: b :: rest) pos) (tAndV ta tb) := by
  intro pins s σ H Q I h
  refine BoolOp_and (thn (ha pins s σ H _ I h) fun v s1 ⟨x, H1, I1, r1, q1⟩ => ?_)
  obtain ⟨c, rfl, q1⟩ := q1
  cases r1
  refine wpAny_truthy_bool ?_
  cases c with
  | true => exact hb pins s1 σ H1 Q I1 q1
  | false => exact ⟨.bl false, H1, I1, rfl, q1⟩
end
end L2

namespace L2
open PySem PySem.Spec PyProof.Rows

/-! ### a list, a tuple that is read: tracked, frozen, or an object of the module -/
def SqL (K : PySem.W.Frag) (H : Hp) (a : Addr) (xs : List V) : Prop :=
  Rd H a (.lst xs) ∨
    ∃ (o : Obj) (its : Array Value) (n : Nat), K.lookup a = some o ∧ o.cls = .type "list" ∧ o.dict = none ∧ o.data = .seq its n ∧ its.size ≤ sizeLine ∧ Vals xs its.toList
def SqT (K : PySem.W.Frag) (H : Hp) (a : Addr) (xs : List V) : Prop :=
  Rd H a (.tup xs) ∨
    ∃ (o : Obj) (its : Array Value) (n : Nat), K.lookup a = some o ∧ o.cls = .type "tuple" ∧ o.data = .seq its n ∧ its.size ≤ sizeLine ∧ Vals xs its.toList
def absV : Value → Option V
  | .none => some .non
  | .bool b => some (.bl b)
  | .int i _ => some (.int i)
  | .str x _ => some (.str x)
  | .bytes b _ => some (.byt b)
  | .float b _ => some (.flt b)
  | .ref a => some (.ref a)
  | .type n => some (.ty n)
  | _ => none
theorem RelV.abs {x : V} {u : Value} (r : RelV x u) : absV u = some x := by
  cases x with
  | non => cases r; rfl
  | bl _ => cases r; rfl
  | int _ => obtain ⟨t, rfl⟩ := r; rfl
  | str _ => obtain ⟨t, rfl⟩ := r; rfl
  | byt _ => obtain ⟨t, rfl⟩ := r; rfl
  | flt _ => obtain ⟨t, rfl⟩ := r; rfl
  | ref _ => cases r; rfl
  | ty _ => cases r; rfl
theorem RelV.inj {x y : V} {u : Value} (r : RelV x u) (q : RelV y u) : x = y := Option.some.inj (r.abs.symm.trans q.abs)
theorem Vals.inj : ∀ {xs ys : List V} {us : List Value}, Vals xs us → Vals ys us → xs = ys
  | _, _, _, .nil, .nil => rfl
  | _, _, _, .cons r t, .cons r' t' => by rw [r.inj r', Vals.inj t t']
section
variable {X : Cx} {pins : List (Addr × Obj)} {σ : St} {H : Hp} {s : Shared} {a : Addr} {xs ys : List V}
theorem SqL.of {K : PySem.W.Frag} (h : H a = some (.lst xs)) : SqL K H a xs := .inl (.inl h)
theorem SqT.of {K : PySem.W.Frag} (h : H a = some (.tup xs)) : SqT K H a xs := .inl (.inl h)
theorem Inv.list (I : Inv X pins σ H s) (h : SqL X.K H a xs) : ∃ its : List Value, Vals xs its ∧ PlainL s.heap a its.toArray ∧ xs.length ≤ sizeLine := by
  rcases h with h | ⟨o, its, n, hk, hc, hd, hs, hz, r⟩
  · obtain ⟨z, its, n, r, e⟩ := h.ok I.hok
    exact ⟨its, r, ⟨_, n, e, rfl, rfl, rfl⟩, z⟩
  · refine ⟨its.toList, r, ⟨o, n, I.kIn a o hk, hc, hd, by simpa using hs⟩, ?_⟩
    have e := r.length
    simp only [Array.length_toList] at e
    omega
theorem Inv.tuple (I : Inv X pins σ H s) (h : SqT X.K H a xs) : ∃ its : List Value, Vals xs its ∧ IsTup s.heap a its.toArray ∧ xs.length ≤ sizeLine := by
  rcases h with h | ⟨o, its, n, hk, hc, hs, hz, r⟩
  · obtain ⟨z, its, r, p⟩ := h.ok I.hok
    exact ⟨its, r, p, z⟩
  · refine ⟨its.toList, r, ⟨o, I.kIn a o hk, hc, n, by simpa using hs⟩, ?_⟩
    have e := r.length
    simp only [Array.length_toList] at e
    omega
theorem Inv.list_inj (I : Inv X pins σ H s) (h : SqL X.K H a xs) (h' : SqL X.K H a ys) : xs = ys := by
  obtain ⟨its, r, ⟨o, n, e, _, _, d⟩, _⟩ := I.list h
  obtain ⟨its', r', ⟨o', n', e', _, _, d'⟩, _⟩ := I.list h'
  rw [e] at e'; cases e'
  rw [d] at d'
  injection d' with d1 _
  have : its = its' := by simpa using congrArg Array.toList d1
  subst this
  exact r.inj r'
end

/-! ### another wish about exceptions -/
abbrev Cx.wish (X : Cx) (E : Value → Shared → Prop) : Cx := { X with xe := E }
/-- no exception leaves -/
abbrev Cx.nox (X : Cx) : Cx := X.wish fun _ _ => False
theorem Cx.Ok.wish {X : Cx} (ok : X.Ok) (E : Value → Shared → Prop) : (X.wish E).Ok :=
  ⟨ok.mod, ok.kind, ok.glob, ok.blt, ok.above, ok.inj, ok.has, ok.cab, ok.hd, ok.frames, ok.stk, ok.exf, ok.bs, ok.bsz, ok.noex, ok.exfs, ok.funs, ok.frf⟩
theorem Cx.Ok.unwish {X : Cx} {E : Value → Shared → Prop} (ok : (X.wish E).Ok) : X.Ok :=
  ⟨ok.mod, ok.kind, ok.glob, ok.blt, ok.above, ok.inj, ok.has, ok.cab, ok.hd, ok.frames, ok.stk, ok.exf, ok.bs, ok.bsz, ok.noex, ok.exfs, ok.funs, ok.frf⟩
section
variable {X : Cx} {pins : List (Addr × Obj)} {σ : St} {H : Hp} {s : Shared} {E : Value → Shared → Prop}
theorem Inv.wish (I : Inv X pins σ H s) (E : Value → Shared → Prop) : Inv (X.wish E) pins σ H s := ⟨I.ok.wish E, I.os, I.bare, I.base, I.loc, I.cell, I.free, I.freeC, I.pin, I.hok, I.len⟩
theorem Inv.unwish (I : Inv (X.wish E) pins σ H s) : Inv X pins σ H s := ⟨I.ok.unwish, I.os, I.bare, I.base, I.loc, I.cell, I.free, I.freeC, I.pin, I.hok, I.len⟩
theorem SP.unwish {D : Ends} {f : Flow} {s' : Shared} (h : SP (X.wish E) pins D f s') : SP X pins D f s' := by
  cases f with
  | next => obtain ⟨σ', H', I, q⟩ := h; exact ⟨σ', H', I.unwish, q⟩
  | brk => obtain ⟨σ', H', I, q⟩ := h; exact ⟨σ', H', I.unwish, q⟩
  | cont => obtain ⟨σ', H', I, q⟩ := h; exact ⟨σ', H', I.unwish, q⟩
  | ret u => obtain ⟨v, σ', H', I, r, q⟩ := h; exact ⟨v, σ', H', I.unwish, r, q⟩
theorem PSs.nox {st : List Stmt} {t : TS} (h : PSs X.nox st t) : PSs X st t := fun pins s σ H D I hw =>
  wpAny_mono (h pins s σ H D (I.wish _) hw) (fun _ _ q => q.unwish) fun _ _ z => False.elim z
end

/-! ### blocks and small statements -/
section
variable {X : Cx} {st : Stmt} {rest : List Stmt} {t u : TS} {e : Expr} {te : TE} {pos : Pos}
def tNext : TS := fun D σ H => D.nx σ H
def tSeq (t u : TS) : TS := fun D σ H => t { D with nx := u D } σ H
theorem pss_nil : PSs X [] tNext := fun _ _ σ H _ I h => wpAny_execs_nil ⟨σ, H, I, h⟩
theorem pss_cons (h1 : PS X st t) (h2 : PSs X rest u) : PSs X (st :: rest) (tSeq t u) := by
  intro pins s σ H D I h
  refine wpAny_execs_cons (thn (h1 pins s σ H { D with nx := u D } I h) fun f s1 q => ?_)
  cases f with
  | next =>
    obtain ⟨σ', H', I', q⟩ := q
    exact h2 pins s1 σ' H' D I' q
  | ret v => exact q
  | brk => exact q
  | cont => exact q
theorem pss_one (h1 : PS X st t) : PSs X [st] t := by
  intro pins s σ H D I h
  refine wpAny_execs_cons (thn (h1 pins s σ H D I h) fun f s1 q => ?_)
  cases f with
  | next => exact wpAny_execs_nil q
  | ret v => exact q
  | brk => exact q
  | cont => exact q
/-- in a def's body nothing is shown -/
theorem Inv.quiet {pins : List (Addr × Obj)} {σ : St} {H : Hp} {s : Shared} (I : Inv X pins σ H s) : interactive X.env = false := by simp [interactive, I.ok.kind]
/-- an expression whose value is dropped -/
def tDrop (te : TE) : TS := fun D σ H => te σ H fun _ H1 => D.nx σ H1
theorem ps_expr (he : PE X e te) (hs : swapsWith e none pos.line X.env = pure false := by rfl) : PS X (.Expr e pos) (tDrop te) := by
  intro pins s σ H D I h
  exact wpAny_Expr_any (thn (he pins s σ H _ I h) fun v s1 ⟨x, H1, I1, r1, q1⟩ => ⟨σ, H1, I1, q1⟩) I.quiet hs
def tRet (te : TE) : TS := fun D σ H => te σ H D.rt
theorem ps_ret (he : PE X e te) : PS X (.Return (some e) pos) (tRet te) := by
  intro pins s σ H D I h
  exact wpAny_Return_some (thn (he pins s σ H _ I h) fun v s1 ⟨x, H1, I1, r1, q1⟩ => ⟨x, σ, H1, I1, r1, q1⟩)
def tIfS (c : TT) (t u : TS) : TS := fun D σ H => c σ H fun b H1 => if b = true then t D σ H1 else u D σ H1
theorem ps_if {c : Expr} {a b : List Stmt} {tc : TT} (hc : PT X c tc) (ha : PSs X a t) (hb : PSs X b u) : PS X (.If c a b pos) (tIfS tc t u) := by
  intro pins s σ H D I h
  refine wpAny_If (thn (hc pins s σ H _ I h) fun d s1 ⟨H1, I1, q1⟩ => ?_)
  cases d with
  | true => exact ha pins s1 σ H1 D I1 q1
  | false => exact hb pins s1 σ H1 D I1 q1
end

/-! ### targets -/
abbrev TG := V → St → Hp → (St → Hp → Prop) → Prop
def PG (X : Cx) (target : Expr) (t : TG) : Prop :=
  ∀ (pins : List (Addr × Obj)) (s : Shared) (σ : St) (H : Hp) (v : V) (u : Value) (Q : St → Hp → Prop), Inv X pins σ H s → RelV v u → t v σ H Q →
    wpAny (model X.prog X.w) X.A (assign target X.env u) (fun _ s' => ∃ σ' H', Inv X pins σ' H' s' ∧ Q σ' H') X.xe s
/-- o[i] = v, by values -/
abbrev TSet := V → V → V → Hp → (Hp → Prop) → Prop
def PSet (X : Cx) (t : TSet) : Prop :=
  ∀ (pins : List (Addr × Obj)) (s : Shared) (σ : St) (H : Hp) (o i v : V) (ov iv u : Value) (Q : Hp → Prop), Inv X pins σ H s → RelV o ov → RelV i iv → RelV v u → t o i v H Q →
    wpAny (model X.prog X.w) X.A (setItem ov iv u) (fun _ s' => ∃ H', Inv X pins σ H' s' ∧ Q H') X.xe s
section
variable {X : Cx} {pos : Pos}
def gName (i : Nat) : TG := fun v σ H Q => Q (σ.set i (some v)) H
theorem pg_name {i : Nat} {x : Str} (hN : X.N.Nodup) (hi : X.N[i]? = some x) (hx : Loc X.env.scope x) (hf : X.fn x = true ∨ X.env.scope.names.lookup x = some .local := by first | exact .inl rfl | exact .inr rfl | assumption) : PG X (.Name x pos) (gName i) := by
  intro pins s σ H v u Q I r h
  exact wpAny_assign_Name (store_ok I hN hi hx r (fun s' I' => ⟨_, H, I', h⟩) hf)
/-- o[i] = .. -/
def gSub (to ti : TE) (t : TSet) : TG := fun v σ H Q => to σ H fun o H1 => ti σ H1 fun i H2 => t o i v H2 fun H3 => Q σ H3
theorem pg_sub {o i : Expr} {to ti : TE} {t : TSet} (ho : PE X o to) (hi : PE X i ti) (hs : PSet X t)
    (ha : ∀ v, assign (.Subscript o i pos) X.env v = (do
      let ov ← holding [v] (eval o X.env)
      let iv ← holding [v, ov] (eval i X.env)
      standAt pos
      holding [v, ov, iv] (setItem ov iv v)
      release [v, ov, iv] []) := by intro _; rfl) : PG X (.Subscript o i pos) (gSub to ti t) := by
  intro pins s σ H v u Q I r h
  rw [ha]
  refine wpAny_bind (wpAny_holding (thn (ho pins s σ H _ I h) fun ov s1 ⟨x, H1, I1, r1, q1⟩ => ?_))
  refine wpAny_bind (wpAny_holding (thn (hi pins s1 σ H1 _ I1 q1) fun iv s2 ⟨y, H2, I2, r2, q2⟩ => ?_))
  refine wpAny_bind (wpAny_standAt (wpAny_bind (wpAny_holding (thn (hs pins s2 σ H2 x y v ov iv u _ I2 r1 r2 r q2) fun _ s3 ⟨H3, I3, q3⟩ => ?_))))
  exact wpAny_release ⟨σ, H3, I3, q3⟩
/-- target = value -/
def tAsg (te : TE) (g : TG) : TS := fun D σ H => te σ H fun x H1 => g x σ H1 D.nx
theorem ps_asg {tg e : Expr} {te : TE} {g : TG} (he : PE X e te) (hg : PG X tg g) (hs : swapsWithSole [tg] e pos.line X.env = pure false := by rfl) (hw : swappedStores [tg] e X.env = pure none := by rfl)
    (h1 : (assignEach [tg] X.env).map (·.2) = [assign tg X.env] := by rfl) : PS X (.Assign [tg] e pos) (tAsg te g) := by
  intro pins s σ H D I h
  refine wpAny_Assign_stores (thn (he pins s σ H _ I h) fun v s1 ⟨x, H1, I1, r1, q1⟩ => ?_) hs hw
  rw [h1]
  exact thn (hg pins s1 σ H1 x v _ I1 r1 q1) fun _ s2 q => q
/-- name = value -/
theorem ps_set {i : Nat} {x : Str} {e : Expr} {te : TE} {pos' : Pos} (hN : X.N.Nodup) (hi : X.N[i]? = some x) (hx : Loc X.env.scope x) (he : PE X e te) (hs : swapsWith e (some (.Name x pos')) pos.line X.env = pure false := by rfl) (hf : X.fn x = true ∨ X.env.scope.names.lookup x = some .local := by first | exact .inl rfl | exact .inr rfl | assumption) :
    PS X (.Assign [.Name x pos'] e pos) (tAsg te (gName i)) := by
  intro pins s σ H D I h
  refine wpAny_Assign_Name (thn (he pins s σ H _ I h) fun v s1 ⟨y, H1, I1, r1, q1⟩ => ?_) hs
  exact store_ok I1 hN hi hx r1 (fun s2 I2 => ⟨_, H1, I2, q1⟩) hf
end

/-! ### while -/
section
variable {X : Cx} {pos : Pos}
/-- the invariant W with its measure -/
def tWhile (c : TT) (tb : TS) : TS := fun D σ H => ∃ W : Nat → St → Hp → Prop, (∃ m, W m σ H) ∧ ∀ m σ H, W m σ H →
  c σ H fun b H1 => if b = true then ∃ N : St → Hp → Prop, (∀ σ' H', N σ' H' → ∃ m', m' < m ∧ W m' σ' H') ∧ tb { D with nx := N, ct := N, bk := D.nx } σ H1 else D.nx σ H1
theorem ps_while {c : Expr} {body : List Stmt} {tc : TT} {tb : TS} (hp : PassesOwn (model X.prog X.w) X.A X.env X.xe) (hc : PT X c tc) (hb : PSs X body tb) : PS X (.While c body [] pos) (tWhile tc tb) := by
  intro pins s σ H D I h
  obtain ⟨W, ⟨m0, w0⟩, turn⟩ := h
  refine wpAny_While (codeAny_whileLoop (fun n s' => ∃ σ' H', Inv X pins σ' H' s' ∧ W n σ' H') ?_ m0 ⟨σ, H, I, w0⟩)
  rintro n s1 ⟨σ1, H1, I1, w1⟩
  refine wpAny_passesOwn hp (thn (hc pins s1 σ1 H1 _ I1 (turn n σ1 H1 w1)) fun b s2 ⟨H2, I2, q2⟩ => ?_)
  cases b with
  | true =>
    obtain ⟨N, hN, q2⟩ := q2
    rw [if_pos rfl]
    refine wpAny_passesOwn hp (thn (hb pins s2 σ1 H2 _ I2 q2) fun f s3 q3 => ?_)
    cases f with
    | next =>
      obtain ⟨σ3, H3, I3, n3⟩ := q3
      obtain ⟨m', hm, w3⟩ := hN σ3 H3 n3
      exact ⟨m', hm, σ3, H3, I3, w3⟩
    | cont =>
      obtain ⟨σ3, H3, I3, n3⟩ := q3
      obtain ⟨m', hm, w3⟩ := hN σ3 H3 n3
      exact ⟨m', hm, σ3, H3, I3, w3⟩
    | brk => exact q3
    | ret v => exact q3
  | false =>
    rw [if_neg Bool.false_ne_true]
    exact wpAny_execs_nil ⟨σ1, H2, I2, q2⟩
end

/-! ### what a loop or a comprehension walks -/
/-- at turn i: it yields x (the heap may grow), or it stops -/
structure It where
  go : Nat → Hp → Prop
  yld : Nat → Hp → V → Hp → Prop
  stop : Nat → Hp → Prop
/-- the iterator's own objects may turn: they are not the frame's, not pinned, younger than the entry (or a comprehension's own) -/
def FpOk (X : Cx) (pins : List (Addr × Obj)) (H : Hp) (b : Addr) : Prop :=
  H b = none ∧ b ≠ X.env.locals ∧ b ∉ X.fs ∧ (b ∈ X.ex ∨ X.s_0.heap.objs.size ≤ b) ∧ (∀ x c, X.env.cells.lookup x = some c → c ≠ b) ∧ ∀ p ∈ X.pn ++ pins, p.1 ≠ b
theorem Inv.fpOk {X : Cx} {pins : List (Addr × Obj)} {σ : St} {H H' : Hp} {s : Shared} {b : Addr} (I : Inv X pins σ H s) (hb : s.heap.objs.size ≤ b) (hn : H' b = none) : FpOk X pins H' b := by
  refine ⟨hn, Nat.ne_of_gt (Nat.lt_of_lt_of_le I.lt hb), I.nofs hb, .inr (Nat.le_trans I.sz hb), fun x c e z => ?_, fun p hp z => ?_⟩
  · obtain ⟨v, q⟩ := I.cell x c e
    exact absurd (Nat.lt_of_lt_of_le q.lt (by rw [z]; exact hb)) (Nat.lt_irrefl _)
  · exact absurd (Nat.lt_of_lt_of_le (Heap.lt_size (I.pin p hp).1) (by rw [z]; exact hb)) (Nat.lt_irrefl _)
structure Turn (P : Program) (w : World) (K : PySem.W.Frag) (tg : Expr) (J : It) (fp : List Addr) (it : Addr) (tn : Nat → Heap → Prop) : Prop where
  mem : it ∈ fp
  obj : ∀ i h, tn i h → ∀ b ∈ fp, ∃ o, h.get? b = some o ∧ ∀ v, o.data ≠ .cell v
  keep : ∀ i h h', tn i h → (∀ b ∈ fp, ∀ o, h.get? b = some o → h'.get? b = some o) → tn i h'
  item : ∀ (X : Cx), X.prog = P → X.w = w → X.K = K → X.calm = true → ∀ (i : Nat) (pins : List (Addr × Obj)) (s : Shared) (σ : St) (H : Hp) (E : Value → Shared → Prop), Inv X pins σ H s → (∀ b ∈ fp, FpOk X pins H b) → tn i s.heap → J.go i H →
    wpAny (model P w) X.A (pyNext (.ref it)) (fun r s1 => ∃ u, r = some u ∧
      wpAny (model P w) X.A (letOwnedTupleGo tg (.ref it) u) (fun _ s2 => ∃ x H', Inv X pins σ H' s2 ∧ RelV x u ∧ J.yld i H x H' ∧ tn (i + 1) s2.heap ∧ ∀ b ∈ fp, H' b = none) E s1) E s
  done : ∀ (X : Cx), X.prog = P → X.w = w → X.K = K → X.calm = true → ∀ (i : Nat) (pins : List (Addr × Obj)) (s : Shared) (σ : St) (H : Hp) (E : Value → Shared → Prop), Inv X pins σ H s → (∀ b ∈ fp, FpOk X pins H b) → tn i s.heap → J.stop i H →
    wpAny (model P w) X.A (pyNext (.ref it)) (fun r s1 => r = none ∧ Inv X pins σ H s1) E s
  self : ∀ (A : Around) (i : Nat) (s : Shared) (Q : Value → Shared → Prop) (E : Value → Shared → Prop), tn i s.heap → Q (.ref it) s → wpAny (model P w) A (pyIter (.ref it)) Q E s
abbrev TI := St → Hp → (It → Hp → Prop) → Prop
/-- an iterator has come -/
def PIE (X : Cx) (pins : List (Addr × Obj)) (σ : St) (tg : Expr) (R : It → Hp → Prop) (itv : Value) (s2 : Shared) : Prop :=
  ∃ (it : Addr) (fp : List Addr) (tn : Nat → Heap → Prop) (J : It) (H' : Hp), itv = .ref it ∧ Inv X pins σ H' s2 ∧ Turn X.prog X.w X.K tg J fp it tn ∧ tn 0 s2.heap ∧ (∀ b ∈ fp, FpOk X pins H' b) ∧ R J H'
def PI (X : Cx) (tg iter : Expr) (wi : TI) : Prop :=
  ∀ (pins : List (Addr × Obj)) (s : Shared) (σ : St) (H : Hp) (R : It → Hp → Prop), Inv X pins σ H s → wi σ H R →
    wpAny (model X.prog X.w) X.A (eval iter X.env) (fun v s1 => wpAny (model X.prog X.w) X.A (pyIter v) (PIE X pins σ tg R) X.xe s1) X.xe s

/-- the step ahead of the store is nothing for an iterator that keeps no tuple -/
theorem go_of {M : Model} {A : Around} {E : Value → Shared → Prop} {s : Shared} {tg : Expr} {it : Addr} {u : Value} {o : Obj} {n : String} {vs : Array Value} {Q : Unit → Shared → Prop} (ho : s.heap.get? it = some o) (hc : o.cls = .type n) (hd : o.data = .fields vs)
    (hn : ["enumerate", "zip", "dict_itemiterator", "dict_reverseitemiterator", "odict_iterator", "itertools.zip_longest", "itertools.pairwise"].contains n = false) (hQ : Q () s) : wpAny M A (letOwnedTupleGo tg (.ref it) u) Q E s := by
  unfold letOwnedTupleGo
  cases tg <;> first
    | exact wpAny_pure hQ
    | (cases u <;> first
        | exact wpAny_pure hQ
        | (refine wpAny_bind (wpAny_load ho ?_)
           rw [hc, hd]
           show wpAny M A (if (["enumerate", "zip", "dict_itemiterator", "dict_reverseitemiterator", "odict_iterator", "itertools.zip_longest", "itertools.pairwise"].contains n && vs[0]? == some (rawInt _)) = true then _ else _) Q E s
           rw [if_neg (by intro h; rw [hn, Bool.false_and] at h; cases h)]
           exact wpAny_pure hQ))

/-- the list at a, as it stands at each turn (a loop may append to it) -/
def Itl (K : PySem.W.Frag) (a : Addr) : It :=
  ⟨fun i H => ∃ xs x, SqL K H a xs ∧ xs[i]? = some x, fun i H x H' => H' = H ∧ ∀ xs, SqL K H a xs → xs[i]? = some x, fun i H => ∃ xs, SqL K H a xs ∧ xs.length ≤ i⟩
/-- lo, lo + 1, .. (n of them) -/
def Itr (lo : Int) (n : Nat) : It := ⟨fun i _ => i < n, fun i H x H' => H' = H ∧ x = .int (lo + i), fun i _ => n ≤ i⟩
theorem turn_list {P : Program} {w : World} {K : PySem.W.Frag} {tg : Expr} (a it : Addr) : Turn P w K tg (Itl K a) [it] it (fun i h => h.IsListIter it a i) where
  mem := by simp
  obj := fun i h st b hb => by
    have e : b = it := by simpa using hb
    subst e
    obtain ⟨o, e, c, d⟩ := st
    exact ⟨o, e, fun v z => by rw [d] at z; cases z⟩
  keep := fun i h h' st k => st.at fun o e => k it (by simp) o e
  item := by
    intro X hP hw hK hc i pins s σ H E I hf st hg
    subst hP hw hK
    obtain ⟨xs, x, hq, hx⟩ := hg
    obtain ⟨its, rv, p, hz⟩ := I.list hq
    obtain ⟨u, hu, ru⟩ := rv.get hx
    obtain ⟨f0, f1, f2, f3, f4, f5⟩ := hf it (by simp)
    refine wpAny_pyNext_list_item st p.isList (x := u) (by simpa using hu) fun h' st' sb => ?_
    have I1 : Inv X pins σ H { s with heap := h' } := I.turned (t' := s.toks) (fun b o hb e => (sb.2 b hb).trans e) f0 f1 f3 f4 f5
    obtain ⟨o, e, c, d⟩ := id st'
    exact ⟨u, rfl, go_of (s := { s with heap := h' }) e c d (by decide) ⟨x, H, I1, ru, ⟨rfl, fun ys hy => by rw [I.list_inj hy hq]; exact hx⟩, st', fun b hb => (hf b hb).1⟩⟩
  done := by
    intro X hP hw hK hc i pins s σ H E I hf st hg
    subst hP hw hK
    obtain ⟨xs, hq, hx⟩ := hg
    obtain ⟨its, rv, p, hz⟩ := I.list hq
    obtain ⟨f0, f1, f2, f3, f4, f5⟩ := hf it (by simp)
    have hl := rv.length
    exact wpAny_pyNext_list_end (I.ok.hd hc) st p.isList (by simp; omega) fun h' eb => ⟨rfl, I.turned (t' := s.toks) (fun b o hb e => eb b o hb e) f0 f1 f3 f4 f5⟩
  self := fun _ _ _ _ _ st h => wpAny_pyIter_listiter st h
theorem turn_range {P : Program} {w : World} {K : PySem.W.Frag} {tg : Expr} (it : Addr) (lo : Int) (n : Nat) : Turn P w K tg (Itr lo n) [it] it (fun i h => IsRangeIter h it (lo + (i : Nat) * 1) ((n : Int) - (i : Nat)) 1) where
  mem := by simp
  obj := fun i h st b hb => by
    have e : b = it := by simpa using hb
    subst e
    exact ⟨_, st, fun v z => by
      have z' : Data.fields _ = Data.cell v := z
      cases z'⟩
  keep := fun i h h' st k => k it (by simp) _ st
  item := by
    intro X hP hw hK hc i pins s σ H E I hf st hg
    subst hP hw hK
    obtain ⟨f0, f1, f2, f3, f4, f5⟩ := hf it (by simp)
    have W := Walks.range (prog := X.prog) (w := X.w) (I.ok.hd hc) it lo 1 n
    refine W.item i s _ _ hg st fun v h' tk hv st' kk => ?_
    obtain ⟨t, rfl⟩ := hv
    have I1 : Inv X pins σ H { s with heap := h', toks := tk } := I.turned (fun b o hb e => kk b o (by simpa using hb) e) f0 f1 f3 f4 f5
    refine ⟨_, rfl, go_of (s := { s with heap := h', toks := tk }) (n := "range_iterator") st' rfl rfl (by decide) ⟨.int (lo + i), H, I1, ⟨t, ?_⟩, ⟨rfl, rfl⟩, st', fun b hb => (hf b hb).1⟩⟩
    rw [Int.mul_one]
  done := by
    intro X hP hw hK hc i pins s σ H E I hf st hg
    subst hP hw hK
    obtain ⟨f0, f1, f2, f3, f4, f5⟩ := hf it (by simp)
    exact wpAny_pyNext_range_end (I.ok.hd hc) st (by have : n ≤ i := hg; omega) fun h' eb => ⟨rfl, I.turned (t' := s.toks) (fun b o hb e => eb b o hb e) f0 f1 f3 f4 f5⟩
  self := fun _ _ _ _ _ st h => wpAny_pyIter_rangeiter st h
end L2

namespace L2
open PySem PySem.Spec PyProof.Rows
section
variable {X : Cx} {tg : Expr}
def iList (K : PySem.W.Frag) (tl : TE) : TI := fun σ H R => tl σ H fun x H1 => ∃ a, x = .ref a ∧ (∃ xs, SqL K H1 a xs) ∧ R (Itl K a) H1
theorem pi_list {l : Expr} {tl : TE} (hl : PE X l tl) : PI X tg l (iList X.K tl) := by
  intro pins s σ H R I h
  refine thn (hl pins s σ H _ I h) fun v s1 ⟨x, H1, I1, r1, q1⟩ => ?_
  obtain ⟨a, e, ⟨xs, hq⟩, q⟩ := q1
  subst e
  cases r1
  obtain ⟨its, rv, p, hz⟩ := I1.list hq
  refine wpAny_pyIter_list p.isList ?_
  refine ⟨s1.heap.objs.size, [s1.heap.objs.size], _, _, H1, rfl, I1.kept (t' := s1.toks) fun b o e => Heap.get?_push_of_some _ e, turn_list a _, ⟨_, Heap.get?_push_size _ rfl, rfl, rfl⟩, fun b hb => ?_, q⟩
  have e : b = s1.heap.objs.size := by simpa using hb
  subst e
  exact I1.fpOk (Nat.le_refl _) (I1.hok.fresh (Nat.le_refl _))
/-- a range object just made, walked -/
theorem range_it {pins : List (Addr × Obj)} {σ : St} {H : Hp} {s : Shared} {R : It → Hp → Prop} {E : Value → Shared → Prop} {lo hi : Int} {t u v : Tok} {tk : Nat} (I : Inv X pins σ H s) (h1 : -(2 ^ 62) ≤ lo) (h2 : lo < 2 ^ 62) (h3 : -(2 ^ 62) ≤ hi) (h4 : hi < 2 ^ 62)
    (q : R (Itr lo (hi - lo).toNat) H) : wpAny (model X.prog X.w) X.A (pyIter (.ref s.heap.objs.size)) (PIE X pins σ tg R) E { s with heap := s.heap.push { cls := .type "range", data := .fields #[.int lo t, .int hi u, .int 1 v] }, toks := tk } := by
  refine wpAny_pyIter_range (IsRange.new ..) (small_one h1 h2 h3 h4) ?_
  have I1 : Inv X pins σ H { s with heap := s.heap.push { cls := .type "range", data := .fields #[.int lo t, .int hi u, .int 1 v] }, toks := tk } := I.kept fun b o e => Heap.get?_push_of_some _ e
  refine ⟨(s.heap.push { cls := .type "range", data := .fields #[.int lo t, .int hi u, .int 1 v] }).objs.size, [(s.heap.push { cls := .type "range", data := .fields #[.int lo t, .int hi u, .int 1 v] }).objs.size], _, _, H, rfl,
    I1.kept (t' := tk) fun b o e => Heap.get?_push_of_some _ e, turn_range _ lo (hi - lo).toNat, ?_, fun b hb => ?_, q⟩
  · have e1 : lo + ((0 : Nat) : Int) * 1 = lo := by simp
    have e2 : (((hi - lo).toNat : Nat) : Int) - ((0 : Nat) : Int) = Builtin.Range.rangeSize lo hi 1 := by rw [rangeSize_one]; split <;> omega
    show IsRangeIter _ _ (lo + ((0 : Nat) : Int) * 1) ((((hi - lo).toNat : Nat) : Int) - ((0 : Nat) : Int)) 1
    rw [e1, e2]
    exact Heap.get?_push_size _ rfl
  · have e : b = (s.heap.push { cls := .type "range", data := .fields #[.int lo t, .int hi u, .int 1 v] }).objs.size := by simpa using hb
    subst e
    exact I1.fpOk (Nat.le_refl _) (I1.hok.fresh (Nat.le_refl _))
def iRng1 (ta : TA) : TI := fun σ H R => ta σ H fun vs H1 => ∃ j : Int, vs = [.int j] ∧ -(2 ^ 62) ≤ j ∧ j < 2 ^ 62 ∧ R (Itr 0 j.toNat) H1
def iRng2 (ta : TA) : TI := fun σ H R => ta σ H fun vs H1 => ∃ i j : Int, vs = [.int i, .int j] ∧ (-(2 ^ 62) ≤ i ∧ i < 2 ^ 62 ∧ -(2 ^ 62) ≤ j ∧ j < 2 ^ 62) ∧ R (Itr i (j - i).toNat) H1
theorem pi_range1 {a : Expr} {ta : TA} {p pos : Pos} (hg : Gl X "range") (hm : X.mg "range" = none) (ha : PA X [a] ta) (hs : starEach [a] X.env = [(false, eval a X.env)] := by rfl) : PI X tg (.Call (.Name "range" p) [a] [] pos) (iRng1 ta) := by
  intro pins s σ H R I h
  refine Call_ (ld_blt I hg hm boot_range (PyProof.Rows.callWith_type1 (thn (ha pos pins s σ H _ I h) fun us s1 ⟨vs, H1, I1, r1, q1⟩ => ?_) hs rfl))
  obtain ⟨j, e, q1, q2, q⟩ := q1
  subst e
  cases r1 with
  | cons r rr =>
    cases rr
    obtain ⟨t, rfl⟩ := r
    exact call_range_1 (range_it I1 (by omega) (by omega) q1 q2 (by simpa using q))
theorem pi_range2 {a b : Expr} {ta : TA} {p pos : Pos} (hg : Gl X "range") (hm : X.mg "range" = none) (ha : PA X [a, b] ta) (hs : starEach [a, b] X.env = [(false, eval a X.env), (false, eval b X.env)] := by rfl) (hs2 : starEach [b] X.env = [(false, eval b X.env)] := by rfl) :
    PI X tg (.Call (.Name "range" p) [a, b] [] pos) (iRng2 ta) := by
  intro pins s σ H R I h
  refine Call_ (ld_blt I hg hm boot_range (PyProof.Rows.callWith_type1 (thn (ha pos pins s σ H _ I h) fun us s1 ⟨vs, H1, I1, r1, q1⟩ => ?_) (by rw [hs, hs2]) (by rw [hs2]; rfl)))
  obtain ⟨i, j, e, ⟨q1, q2, q3, q4⟩, q⟩ := q1
  subst e
  cases r1 with
  | cons r rr =>
    cases rr with
    | cons r' rr =>
      cases rr
      obtain ⟨t, rfl⟩ := r
      obtain ⟨t', rfl⟩ := r'
      exact call_range_2 (range_it I1 q1 q2 q3 q4 q)

/-! ### for -/
/-- W: the invariant by the turn and a measure; N: what the body is to reach -/
def tFor (wi : TI) (g : TG) (tb : TS) : TS := fun D σ H => wi σ H fun J H1 => ∃ W : Nat → Nat → St → Hp → Prop, (∃ m, W 0 m σ H1) ∧ ∀ i m σ H, W i m σ H →
  (J.stop i H ∧ D.nx σ H) ∨ (J.go i H ∧ ∃ N : St → Hp → Prop, (∀ σ' H', N σ' H' → ∃ m', m' < m ∧ W (i + 1) m' σ' H') ∧ ∀ x H', J.yld i H x H' → g x σ H' fun σ2 H2 => tb { D with nx := N, ct := N, bk := D.nx } σ2 H2)
/-- the records at fp as they stand -/
def pinsAt (fp : List Addr) (h : Heap) : List (Addr × Obj) := fp.filterMap fun b => (h.get? b).map fun o => (b, o)
theorem mem_pinsAt {fp : List Addr} {h : Heap} {b : Addr} {o : Obj} (hb : b ∈ fp) (e : h.get? b = some o) : (b, o) ∈ pinsAt fp h := List.mem_filterMap.mpr ⟨b, hb, by rw [e]; rfl⟩
theorem of_pinsAt {fp : List Addr} {h : Heap} {p : Addr × Obj} (hp : p ∈ pinsAt fp h) : p.1 ∈ fp ∧ h.get? p.1 = some p.2 := by
  obtain ⟨b, hb, e⟩ := List.mem_filterMap.mp hp
  cases q : h.get? b with
  | none => rw [q] at e; cases e
  | some o =>
    rw [q] at e
    have e' : (b, o) = p := Option.some.inj e
    subst e'
    exact ⟨hb, q⟩
theorem Inv.pinned {pins : List (Addr × Obj)} {σ : St} {H : Hp} {s : Shared} {fp : List Addr} (I : Inv X pins σ H s) (hf : ∀ b ∈ fp, FpOk X pins H b) (ho : ∀ b ∈ fp, ∃ o, s.heap.get? b = some o ∧ ∀ v, o.data ≠ .cell v) : Inv X (pins ++ pinsAt fp s.heap) σ H s :=
  I.pins_of fun p hp => (List.mem_append.mp hp).elim (fun z => I.pin p (List.mem_append_right _ z)) fun z => by
    obtain ⟨hb, e⟩ := of_pinsAt z
    obtain ⟨f0, f1, f2, _⟩ := hf p.1 hb
    obtain ⟨o, e', d⟩ := ho p.1 hb
    rw [e] at e'; cases e'
    exact ⟨e, f0, f1, f2, d⟩
theorem Inv.unpinned {pins pl : List (Addr × Obj)} {σ : St} {H : Hp} {s : Shared} (I : Inv X (pins ++ pl) σ H s) : Inv X pins σ H s := I.pins_of fun p hp => I.pin p (List.mem_append_right _ (List.mem_append_left _ hp))
theorem ps_for {iter : Expr} {body : List Stmt} {wi : TI} {g : TG} {tb : TS} {pos : Pos} (hp : PassesOwn (model X.prog X.w) X.A X.env X.xe) (hc : X.calm = true) (hi : PI X tg iter wi) (hg : PG X tg g) (hb : PSs X body tb)
    (hs : ∀ x, foldedSetIterable iter X.env x = pure x := by intro _; rfl) : PS X (.For tg iter body [] pos) (tFor wi g tb) := by
  intro pins s σ H D I h
  refine wpAny_For (thn (hi pins s σ H _ I h) fun v s1 h1 => thn h1 fun itv s2 h2 => ?_) hs
  obtain ⟨it, fp, tn, J, H2, e, I2, T, st2, f2, W, ⟨m0, w0⟩, turn⟩ := h2
  subst e
  -- what stays true of the iterator's objects through the loop
  have stat : ∀ {H' : Hp}, (∀ b ∈ fp, H' b = none) → ∀ b ∈ fp, FpOk X pins H' b := fun hn b hb => ⟨hn b hb, (f2 b hb).2⟩
  refine codeAny_forLoop_any (fun n s' => ∃ i σ' H', Inv X pins σ' H' s' ∧ tn i s'.heap ∧ (∀ b ∈ fp, H' b = none) ∧ W i n σ' H') ?_ m0 ⟨0, σ, H2, I2, st2, fun b hb => (f2 b hb).1, w0⟩
  rintro n s3 ⟨i, σ3, H3, I3, st3, fr3, w3⟩
  rcases turn i n σ3 H3 w3 with ⟨stop, qn⟩ | ⟨go, N, hN, step⟩
  · refine wpAny_passesOwn hp (thn (T.done X rfl rfl rfl hc i pins s3 σ3 H3 X.xe I3 (stat fr3) st3 stop) fun r s4 ⟨hr, I4⟩ => ?_)
    subst hr
    exact wpAny_execs_nil ⟨σ3, H3, I4, qn⟩
  · refine wpAny_passesOwn hp (thn (T.item X rfl rfl rfl hc i pins s3 σ3 H3 X.xe I3 (stat fr3) st3 go) fun r s4 ⟨u, hr, h4⟩ => ?_)
    subst hr
    refine wpAny_passesOwn hp (thn h4 fun _ s5 ⟨x, H5, I5, r5, y5, st5, fr5⟩ => ?_)
    have I5' := I5.pinned (stat fr5) (T.obj _ _ st5)
    refine wpAny_passesOwn hp (thn (hg _ s5 σ3 H5 x u _ I5' r5 (step x H5 y5)) fun _ s6 ⟨σ6, H6, I6, q6⟩ => ?_)
    refine wpAny_passesOwn hp (thn (hb _ s6 σ6 H6 _ I6 q6) fun f s7 q7 => ?_)
    have again : ∀ {σ7 : St} {H7 : Hp}, Inv X (pins ++ pinsAt fp s5.heap) σ7 H7 s7 → N σ7 H7 → ∃ m, m < n ∧ ∃ i σ' H', Inv X pins σ' H' s7 ∧ tn i s7.heap ∧ (∀ b ∈ fp, H' b = none) ∧ W i m σ' H' := fun {σ7 H7} I7 n7 => by
      obtain ⟨m', hm, w7⟩ := hN σ7 H7 n7
      refine ⟨m', hm, i + 1, σ7, H7, I7.unpinned, T.keep _ _ _ st5 fun b hb o e => (I7.pin (b, o) (List.mem_append_right _ (List.mem_append_right _ (mem_pinsAt hb e)))).1, fun b hb => ?_, w7⟩
      obtain ⟨o, e, d⟩ := T.obj _ _ st5 b hb
      exact (I7.pin (b, o) (List.mem_append_right _ (List.mem_append_right _ (mem_pinsAt hb e)))).2.1
    cases f with
    | next => obtain ⟨σ7, H7, I7, n7⟩ := q7; exact again I7 n7
    | cont => obtain ⟨σ7, H7, I7, n7⟩ := q7; exact again I7 n7
    | brk => obtain ⟨σ7, H7, I7, q7⟩ := q7; exact ⟨σ7, H7, I7.unpinned, q7⟩
    | ret v => obtain ⟨x7, σ7, H7, I7, r7, q7⟩ := q7; exact ⟨x7, σ7, H7, I7.unpinned, r7, q7⟩
end

/-! ### the forms one uses -/
/-- over a list that the body leaves as it is -/
theorem for_list {K : PySem.W.Frag} {a : Addr} {xs : List V} {g : TG} {tb : TS} {D : Ends} {σ : St} {H : Hp} (Pv : Nat → St → Hp → Prop) (h0 : Pv 0 σ H) (hl : ∀ i σ H, i ≤ xs.length → Pv i σ H → SqL K H a xs)
    (hs : ∀ i x σ H, xs[i]? = some x → Pv i σ H → g x σ H fun σ2 H2 => tb { D with nx := Pv (i + 1), ct := Pv (i + 1), bk := D.nx } σ2 H2) (hd : ∀ σ H, Pv xs.length σ H → D.nx σ H) :
    ∃ W : Nat → Nat → St → Hp → Prop, (∃ m, W 0 m σ H) ∧ ∀ i m σ H, W i m σ H →
      ((Itl K a).stop i H ∧ D.nx σ H) ∨ ((Itl K a).go i H ∧ ∃ N : St → Hp → Prop, (∀ σ' H', N σ' H' → ∃ m', m' < m ∧ W (i + 1) m' σ' H') ∧ ∀ x H', (Itl K a).yld i H x H' → g x σ H' fun σ2 H2 => tb { D with nx := N, ct := N, bk := D.nx } σ2 H2) := by
  refine ⟨fun i m σ H => m = xs.length - i ∧ i ≤ xs.length ∧ Pv i σ H, ⟨xs.length, by simp, Nat.zero_le _, h0⟩, ?_⟩
  rintro i m σ H ⟨rfl, hi, p⟩
  have q := hl i σ H hi p
  by_cases hlt : i < xs.length
  · refine .inr ⟨⟨xs, xs[i], q, by simp [hlt]⟩, Pv (i + 1), fun σ' H' p' => ⟨xs.length - (i + 1), by omega, rfl, hlt, p'⟩, fun x H' y => ?_⟩
    obtain ⟨e, y⟩ := y
    subst e
    exact hs i x σ _ (y xs q) p
  · have e : i = xs.length := by omega
    subst e
    exact .inl ⟨⟨xs, q, Nat.le_refl _⟩, hd σ H p⟩
theorem for_range {lo : Int} {n : Nat} {g : TG} {tb : TS} {D : Ends} {σ : St} {H : Hp} (Pv : Nat → St → Hp → Prop) (h0 : Pv 0 σ H)
    (hs : ∀ i σ H, i < n → Pv i σ H → g (.int (lo + i)) σ H fun σ2 H2 => tb { D with nx := Pv (i + 1), ct := Pv (i + 1), bk := D.nx } σ2 H2) (hd : ∀ σ H, Pv n σ H → D.nx σ H) :
    ∃ W : Nat → Nat → St → Hp → Prop, (∃ m, W 0 m σ H) ∧ ∀ i m σ H, W i m σ H →
      ((Itr lo n).stop i H ∧ D.nx σ H) ∨ ((Itr lo n).go i H ∧ ∃ N : St → Hp → Prop, (∀ σ' H', N σ' H' → ∃ m', m' < m ∧ W (i + 1) m' σ' H') ∧ ∀ x H', (Itr lo n).yld i H x H' → g x σ H' fun σ2 H2 => tb { D with nx := N, ct := N, bk := D.nx } σ2 H2) := by
  refine ⟨fun i m σ H => m = n - i ∧ i ≤ n ∧ Pv i σ H, ⟨n, by simp, Nat.zero_le _, h0⟩, ?_⟩
  rintro i m σ H ⟨rfl, hi, p⟩
  by_cases hlt : i < n
  · refine .inr ⟨hlt, Pv (i + 1), fun σ' H' p' => ⟨n - (i + 1), by omega, rfl, hlt, p'⟩, fun x H' y => ?_⟩
    obtain ⟨e, y⟩ := y
    subst e y
    exact hs i σ _ hlt p
  · have e : i = n := by omega
    subst e
    exact .inl ⟨Nat.le_refl _, hd σ H p⟩
end L2

namespace L2
open PySem PySem.Spec PyProof.Rows

abbrev R2 := V → V → Hp → VK → Prop
/-- a two-place operation on values: f is binaryOp op, inplaceOp op or compareOp op -/
def OpR (X : Cx) (f : Value → Value → Sem Value) (r : R2) : Prop :=
  ∀ (pins : List (Addr × Obj)) (s : Shared) (σ : St) (H : Hp) (x y : V) (v u : Value) (Q : VK), Inv X pins σ H s → RelV x v → RelV y u → r x y H Q →
    wpAny (model X.prog X.w) X.A (f v u) (EP X pins σ Q) X.xe s
/-- a one-place operation -/
def UnR (X : Cx) (f : Value → Sem Value) (r : V → Hp → VK → Prop) : Prop :=
  ∀ (pins : List (Addr × Obj)) (s : Shared) (σ : St) (H : Hp) (x : V) (v : Value) (Q : VK), Inv X pins σ H s → RelV x v → r x H Q →
    wpAny (model X.prog X.w) X.A (f v) (EP X pins σ Q) X.xe s
/-- a call of a value that is known (a builtin, a type) with values -/
def CallR (X : Cx) (f : Value) (r : List V → Hp → VK → Prop) : Prop :=
  ∀ (pins : List (Addr × Obj)) (s : Shared) (σ : St) (H : Hp) (xs : List V) (us : List Value) (Q : VK), Inv X pins σ H s → Vals xs us → r xs H Q →
    wpAny (model X.prog X.w) X.A (call f us) (EP X pins σ Q) X.xe s
/-- a value's truth -/
def TruR (X : Cx) (r : V → Hp → (Bool → Hp → Prop) → Prop) : Prop :=
  ∀ (pins : List (Addr × Obj)) (s : Shared) (σ : St) (H : Hp) (x : V) (v : Value) (Q : Bool → Hp → Prop), Inv X pins σ H s → RelV x v → r x H Q →
    wpAny (model X.prog X.w) X.A (truthy v) (TP X pins σ Q) X.xe s

def tOp (r : R2) (ta tb : TE) : TE := fun σ H Q => ta σ H fun x H1 => tb σ H1 fun y H2 => r x y H2 Q
def tUn (r : V → Hp → VK → Prop) (ta : TE) : TE := fun σ H Q => ta σ H fun x H1 => r x H1 Q
def rI0 (g : Int → Int → V) : R2 := fun x y H Q => ∃ i j, x = .int i ∧ y = .int j ∧ Q (g i j) H
def rU (g : Int → V) : V → Hp → VK → Prop := fun x H Q => ∃ i, x = .int i ∧ Q (g i) H

section
variable {X : Cx} {a b c : Expr} {ta tb tc : TE} {pos : Pos}

theorem binT (ha : PE X a ta) (hb : PE X b tb) {pins : List (Addr × Obj)} {s : Shared} {σ : St} {H : Hp} {R : V → V → Hp → Prop} (I : Inv X pins σ H s)
    (h : ta σ H fun x H1 => tb σ H1 fun y H2 => R x y H2) {Q : Value → Shared → Prop} {f : Value → Value → Sem Value}
    (hf : ∀ v u s2 x y H2, Inv X pins σ H2 s2 → RelV x v → RelV y u → R x y H2 → wpAny (model X.prog X.w) X.A (f v u) Q X.xe s2) :
    wpAny (model X.prog X.w) X.A (eval a X.env) (fun v s₁ => wpAny (model X.prog X.w) X.A (eval b X.env) (fun u s₂ => wpAny (model X.prog X.w) X.A (f v u) Q X.xe s₂) X.xe s₁) X.xe s := by
  refine thn (ha pins s σ H _ I h) fun v s1 ⟨x, H1, I1, r1, q1⟩ => ?_
  refine thn (hb pins s1 σ H1 _ I1 q1) fun u s2 ⟨y, H2, I2, r2, q2⟩ => ?_
  exact hf v u s2 x y H2 I2 r1 r2 q2

theorem pe_op {op : Operator} {r : R2} (ho : OpR X (binaryOp op) r) (ha : PE X a ta) (hb : PE X b tb) : PE X (.BinOp a op b pos) (tOp r ta tb) := by
  intro pins s σ H Q I h
  exact wpAny_BinOp (binT ha hb I h fun v u s2 x y H2 I2 rx ry q => ho pins s2 σ H2 x y v u Q I2 rx ry q)
theorem pe_un {op : UnaryOp} {r : V → Hp → VK → Prop} (ho : UnR X (unaryOp op) r) (ha : PE X a ta) : PE X (.UnaryOp op a pos) (tUn r ta) := by
  intro pins s σ H Q I h
  exact UnaryOp_ (thn (ha pins s σ H _ I h) fun v s1 ⟨x, H1, I1, r1, q1⟩ => ho pins s1 σ H1 x v Q I1 r1 q1)
/-! ### ints -/
theorem opI0 {f : Value → Value → Sem Value} {g : Int → Int → Int}
    (rule : ∀ (i j : Int) (t u : Tok) (s : Shared) (Q : Value → Shared → Prop) (E : Value → Shared → Prop), Q (.int (g i j) s.toks) { s with toks := s.toks + 1 } → wpAny (model X.prog X.w) X.A (f (.int i t) (.int j u)) Q E s) :
    OpR X f (rI0 fun i j => .int (g i j)) := by
  intro pins s σ H x y v u Q I rx ry h
  obtain ⟨i, j, rfl, rfl, q⟩ := h
  obtain ⟨t, rfl⟩ := rx
  obtain ⟨t', rfl⟩ := ry
  exact rule i j t t' s _ _ ⟨.int (g i j), H, I.tok _, ⟨_, rfl⟩, q⟩
theorem opB0 {f : Value → Value → Sem Value} {g : Int → Int → Bool}
    (rule : ∀ (i j : Int) (t u : Tok) (s : Shared) (Q : Value → Shared → Prop) (E : Value → Shared → Prop), Q (.bool (g i j)) s → wpAny (model X.prog X.w) X.A (f (.int i t) (.int j u)) Q E s) :
    OpR X f (rI0 fun i j => .bl (g i j)) := by
  intro pins s σ H x y v u Q I rx ry h
  obtain ⟨i, j, rfl, rfl, q⟩ := h
  obtain ⟨t, rfl⟩ := rx
  obtain ⟨t', rfl⟩ := ry
  exact rule i j t t' s _ _ ⟨.bl (g i j), H, I, rfl, q⟩

theorem op_add : OpR X (binaryOp .Add) (rI0 fun i j => .int (i + j)) := opI0 fun _ _ _ _ _ _ _ q => add_int q
theorem op_sub : OpR X (binaryOp .Sub) (rI0 fun i j => .int (i - j)) := opI0 fun _ _ _ _ _ _ _ q => sub_int q
theorem unI {f : Value → Sem Value} {g : Int → Int}
    (rule : ∀ (i : Int) (t : Tok) (s : Shared) (Q : Value → Shared → Prop) (E : Value → Shared → Prop), Q (.int (g i) s.toks) { s with toks := s.toks + 1 } → wpAny (model X.prog X.w) X.A (f (.int i t)) Q E s) :
    UnR X f (rU fun i => .int (g i)) := by
  intro pins s σ H x v Q I rx h
  obtain ⟨i, rfl, q⟩ := h
  obtain ⟨t, rfl⟩ := rx
  exact rule i t s _ _ ⟨.int (g i), H, I.tok _, ⟨_, rfl⟩, q⟩
theorem un_neg : UnR X (unaryOp .USub) (rU fun i => .int (-i)) := unI fun _ _ _ _ _ q => neg_int q
/-! ### bools among ints: n += (a < b) -/
end

/-! ### comparisons -/
/-- the scalars that == tells apart as data does -/
def scal : V → V → Bool
  | .non, .non => true | .non, .int _ => true | .int _, .non => true | .non, .bl _ => true | .bl _, .non => true | .non, .str _ => true | .str _, .non => true
  | .int _, .int _ => true | .bl _, .bl _ => true | .str _, .str _ => true | .byt _, .byt _ => true
  | .int _, .str _ => true | .str _, .int _ => true | .bl _, .str _ => true | .str _, .bl _ => true
  | _, _ => false
def rEq : R2 := fun x y H Q => scal x y = true ∧ Q (.bl (decide (x = y))) H
def rNe : R2 := fun x y H Q => scal x y = true ∧ Q (.bl (!decide (x = y))) H

theorem dec_int {i j : Int} : decide (V.int i = V.int j) = (i == j) := by
  rw [Bool.eq_iff_iff]
  simp
theorem dec_bl {i j : Bool} : decide (V.bl i = V.bl j) = (i == j) := by
  rw [Bool.eq_iff_iff]
  simp
theorem dec_str {i j : Str} : decide (V.str i = V.str j) = (i == j) := by
  rw [Bool.eq_iff_iff]
  simp
theorem dec_byt {i j : Array UInt8} : decide (V.byt i = V.byt j) = (i.toList == j.toList) := by
  rw [Bool.eq_iff_iff]
  cases i
  cases j
  simp

section
variable {X : Cx} {a b c : Expr} {ta tb tc : TE} {pos : Pos}
theorem fin_bl {pins : List (Addr × Obj)} {σ : St} {H : Hp} {s : Shared} {Q : VK} {k k' : Bool} (I : Inv X pins σ H s) (q : Q (.bl k) H) (e : k = k') : EP X pins σ Q (.bool k') s := by
  subst e
  exact ⟨.bl k, H, I, rfl, q⟩
theorem op_eq : OpR X (compareOp .Eq) rEq := by
  intro pins s σ H x y v u Q I rx ry h
  obtain ⟨hs, q⟩ := h
  cases x with
  | non =>
    cases rx
    cases y with
    | non => cases ry; exact PySem.EqNone.eq_none_none (fin_bl I q (by simp))
    | bl j => cases ry; exact PySem.EqNone.eq_none_bool (fin_bl I q (by simp))
    | int j => obtain ⟨t', rfl⟩ := ry; exact PySem.EqNone.eq_none_int (fin_bl I q (by simp))
    | str j => obtain ⟨t', rfl⟩ := ry; exact PySem.EqNone.eq_none_str (fin_bl I q (by simp))
    | _ => exact absurd (show false = true from hs) Bool.false_ne_true
  | bl i =>
    cases rx
    cases y with
    | non => cases ry; exact PySem.EqNone.eq_bool_none (fin_bl I q (by simp))
    | bl j => cases ry; exact eq_bool (fin_bl I q dec_bl)
    | str j => obtain ⟨t', rfl⟩ := ry; exact PySem.EqMixed.eq_bool_str (fin_bl I q (by simp))
    | _ => exact absurd (show false = true from hs) Bool.false_ne_true
  | int i =>
    obtain ⟨t, rfl⟩ := rx
    cases y with
    | non => cases ry; exact PySem.EqNone.eq_int_none (fin_bl I q (by simp))
    | int j => obtain ⟨t', rfl⟩ := ry; exact eq_int (fin_bl I q dec_int)
    | str j => obtain ⟨t', rfl⟩ := ry; exact PySem.EqMixed.eq_int_str (fin_bl I q (by simp))
    | _ => exact absurd (show false = true from hs) Bool.false_ne_true
  | str i =>
    obtain ⟨t, rfl⟩ := rx
    cases y with
    | non => cases ry; exact PySem.EqNone.eq_str_none (fin_bl I q (by simp))
    | bl j => cases ry; exact PySem.EqMixed.eq_str_bool (fin_bl I q (by simp))
    | int j => obtain ⟨t', rfl⟩ := ry; exact PySem.EqMixed.eq_str_int (fin_bl I q (by simp))
    | str j => obtain ⟨t', rfl⟩ := ry; exact eq_str (fin_bl I q dec_str)
    | _ => exact absurd (show false = true from hs) Bool.false_ne_true
  | byt i =>
    obtain ⟨t, rfl⟩ := rx
    cases y with
    | byt j => obtain ⟨t', rfl⟩ := ry; exact PySem.W.eq_bytes (fin_bl I q dec_byt)
    | _ => exact absurd (show false = true from hs) Bool.false_ne_true
  | _ => cases y <;> exact absurd (show false = true from hs) Bool.false_ne_true
theorem op_ne : OpR X (compareOp .NotEq) rNe := by
  intro pins s σ H x y v u Q I rx ry h
  obtain ⟨hs, q⟩ := h
  cases x with
  | non =>
    cases rx
    cases y with
    | non => cases ry; exact PySem.EqNone.ne_none_none (fin_bl I q (by simp))
    | bl j => cases ry; exact PySem.EqNone.ne_none_bool (fin_bl I q (by simp))
    | int j => obtain ⟨t', rfl⟩ := ry; exact PySem.EqNone.ne_none_int (fin_bl I q (by simp))
    | str j => obtain ⟨t', rfl⟩ := ry; exact PySem.EqNone.ne_none_str (fin_bl I q (by simp))
    | _ => exact absurd (show false = true from hs) Bool.false_ne_true
  | bl i =>
    cases rx
    cases y with
    | non => cases ry; exact PySem.EqNone.ne_bool_none (fin_bl I q (by simp))
    | bl j => cases ry; exact ne_bool (fin_bl I q (congrArg not dec_bl))
    | str j => obtain ⟨t', rfl⟩ := ry; exact PySem.EqMixed.ne_bool_str (fin_bl I q (by simp))
    | _ => exact absurd (show false = true from hs) Bool.false_ne_true
  | int i =>
    obtain ⟨t, rfl⟩ := rx
    cases y with
    | non => cases ry; exact PySem.EqNone.ne_int_none (fin_bl I q (by simp))
    | int j => obtain ⟨t', rfl⟩ := ry; exact ne_int (fin_bl I q (congrArg not dec_int))
    | str j => obtain ⟨t', rfl⟩ := ry; exact PySem.EqMixed.ne_int_str (fin_bl I q (by simp))
    | _ => exact absurd (show false = true from hs) Bool.false_ne_true
  | str i =>
    obtain ⟨t, rfl⟩ := rx
    cases y with
    | non => cases ry; exact PySem.EqNone.ne_str_none (fin_bl I q (by simp))
    | bl j => cases ry; exact PySem.EqMixed.ne_str_bool (fin_bl I q (by simp))
    | int j => obtain ⟨t', rfl⟩ := ry; exact PySem.EqMixed.ne_str_int (fin_bl I q (by simp))
    | str j => obtain ⟨t', rfl⟩ := ry; exact ne_str (fin_bl I q (congrArg not dec_str))
    | _ => exact absurd (show false = true from hs) Bool.false_ne_true
  | byt i =>
    obtain ⟨t, rfl⟩ := rx
    cases y with
    | byt j => obtain ⟨t', rfl⟩ := ry; exact PySem.W.ne_bytes (fin_bl I q (congrArg not dec_byt))
    | _ => exact absurd (show false = true from hs) Bool.false_ne_true
  | _ => cases y <;> exact absurd (show false = true from hs) Bool.false_ne_true

theorem op_lt : OpR X (compareOp .Lt) (rI0 fun i j => .bl (decide (i < j))) := opB0 fun _ _ _ _ _ _ _ q => lt_int q
theorem op_le : OpR X (compareOp .LtE) (rI0 fun i j => .bl (decide (i ≤ j))) := opB0 fun _ _ _ _ _ _ _ q => le_int q
theorem op_gt : OpR X (compareOp .Gt) (rI0 fun i j => .bl (decide (j < i))) := opB0 fun _ _ _ _ _ _ _ q => gt_int q
theorem op_ge : OpR X (compareOp .GtE) (rI0 fun i j => .bl (decide (j ≤ i))) := opB0 fun _ _ _ _ _ _ _ q => ge_int q
theorem nomark (b : Expr) {op : CmpOp} (h : op ≠ .In := by decide) (h2 : op ≠ .NotIn := by decide) : behindInMarks op b = false := by
  have e1 : (op == CmpOp.In) = false := by cases op <;> first | rfl | exact absurd rfl h
  have e2 : (op == CmpOp.NotIn) = false := by cases op <;> first | rfl | exact absurd rfl h2
  cases b <;> simp [behindInMarks, e1, e2]
/-- a comparison as a value; hm: nomark b, or (for in, not in) by with_unfolding_all rfl -/
theorem pe_cmpR {op : CmpOp} {r : R2} (ho : OpR X (compareOp op) r) (ha : PE X a ta) (hb : PE X b tb) (hm : behindInMarks op b = false) : PE X (.Compare a [op] [b] pos) (tOp r ta tb) := by
  intro pins s σ H Q I h
  exact wpAny_Compare1 (binT ha hb I h fun v u s2 x y H2 I2 rx ry q => ho pins s2 σ H2 x y v u Q I2 rx ry q) hm
/-- a reading of a value as a test -/
def tTest (t : TE) : TT := fun σ H Q => t σ H fun x H' => ∃ k, x = .bl k ∧ Q k H'
theorem pt_cmpR {op : CmpOp} {r : R2} (ho : OpR X (compareOp op) r) (ha : PE X a ta) (hb : PE X b tb) (hm : behindInMarks op b = false) : PT X (.Compare a [op] [b] pos) (tTest (tOp r ta tb)) := by
  intro pins s σ H Q I h
  refine wpAny_isTrue_Compare1 (thn (ha pins s σ H _ I h) fun v s1 ⟨x, H1, I1, r1, q1⟩ => thn (hb pins s1 σ H1 _ I1 q1) fun u s2 ⟨y, H2, I2, r2, q2⟩ =>
    thn (ho pins s2 σ H2 x y v u _ I2 r1 r2 q2) fun c s3 ⟨z, H3, I3, r3, k, e, q3⟩ => ?_) hm
  subst e
  cases r3
  exact wpAny_truthy_bool ⟨H3, I3, q3⟩
/-! ### truth -/
/-- a value's truth by the abstract heap -/
def TruV (K : PySem.W.Frag) (x : V) (H : Hp) (k : Bool) : Prop :=
  match x with
  | .non => k = false
  | .bl b => k = b
  | .int i => k = (i != 0)
  | .str y => y.length ≤ sizeLine ∧ k = ((y.length : Int) != 0)
  | .byt y => y.size ≤ sizeLine ∧ k = ((y.size : Int) != 0)
  | .ref p => (∃ xs, SqL K H p xs ∧ k = !xs.isEmpty) ∨ (∃ xs, SqT K H p xs ∧ k = !xs.isEmpty) ∨ ∃ kvs, H p = some (.dK kvs) ∧ k = !kvs.isEmpty
  | _ => False
theorem isEmpty_kv {κ : Type} {kvs : List (κ × V)} {vs : List (κ × Value)} (r : KV kvs vs) : (!vs.isEmpty) = !kvs.isEmpty := by
  cases r <;> rfl
theorem isEmpty_of {xs : List V} {its : List Value} (r : Vals xs its) : (!its.toArray.isEmpty) = !xs.isEmpty := by
  cases r <;> simp
theorem line63 : (sizeLine : Nat) < 2 ^ 63 := by rw [sizeLine_eq]; decide
theorem tru_ok : TruR X (fun x H Q => ∃ k, TruV X.K x H k ∧ Q k H) := by
  intro pins s σ H x v Q I rx h
  obtain ⟨k, e, q⟩ := h
  have hl := line63
  have hs : sizeLine = 16777216 := sizeLine_eq
  cases x with
  | non =>
    cases rx
    have e' : k = false := e
    subst e'
    exact truthy_none ⟨H, I, q⟩
  | bl b =>
    cases rx
    have e' : k = b := e
    subst e'
    exact wpAny_truthy_bool ⟨H, I, q⟩
  | int i =>
    obtain ⟨t, rfl⟩ := rx
    have e' : k = (i != 0) := e
    subst e'
    exact PySem.P.truthy_int ⟨H, I, q⟩
  | str y =>
    obtain ⟨t, rfl⟩ := rx
    obtain ⟨hy, e'⟩ : y.length ≤ sizeLine ∧ k = ((y.length : Int) != 0) := e
    subst e'
    exact PySem.P.truthy_str (by omega) ⟨H, I.tok _, q⟩
  | byt y =>
    obtain ⟨t, rfl⟩ := rx
    obtain ⟨hy, e'⟩ : y.size ≤ sizeLine ∧ k = ((y.size : Int) != 0) := e
    subst e'
    exact PySem.W.truthy_bytes (by omega) ⟨H, I.tok _, q⟩
  | ref p =>
    cases rx
    have e' : (∃ xs, SqL X.K H p xs ∧ k = !xs.isEmpty) ∨ (∃ xs, SqT X.K H p xs ∧ k = !xs.isEmpty) ∨ ∃ kvs, H p = some (.dK kvs) ∧ k = !kvs.isEmpty := e
    rcases e' with ⟨xs, hx, e'⟩ | ⟨xs, hx, e'⟩ | ⟨kvs, hx, e'⟩
    · subst e'
      obtain ⟨its, r, pl, hz⟩ := I.list hx
      have hlen := r.length
      exact wpAny_truthy_list pl.isList (by simp only [List.size_toArray]; omega) ⟨H, I.tok _, by rw [isEmpty_of r]; exact q⟩
    · subst e'
      obtain ⟨its, r, pl, hz⟩ := I.tuple hx
      have hlen := r.length
      exact truthy_tuple pl (by simp only [List.size_toArray]; omega) ⟨H, I.tok _, by rw [isEmpty_of r]; exact q⟩
    · subst e'
      obtain ⟨hz, hS, vs, r, m⟩ : kvs.length ≤ sizeLine ∧ (p == sysModules) = false ∧ ∃ vs, KV kvs vs ∧ s.heap.DictOf (mixKind X.prog X.w) p vs := I.hok p _ hx
      have hlen : kvs.length = vs.length := Paired.length r
      exact wpAny_truthy_dict hS m (by omega) ⟨H, I.tok _, by rw [isEmpty_kv r]; exact q⟩
  | _ => exact (show False from e).elim
/-- any expression whose test is its value's truth (a name, a call, a subscript, a field ..: he by fun _ => rfl) -/
theorem pt_truth (ha : PE X a ta) (he : ∀ whole, isTrue a X.env whole = (do let v ← whole; standAt a.pos; holding [v] (truthy v))) :
    PT X a (fun σ H Q => ta σ H fun x H' => ∃ k, TruV X.K x H' k ∧ Q k H') := by
  intro pins s σ H Q I h
  exact isTrue_plain (thn (ha pins s σ H _ I h) fun v s1 ⟨x, H1, I1, r1, q1⟩ => tru_ok pins s1 σ H1 x v Q I1 r1 q1) (he _)

/-! ### strs and bytes -/
/-! ### scalar builtins, by CallR -/
theorem vals1 {x : V} {us : List Value} (r : Vals [x] us) : ∃ u, us = [u] ∧ RelV x u := by
  cases r with
  | cons r1 r2 => cases r2; exact ⟨_, rfl, r1⟩
end
end L2

namespace L2
open PySem PySem.Spec PyProof.Rows

/-! ### an instance, its attributes a map -/
structure ObjM (h : Heap) (x dx C : Addr) (mA : Str → Option Value) : Prop where
  obj : h.get? x = some (PySem.W.instObj C dx)
  ns : h.Ns1 dx mA
  ne : dx ≠ x

theorem lookIn_ns {h : Heap} {dx : Addr} {mA : Str → Option Value} (n : h.Ns1 dx mA) : ∃ od, h.get? dx = some od ∧ ∀ name, PySem.W.lookIn name od = some (mA name) := by
  obtain ⟨o, es, ep, ho, hd, hk, _, hm⟩ := n
  refine ⟨o, ho, fun name => ?_⟩
  have e := hm name
  unfold nsFind findBy at e
  rw [← Array.find?_toList] at e
  unfold PySem.W.lookIn
  rw [hd]
  dsimp only
  split
  · rename_i y q
    rw [q] at e
    exact congrArg some e
  · rename_i q
    rw [q] at e
    have a : es.toList.any (·.refKey) = false := by
      rw [List.any_eq_false]
      intro y hy
      obtain ⟨z, t, hkey⟩ := hk y (Array.mem_toList_iff.mp hy)
      simp [DictEntry.refKey, hkey]
    have a' : ¬ es.toList.any (·.refKey) = true := by rw [a]; exact Bool.false_ne_true
    rw [if_neg a']
    exact congrArg some e

theorem ObjM.look {h : Heap} {x dx C : Addr} {mA : Str → Option Value} (I : ObjM h x dx C mA) : ∃ od, PySem.W.InstAt h x (PySem.W.instObj C dx) C (some od) ∧ ∀ name, PySem.W.lookIn name od = some (mA name) :=
  let ⟨od, ho, hl⟩ := lookIn_ns I.ns
  ⟨od, ⟨I.obj, rfl, rfl, ho⟩, hl⟩

section
variable {prog : Program} {w : World} {A : Around} {E : Value → Shared → Prop} {s : Shared} {K : PySem.W.Frag} {x dx C f : Addr} {mA : Str → Option Value} {name : Str} {v : Value}

theorem get_map {expr : Bool} {Q : Value → Shared → Prop} (X : K.In s.heap) (I : ObjM s.heap x dx C mA) (hg : PySem.W.plainGet K C name = true) (hh : PySem.W.hasDictIn K C = true)
    (ha : PySem.W.findIn K (.ref C) name = some none) (hv : mA name = some v) (hv' : PySem.W.handedIn v = true) (h : Q v { s with toks := s.toks + 1 }) :
    wpAny (model prog w) A (getAttr (.ref x) name expr) Q E s := by
  obtain ⟨od, J, hl⟩ := I.look
  exact PySem.W.get_value X J (PySem.W.plainGet_of hg).1 (PySem.W.findObj_own hh ha rfl (by rw [hl, hv])) hv' h

theorem get_meth {pl : Sem Bool} {Q : Value × List Value → Shared → Prop} (X : K.In s.heap) (I : ObjM s.heap x dx C mA) (hg : PySem.W.plainGet K C name = true)
    (hf : PySem.W.findIn K (.ref C) name = some (some (.ref f))) (ht : PySem.W.isFn K (.ref f) = true) (hv : mA name = none) (h : Q (.ref f, [.ref x]) s) :
    wpAny (model prog w) A (getMethod (.ref x) name pl) Q E s := by
  obtain ⟨od, J, hl⟩ := I.look
  exact PySem.W.method_fn X J (PySem.W.plainGet_of hg).1 (PySem.W.plainGet_of hg).2 hf (beq_iff_eq.mp ht) (by show (PySem.W.lookIn name od).map (·.isSome) = some false; rw [hl, hv]; rfl) h

theorem set_map {ns : List Str} {Q : Unit → Shared → Prop} (X : K.In s.heap) (I : ObjM s.heap x dx C mA)
    (hs : PySem.W.findIn K (.ref C) "__setattr__" = some (some (.builtin "object.__setattr__"))) (hp : PySem.W.plainOver K C = true) (ht : PySem.W.takerIn K C name = some none) (hh : PySem.W.hasDictIn K C = true)
    (hw : PySem.Within mA ns) (hsz : ns.length ≤ sizeLine)
    (h : ∀ h', ObjM h' x dx C (fun y => if y = name then some v else mA y) → Heap.SameBut dx s.heap h' → Q () { s with heap := h', toks := s.toks + 2 }) :
    wpAny (model prog w) A (setAttr (.ref x) name v) Q E s := by
  obtain ⟨od, J, hl⟩ := I.look
  refine PySem.W.set_plain X J hs (PySem.W.osa_open (s := { s with toks := s.toks + 1 }) (r := none) X J hp ht fun b => ?_)
  obtain ⟨cd, hc, hd'⟩ := PySem.W.any_some hh
  have hx : s.heap.get? x = some ⟨.ref C, some dx, .plain, #[]⟩ := I.obj
  refine wpAny_bind (wpAny_pure (wpAny_bind (wpAny_bind (wpAny_loadPart hx (wpAny_bind (PySem.W.Looks.here (s := { s with toks := s.toks + 1 }) (PySem.W.looks_clsIn X hc) ?_))))))
  rw [hd']
  refine wpAny_pure (a := some dx) (wpAny_bind (wpAny_pure (wpAny_bind ?_)))
  refine wpAny_nsSet1 (s := { s with toks := s.toks + 1 }) I.ns fun h' hn2 hs2 => ?_
  obtain ⟨oD, esD, epD, hoD, hdD, hcD⟩ := hn2.count (PySem.Within.cons name v hw)
  refine wpAny_bind (wpAny_lookBehind hoD (by rw [hdD]; exact pastItsLine_dict (Nat.le_trans hcD (by rw [List.length_cons]; omega))) ?_)
  exact wpAny_pure (h _ ⟨(hs2.2 _ (Ne.symm I.ne)).trans I.obj, hn2, I.ne⟩ hs2)

/-- C(..): the dict at the heap's end, the instance behind it; then its __init__ -/
theorem make_map {R : Result → Shared → Prop} {vs : List Value} {kw : List (Str × Value)} (X : K.In s.heap) (hm : PySem.W.makesIn K C = true)
    (hi : PySem.W.findIn K (.ref C) "__init__" = some (some (.ref f))) (hf : PySem.W.typeIn K (.ref f) = some (.type "function"))
    (h : codeAny (model prog w) (A.under (.builtin "type.__call__" ⟨.ref C :: vs, kw⟩)) (.call (.ref f) ⟨.ref (s.heap.objs.size + 1) :: vs, kw⟩) (PySem.W.InitBack (s.heap.objs.size + 1) R)
      { s with heap := (s.heap.push PySem.W.emptyDict).push (PySem.W.instObj C s.heap.objs.size) }) :
    codeAny (model prog w) A (.call (.ref C) ⟨vs, kw⟩) R s := by
  obtain ⟨hh, g, d, t, os⟩ := s
  exact PySem.W.make_core (PySem.W.makes_of X hm) (PySem.W.looks_findIn X hi) (fun self => PySem.W.bind_fn X self hf) (.inl rfl) h
end

/-! ### the attributes as a list of pairs -/
def putF (f : Str) (v : V) : List (Str × V) → List (Str × V)
  | [] => [(f, v)]
  | (g, x) :: r => if g = f then (g, v) :: r else (g, x) :: putF f v r
theorem lookup_putF (f g : Str) (v : V) : ∀ fs : List (Str × V), (putF f v fs).lookup g = if g = f then some v else fs.lookup g
  | [] => by
    show List.lookup g [(f, v)] = _
    by_cases h : g = f
    · have hb : (g == f) = true := beq_iff_eq.mpr h
      simp only [List.lookup, hb, if_pos h]
    · have hb : (g == f) = false := beq_eq_false_iff_ne.mpr h
      simp only [List.lookup, hb, if_neg h]
  | (k, x) :: r => by
    have ih := lookup_putF f g v r
    rw [show putF f v ((k, x) :: r) = (if k = f then (k, v) :: r else (k, x) :: putF f v r) from rfl]
    by_cases hk : k = f
    · rw [if_pos hk]
      by_cases h : g = k
      · have hb : (g == k) = true := beq_iff_eq.mpr h
        simp only [List.lookup, hb, if_pos (h.trans hk)]
      · have hb : (g == k) = false := beq_eq_false_iff_ne.mpr h
        simp only [List.lookup, hb, if_neg (fun e : g = f => h (e.trans hk.symm))]
    · rw [if_neg hk]
      by_cases h : g = k
      · have hb : (g == k) = true := beq_iff_eq.mpr h
        simp only [List.lookup, hb, if_neg (fun e : g = f => hk (h.symm.trans e))]
      · have hb : (g == k) = false := beq_eq_false_iff_ne.mpr h
        simp only [List.lookup, hb]
        exact ih
theorem keys_putF (f : Str) (v : V) : ∀ fs : List (Str × V), f ∈ (putF f v fs).map (·.1) ∧ ∀ g, g ∈ fs.map (·.1) → g ∈ (putF f v fs).map (·.1)
  | [] => ⟨by simp [putF], fun g h => by simp at h⟩
  | (k, x) :: r => by
    obtain ⟨i1, i2⟩ := keys_putF f v r
    rw [show putF f v ((k, x) :: r) = (if k = f then (k, v) :: r else (k, x) :: putF f v r) from rfl]
    by_cases hk : k = f
    · rw [if_pos hk]
      subst hk
      exact ⟨by simp, fun g h => by simpa using h⟩
    · rw [if_neg hk]
      refine ⟨?_, fun g h => ?_⟩
      · rw [List.map_cons]
        exact List.mem_cons_of_mem _ i1
      · rw [List.map_cons] at h ⊢
        rcases List.mem_cons.mp h with e | e
        · exact List.mem_cons.mpr (.inl e)
        · exact List.mem_cons_of_mem _ (i2 g e)
theorem length_putF (f : Str) (v : V) : ∀ fs : List (Str × V), (putF f v fs).length ≤ fs.length + 1
  | [] => by simp [putF]
  | (k, x) :: r => by
    have ih := length_putF f v r
    rw [show putF f v ((k, x) :: r) = (if k = f then (k, v) :: r else (k, x) :: putF f v r) from rfl]
    by_cases hk : k = f
    · rw [if_pos hk, List.length_cons, List.length_cons]; omega
    · rw [if_neg hk, List.length_cons, List.length_cons]; omega

theorem RelO.some_of {v : V} {o : Option Value} (r : RelO (some v) o) : ∃ u, o = some u ∧ RelV v u := by
  cases o with
  | none => exact (show False from r).elim
  | some u => exact ⟨u, rfl, r⟩
theorem RelO.none_of {o : Option Value} (r : RelO none o) : o = none := by
  cases o with
  | none => rfl
  | some u => exact (show False from r).elim
theorem handed_of {v : V} {u : Value} (r : RelV v u) : PySem.W.handedIn u = true := by
  cases v with
  | non => cases (show u = Value.none from r); rfl
  | bl b => cases (show u = Value.bool b from r); rfl
  | int i => obtain ⟨t, e⟩ := (show ∃ t, u = Value.int i t from r); cases e; rfl
  | str x => obtain ⟨t, e⟩ := (show ∃ t, u = Value.str x t from r); cases e; rfl
  | byt b => obtain ⟨t, e⟩ := (show ∃ t, u = Value.bytes b t from r); cases e; rfl
  | flt b => obtain ⟨t, e⟩ := (show ∃ t, u = Value.float b t from r); cases e; rfl
  | ref a => cases (show u = Value.ref a from r); rfl
  | ty n => cases (show u = Value.type n from r); rfl

section
variable {P : Program} {w : World} {H H' : Hp} {h h' : Heap} {a C dx : Addr} {fs fs' : List (Str × V)}
theorem ins_get (hok : HOk P w H h) (e : H a = some (.ins C dx fs)) : ∃ mA, ObjM h a dx C mA ∧ (∀ f, RelO (fs.lookup f) (mA f)) ∧ PySem.Within mA (fs.map (·.1)) ∧ fs.length ≤ 1000 ∧ H dx = some (.own a) := by
  obtain ⟨d, z, ne, ob, mA, n, r, q⟩ := (show ObjOk P w H h a (.ins C dx fs) from hok a _ e)
  exact ⟨mA, ⟨ob, n, ne⟩, r, q, z, d⟩
end

/-! ### what of the text a class must have -/
structure Cls (K : PySem.W.Frag) (C : Addr) : Prop where
  pg : PySem.W.plainGet K C Str.empty = true
  hd : PySem.W.hasDictIn K C = true
  po : PySem.W.plainOver K C = true
  sa : PySem.W.findIn K (.ref C) "__setattr__" = some (some (.builtin "object.__setattr__"))
theorem Cls.get {K : PySem.W.Frag} {C : Addr} (c : Cls K C) (f : Str) : PySem.W.plainGet K C f = true := c.pg
/-- no class of it has the name -/
def NoAttr (K : PySem.W.Frag) (C : Addr) (f : Str) : Prop := PySem.W.findIn K (.ref C) f = some none
theorem NoAttr.taker {K : PySem.W.Frag} {C : Addr} {f : Str} (n : NoAttr K C f) : PySem.W.takerIn K C f = some none := by
  unfold PySem.W.takerIn
  rw [show PySem.W.findIn K (.ref C) f = some none from n]
  rfl
/-- a constant of the class -/
structure Con (K : PySem.W.Frag) (C : Addr) (f : Str) (v : V) (u : Value) : Prop where
  at_ : PySem.W.findIn K (.ref C) f = some (some u)
  rel : RelV v u
  get : PySem.W.specialIn K u "__get__" = some none
  cp : PySem.W.copiedNames.contains f = false
/-- a method: a plain def of the class or of one above it -/
structure Meth (K : PySem.W.Frag) (C : Addr) (m : Str) (f : Addr) : Prop where
  at_ : PySem.W.findIn K (.ref C) m = some (some (.ref f))
  fn : PySem.W.isFn K (.ref f) = true
  kp : PySem.W.keepIn K (.ref f) = true

section
variable {X : Cx} {pins : List (Addr × Obj)} {σ : St} {H : Hp} {s : Shared} {a C dx : Addr} {fs : List (Str × V)} {f : Str} {v : V} {A : Around} {E : Value → Shared → Prop}

theorem getattr_ok {b : Bool} {Q : Value → Shared → Prop} (I : Inv X pins σ H s) (e : H a = some (.ins C dx fs)) (c : Cls X.K C) (n : NoAttr X.K C f) (l : fs.lookup f = some v)
    (h : ∀ u s', Inv X pins σ H s' → RelV v u → Q u s') : wpAny (model X.prog X.w) A (getAttr (.ref a) f b) Q E s := by
  obtain ⟨mA, O, r, _, _, _⟩ := ins_get I.hok e
  obtain ⟨u, hu, ru⟩ := RelO.some_of (v := v) (o := mA f) (by rw [← l]; exact r f)
  exact get_map I.kIn O (c.get f) c.hd n hu (handed_of ru) (h u _ (I.tok _) ru)

theorem getmeth_ok {m : Str} {g : Addr} {pl : Sem Bool} {Q : Value × List Value → Shared → Prop} (I : Inv X pins σ H s) (e : H a = some (.ins C dx fs)) (c : Cls X.K C) (k : Meth X.K C m g) (l : fs.lookup m = none)
    (h : Q (.ref g, [.ref a]) s) : wpAny (model X.prog X.w) A (getMethod (.ref a) m pl) Q E s := by
  obtain ⟨mA, O, r, _, _, _⟩ := ins_get I.hok e
  have hn : mA m = none := RelO.none_of (by rw [← l]; exact r m)
  exact get_meth I.kIn O (c.get m) k.at_ k.fn hn h

theorem setattr_ok {y : V} {u : Value} {Q : Unit → Shared → Prop} (I : Inv X pins σ H s) (e : H a = some (.ins C dx fs)) (c : Cls X.K C) (n : NoAttr X.K C f) (hl : fs.length < 1000) (ry : RelV y u)
    (h : ∀ s', Inv X pins σ (upd H a (.ins C dx (putF f y fs))) s' → Q () s') : wpAny (model X.prog X.w) A (setAttr (.ref a) f u) Q E s := by
  obtain ⟨mA, O, r, wi, _, ho⟩ := ins_get I.hok e
  have hz : (fs.map (·.1)).length ≤ sizeLine := by rw [List.length_map, sizeLine_eq]; omega
  refine set_map I.kIn O c.sa c.po n.taker c.hd wi hz fun h' O' sb => h _ ?_
  have hd : ∃ o, h'.get? dx = some o := let ⟨o, _, _, e', _⟩ := O'.ns; ⟨o, e'⟩
  refine I.write (x := a) (e := dx) (by rw [e]; exact True.intro) (.inr ho) (fun b q hb z => (sb.2 b hb).trans z) hd ?_
  refine ⟨by rw [upd_ne O.ne]; exact ho, ?_, O.ne, O'.obj, _, O'.ns, fun g => ?_, fun g hg => ?_⟩
  · have := length_putF f y fs; omega
  · show RelO ((putF f y fs).lookup g) (if g = f then some u else mA g)
    rw [lookup_putF]
    by_cases q : g = f
    · rw [if_pos q, if_pos q]; exact ry
    · rw [if_neg q, if_neg q]; exact r g
  · by_cases q : g = f
    · rw [q]; exact (keys_putF f y fs).1
    · refine (keys_putF f y fs).2 g (wi g fun z => hg ?_)
      show (if g = f then some u else mA g) = none
      rw [if_neg q]; exact z

/-- a new instance, tracked, without attributes -/
theorem Inv.made (I : Inv X pins σ H s) : Inv X pins σ (upd (upd H s.heap.objs.size (.own (s.heap.objs.size + 1))) (s.heap.objs.size + 1) (.ins C s.heap.objs.size []))
    { s with heap := (s.heap.push PySem.W.emptyDict).push (PySem.W.instObj C s.heap.objs.size) } := by
  have e1 : (s.heap.push PySem.W.emptyDict).get? s.heap.objs.size = some PySem.W.emptyDict := Heap.get?_push_size s.heap rfl
  have e2 : ((s.heap.push PySem.W.emptyDict).push (PySem.W.instObj C s.heap.objs.size)).get? (s.heap.objs.size + 1) = some (PySem.W.instObj C s.heap.objs.size) := by
    have := Heap.get?_push_size (s.heap.push PySem.W.emptyDict) (o := PySem.W.instObj C s.heap.objs.size) rfl
    rwa [Heap.size_push] at this
  have e3 : (s.heap.push PySem.W.emptyDict).Ns s.heap.objs.size (fun _ => none) := ⟨PySem.W.emptyDict, #[], _, e1, rfl, (fun e he => absurd he (by simp)), fun _ => rfl⟩
  have I1 := I.laid (a := s.heap.objs.size) (o := .own (s.heap.objs.size + 1)) (h' := s.heap.push PySem.W.emptyDict) (t' := s.toks) (fun b u q => Heap.get?_push_of_some _ q) (Nat.le_refl _) ⟨_, e1⟩
  refine I1.laid (a := s.heap.objs.size + 1) (o := .ins C s.heap.objs.size []) (t' := s.toks) (fun b u q => Heap.get?_push_of_some _ q) (Nat.le_of_eq (Heap.size_push _ _)) ?_
  have ne : s.heap.objs.size ≠ s.heap.objs.size + 1 := Nat.ne_of_lt (Nat.lt_succ_self _)
  refine ⟨by rw [upd_ne ne, upd_same], Nat.zero_le _, ne, e2, fun _ => none, (Heap.Ns1.of_empty e3).at fun o q => Heap.get?_push_of_some _ q, fun _ => True.intro, fun y hy => absurd rfl hy⟩

/-- e.f where nothing but the object is asked: through attributeBase (super) and the last hold -/
theorem attr_of {prog : Program} {w : World} {env : Env} {e : Expr} {f : Str} {pos : Pos} {s : Shared} {Q : Value → Shared → Prop} (hb : attributeBase e f env (eval e env) = eval e env)
    (h : wpAny (model prog w) A (eval e env) (fun o s₁ => wpAny (model prog w) A (getAttr o f true) Q E s₁) E s) : wpAny (model prog w) A (eval (.Attribute e f pos) env) Q E s :=
  Attribute_any_ h (by rw [arm_eval_Attribute, hb])
end

/-! ### readings and rules -/
/-- e.f, an attribute of the instance -/
def tFld (K : PySem.W.Frag) (ta : TE) (f : Str) : TE := fun σ H Q => ta σ H fun x H1 => ∃ a C dx fs v, x = .ref a ∧ H1 a = some (.ins C dx fs) ∧ Cls K C ∧ NoAttr K C f ∧ fs.lookup f = some v ∧ Q v H1
/-- e.f = value -/
def sFld (K : PySem.W.Frag) (ta tv : TE) (f : Str) : TS := fun D σ H => tv σ H fun y H1 => ta σ H1 fun x H2 => ∃ a C dx fs, x = .ref a ∧ H2 a = some (.ins C dx fs) ∧ Cls K C ∧ NoAttr K C f ∧ fs.length < 1000 ∧
  D.nx σ (upd H2 a (.ins C dx (putF f y fs)))
section
variable {X : Cx} {o e value : Expr} {f : Str} {pos pos' tpos : Pos} {ta tv : TE}
theorem pe_fld (he : PE X e ta) (hb : attributeBase e f X.env (eval e X.env) = eval e X.env) : PE X (.Attribute e f pos) (tFld X.K ta f) := by
  intro pins s σ H Q I h
  refine attr_of hb (thn (he pins s σ H _ I h) fun u s1 ⟨x, H1, I1, rx, a, C, dx, fs, v, ex, ea, c, n, l, q⟩ => ?_)
  subst ex
  obtain rfl : u = Value.ref a := rx
  exact getattr_ok I1 ea c n l fun u' s2 I2 ru => ⟨v, H1, I2, ru, q⟩
theorem ps_fld (ha : PE X o ta) (hv : PE X value tv) (hs : swapsWith value (some (.Attribute o f pos')) pos.line X.env = pure false) : PS X (.Assign [.Attribute o f pos'] value pos) (sFld X.K ta tv f) := by
  intro pins s σ H D I h
  refine plainObj_wpAny_Assign_Attribute (thn (hv pins s σ H _ I h) fun u s1 ⟨y, H1, I1, ry, q⟩ => thn (ha pins s1 σ H1 _ I1 q) fun ov s2 ⟨x, H2, I2, rx, a, C, dx, fs, ex, ea, c, n, l, q2⟩ => ?_) hs
  subst ex
  obtain rfl : ov = Value.ref a := rx
  exact setattr_ok I2 ea c n l ry fun s3 I3 => ⟨σ, _, I3, q2⟩
/-- what is between an instance and its method: the tree of a method call -/
theorem methcall_of {pl : Sem Bool} {m : Str} {apos : Pos} {args : List Expr} {pins : List (Addr × Obj)} {s : Shared} {σ : St} {H : Hp} {Q : Value → Shared → Prop} {te : TE} (he : PE X e te) (I : Inv X pins σ H s)
    (h : te σ H fun x H1 => ∃ a C dx fs g, x = .ref a ∧ H1 a = some (.ins C dx fs) ∧ Cls X.K C ∧ Meth X.K C m g ∧ fs.lookup m = none ∧
      ∀ s1, Inv X pins σ H1 s1 → wpAny (model X.prog X.w) X.A (callWith pos (.ref g) [.ref a] (backTo pos (starEach args X.env)) (backToKw pos (keywordEach [] X.env))) Q X.xe s1)
    (ht : eval (.Call (.Attribute e m apos) args [] pos) X.env = (do
      let ov ← eval e X.env
      standAt apos.atName
      let (f, first) ← holding [ov] (getMethod ov m pl)
      callWith pos f first (backTo pos (starEach args X.env)) (backToKw pos (keywordEach [] X.env)))) :
    wpAny (model X.prog X.w) X.A (eval (.Call (.Attribute e m apos) args [] pos) X.env) Q X.xe s := by
  refine PySem.W.methodCall_KW (pl := pl) (thn (he pins s σ H _ I h) fun u s1 ⟨x, H1, I1, rx, a, C, dx, fs, g, ex, ea, c, k, l, q⟩ => ?_) ht
  subst ex
  obtain rfl : u = Value.ref a := rx
  exact getmeth_ok I1 ea c k l (q s1 I1)
end

/-! ### isinstance -/
section
variable {X : Cx} {pins : List (Addr × Obj)} {σ : St} {H : Hp} {s : Shared} {A : Around} {E : Value → Shared → Prop} {Q : Value → Shared → Prop} {c : Value} {b : Bool}
/-- the type of a value, as the fragment's deciders take it; for an instance its class -/
inductive TyOf (K : PySem.W.Frag) (H : Hp) : V → Value → Prop where
  | non : TyOf K H .non (.type "NoneType")
  | bl (x : Bool) : TyOf K H (.bl x) (.type "bool")
  | int (i : Int) : TyOf K H (.int i) (.type "int")
  | str (x : Str) : TyOf K H (.str x) (.type "str")
  | flt (x : UInt64) : TyOf K H (.flt x) (.type "float")
  | lst {a : Addr} {xs : List V} (e : H a = some (.lst xs)) : TyOf K H (.ref a) (.type "list")
  | frz {a : Addr} {o : Obj} {xs : List V} (e : H a = some (.frz o (.lst xs))) : TyOf K H (.ref a) (.type "list")
  | tup {a : Addr} {xs : List V} (e : H a = some (.tup xs)) : TyOf K H (.ref a) (.type "tuple")
  | dK {a : Addr} {kvs : List (Key × V)} (e : H a = some (.dK kvs)) : TyOf K H (.ref a) (.type "dict")
  | dT {a : Addr} {kvs : List (List Key × V)} (e : H a = some (.dT kvs)) : TyOf K H (.ref a) (.type "dict")
  | ins {a C dx : Addr} {fs : List (Str × V)} (e : H a = some (.ins C dx fs)) (cl : Cls K C) (ha : PySem.W.findIn K (.ref C) "__class__" = some (some (.builtin "object.__class__")))
      (hn : PySem.W.specialIn K (.builtin "object.__class__") "__get__" = some (some (.builtin "getset_descriptor.__get__"))) (htk : PySem.W.takesIn K (.builtin "object.__class__") = some true)
      (hm : PySem.W.mroIn K C (.type "object") = some true) : TyOf K H (.ref a) (.ref C)
end
end L2

namespace L2
open PySem PySem.Spec PyProof.Rows

/-! ### room -/
structure Room (k : Nat) (A : Around) : Prop where
  hd : A.handled = none
  dp : A.depth + 3 * k + 5 < recursionLimit
  un : A.units + 16 * k + 200 < cLine
theorem Room.mono {j k : Nat} {A : Around} (r : Room k A) (h : j ≤ k) : Room j A := ⟨r.hd, by have := r.dp; omega, by have := r.un; omega⟩
theorem Room.deeper {k : Nat} {A : Around} (r : Room (k + 1) A) (env : Env) : Room k (A.deeper env) :=
  ⟨r.hd, by have := r.dp; show A.depth + 1 + 3 * k + 5 < _; omega, by have := r.un; show A.units + 3 + 16 * k + 200 < _; omega⟩
theorem make_depth {A : Around} {C : Addr} {us : List Value} {kw : List (Str × Value)} : (A.under (.builtin "type.__call__" ⟨.ref C :: us, kw⟩)).depth = A.depth + 1 := by
  first | rfl | simp [Around.under, Code.weight, Code.isCreation, Code.isGuard, Code.isCaller, Code.frames, Code.isFrame, guardIds]
theorem make_units {A : Around} {C : Addr} {us : List Value} {kw : List (Str × Value)} : (A.under (.builtin "type.__call__" ⟨.ref C :: us, kw⟩)).units = A.units + 1 := by
  first | rfl | simp [Around.under, Code.cUnits, Code.frames, Code.isFrame]
theorem Room.make {k : Nat} {A : Around} (r : Room (k + 1) A) (C : Addr) (us : List Value) (kw : List (Str × Value)) : Room k (A.under (.builtin "type.__call__" ⟨.ref C :: us, kw⟩)) :=
  ⟨r.hd, by have := r.dp; rw [make_depth]; omega, by have := r.un; rw [make_units]; omega⟩
theorem Room.depth {k : Nat} {A : Around} (r : Room k A) : A.depth < recursionLimit := by have := r.dp; omega
/-! ### argument lists and displays -/
def tNil : TA := fun _ H Q => Q [] H
def tCons (ta : TE) (tr : TA) : TA := fun σ H Q => ta σ H fun x H1 => tr σ H1 fun xs H2 => Q (x :: xs) H2
section
variable {X : Cx} {e : Expr} {es : List Expr} {te : TE} {t : TA} {pos : Pos}
theorem pa_nil : PA X [] tNil := fun _ _ _ _ H Q I h => Calls.spliced_nil ⟨[], H, I, .nil, h⟩
theorem pa_cons (ha : PE X e te) (hr : PA X es t) (hs : starEach (e :: es) X.env = (false, eval e X.env) :: starEach es X.env := by rfl) : PA X (e :: es) (tCons te t) := by
  intro pos pins s σ H Q I h
  rw [hs]
  show wpAny _ _ (spliced ((false, eval e X.env) :: backTo pos (starEach es X.env))) _ _ s
  refine Calls.spliced_cons (thn (ha pins s σ H _ I h) fun u s1 ⟨x, H1, I1, r1, q1⟩ => ?_)
  exact thn (hr pos pins s1 σ H1 _ I1 q1) fun us s2 ⟨xs, H2, I2, r2, q2⟩ => ⟨x :: xs, H2, I2, .cons r1 r2, q2⟩

/-- a tuple, a list of written items -/
def tTup (t : TA) : TE := fun σ H Q => t σ H fun xs H1 => xs.length ≤ sizeLine ∧ ∀ p, H1 p = none → Q (.ref p) (upd H1 p (.tup xs))
def tLst (t : TA) : TE := fun σ H Q => t σ H fun xs H1 => xs.length ≤ sizeLine ∧ ∀ p, H1 p = none → Q (.ref p) (upd H1 p (.lst xs))
theorem pe_tup {x1} (h : PA X es t) : PE X (.Tuple es x1 pos) (tTup t) := by
  intro pins s σ H Q I hq
  refine wpAny_Tuple_spliced (thn (h pos pins s σ H _ I hq) fun us s1 ⟨xs, H1, I1, r, z, q⟩ => ⟨by rw [← r.length]; exact z, ?_⟩)
  have hf : H1 s1.heap.objs.size = none := I1.hok.fresh (Nat.le_refl _)
  refine ⟨.ref s1.heap.objs.size, upd H1 s1.heap.objs.size (.tup xs), I1.laid (t' := s1.toks) (fun b u e => Heap.get?_push_of_some _ e) (Nat.le_refl _) ?_, rfl, q _ hf⟩
  exact ⟨z, us, r, ⟨_, Heap.get?_push_size _ rfl, rfl, _, rfl⟩⟩
theorem pe_lst (h : PA X es t) : PE X (.List es pos) (tLst t) := by
  intro pins s σ H Q I hq
  refine wpAny_List_spliced (thn (h pos pins s σ H _ I hq) fun us s1 ⟨xs, H1, I1, r, z, q⟩ => ⟨by rw [← r.length]; exact z, ?_⟩)
  have hf : H1 s1.heap.objs.size = none := I1.hok.fresh (Nat.le_refl _)
  refine ⟨.ref s1.heap.objs.size, upd H1 s1.heap.objs.size (.lst xs), I1.laid (t' := s1.toks) (fun b u e => Heap.get?_push_of_some _ e) (Nat.le_refl _) ?_, rfl, q _ hf⟩
  exact ⟨z, us, 0, r, Heap.get?_push_size _ rfl⟩
end

/-! ### what a def promises -/
/-- a def's promise: the bound arguments in the parameters' order, the heap, the wanted end, the wanted exception -/
abbrev Sp := List V → Hp → VK → XK → Prop
/-- how an exception lies behind a call (file 08 gives it): the callers' frames, abstract heap and state ahead of the call, the wish, the exception, the state -/
abbrev CXT := List Env → Hp → Shared → XK → Value → Shared → Prop

/-- the state at a call -/
structure Env0 (P : Program) (w : World) (K : PySem.W.Frag) (mg : Str → Option Value) (base : Heap) (A : Around) (outer : List Env) (s : Shared) (H : Hp) : Prop where
  frames : A.frames = some outer
  mod : Mod K mg base
  bs : ∀ b o, base.get? b = some o → s.heap.get? b = some o ∧ H b = none
  bsz : base.objs.size ≤ s.heap.objs.size
  funs : s.heap.FunFrames base outer
  frf : ∀ b ∈ frs outer, H b = none
  hok : HOk P w H s.heap
  bare : AllBare s.gens
/-- a call's end -/
def CE (outer : List Env) (P : Program) (w : World) (H : Hp) (s : Shared) (Q : VK) (u : Value) (s' : Shared) : Prop :=
  ∃ v H', s'.os = s.os ∧ AllBare s'.gens ∧ Un (frs outer) [] H H' s.heap s'.heap ∧ HOk P w H' s'.heap ∧ RelV v u ∧ Q v H'
def CR (CX : CXT) (outer : List Env) (P : Program) (w : World) (H : Hp) (s : Shared) (Q : VK) (E : XK) (r : Result) (s' : Shared) : Prop :=
  match r with
  | .ok (.ret u) => CE outer P w H s Q u s'
  | .ok _ => False
  | .error e => CX outer H s E e s'
structure FnOk (P : Program) (w : World) (K : PySem.W.Frag) (mg : Str → Option Value) (base : Heap) (CX : CXT) (k : Nat) (f : Addr) (fd : FuncData) (ps : List Str) (sp : Sp) : Prop where
  len : ∀ vs H Q E, sp vs H Q E → vs.length = ps.length
  run : ∀ (A : Around) (outer : List Env) (s : Shared) (H : Hp) (args : Args) (us : List Value) (vs : List V) (Q : VK) (E : XK), Room k A → Env0 P w K mg base A outer s H → BindsTo s fd args (ps.zip us) → Vals vs us → sp vs H Q E →
    codeAny (model P w) A (.call (.ref f) args) (CR CX outer P w H s Q E) s
theorem Env0.make {P : Program} {w : World} {K : PySem.W.Frag} {mg : Str → Option Value} {base : Heap} {A : Around} {outer : List Env} {s : Shared} {H : Hp} (e : Env0 P w K mg base A outer s H) (C : Addr) (us : List Value) (kw : List (Str × Value)) :
    Env0 P w K mg base (A.under (.builtin "type.__call__" ⟨.ref C :: us, kw⟩)) outer s H := ⟨by first | exact e.frames | (simpa [Around.under, Code.envs, Code.isFrame, pushEnvs] using e.frames), e.mod, e.bs, e.bsz, e.funs, e.frf, e.hok, e.bare⟩
section
variable {X : Cx} {pins : List (Addr × Obj)} {σ : St} {H : Hp} {s s' : Shared}
/-- from a body: what a callee wants -/
theorem Inv.env0 (I : Inv X pins σ H s) : Env0 X.prog X.w X.K X.mg X.base X.A X.stack s H :=
  ⟨I.ok.frames, I.ok.mod, I.bs, Nat.le_trans I.ok.bsz I.sz, I.stack, I.stkFree, I.hok, I.bare⟩
/-- behind a call -/
theorem Inv.after {Q : VK} {u : Value} (I : Inv X pins σ H s) (h : CE X.stack X.prog X.w H s Q u s') : EP X pins σ Q u s' := by
  obtain ⟨v, H', os, bare, un, hok, r, q⟩ := h
  obtain ⟨hh, g, d, t, os'⟩ := s'
  obtain rfl : os' = s.os := os
  exact ⟨v, H', I.call (h' := hh) (g' := g) (d' := d) (t' := t) (ch := []) un hok bare (fun b z => absurd z (by simp)), r, q⟩
end

/-! ### calls -/
/-- f(..): the written arguments, then the defaults dvs; E: what is wanted of an exception -/
def tCall (sp : Sp) (dvs : List V) (E : XK) (t : TA) : TE := fun σ H Q => t σ H fun vs H1 => sp (vs ++ dvs) H1 Q E
/-- o.m(..) of an instance of the class at C -/
def tMeth (C : Addr) (m : Str) (sp : Sp) (dvs : List V) (E : XK) (ta : TE) (t : TA) : TE := fun σ H Q => ta σ H fun x H1 => ∃ a dx fs, x = .ref a ∧ H1 a = some (.ins C dx fs) ∧ fs.lookup m = none ∧
  t σ H1 fun vs H2 => sp (x :: (vs ++ dvs)) H2 Q E
/-- C(..): a new instance and its dict, then __init__ -/
def tMake (C : Addr) (sp : Sp) (dvs : List V) (E : XK) (t : TA) : TE := fun σ H Q => t σ H fun vs H1 => ∀ x dx, H1 x = none → H1 dx = none → dx ≠ x →
  sp (.ref x :: (vs ++ dvs)) (upd (upd H1 dx (.own x)) x (.ins C dx [])) (fun v H2 => v = .non ∧ Q (.ref x) H2) E

/-- how the parameters are bound: us the positional arguments, kw the keywords' values by name, ds the defaults that fill up -/
def Binds (K : PySem.W.Frag) (fd : FuncData) (ps : List Str) (ds : List Value) : Prop :=
  ∀ (s : Shared) (us : List Value), K.In s.heap → (us ++ ds).length = ps.length → BindsTo s fd ⟨us, []⟩ (ps.zip (us ++ ds))
/-- every parameter is given -/
theorem Binds.all {K : PySem.W.Frag} {fd : FuncData} {ps : List Str} (h : ∀ us : List Value, us.length = ps.length → bindArgs fd ⟨us, []⟩ = pure (ps.zip us)) : Binds K fd ps [] := fun s us _ hl => by
  rw [List.append_nil] at hl ⊢
  exact .of_eq (h us hl)

/-- an exception of a callee reaches what this body wants of exceptions -/
def Passes (CX : CXT) (X : Cx) (E : XK) : Prop := ∀ (pins : List (Addr × Obj)) (σ : St) (H : Hp) (s : Shared) (e : Value) (s' : Shared), Inv X pins σ H s → CX X.stack H s E e s' → X.xe e s'

section
variable {X : Cx} {CX : CXT} {k : Nat} {f C : Addr} {fd : FuncData} {ps : List Str} {sp : Sp} {dvs : List V} {ds : List Value} {E : XK} {x m : Str} {p pos apos : Pos} {e o : Expr} {es : List Expr} {ta : TE} {t : TA}

/-- the callee runs -/
theorem run_fn {pins : List (Addr × Obj)} {σ : St} {H : Hp} {s : Shared} {Q : VK} {us : List Value} {vs : List V} (F : FnOk X.prog X.w X.K X.mg X.base CX k f fd ps sp) (hr : Room k X.A) (hb : Binds X.K fd ps ds) (hd : Vals dvs ds) (hx : Passes CX X E)
    (I : Inv X pins σ H s) (r : Vals vs us) (h : sp (vs ++ dvs) H Q E) : wpAny (model X.prog X.w) X.A (call (.ref f) us) (EP X pins σ Q) X.xe s := by
  have r2 : Vals (vs ++ dvs) (us ++ ds) := r.append hd
  have hl : (us ++ ds).length = ps.length := by rw [← r2.length]; exact F.len _ _ _ _ h
  refine wpAny_call (codeAny_mono (F.run X.A X.stack s H ⟨us, []⟩ (us ++ ds) (vs ++ dvs) Q E hr I.env0 (hb s us I.kIn hl) r2 h) fun r s' hq => ?_)
  cases r with
  | error e => exact hx pins σ H s e s' I hq
  | ok fl =>
    cases fl with
    | ret u => exact I.after hq
    | next => exact False.elim hq
    | brk => exact False.elim hq
    | cont => exact False.elim hq

theorem pe_call (F : FnOk X.prog X.w X.K X.mg X.base CX k f fd ps sp) (hr : Room k X.A) (hg : Gl X x) (hm : X.mg x = some (.ref f)) (hk : PySem.W.keepIn X.K (.ref f) = true) (hb : Binds X.K fd ps ds) (hd : Vals dvs ds) (hx : Passes CX X E)
    (ha : PA X (e :: es) t) (hdb : (x == ("__debug__" : Str)) = false := by decide) (he : starEach (e :: es) X.env = (false, eval e X.env) :: starEach es X.env := by rfl) (hpl : (backTo pos (starEach es X.env)).any (·.1) = false := by rfl) :
    PE X (.Call (.Name x p) (e :: es) [] pos) (tCall sp dvs E t) := by
  intro pins s σ H Q I h
  refine wpAny_Call_Name_kw (ld_glob I hg hm ?_ hdb)
  refine PySem.W.callWith_K (h₀ := X.base) I.ok.mod.kin hk (thn (ha pos pins s σ H _ I h) fun us s1 ⟨vs, H1, I1, r, q⟩ => ⟨I1.kIn, ?_⟩) he hpl
  exact run_fn F hr hb hd hx I1 r q
/-- o.m(e, ..) -/
theorem pe_meth {pl : Sem Bool} (he : PE X o ta) (c : Cls X.K C) (hm : Meth X.K C m f) (F : FnOk X.prog X.w X.K X.mg X.base CX k f fd ps sp) (hr : Room k X.A) (hb : Binds X.K fd ps ds) (hd : Vals dvs ds) (hx : Passes CX X E) (ha : PA X (e :: es) t)
    (hst : starEach (e :: es) X.env = (false, eval e X.env) :: starEach es X.env := by rfl) (hpl : (backTo pos (starEach es X.env)).any (·.1) = false := by rfl)
    (ht : eval (.Call (.Attribute o m apos) (e :: es) [] pos) X.env = (do
      let ov ← eval o X.env
      standAt apos.atName
      let (f, first) ← holding [ov] (getMethod ov m pl)
      callWith pos f first (backTo pos (starEach (e :: es) X.env)) (backToKw pos (keywordEach [] X.env))) := by rfl) :
    PE X (.Call (.Attribute o m apos) (e :: es) [] pos) (tMeth C m sp dvs E ta t) := by
  intro pins s σ H Q I h
  refine PySem.W.methodCall_KW (pl := pl) (thn (he pins s σ H _ I h) fun u s1 ⟨x, H1, I1, rx, a, dx, fs, ex, ea, l, q⟩ => ?_) ht
  subst ex
  obtain rfl : u = Value.ref a := rx
  refine getmeth_ok I1 ea c hm l ?_
  refine PySem.W.callWith_K (first := [.ref a]) (h₀ := X.base) I.ok.mod.kin hm.kp (thn (ha pos pins s1 σ H1 _ I1 q) fun us s2 ⟨vs, H2, I2, r, q2⟩ => ⟨I2.kIn, ?_⟩) hst hpl
  exact run_fn (us := .ref a :: us) (vs := .ref a :: vs) F hr hb hd hx I2 (.cons rfl r) q2
/-- o.m() -/
theorem pe_meth0 {pl : Sem Bool} (he : PE X o ta) (c : Cls X.K C) (hm : Meth X.K C m f) (F : FnOk X.prog X.w X.K X.mg X.base CX k f fd ps sp) (hr : Room k X.A) (hb : Binds X.K fd ps ds) (hd : Vals dvs ds) (hx : Passes CX X E)
    (ht : eval (.Call (.Attribute o m apos) [] [] pos) X.env = (do
      let ov ← eval o X.env
      standAt apos.atName
      let (f, first) ← holding [ov] (getMethod ov m pl)
      callWith pos f first (backTo pos (starEach [] X.env)) (backToKw pos (keywordEach [] X.env))) := by rfl) :
    PE X (.Call (.Attribute o m apos) [] [] pos) (tMeth C m sp dvs E ta tNil) := by
  intro pins s σ H Q I h
  refine PySem.W.methodCall_KW (pl := pl) (thn (he pins s σ H _ I h) fun u s1 ⟨x, H1, I1, rx, a, dx, fs, ex, ea, l, q⟩ => ?_) ht
  subst ex
  obtain rfl : u = Value.ref a := rx
  refine getmeth_ok I1 ea c hm l ?_
  exact PySem.W.callWith_K0 (first := [.ref a]) I1.kIn hm.kp (run_fn (us := [.ref a]) (vs := [.ref a]) F hr hb hd hx I1 (.cons rfl .nil) q)

/-- what a class must have to be made -/
structure Mk (K : PySem.W.Frag) (C f : Addr) : Prop where
  makes : PySem.W.makesIn K C = true
  init : PySem.W.findIn K (.ref C) "__init__" = some (some (.ref f))
  fn : PySem.W.isFn K (.ref f) = true
  kp : PySem.W.keepIn K (.ref C) = true

theorem run_make {pins : List (Addr × Obj)} {σ : St} {H : Hp} {s : Shared} {Q : VK} {us : List Value} {vs : List V} (M : Mk X.K C f) (F : FnOk X.prog X.w X.K X.mg X.base CX k f fd ps sp) (hr : Room (k + 1) X.A) (hb : Binds X.K fd ps ds) (hd : Vals dvs ds)
    (hx : Passes CX X E) (I : Inv X pins σ H s) (r : Vals vs us)
    (h : ∀ x dx, H x = none → H dx = none → dx ≠ x → sp (.ref x :: (vs ++ dvs)) (upd (upd H dx (.own x)) x (.ins C dx [])) (fun v H2 => v = .non ∧ Q (.ref x) H2) E) :
    wpAny (model X.prog X.w) X.A (call (.ref C) us) (EP X pins σ Q) X.xe s := by
  have hq := h (s.heap.objs.size + 1) s.heap.objs.size (I.hok.fresh (Nat.le_succ _)) (I.hok.fresh (Nat.le_refl _)) (Nat.ne_of_lt (Nat.lt_succ_self _))
  have I2 := Inv.made (C := C) I
  have r2 : Vals (V.ref (s.heap.objs.size + 1) :: (vs ++ dvs)) (Value.ref (s.heap.objs.size + 1) :: (us ++ ds)) := .cons rfl (r.append hd)
  have hl : (Value.ref (s.heap.objs.size + 1) :: us ++ ds).length = ps.length := by
    have e := r2.length
    rw [F.len _ _ _ _ hq] at e
    exact e.symm
  refine wpAny_call (make_map (f := f) I.kIn M.makes M.init (beq_iff_eq.mp M.fn) (codeAny_mono (F.run _ X.stack _ _ ⟨Value.ref (s.heap.objs.size + 1) :: us, []⟩ (Value.ref (s.heap.objs.size + 1) :: (us ++ ds)) _ _ E (hr.make C us [])
    (I2.env0.make C us []) (hb _ (Value.ref (s.heap.objs.size + 1) :: us) I2.kIn hl) r2 hq) fun r s' hq' => ?_))
  cases r with
  | error e => exact hx pins σ _ _ e s' I2 hq'
  | ok fl =>
    cases fl with
    | ret u =>
      obtain ⟨v, H', I3, rv, ev, q3⟩ := I2.after hq'
      subst ev
      exact ⟨rv, ⟨V.ref (s.heap.objs.size + 1), H', I3, rfl, q3⟩⟩
    | next => exact False.elim hq'
    | brk => exact False.elim hq'
    | cont => exact False.elim hq'
theorem pe_make0 (M : Mk X.K C f) (F : FnOk X.prog X.w X.K X.mg X.base CX k f fd ps sp) (hr : Room (k + 1) X.A) (hg : Gl X x) (hm : X.mg x = some (.ref C)) (hb : Binds X.K fd ps ds) (hd : Vals dvs ds) (hx : Passes CX X E)
    (hdb : (x == ("__debug__" : Str)) = false := by decide) : PE X (.Call (.Name x p) [] [] pos) (tMake C sp dvs E tNil) := by
  intro pins s σ H Q I h
  refine wpAny_Call_Name_kw (ld_glob I hg hm ?_ hdb)
  exact PySem.W.callWith_K0 I.kIn M.kp (run_make (us := []) M F hr hb hd hx I .nil h)
end

/-! ### keywords -/
section
variable {X : Cx} {CX : CXT} {k : Nat} {f C : Addr} {fd : FuncData} {ps ks : List Str} {sp : Sp} {E : XK} {x m : Str} {p pos apos kpos : Pos} {e o : Expr} {es : List Expr} {kws : List Keyword} {te ta : TE} {t tk : TA} {nm : Option Str}
/-- how a call with keywords binds: g puts the positional values us and the keywords' values ws (names ks) in the parameters' order, defaults among them -/
structure KBinds (K : PySem.W.Frag) (fd : FuncData) (ps ks : List Str) (g : List Value → List Value → List Value) (gV : List V → List V → List V) : Prop where
  to : ∀ (s : Shared) (us ws : List Value), K.In s.heap → (g us ws).length = ps.length → BindsTo s fd ⟨us, ks.zip ws⟩ (ps.zip (g us ws))
  rel : ∀ {vs : List V} {us : List Value} {zs : List V} {ws : List Value}, Vals vs us → Vals zs ws → Vals (gV vs zs) (g us ws)
variable {g : List Value → List Value → List Value} {gV : List V → List V → List V}
end

/-! ### a def's body keeps its promise -/
/-- names: the parameters first -/
structure FnScope (N P : List Str) (sc : Scope) : Prop where
  kind : sc.kind = .function
  co : sc.isCoroutine = false
  gen : sc.isGenerator = false
  nd : N.Nodup
  pre : N.take P.length = P
  par : ∀ x ∈ P, sc.names.lookup x = some .local ∨ sc.names.lookup x = some .cell
  nofree : ∀ y ∈ sc.names, y.2 ≠ .free

theorem bindL_out {kindOf : Str → Option NameKind} {x : Str} : ∀ {binds : List (Str × Value)} {m : Str → Option Value}, (∀ v, (x, v) ∉ binds) → bindL kindOf binds m x = m x
  | [], _, _ => rfl
  | (n, v) :: r, m, h => by
    unfold bindL
    rw [bindL_out fun w hw => h w (List.mem_cons_of_mem _ hw)]
    split
    · have : x ≠ n := by rintro rfl; exact h v List.mem_cons_self
      simp [this]
    · rfl
theorem bindC_out {kindOf : Str → Option NameKind} {x : Str} : ∀ {binds : List (Str × Value)} {m : Str → Option Value}, (∀ v, (x, v) ∉ binds) → bindC kindOf binds m x = m x
  | [], _, _ => rfl
  | (n, v) :: r, m, h => by
    unfold bindC
    rw [bindC_out fun w hw => h w (List.mem_cons_of_mem _ hw)]
    split
    · rfl
    · have : x ≠ n := by rintro rfl; exact h v List.mem_cons_self
      simp [this]
theorem bindL_get {kindOf : Str → Option NameKind} {x : Str} {v : Value} : ∀ {P : List Str} {vs : List Value} {i : Nat} {m : Str → Option Value}, P.Nodup → P[i]? = some x → vs[i]? = some v → kindOf x = some .local →
    bindL kindOf (P.zip vs) m x = some v
  | [], _, _, _, _, h, _, _ => by simp at h
  | _ :: _, [], _, _, _, _, h, _ => by simp at h
  | p :: P, w :: vs, 0, m, nd, h1, h2, hk => by
    simp at h1 h2; subst h1; subst h2
    show bindL kindOf ((p, w) :: P.zip vs) m p = _
    unfold bindL
    rw [bindL_out fun v hv => (List.nodup_cons.mp nd).1 (List.of_mem_zip hv).1, if_pos hk]
    simp
  | p :: P, w :: vs, i + 1, m, nd, h1, h2, hk => by
    show bindL kindOf ((p, w) :: P.zip vs) m x = _
    unfold bindL
    exact bindL_get (i := i) (List.nodup_cons.mp nd).2 (by simpa using h1) (by simpa using h2) hk
theorem bindC_get {kindOf : Str → Option NameKind} {x : Str} {v : Value} : ∀ {P : List Str} {vs : List Value} {i : Nat} {m : Str → Option Value}, P.Nodup → P[i]? = some x → vs[i]? = some v → kindOf x ≠ some .local →
    bindC kindOf (P.zip vs) m x = some v
  | [], _, _, _, _, h, _, _ => by simp at h
  | _ :: _, [], _, _, _, _, h, _ => by simp at h
  | p :: P, w :: vs, 0, m, nd, h1, h2, hk => by
    simp at h1 h2; subst h1; subst h2
    show bindC kindOf ((p, w) :: P.zip vs) m p = _
    unfold bindC
    rw [bindC_out fun v hv => (List.nodup_cons.mp nd).1 (List.of_mem_zip hv).1, if_neg hk]
    simp
  | p :: P, w :: vs, i + 1, m, nd, h1, h2, hk => by
    show bindC kindOf ((p, w) :: P.zip vs) m x = _
    unfold bindC
    exact bindC_get (i := i) (List.nodup_cons.mp nd).2 (by simpa using h1) (by simpa using h2) hk

/-- the names' values at the entry -/
def start (N : List Str) (vs : List V) : St := vs.map some ++ List.replicate (N.length - vs.length) none

/-- the context of a def's body, at its entry; an exception leaves the frame, then lies as CX says -/
def cxOf (CX : CXT) (P : Program) (w : World) (K : PySem.W.Frag) (mg : Str → Option Value) (base : Heap) (N : List Str) (qual : Str) (scope : Scope) (f : Addr) (cd : Value) (A : Around) (outer : List Env) (s : Shared) (H : Hp) (E : XK) : Cx where
  prog := P
  w := w
  K := K
  mg := mg
  base := base
  A := A.deeper (envOfC qual scope s.heap.objs.size f cd)
  N := N
  s_0 := s
  H_0 := H
  env := envOfC qual scope s.heap.objs.size f cd
  outer := outer
  stack := envOfC qual scope s.heap.objs.size f cd :: outer
  ex := []
  calm := true
  fn := fun _ => true
  pn := []
  xe := fun e s' => wpAny (model P w) (A.deeper (envOfC qual scope s.heap.objs.size f cd)) (leaving (envOfC qual scope s.heap.objs.size f cd) e) (fun _ s'' => CX outer H s E e s'') (fun e' s'' => CX outer H s E e' s'') s'

theorem cell_has {sc : Scope} {n : Nat} {x : Str} (h : sc.names.lookup x = some .cell) : ∃ c, (cellsFrom n sc.names []).lookup x = some c := by
  have q := PySem.W.cellsFrom_some sc.names n [] (.inl h)
  exact Option.isSome_iff_exists.mp q

theorem inv_start {CX : CXT} {P : Program} {w : World} {K : PySem.W.Frag} {mg : Str → Option Value} {base : Heap} {N ps : List Str} {qual : Str} {scope : Scope} {f : Addr} {cd : Value} {A : Around} {outer : List Env} {s s1 : Shared} {H : Hp} {E : XK} {us : List Value} {vs : List V}
    (S : FnScope N ps scope) (hd : A.handled = none) (e0 : Env0 P w K mg base A outer s H) (hl : vs.length = ps.length) (r : Vals vs us)
    (x : InCallC s s.heap.objs.size (bindL (envOfC qual scope s.heap.objs.size f cd).kindOf (ps.zip us) fun _ => none) (cellsFrom (s.heap.objs.size + 1) scope.names []) (bindC (envOfC qual scope s.heap.objs.size f cd).kindOf (ps.zip us) fun _ => none) s1) :
    Inv (cxOf CX P w K mg base N qual scope f cd A outer s H E) [] (start N vs) H s1 := by
  have hpl : ps.length ≤ N.length := by have := congrArg List.length S.pre; rw [List.length_take] at this; omega
  obtain ⟨h1, tk, rfl, hk⟩ := x.done
  have noA : ∀ b : Addr, b ∉ (cxOf CX P w K mg base N qual scope f cd A outer s H E).ex := fun b z => absurd (show b ∈ ([] : List Addr) from z) (by simp)
  refine ⟨⟨e0.mod, S.kind, rfl, rfl, Nat.le_refl _, fun y z c h1 h2 => ?_, fun y hy => ?_, fun y c _ h => ?_, fun _ => hd, Around.frames_deeper e0.frames, .inr ⟨rfl, rfl⟩, fun b z => absurd z (noA b), e0.bs, e0.bsz, fun b _ _ => noA b, fun b z => absurd z (noA b), e0.funs, e0.frf⟩,
    rfl, e0.bare, Un.kept hk, ⟨_, x.toInCall.ns, fun i y v h1 h2 h3 => ?_⟩, fun y c h => ⟨_, x.cell y c h⟩, e0.hok.fresh (Nat.le_refl _), fun y c h => ?_, fun p hp => absurd (show p ∈ ([] : List (Addr × Obj)) from hp) (by simp), e0.hok.kept hk, ?_⟩
  · exact name_of_addr x.apart (PySem.mem_of_lookup h1) (PySem.mem_of_lookup h2)
  · have hy : scope.names.lookup y = some .cell ∨ scope.names.lookup y = some .free := hy
    rcases hy with hy | hy
    · exact cell_has hy
    · exact absurd rfl (S.nofree _ (PySem.mem_of_lookup hy))
  · exact Nat.le_of_lt (x.above y c (PySem.mem_of_lookup h))
  · have hi : i < vs.length := by
      unfold start at h2
      by_cases hi : i < vs.length
      · exact hi
      · rw [List.getElem?_append_right (by simpa using hi)] at h2
        rw [List.getElem?_replicate] at h2
        split at h2 <;> cases h2
    have ha : vs[i]? = some v := by
      unfold start at h2
      rw [List.getElem?_append_left (by simpa using hi), List.getElem?_map] at h2
      cases e : vs[i]? with
      | none => rw [e] at h2; cases h2
      | some a => rw [e] at h2; cases h2; rfl
    obtain ⟨u, hu, rv⟩ := r.get ha
    have hp : ps[i]? = some y := by
      rw [← S.pre, List.getElem?_take_of_lt (by omega)]; exact h1
    have ndP : ps.Nodup := by rw [← S.pre]; exact S.nd.sublist (List.take_sublist _ _)
    refine ⟨u, rv, ?_⟩
    rcases S.par y (List.mem_of_getElem? hp) with k | k
    · exact .inl ⟨k, bindL_get ndP hp hu k⟩
    · obtain ⟨c, e⟩ := cell_has (n := s.heap.objs.size + 1) k
      refine .inr ⟨.inl k, c, e, ?_⟩
      have q := x.cell y c e
      rw [bindC_get ndP hp hu (by show scope.names.lookup y ≠ _; rw [k]; decide)] at q
      exact q
  · exact e0.hok.fresh (Nat.le_of_lt (x.above y c (PySem.mem_of_lookup h)))
  · unfold start
    show _ = N.length
    rw [List.length_append, List.length_map, List.length_replicate]
    omega

/-- THE RULE: a def (or a method) of the text, by its body. The body's reading t is chosen for each entry; it is run at the parameters' values -/
theorem fn_of {CX : CXT} {P : Program} {w : World} {K : PySem.W.Frag} {mg : Str → Option Value} {base : Heap} {k : Nat} {f : Addr} {name qual : Str} {params : Arguments} {body : List Stmt} {scope : Scope} {dV kV doc pm cdv ct oc : Value} {an od : Option Addr}
    {osl : Array (Option Value)} {N ps : List Str} {sp : Sp} (lk : K.lookup f = some ⟨oc, od, .func (PySem.W.fnOf name qual params body scope dV kV doc pm an cdv ct), osl⟩) (hcd : PySem.W.codeIn K cdv qual = true) (S : FnScope N ps scope)
    (len : ∀ vs H Q E, sp vs H Q E → vs.length = ps.length)
    (hbody : ∀ (A : Around) (outer : List Env) (s : Shared) (H : Hp) (vs : List V) (Q : VK) (E : XK), Room k (A.deeper (envOfC qual scope s.heap.objs.size f cdv)) → sp vs H Q E →
      ∃ t, PSs (cxOf CX P w K mg base N qual scope f cdv A outer s H E) body t ∧ t { nx := fun _ H' => Q .non H', rt := Q } (start N vs) H) :
    FnOk P w K mg base CX (k + 1) f (PySem.W.fnOf name qual params body scope dV kV doc pm an cdv ct) ps sp := by
  refine ⟨len, fun A outer s H args us vs Q E hr e0 hb r hsp => ?_⟩
  have hl := len _ _ _ _ hsp
  have KX : K.In s.heap := e0.mod.kin.keeps fun b o e => (e0.bs b o e).1
  have lim : s.heap.NoLimit := e0.mod.nolimit.keeps fun b o e => (e0.bs b o e).1
  have hkind : ∀ y ∈ ps.zip us, scope.names.lookup y.1 = some .local ∨ (scope.names.lookup y.1 = some .cell ∧ ((cellsFrom (s.heap.objs.size + 1) scope.names []).lookup y.1).isSome = true) := fun ⟨n, v⟩ hy => by
    rcases S.par n (List.of_mem_zip hy).1 with q | q
    · exact .inl q
    · exact .inr ⟨q, PySem.W.cellsFrom_some _ _ _ (.inl q)⟩
  refine codeAny_call_function hr.depth (KX _ _ lk) rfl S.co S.gen rfl (PySem.W.codeRec_of KX hcd) (hb _ _ _ _ ?_)
  refine wpAny_newFunctionEnv_cells S.kind hkind fun env he s1 x => ?_
  subst he
  refine ⟨lim.keeps x.toInCall.keep, codeAny_func ?_⟩
  obtain ⟨t, ht, hq⟩ := hbody A outer s H vs Q E (hr.deeper _) hsp
  have I : Inv (cxOf CX P w K mg base N qual scope f cdv A outer s H E) [] (start N vs) H s1 := inv_start S hr.hd e0 hl r x
  refine wpAny_mono (ht [] s1 (start N vs) H _ I hq) (fun fl s' hs => ?_) fun e s' hs => hs
  have fin : ∀ {σ' : St} {H' : Hp} {v : V} {u : Value}, Inv (cxOf CX P w K mg base N qual scope f cdv A outer s H E) [] σ' H' s' → RelV v u → Q v H' → CE outer P w H s Q u s' :=
    fun {σ' H' v u} J rv q => ⟨v, H', J.os, J.bare, J.base, J.hok, rv, q⟩
  cases fl with
  | ret u =>
    obtain ⟨v, σ', H', J, rv, q⟩ := hs
    exact fin J rv q
  | next =>
    obtain ⟨σ', H', J, q⟩ := hs
    exact fin (v := V.non) (u := Value.none) J rfl q
  | brk =>
    obtain ⟨_, _, _, q⟩ := hs
    exact False.elim q
  | cont =>
    obtain ⟨_, _, _, q⟩ := hs
    exact False.elim q
end L2

namespace L2
open PySem PySem.Spec PyProof.Rows
section
variable {X : Cx} {x : Str} {p pos : Pos} {e : Expr} {es : List Expr} {t : TA} {id T : String} {r : List V → Hp → VK → Prop}

def tCB (r : List V → Hp → VK → Prop) (t : TA) : TE := fun σ H Q => t σ H fun vs H1 => r vs H1 Q
/-- f(e, ..), f a built-in function -/
theorem pe_callB (hc : CallR X (.builtin id) r) (hg : Gl X x) (hm : X.mg x = none) (hv : bootBuiltins x = some (.builtin id)) (ha : PA X (e :: es) t) (hn : x ≠ "__name__" := by decide) (hdb : (x == ("__debug__" : Str)) = false := by decide)
    (he : starEach (e :: es) X.env = (false, eval e X.env) :: starEach es X.env := by rfl) (hpl : (backTo pos (starEach es X.env)).any (·.1) = false := by rfl) : PE X (.Call (.Name x p) (e :: es) [] pos) (tCB r t) := by
  intro pins s σ H Q I h
  refine wpAny_Call_Name_kw (ld_blt I hg hm hv ?_ hn hdb)
  exact PyProof.Rows.callWith_builtin1 (thn (ha pos pins s σ H _ I h) fun us s1 ⟨vs, H1, I1, r1, q1⟩ => hc pins s1 σ H1 vs us Q I1 r1 q1) he hpl
/-- T(e, ..), T a built-in type -/
theorem pe_callTy (hc : CallR X (.type T) r) (hg : Gl X x) (hm : X.mg x = none) (hv : bootBuiltins x = some (.type T)) (ha : PA X (e :: es) t) (hn : x ≠ "__name__" := by decide) (hdb : (x == ("__debug__" : Str)) = false := by decide)
    (he : starEach (e :: es) X.env = (false, eval e X.env) :: starEach es X.env := by rfl) (hpl : (backTo pos (starEach es X.env)).any (·.1) = false := by rfl) : PE X (.Call (.Name x p) (e :: es) [] pos) (tCB r t) := by
  intro pins s σ H Q I h
  refine wpAny_Call_Name_kw (ld_blt I hg hm hv ?_ hn hdb)
  exact PyProof.Rows.callWith_type1 (thn (ha pos pins s σ H _ I h) fun us s1 ⟨vs, H1, I1, r1, q1⟩ => hc pins s1 σ H1 vs us Q I1 r1 q1) he hpl
end
end L2

namespace HT
open PySem PyProof.Rows

section
open PySem.SeqAt
open PySem.AutoSeq1 (wpAny_loadPart')
open PySem.MeetsSeq PySem.MeetsSeq2 PySem.MeetsSeq3

end

section
variable {prog : Program} {w : World} {A : Around} {E : Value → Shared → Prop} {s : Shared}

/-! ### t[a:b], not the whole -/
/-- a slice's bound as a place among n (d where it is left out) -/
def sIx (n d : Nat) : Option Int → Nat
  | none => d
  | some v => if v < 0 then (v + (n : Int)).toNat else min v.toNat n
theorem sIx_none (n d : Nat) : sIx n d none = d := rfl
theorem sIx_nat (n d k : Nat) : sIx n d (some (k : Int)) = min k n := by
  show (if (k : Int) < 0 then ((k : Int) + (n : Int)).toNat else min (k : Int).toNat n) = min k n
  rw [if_neg (by omega), Int.toNat_natCast]
end
end HT

namespace L2
open PySem PySem.Spec PyProof.Rows

/-! ### the parts of a slice -/
abbrev TO := St → Hp → (Option Int → Hp → Prop) → Prop
/-- a slice's part (left out, or an int) -/
def PO (X : Cx) (e : Option Expr) (t : TO) : Prop :=
  ∀ (pins : List (Addr × Obj)) (s : Shared) (σ : St) (H : Hp) (Q : Option Int → Hp → Prop), Inv X pins σ H s → t σ H Q →
    wpAny (model X.prog X.w) X.A (evalPart e X.env) (fun u s' => ∃ o H', Inv X pins σ H' s' ∧ IsPart u o ∧ Q o H') X.xe s
def tNoPart : TO := fun _ H Q => Q none H
def tPart (t : TE) : TO := fun σ H Q => t σ H fun x H1 => ∃ i, x = .int i ∧ Q (some i) H1

section
variable {X : Cx} {e : Expr} {te : TE} {lo hi : Option Expr} {tl th : TO} {pos p2 : Pos}

theorem po_none : PO X none tNoPart := by
  intro pins s σ H Q I h
  rw [evalPart_none]
  exact wpAny_pure ⟨none, H, I, .none, h⟩
theorem po_some (h : PE X e te) : PO X (some e) (tPart te) := by
  intro pins s σ H Q I hw
  rw [evalPart_some]
  refine thn (h pins s σ H _ I hw) fun u s1 ⟨x, H1, I1, r1, q1⟩ => ?_
  obtain ⟨i, rfl, q⟩ := q1
  obtain ⟨t, rfl⟩ := r1
  exact ⟨some i, H1, I1, .int i t, q⟩

/-- what a slice of a value is, by values: the slice object stands at sl -/
def SlR (X : Cx) (r : V → Option Int → Option Int → Hp → VK → Prop) : Prop :=
  ∀ (pins : List (Addr × Obj)) (s : Shared) (σ : St) (H : Hp) (x : V) (v vl vu : Value) (lo hi : Option Int) (sl : Addr) (Q : VK), Inv X pins σ H s → RelV x v → s.heap.IsSliceOf sl vl vu .none → IsPart vl lo → IsPart vu hi → r x lo hi H Q →
    ∃ T id, typeLookup (.type T) "__getitem__" = pure (some (.builtin id)) ∧ s.TypeIs v T ∧ wpAny (model X.prog X.w) X.A (getItem v (.ref sl)) (EP X pins σ Q) X.xe s
def tSl (r : V → Option Int → Option Int → Hp → VK → Prop) (te : TE) (tl th : TO) : TE := fun σ H Q => te σ H fun x H1 => tl σ H1 fun l H2 => th σ H2 fun u H3 => r x l u H3 Q
/-- a[lo:hi], any a -/
theorem pe_slice {r : V → Option Int → Option Int → Hp → VK → Prop} (hr : SlR X r) (he : PE X e te) (hl : PO X lo tl) (hu : PO X hi th) : PE X (.Subscript e (.Slice lo hi none p2) pos) (tSl r te tl th) := by
  intro pins s σ H Q I h
  refine Subscript_ (thn (he pins s σ H _ I h) fun v s1 ⟨x, H1, I1, r1, q1⟩ => ?_)
  refine wpAny_Slice (thn (hl pins s1 σ H1 _ I1 q1) fun vl s2 ⟨l, H2, I2, pl, q2⟩ => thn (hu pins s2 σ H2 _ I2 q2) fun vu s3 ⟨u, H3, I3, pu, q3⟩ => ?_)
  rw [evalPart_none]
  refine wpAny_pure ?_
  have I4 : Inv X pins σ H3 { s3 with heap := s3.heap.push { cls := .type "slice", data := .fields #[vl, vu, .none] } } := I3.kept (t' := s3.toks) fun b ob q => Heap.get?_push_of_some _ q
  obtain ⟨T, id, hT, ht, hg⟩ := hr pins { s3 with heap := s3.heap.push { cls := .type "slice", data := .fields #[vl, vu, .none] } } σ H3 x v vl vu l u s3.heap.objs.size Q I4 r1 (Heap.IsSliceOf.new ..) pl pu q3
  show wpAny (model X.prog X.w) X.A (subscriptTail e (.Slice lo hi none p2) v (.ref s3.heap.objs.size)) (EP X pins σ Q) X.xe { s3 with heap := s3.heap.push { cls := .type "slice", data := .fields #[vl, vu, .none] } }
  exact tail_any (ops := [.ref s3.heap.objs.size, v]) ht hT hg (by with_unfolding_all rfl)

/-- the items of xs[lo:hi] -/
def cutV (xs : List V) (lo hi : Option Int) : List V := (xs.drop (HT.sIx xs.length 0 lo)).take (HT.sIx xs.length xs.length hi - HT.sIx xs.length 0 lo)
theorem cutV_length (xs : List V) (lo hi : Option Int) : (cutV xs lo hi).length ≤ xs.length := by
  unfold cutV
  rw [List.length_take, List.length_drop]
  omega
/-! ### t < u, t + u -/
end
end L2

namespace L2
open PySem PySem.Spec PyProof.Rows

/-! ### places -/
/-- the place that an index of any sign means -/
def ixN (n : Nat) (i : Int) : Option Nat := if 0 ≤ i then (if i < n then some i.toNat else none) else if -(n : Int) ≤ i then some (i + n).toNat else none
def atI {α : Type} (xs : List α) (i : Int) : Option α := (ixN xs.length i).bind fun j => xs[j]?
theorem ixN_seq {n : Nat} {i : Int} {j : Nat} (h : ixN n i = some j) : seqIndex? i n = some j ∧ j < n ∧ -(n : Int) ≤ i ∧ i < n := by
  unfold ixN at h
  by_cases h0 : 0 ≤ i
  · rw [if_pos h0] at h
    by_cases h1 : i < n
    · rw [if_pos h1] at h
      have e : i.toNat = j := Option.some.inj h
      exact ⟨by rw [seqIndex_of h0 h1, e], by omega, by omega, h1⟩
    · rw [if_neg h1] at h; cases h
  · rw [if_neg h0] at h
    by_cases h1 : -(n : Int) ≤ i
    · rw [if_pos h1] at h
      have e : (i + n).toNat = j := Option.some.inj h
      exact ⟨by rw [seqIndex_neg (by omega) h1, e], by omega, h1, by omega⟩
    · rw [if_neg h1] at h; cases h
theorem atI_get {α : Type} {xs : List α} {i : Int} {v : α} (h : atI xs i = some v) : ∃ j, seqIndex? i xs.length = some j ∧ xs[j]? = some v ∧ j < xs.length ∧ -(xs.length : Int) ≤ i ∧ i < xs.length := by
  unfold atI at h
  cases e : ixN xs.length i with
  | none => rw [e] at h; cases h
  | some j =>
    rw [e] at h
    obtain ⟨h1, h2, h3, h4⟩ := ixN_seq e
    exact ⟨j, h1, h, h2, h3, h4⟩
theorem atI_nat {α : Type} {xs : List α} {j : Nat} {v : α} (h : xs[j]? = some v) : atI xs (j : Int) = some v := by
  have hj : j < xs.length := (List.getElem?_eq_some_iff.mp h).1
  have e : ixN xs.length (j : Int) = some j := by
    unfold ixN
    rw [if_pos (by omega), if_pos (by omega)]; simp
  unfold atI; rw [e]; exact h
theorem atI_last {α : Type} (xs : List α) (v : α) : atI (xs ++ [v]) (-1) = some v := by
  have hl : (xs ++ [v]).length = xs.length + 1 := by simp
  have e : ixN (xs ++ [v]).length (-1) = some xs.length := by
    unfold ixN
    rw [hl, if_neg (by decide), if_pos (by omega)]
    congr 1
    omega
  unfold atI
  rw [e]
  show (xs ++ [v])[xs.length]? = some v
  simp

/-! ### what may be subscripted -/
/-- what stands as an index of a plain subscript -/
def PlainIx (b : Expr) : Prop := ∀ o i, subscripted b false o i = operate [o, i] (getItem o i)
/-- a subscript by values -/
def IxR (X : Cx) (r : R2) : Prop :=
  ∀ (value slice : Expr) (pins : List (Addr × Obj)) (s : Shared) (σ : St) (H : Hp) (x y : V) (v u : Value) (Q : VK), Inv X pins σ H s → RelV x v → RelV y u → r x y H Q →
    subscripted slice false v u = operate [v, u] (getItem v u) → wpAny (model X.prog X.w) X.A (subscriptTail value slice v u) (EP X pins σ Q) X.xe s
/-- a call of a builtin's method by values: the receiver, the arguments -/
def MtR (X : Cx) (id : String) (r : V → List V → Hp → VK → Prop) : Prop :=
  ∀ (pins : List (Addr × Obj)) (s : Shared) (σ : St) (H : Hp) (x : V) (xs : List V) (v : Value) (us : List Value) (Q : VK), Inv X pins σ H s → RelV x v → Vals xs us → r x xs H Q →
    wpAny (model X.prog X.w) X.A (call (.builtin id) (v :: us)) (EP X pins σ Q) X.xe s
section
variable {X : Cx} {a b : Expr} {ta tb : TE} {pos : Pos}
/-- a[b] -/
theorem pe_ix {r : R2} (hr : IxR X r) (ha : PE X a ta) (hb : PE X b tb) (hs : PlainIx b) : PE X (.Subscript a b pos) (tOp r ta tb) := by
  intro pins s σ H Q I h
  exact Subscript_ (binT ha hb I h fun v u s2 x y H2 I2 rx ry q => hr a b pins s2 σ H2 x y v u Q I2 rx ry q (hs _ _))

def rIxL (K : PySem.W.Frag) : R2 := fun x y H Q => ∃ p xs i v, x = .ref p ∧ y = .int i ∧ SqL K H p xs ∧ atI xs i = some v ∧ Q v H
def rIxT (K : PySem.W.Frag) : R2 := fun x y H Q => ∃ p xs i v, x = .ref p ∧ y = .int i ∧ SqT K H p xs ∧ atI xs i = some v ∧ Q v H
theorem ix_list : IxR X (rIxL X.K) := by
  intro value slice pins s σ H x y v u Q I rx ry h hs
  obtain ⟨p, xs, i, z, rfl, rfl, hq, he, q⟩ := h
  cases rx
  obtain ⟨t, rfl⟩ := ry
  obtain ⟨its, r, pl, hz⟩ := I.list hq
  obtain ⟨j, h1, h2, h3, h4, h5⟩ := atI_get he
  obtain ⟨w, ew, rw'⟩ := r.get h2
  have hl := r.length
  have hn := line63
  have fin : EP X pins σ Q w s := ⟨z, H, I, rw', q⟩
  by_cases h0 : 0 ≤ i
  · have hj : i.toNat = j := by
      rw [seqIndex_of h0 h5] at h1
      exact Option.some.inj h1
    exact item_listR pl.isList h0 (by omega) (by rw [hj]; simpa using ew) fin hs
  · have hj : (i + (its.toArray.size : Int)).toNat = j := by
      rw [seqIndex_neg (by omega) h4] at h1
      rw [List.size_toArray, ← hl]
      exact Option.some.inj h1
    exact subscriptTail_builtinR (x := w) pl.isList.typeIs slot_list_getitem.lookup
      (wpAny_getItem_list_neg (Q := fun r s' => r = w ∧ EP X pins σ Q r s') pl.isList (by omega) (by rw [List.size_toArray] <;> omega) (by omega) (by rw [hj]; simpa using ew) ⟨rfl, fin⟩) hs
theorem ix_tup : IxR X (rIxT X.K) := by
  intro value slice pins s σ H x y v u Q I rx ry h hs
  obtain ⟨p, xs, i, z, rfl, rfl, hq, he, q⟩ := h
  cases rx
  obtain ⟨t, rfl⟩ := ry
  obtain ⟨its, r, pl, hz⟩ := I.tuple hq
  obtain ⟨j, h1, h2, h3, h4, h5⟩ := atI_get he
  obtain ⟨w, ew, rw'⟩ := r.get h2
  have hl := r.length
  have hn := line63
  have fin : EP X pins σ Q w s := ⟨z, H, I, rw', q⟩
  exact subscriptTail_builtinR (x := w) pl.typeIs slot_tuple_getitem.lookup
    (getItem_tuple (j := j) (Q := fun r s' => r = w ∧ EP X pins σ Q r s') pl (by omega) (by omega) (by rw [List.size_toArray, ← hl]; exact h1) (by simpa using ew) ⟨rfl, fin⟩) hs
/-! ### xs[i] = v, any sign -/
/-- the list's object behind a store -/
theorem mapSeq_set (its : List Value) (n j : Nat) (u : Value) : Obj.mapSeq (·.setIfInBounds j u) { cls := .type "list", data := .seq its.toArray n } = { cls := .type "list", data := .seq (its.set j u).toArray n } := by
  simp [Obj.mapSeq]
theorem Inv.lst {pins : List (Addr × Obj)} {σ : St} {H : Hp} {s : Shared} {p : Addr} {xs : List V} (I : Inv X pins σ H s) (h : H p = some (.lst xs)) :
    ∃ (its : List Value) (n : Nat), Vals xs its ∧ s.heap.get? p = some { cls := .type "list", data := .seq its.toArray n } ∧ xs.length ≤ sizeLine := by
  obtain ⟨z, its, n, r, e⟩ := I.hok p _ h
  exact ⟨its, n, r, e, z⟩
/-- the list at p is written by an update of its object -/
theorem Inv.lstUpd {pins : List (Addr × Obj)} {σ : St} {H : Hp} {s : Shared} {p : Addr} {xs ys : List V} {its its' : List Value} {n n' : Nat} {f : Obj → Obj} (I : Inv X pins σ H s) (h : H p = some (.lst xs))
    (ho : s.heap.get? p = some { cls := .type "list", data := .seq its.toArray n }) (hf : f { cls := .type "list", data := .seq its.toArray n } = { cls := .type "list", data := .seq its'.toArray n' }) (r : Vals ys its') (hz : ys.length ≤ sizeLine) (t : Nat) :
    Inv X pins σ (upd H p (.lst ys)) { s with heap := s.heap.update p f, toks := t } := by
  have e : (s.heap.update p f).get? p = some { cls := .type "list", data := .seq its'.toArray n' } := by
    rw [Heap.get?_update_self f ho (by rw [hf] <;> rfl), hf]
  refine I.write (x := p) (e := p) (by rw [h]; trivial) (.inl rfl) (fun b u hb q => (Heap.get?_update_other _ _ (Ne.symm hb)).trans q) ⟨_, e⟩ ?_
  exact ⟨hz, its', n', r, e⟩
def rSetL : V → V → V → Hp → (Hp → Prop) → Prop := fun o i v H Q => ∃ p xs k j, o = .ref p ∧ i = .int k ∧ H p = some (.lst xs) ∧ ixN xs.length k = some j ∧ Q (upd H p (.lst (xs.set j v)))
theorem set_list : PSet X rSetL := by
  intro pins s σ H o i v ov iv u Q I ro ri rv h
  obtain ⟨p, xs, k, j, rfl, rfl, hp, hj, q⟩ := h
  cases ro
  obtain ⟨t, rfl⟩ := ri
  obtain ⟨its, n, r, ho, hz⟩ := I.lst hp
  obtain ⟨h1, h2, h3, h4⟩ := ixN_seq hj
  have hl := r.length
  have hn := line63
  have I' : Inv X pins σ (upd H p (.lst (xs.set j v))) { s with heap := s.heap.update p (Obj.mapSeq (·.setIfInBounds j u)) } :=
    I.lstUpd hp ho (mapSeq_set its n j u) (r.set rv j) (by rw [List.length_set]; exact hz) s.toks
  by_cases h0 : 0 ≤ k
  · have hk : k.toNat = j := by
      rw [seqIndex_of h0 h4] at h1
      exact Option.some.inj h1
    exact PySem.W.ki_setAt ho h0 (by omega) (by rw [List.size_toArray, ← hl]; exact h4) (by rw [hk]; exact ⟨_, I', q⟩)
  · have hk : (k + (its.toArray.size : Int)).toNat = j := by
      rw [seqIndex_neg (by omega) h3] at h1
      rw [List.size_toArray, ← hl]
      exact Option.some.inj h1
    exact PySem.W.ki_setBack ho (by omega) (by rw [List.size_toArray, ← hl]; exact h3) (by omega) (by rw [hk]; exact ⟨_, I', q⟩)

/-! ### slices -/
theorem slice_bounds (lo hi : Option Int) (n : Nat) : (sliceBounds lo hi none n).1 = ((HT.sIx n 0 lo : Nat) : Int) ∧ (sliceBounds lo hi none n).2.1 = ((HT.sIx n n hi : Nat) : Int) ∧ (sliceBounds lo hi none n).2.2 = 1 := by
  refine ⟨?_, ?_, rfl⟩
  · cases lo with
    | none => simp [sliceBounds, HT.sIx]
    | some i =>
      simp only [sliceBounds, HT.sIx, Option.getD_none, show (1 : Int) > 0 by decide, if_true]
      by_cases h : i < 0
      · simp only [h, if_true] <;> omega
      · simp only [h, if_false] <;> omega
  · cases hi with
    | none => simp [sliceBounds, HT.sIx]
    | some i =>
      simp only [sliceBounds, HT.sIx, Option.getD_none, show (1 : Int) > 0 by decide, if_true]
      by_cases h : i < 0
      · simp only [h, if_true] <;> omega
      · simp only [h, if_false] <;> omega
theorem slicePick_cut (its : List Value) (lo hi : Option Int) : slicePick its.toArray lo hi none = ((its.drop (HT.sIx its.length 0 lo)).take (HT.sIx its.length its.length hi - HT.sIx its.length 0 lo)).toArray := by
  obtain ⟨h1, h2, h3⟩ := slice_bounds lo hi its.toArray.size
  unfold slicePick
  rw [h1, h2, h3]
  simp only [sliceRange_one, pick_run, List.size_toArray] <;> rfl
/-- xs[lo:hi] of a list: a new list -/
def rSlL (K : PySem.W.Frag) : V → Option Int → Option Int → Hp → VK → Prop := fun x lo hi H Q => ∃ a xs, x = .ref a ∧ SqL K H a xs ∧ ∀ p, H p = none → Q (.ref p) (upd H p (.lst (cutV xs lo hi)))
theorem sl_list : SlR X (rSlL X.K) := by
  intro pins s σ H x v vl vu lo hi sl Q I rx hs pl pu h
  obtain ⟨a, xs, rfl, hx, q⟩ := h
  cases rx
  obtain ⟨its, r, ht, hz⟩ := I.list hx
  have hlen := r.length
  refine ⟨"list", _, slot_list_getitem.lookup, ht.isList.typeIs, ?_⟩
  refine wpAny_getItem_list_slice ht.isList hs pl pu .none (by simp) ?_ (by rw [List.size_toArray] <;> omega)
  rw [slicePick_cut, ← hlen]
  refine ⟨.ref s.heap.objs.size, _, I.laid (t' := s.toks) (o := .lst (cutV xs lo hi)) (fun b ob q => Heap.get?_push_of_some _ q) (Nat.le_refl _) ?_, rfl, q _ (I.hok.fresh (Nat.le_refl _))⟩
  exact ⟨Nat.le_trans (cutV_length xs lo hi) hz, _, 0, (r.drop (HT.sIx xs.length 0 lo)).take (HT.sIx xs.length xs.length hi - HT.sIx xs.length 0 lo), Heap.get?_push_size _ rfl⟩

/-! ### in, not in: flat items -/
def flatV : V → Bool
  | .non => true
  | .bl _ => true
  | .int _ => true
  | .str _ => true
  | _ => false
/-- == of flat values -/
def eqV : V → V → Bool
  | .non, .non => true
  | .bl a, .bl b => a == b
  | .bl a, .int b => (if a then 1 else 0) == b
  | .int a, .bl b => a == (if b then 1 else 0)
  | .int a, .int b => a == b
  | .str a, .str b => a == b
  | _, _ => false
theorem eqAt_V {A : Around} {s : Shared} {y x : V} {u v : Value} (ry : RelV y u) (rx : RelV x v) (fy : flatV y = true) (fx : flatV x = true) : SeqAt.EqAt A s u v (eqV y x) := by
  cases y with
  | non =>
    cases ry
    cases x with
    | non => cases rx; exact SeqAt.EqAt.same _
    | bl b => cases rx; exact SeqAt.EqAt.none_bool b
    | int b => obtain ⟨t, rfl⟩ := rx; exact SeqAt.EqAt.none_int b t
    | str b => obtain ⟨t, rfl⟩ := rx; exact SeqAt.EqAt.none_str b t
    | _ => exact absurd (show false = true from fx) Bool.false_ne_true
  | bl a =>
    cases ry
    cases x with
    | non => cases rx; exact SeqAt.EqAt.bool_none a
    | bl b => cases rx; exact SeqAt.EqAt.bool_bool a b
    | int b => obtain ⟨t, rfl⟩ := rx; exact SeqAt.EqAt.bool_int a b t
    | str b => obtain ⟨t, rfl⟩ := rx; exact SeqAt.EqAt.bool_str a b t
    | _ => exact absurd (show false = true from fx) Bool.false_ne_true
  | int a =>
    obtain ⟨t', rfl⟩ := ry
    cases x with
    | non => cases rx; exact SeqAt.EqAt.int_none a t'
    | bl b => cases rx; exact SeqAt.EqAt.int_bool a t' b
    | int b => obtain ⟨t, rfl⟩ := rx; exact SeqAt.EqAt.int_int a t' b t
    | str b => obtain ⟨t, rfl⟩ := rx; exact SeqAt.EqAt.int_str a t' b t
    | _ => exact absurd (show false = true from fx) Bool.false_ne_true
  | str a =>
    obtain ⟨t', rfl⟩ := ry
    cases x with
    | non => cases rx; exact SeqAt.EqAt.str_none a t'
    | bl b => cases rx; exact SeqAt.EqAt.str_bool a t' b
    | int b => obtain ⟨t, rfl⟩ := rx; exact SeqAt.EqAt.str_int a t' b t
    | str b => obtain ⟨t, rfl⟩ := rx; exact SeqAt.EqAt.str_str a t' b t
    | _ => exact absurd (show false = true from fx) Bool.false_ne_true
  | _ => exact absurd (show false = true from fy) Bool.false_ne_true
/-- the items' answers, read off the values (a value's own answer does not lean on its token) -/
def eqU (x : V) (u : Value) : Bool := match u with
  | .none => eqV .non x
  | .bool b => eqV (.bl b) x
  | .int i _ => eqV (.int i) x
  | .str z _ => eqV (.str z) x
  | _ => false
theorem eqU_of {x y : V} {u : Value} (r : RelV y u) (f : flatV y = true) : eqU x u = eqV y x := by
  cases y with
  | non => cases r; rfl
  | bl b => cases r; rfl
  | int i => obtain ⟨t, rfl⟩ := r; rfl
  | str z => obtain ⟨t, rfl⟩ := r; rfl
  | _ => exact absurd (show false = true from f) Bool.false_ne_true
theorem any_eqU {x : V} : ∀ {xs : List V} {us : List Value}, Vals xs us → xs.all flatV = true → us.any (eqU x) = xs.any fun y => eqV y x
  | _, _, .nil, _ => rfl
  | y :: xs, u :: us, .cons r t, f => by
    rw [List.all_cons, Bool.and_eq_true] at f
    rw [List.any_cons, List.any_cons, eqU_of r f.1, any_eqU t f.2]
theorem mem_eqAt {A : Around} {s : Shared} {x : V} {v : Value} (rx : RelV x v) (fx : flatV x = true) : ∀ {xs : List V} {us : List Value}, Vals xs us → xs.all flatV = true → ∀ u ∈ us, SeqAt.EqAt A s u v (eqU x u)
  | _, _, .nil, _ => fun u hu => by cases hu
  | y :: xs, u :: us, .cons r t, f => fun u' hu => by
    rw [List.all_cons, Bool.and_eq_true] at f
    rcases List.mem_cons.mp hu with rfl | hu
    · rw [eqU_of r f.1]; exact eqAt_V r rx f.1 fx
    · exact mem_eqAt rx fx t f.2 u' hu
def inV (x : V) (xs : List V) : Bool := xs.any fun y => eqV y x
/-- x in a list or tuple of flat items -/
def rIn (K : PySem.W.Frag) (neg : Bool) : R2 := fun x y H Q => ∃ p xs, y = .ref p ∧ (SqL K H p xs ∨ SqT K H p xs) ∧ flatV x = true ∧ xs.all flatV = true ∧ Q (.bl (if neg then !inV x xs else inV x xs)) H
theorem op_in_seq : OpR X (compareOp .In) (rIn X.K false) := by
  intro pins s σ H x y v u Q I rx ry h
  obtain ⟨p, xs, rfl, hq, fx, fs, q⟩ := h
  cases ry
  rcases hq with hq | hq
  · obtain ⟨its, r, pl, hz⟩ := I.list hq
    refine SeqAt.in_listAt (eqU x) pl.isList (fun w hw => mem_eqAt rx fx r fs w (by simpa using hw)) ⟨.bl _, H, I, rfl, ?_⟩
    rw [show its.toArray.any (eqU x) = its.any (eqU x) by simp, any_eqU r fs]
    exact q
  · obtain ⟨its, r, pl, hz⟩ := I.tuple hq
    refine SeqAt.in_tupleAt (eqU x) pl (fun w hw => mem_eqAt rx fx r fs w (by simpa using hw)) ⟨.bl _, H, I, rfl, ?_⟩
    rw [show its.toArray.any (eqU x) = its.any (eqU x) by simp, any_eqU r fs]
    exact q
/-! ### len, list(x), tuple(x) of any list or tuple that is read -/
theorem call_len_seq : CallR X (.builtin "len") (fun xs H Q => ∃ p ys, xs = [.ref p] ∧ (SqL X.K H p ys ∨ SqT X.K H p ys) ∧ Q (.int ys.length) H) := by
  intro pins s σ H xs us Q I r h
  obtain ⟨p, ys, rfl, hq, q⟩ := h
  obtain ⟨u, rfl, rx⟩ := vals1 r
  cases rx
  have hn := line63
  rcases hq with hq | hq
  · obtain ⟨its, r', pl, hz⟩ := I.list hq
    have hlen := r'.length
    exact Calls.call_len_list pl.isList (by simp only [List.size_toArray] <;> omega) ⟨.int ys.length, H, I.tok _, ⟨s.toks + 1, by rw [List.size_toArray, hlen]⟩, q⟩
  · obtain ⟨its, r', pl, hz⟩ := I.tuple hq
    have hlen := r'.length
    exact len_tuple pl (by simp only [List.size_toArray] <;> omega) ⟨.int ys.length, H, I.tok _, ⟨s.toks + 1, by rw [List.size_toArray, hlen]⟩, q⟩
theorem call_list_of : CallR X (.type "list") (fun xs H Q => ∃ p ys, xs = [.ref p] ∧ (SqL X.K H p ys ∨ SqT X.K H p ys) ∧ ∀ l, H l = none → Q (.ref l) (upd H l (.lst ys))) := by
  intro pins s σ H xs us Q I r h
  obtain ⟨p, ys, rfl, hq, q⟩ := h
  obtain ⟨u, rfl, rx⟩ := vals1 r
  cases rx
  have fin : ∀ (its : List Value), Vals ys its → ys.length ≤ sizeLine → ∀ (h' : Heap) (c' : Nat), (∀ b o', s.heap.get? b = some o' → h'.get? b = some o') →
      h'.get? s.heap.objs.size = some { cls := .type "list", dict := none, data := .seq its.toArray c', slots := #[] } → EP X pins σ Q (.ref s.heap.objs.size) { s with heap := h' } := fun its r' hz h' c' kp e =>
    ⟨.ref s.heap.objs.size, _, I.laid (t' := s.toks) kp (Nat.le_refl _) (show ObjOk X.prog X.w _ h' _ (.lst ys) from ⟨hz, its, c', r', e⟩), rfl, q _ (I.hok.fresh (Nat.le_refl _))⟩
  rcases hq with hq | hq
  · obtain ⟨its, r', pl, hz⟩ := I.list hq
    have hlen := r'.length
    obtain ⟨o, ho, hc, n, hd⟩ := pl.isList
    exact call_list_seq p (.inl rfl) ho hc hd (fun h' c' kp e => fin its r' hz h' c' kp e) (by simp only [List.size_toArray] <;> omega)
  · obtain ⟨its, r', pl, hz⟩ := I.tuple hq
    have hlen := r'.length
    obtain ⟨o, ho, hc, n, hd⟩ := pl
    exact call_list_seq p (.inr rfl) ho hc hd (fun h' c' kp e => fin its r' hz h' c' kp e) (by simp only [List.size_toArray] <;> omega)
theorem call_tuple_of : CallR X (.type "tuple") (fun xs H Q => ∃ p ys, xs = [.ref p] ∧ ((SqL X.K H p ys ∧ ∀ l, H l = none → Q (.ref l) (upd H l (.tup ys))) ∨ (SqT X.K H p ys ∧ Q (.ref p) H))) := by
  intro pins s σ H xs us Q I r h
  obtain ⟨p, ys, rfl, h⟩ := h
  obtain ⟨u, rfl, rx⟩ := vals1 r
  cases rx
  rcases h with ⟨hq, q⟩ | ⟨hq, q⟩
  · obtain ⟨its, r', pl, hz⟩ := I.list hq
    have hlen := r'.length
    refine call_tuple_list pl.isList (fun h' kp => ?_) (by simp only [List.size_toArray] <;> omega)
    have I1 : Inv X pins σ H { s with heap := h' } := I.kept (t' := s.toks) kp
    have I2 : Inv X pins σ (upd H h'.objs.size (.tup ys)) { s with heap := h'.push { cls := .type "tuple", data := .seq its.toArray } } :=
      I1.laid (t' := s.toks) (fun b o e => Heap.get?_push_of_some _ e) (Nat.le_refl _) (show ObjOk X.prog X.w _ _ _ (.tup ys) from ⟨hz, its, r', IsTup.new _ _⟩)
    exact ⟨.ref h'.objs.size, _, I2, rfl, q _ (I1.hok.fresh (Nat.le_refl _))⟩
  · obtain ⟨its, r', pl, hz⟩ := I.tuple hq
    exact call_tuple_same pl ⟨.ref p, H, I, rfl, q⟩

/-! ### the call of a builtin's method: o.m(..) -/
/-- the value is of that builtin type -/
def tyV (K : PySem.W.Frag) (T : String) (x : V) (H : Hp) : Prop := match x with
  | .str _ => T = "str"
  | .int _ => T = "int"
  | .ref p => (T = "list" ∧ ∃ xs, SqL K H p xs) ∨ (T = "tuple" ∧ ∃ o, K.lookup p = some o ∧ o.cls = .type "tuple" ∧ o.dict = none) ∨
      (T = "dict" ∧ ((∃ kvs, H p = some (.dK kvs)) ∨ ∃ kvs, H p = some (.dT kvs))) ∨ (T = "set" ∧ ∃ S n, H p = some (.set S n))
  | _ => False
theorem tyV_is {pins : List (Addr × Obj)} {σ : St} {H : Hp} {s : Shared} {T : String} {x : V} {v : Value} (I : Inv X pins σ H s) (r : RelV x v) (ty : tyV X.K T x H) :
    s.TypeIs v T ∧ ∀ a, v = .ref a → ∃ ob, s.heap.get? a = some ob ∧ ob.dict = none := by
  cases x with
  | str z =>
    obtain ⟨t, rfl⟩ := r
    cases (show T = "str" from ty)
    exact ⟨typeIs_str s z t, fun _ e => nomatch e⟩
  | int i =>
    obtain ⟨t, rfl⟩ := r
    cases (show T = "int" from ty)
    exact ⟨typeIs_int s i t, fun _ e => nomatch e⟩
  | ref p =>
    cases r
    rcases ty with ⟨rfl, xs, hq⟩ | ⟨rfl, o, hk, hc, hd⟩ | ⟨rfl, hk⟩ | ⟨rfl, S, n, hk⟩
    · obtain ⟨its, _, pl, _⟩ := I.list hq
      refine ⟨pl.isList.typeIs, fun a e => ?_⟩
      cases e
      obtain ⟨o, n, e, c, hd, _⟩ := pl
      exact ⟨o, e, hd⟩
    · refine ⟨⟨o, I.kIn p o hk, hc⟩, fun a e => ?_⟩
      cases e
      exact ⟨o, I.kIn _ o hk, hd⟩
    · have z : ∃ o, s.heap.get? p = some o ∧ o.ExactDict := by
        rcases hk with ⟨kvs, hk⟩ | ⟨kvs, hk⟩
        · obtain ⟨_, _, _, _, o, _, _, e, ex, _⟩ := I.hok p _ hk
          exact ⟨o, e, ex⟩
        · obtain ⟨_, _, _, _, o, _, _, e, ex, _⟩ := I.hok p _ hk
          exact ⟨o, e, ex⟩
      obtain ⟨o, e, ex⟩ := z
      refine ⟨⟨o, e, ex.1⟩, fun a e2 => ?_⟩
      cases e2
      exact ⟨o, e, ex.2.1⟩
    · obtain ⟨o, _, _, _, e, ex, _⟩ := I.hok p _ hk
      refine ⟨⟨o, e, ex.1⟩, fun a e2 => ?_⟩
      cases e2
      exact ⟨o, e, ex.2.1⟩
  | _ => exact False.elim ty
def tBM (K : PySem.W.Frag) (T : String) (r : V → List V → Hp → VK → Prop) (to : TE) (t : TA) : TE := fun σ H Q => to σ H fun x H1 => tyV K T x H1 ∧ t σ H1 fun xs H2 => r x xs H2 Q
variable {o e : Expr} {es : List Expr} {to : TE} {t : TA} {name : Str} {apos cpos : Pos} {T id : String} {r : V → List V → Hp → VK → Prop}
theorem pe_bm (pa : PlainAttrs T) (slot : Slot T name id) (hty : typeOf (.builtin id) = pure (.type "method_descriptor")) (hm : MtR X id r) (ho : PE X o to) (ha : PA X (e :: es) t)
    (hbase : attributeBase o name X.env (eval o X.env) = eval o X.env := by rfl)
    (hfew : ((backTo cpos (starEach (e :: es) X.env)).all (fun x => !x.1) && (backToKw cpos (keywordEach [] X.env)).all (fun x => x.1.isSome)
      && decide ((e :: es).length + ([] : List Keyword).length + (if ([] : List Keyword).isEmpty then 0 else 1) < 30)) = true := by rfl)
    (hline : (apos.endLine == cpos.line) = true := by rfl) (hs : starEach (e :: es) X.env = (false, eval e X.env) :: starEach es X.env := by rfl) (hplain : (backTo cpos (starEach es X.env)).any (·.1) = false := by rfl) :
    PE X (.Call (.Attribute o name apos) (e :: es) [] cpos) (tBM X.K T r to t) := by
  intro pins s σ H Q I h
  refine wpAny_Call_method_late hbase hfew hline rfl (thn (ho pins s σ H _ I h) fun v s1 ⟨x, H1, I1, r1, ty, q1⟩ => ?_)
  obtain ⟨h1, h2⟩ := tyV_is I1 r1 ty
  refine ⟨T, id, pa, slot, hty, h1, h2, ?_⟩
  have hA := ha cpos pins s1 σ H1 _ I1 q1
  rw [hs] at hA ⊢
  refine Calls.callWith_builtin (by show (false || (backTo cpos (starEach es X.env)).any (·.1)) = false; rw [hplain] <;> rfl) (Calls.evalArgs_plain ?_)
  exact thn hA fun us s2 ⟨vs, H2, I2, r2, q2⟩ => hm pins s2 σ H2 x vs v us Q I2 r1 r2 q2
/- xs.append(e), list.index on a module's tuple .. are MtR facts of 06m -/
end
end L2

namespace L2
open PySem PySem.Spec PyProof.Rows

def MtM (X : Cx) (id : String) (r : V → List V → Hp → VK → Prop) : Prop :=
  ∀ (pins : List (Addr × Obj)) (s : Shared) (σ : St) (H : Hp) (x : V) (xs : List V) (v : Value) (us : List Value) (Q : VK), Inv X pins σ H s → RelV x v → Vals xs us → r x xs H Q →
    wpAny (model X.prog X.w) X.A (call (.builtin id) (v :: us)) (EP X pins σ Q) X.xe s

/-! ### lists of values -/
theorem Vals.one : ∀ {x : V} {us : List Value}, Vals [x] us → ∃ u, us = [u] ∧ RelV x u
  | _, _, .cons r .nil => ⟨_, rfl, r⟩
theorem Vals.reverse {xs : List V} {us : List Value} (h : Vals xs us) : Vals xs.reverse us.reverse := by
  induction h with
  | nil => exact .nil
  | cons r t ih => rw [List.reverse_cons, List.reverse_cons]; exact Vals.append ih (.cons r .nil)
theorem Vals.rep {xs : List V} {us : List Value} (h : Vals xs us) : ∀ k : Nat, Vals (List.replicate k xs).flatten (List.replicate k us).flatten
  | 0 => .nil
  | k + 1 => by
    rw [List.replicate_succ, List.replicate_succ, List.flatten_cons, List.flatten_cons]
    exact Vals.append h (Vals.rep h k)
theorem foldl_rep (its : List Value) : ∀ (k : Nat) (acc : List Value),
    List.foldl (fun x1 x2 => x1 ++ x2) acc.toArray (List.replicate k its.toArray) = (acc ++ (List.replicate k its).flatten).toArray
  | 0, acc => by simp
  | k + 1, acc => by
    have e : acc.toArray ++ its.toArray = (acc ++ its).toArray := by simp
    have e2 : (acc ++ its) ++ (List.replicate k its).flatten = acc ++ (List.replicate (k + 1) its).flatten := by
      rw [List.replicate_succ, List.flatten_cons, List.append_assoc]
    rw [← e2, ← foldl_rep its k (acc ++ its), ← e, List.replicate_succ, List.foldl_cons]

section
variable {X : Cx} {pins : List (Addr × Obj)} {σ : St} {H : Hp} {s : Shared} {l b : Addr} {xs ys zs : List V}

/-! ### the two steps: a tracked list is rewritten, a new list is laid -/
theorem Inv.lset {its its' : List Value} {n : Nat} {f : Array Value → Array Value} {t' : Nat} (I : Inv X pins σ H s) (hH : H l = some (.lst xs))
    (e : s.heap.get? l = some { cls := .type "list", data := .seq its.toArray n }) (hf : f its.toArray = its'.toArray) (hv : Vals ys its') (hz : ys.length ≤ sizeLine) :
    Inv X pins σ (upd H l (.lst ys)) { s with heap := s.heap.update l (Obj.mapSeq f), toks := t' } := by
  have q := PySem.IsL.update e f
  rw [hf] at q
  refine I.write (x := l) (e := l) (by rw [hH]; exact trivial) (.inl rfl) (fun b' u hb hu => (Heap.get?_update_other s.heap (Obj.mapSeq f) (Ne.symm hb)).trans hu) ⟨_, q⟩ ?_
  exact ⟨hz, its', _, hv, q⟩
theorem Inv.lnew {its : List Value} {t' : Nat} (I : Inv X pins σ H s) (hv : Vals ys its) (hz : ys.length ≤ sizeLine) :
    Inv X pins σ (upd H s.heap.objs.size (.lst ys)) { s with heap := s.heap.push { cls := .type "list", data := .seq its.toArray }, toks := t' } :=
  I.laid (fun _ _ q => Heap.get?_push_of_some _ q) (Nat.le_refl _) ⟨hz, its, 0, hv, Heap.get?_push_size _ rfl⟩
theorem Inv.fresh (I : Inv X pins σ H s) : H s.heap.objs.size = none := I.hok.fresh (Nat.le_refl _)
theorem Inv.lstM (I : Inv X pins σ H s) (hH : H l = some (.lst xs)) : xs.length ≤ sizeLine ∧ ∃ (its : List Value) (n : Nat), Vals xs its ∧ xs.length = its.length ∧ s.heap.get? l = some { cls := .type "list", data := .seq its.toArray n } := by
  obtain ⟨z, its, n, r, e⟩ := I.hok l _ hH
  exact ⟨z, its, n, r, r.length, e⟩

theorem notLongL {n : Nat} (h : n ≤ sizeLine) : Builtin.List.listTooLong n = false := by
  unfold Builtin.List.listTooLong
  exact decide_eq_false (by omega)
end

section
variable {X : Cx}

/-! ### methods -/
def rAppend : V → List V → Hp → VK → Prop := fun x vs H Q => ∃ l xs y, x = .ref l ∧ vs = [y] ∧ H l = some (.lst xs) ∧ xs.length < sizeLine ∧ Q .non (upd H l (.lst (xs ++ [y])))
theorem mt_append : MtM X "list.append" rAppend := by
  intro pins s σ H x vs v us Q I rx rv h
  obtain ⟨l, xs, y, rfl, rfl, hH, hz, q⟩ := h
  cases rx
  obtain ⟨u, rfl, ru⟩ := rv.one
  obtain ⟨z, its, n, r, hl, e⟩ := I.lstM hH
  refine call_meets F.slot_list_append ⟨_, e, rfl⟩ F.entry_list_append (F.args_list_append_2 _ _) (PySem.list_append l its.toArray n u (by rw [List.size_toArray]; omega)) ⟨e, ?_⟩
  refine ⟨.non, _, I.lset (its' := its ++ [u]) hH e (by simp) (r.append (.cons ru .nil)) ?_, rfl, q⟩
  rw [List.length_append, List.length_singleton]
  omega

def rExtend : V → List V → Hp → VK → Prop := fun x vs H Q => ∃ l b xs zs, x = .ref l ∧ vs = [.ref b] ∧ H l = some (.lst xs) ∧ H b = some (.lst zs) ∧ xs.length + zs.length ≤ sizeLine ∧ Q .non (upd H l (.lst (xs ++ zs)))
theorem mt_extend : MtM X "list.extend" rExtend := by
  intro pins s σ H x vs v us Q I rx rv h
  obtain ⟨l, b, xs, zs, rfl, rfl, hH, hB, hz, q⟩ := h
  cases rx
  obtain ⟨u, rfl, ru⟩ := rv.one
  cases ru
  obtain ⟨z, its, n, r, hl, e⟩ := I.lstM hH
  obtain ⟨z2, its2, n2, r2, hl2, e2⟩ := I.lstM hB
  have hsz : its.toArray.size + its2.toArray.size ≤ sizeLine := by rw [List.size_toArray, List.size_toArray]; omega
  have hlong : ¬ (!its.toArray.isEmpty && Builtin.List.listTooLong (its.toArray.size + its2.toArray.size)) = true := by
    rw [notLongL hsz, Bool.and_false]
    exact Bool.false_ne_true
  refine call_meets F.slot_list_extend ⟨_, e, rfl⟩ F.entry_list_extend (F.args_list_extend_2 _ _)
    (AutoSeq1.list_extend_list_list_0 l its.toArray n b its2.toArray n2 hlong (by rw [List.size_toArray]; omega) (by omega)) ⟨e, e2, ?_⟩
  refine ⟨.non, _, I.lset (its' := its ++ its2) hH e (by simp) (r.append r2) ?_, rfl, q⟩
  rw [List.length_append]
  omega

/-! ### list + list, list += list, list * int -/
def rCat : R2 := fun x y H Q => ∃ l b xs zs, x = .ref l ∧ y = .ref b ∧ H l = some (.lst xs) ∧ H b = some (.lst zs) ∧ xs.length + zs.length ≤ sizeLine ∧ ∀ p, H p = none → Q (.ref p) (upd H p (.lst (xs ++ zs)))
theorem op_cat : OpR X (binaryOp .Add) rCat := by
  intro pins s σ H x y v u Q I rx ry h
  obtain ⟨l, b, xs, zs, rfl, rfl, hH, hB, hz, q⟩ := h
  cases rx
  cases ry
  obtain ⟨z, its, n, r, hl, e⟩ := I.lstM hH
  obtain ⟨z2, its2, n2, r2, hl2, e2⟩ := I.lstM hB
  refine PySem.P.add_list e e2 ?_ (by rw [List.size_toArray, List.size_toArray]; omega)
  have ea : its.toArray ++ its2.toArray = (its ++ its2).toArray := by simp
  rw [ea]
  exact ⟨.ref _, _, I.lnew (t' := s.toks) (r.append r2) (by rw [List.length_append]; omega), rfl, q _ I.fresh⟩
/-- a list times an int (a negative one is nothing) -/
def rRep : R2 := fun x y H Q => ∃ l k xs, x = .ref l ∧ y = .int k ∧ H l = some (.lst xs) ∧ -(2 ^ 63) ≤ k ∧ k < 2 ^ 63 ∧ xs.length * k.toNat ≤ sizeLine ∧
  ∀ p, H p = none → Q (.ref p) (upd H p (.lst (List.replicate k.toNat xs).flatten))
theorem len_rep {α : Type} (xs : List α) (k : Nat) : (List.replicate k xs).flatten.length = k * xs.length := by
  induction k with
  | zero => simp
  | succ k ih => rw [List.replicate_succ, List.flatten_cons, List.length_append, ih, Nat.succ_mul, Nat.add_comm]
theorem op_rep : OpR X (binaryOp .Mult) rRep := by
  intro pins s σ H x y v u Q I rx ry h
  obtain ⟨l, k, xs, rfl, rfl, hH, h1, h2, hz, q⟩ := h
  cases rx
  obtain ⟨t, rfl⟩ := ry
  obtain ⟨z, its, n, r, hl, e⟩ := I.lstM hH
  have hlen : its.toArray.size * k.toNat ≤ sizeLine := by rw [List.size_toArray, ← hl]; exact hz
  have hcap : ¬ its.toArray.size * k.toNat > (2 ^ 63 - 1) / 8 := by
    have : (sizeLine : Nat) ≤ (2 ^ 63 - 1) / 8 := by decide
    omega
  have hfit : ¬ (!Builtin.List.listFitsIndex k) = true := by
    rw [fitsIndex_both h1 h2]
    exact Bool.false_ne_true
  have hlong : ¬ Builtin.List.listTooLong (its.toArray.size * k.toNat) = true := by
    rw [notLongL hlen]
    exact Bool.false_ne_true
  have hnew : List.foldl (fun x1 x2 => x1 ++ x2) #[] (List.replicate (if its.toArray.isEmpty = true then 0 else k.toNat) its.toArray) = (List.replicate k.toNat its).flatten.toArray := by
    have f0 : ∀ m : Nat, List.foldl (fun x1 x2 => x1 ++ x2) #[] (List.replicate m its.toArray) = (List.replicate m its).flatten.toArray := fun m => by
      have := foldl_rep its m []
      rw [List.nil_append] at this
      exact this
    rw [f0]
    cases its with
    | nil => simp
    | cons a r' => rw [if_neg (by simp)]
  refine wpAny_binaryOp_repeat_ref (T := "list") (U := "int") (by decide) ⟨_, e, rfl⟩ (fun s' => typeIs_int s' k t) noFill_list_mul F.fills_int_mul F.slot_int_rmul repeat_list F.slot_int_index.lookup
    (call_meets F.slot_int_rmul (typeIs_int s k t) F.entry_int_rmul (F.args_int_rmul_2 _ _) (int___rmul___int_list k t l its.toArray n)
      ⟨e, rfl, ⟨_, e, rfl⟩, call_meets F.slot_list_mul ⟨_, e, rfl⟩ F.entry_list_mul (F.args_list_mul_2 _ _) (AutoListH.list___mul___list_int_3 l its.toArray n k t hfit hcap hlong) ⟨e, ?_⟩⟩)
  rw [hnew]
  exact ⟨.ref _, _, I.lnew (t' := s.toks) (r.rep k.toNat) (by rw [len_rep, Nat.mul_comm]; exact hz), rfl, q _ I.fresh⟩

/-! ### del xs[i] -/
end

/-! ### xs[a:b] = ys -/
section
variable {prog : Program} {w : World} {A : Around} {E : Value → Shared → Prop} {s : Shared}
set_option maxRecDepth 100000 in
end

section
variable {X : Cx}
end
end L2

namespace L2
open PySem PySem.Spec PyProof.Rows

theorem Vals.ints : ∀ {ns : List Int} {us : List Value}, Vals (ns.map V.int) us → IntsAre us ns
  | [], us, h => by
    rw [List.map_nil] at h
    cases h
    exact IntsAre.nil
  | n :: ns, us, h => by
    rw [List.map_cons] at h
    cases h with
    | cons r t =>
      obtain ⟨k, rfl⟩ := r
      exact IntsAre.cons n k (Vals.ints t)
theorem Vals.ref1 {a : Addr} {us : List Value} (r : Vals [V.ref a] us) : us = [Value.ref a] := by
  cases r with
  | cons r t =>
    cases t
    cases r
    rfl
/-! ### the library's walks over a list of ints, kept objects alone -/
section
variable {prog : Program} {w : World} {A : Around} {E : Value → Shared → Prop} {s : Shared} {l : Addr} {its : List Value} {ns : List Int} {Q : Value → Shared → Prop}
theorem sum_raw (hh : A.handled = none) (hl : s.heap.IsList l its.toArray) (hi : IntsAre its ns)
    (h : ∀ h' tk t', (∀ b o, s.heap.get? b = some o → h'.get? b = some o) → Q (.int ns.sum t') { s with heap := h', toks := tk }) : wpAny (model prog w) A (call (.builtin "sum") [.ref l]) Q E s := by
  obtain ⟨xs, e⟩ := hi.allInts.items
  have hn : numsOf (intItems xs).toList = ns := by rw [← e]; exact hi.numsOf
  rw [nums_intItems] at hn
  rw [e] at hl
  refine PySem.sum_intListG hh hl fun h' tk t' hk => ?_
  have := h h' tk t' hk
  rw [preSum_eq, List.take_of_length_le (by simp), hn]; exact this
theorem max_raw (hh : A.handled = none) (hl : s.heap.IsList l its.toArray) (hi : IntsAre its ns) (hne : 0 < ns.length)
    (h : ∀ h' tk M t', (∀ b o, s.heap.get? b = some o → h'.get? b = some o) → M ∈ ns → (∀ a, a ∈ ns → a ≤ M) → Q (.int M t') { s with heap := h', toks := tk }) : wpAny (model prog w) A (call (.builtin "max") [.ref l]) Q E s := by
  obtain ⟨xs, e⟩ := hi.allInts.items
  have hn : numsOf (intItems xs).toList = ns := by rw [← e]; exact hi.numsOf
  rw [nums_intItems] at hn
  subst hn
  rw [e] at hl
  have hsz : 0 < xs.size := by simpa using hne
  refine PySem.max_intList hh hl hsz fun v h' tk hv hk => ?_
  obtain ⟨t, rfl⟩ := intItems_at hv
  obtain ⟨h1, h2⟩ := argBest_gt (numAt xs) (xs.size - 1)
  refine h h' tk _ t hk ?_ fun a ha => ?_
  · rw [numAt_eq]; exact PySem.getD_mem (by rw [List.length_map, Array.length_toList]; omega)
  · obtain ⟨j, hj, rfl⟩ := mem_getD ha
    rw [List.length_map, Array.length_toList] at hj
    rw [← numAt_eq]; exact h2 j (by omega)
theorem min_raw (hh : A.handled = none) (hl : s.heap.IsList l its.toArray) (hi : IntsAre its ns) (hne : 0 < ns.length)
    (h : ∀ h' tk M t', (∀ b o, s.heap.get? b = some o → h'.get? b = some o) → M ∈ ns → (∀ a, a ∈ ns → M ≤ a) → Q (.int M t') { s with heap := h', toks := tk }) : wpAny (model prog w) A (call (.builtin "min") [.ref l]) Q E s := by
  obtain ⟨xs, e⟩ := hi.allInts.items
  have hn : numsOf (intItems xs).toList = ns := by rw [← e]; exact hi.numsOf
  rw [nums_intItems] at hn
  subst hn
  rw [e] at hl
  have hsz : 0 < xs.size := by simpa using hne
  refine PySem.min_intList hh hl hsz fun v h' tk hv hk => ?_
  obtain ⟨t, rfl⟩ := intItems_at hv
  obtain ⟨h1, h2⟩ := argBest_lt (numAt xs) (xs.size - 1)
  refine h h' tk _ t hk ?_ fun a ha => ?_
  · rw [numAt_eq]; exact PySem.getD_mem (by rw [List.length_map, Array.length_toList]; omega)
  · obtain ⟨j, hj, rfl⟩ := mem_getD ha
    rw [List.length_map, Array.length_toList] at hj
    rw [← numAt_eq]; exact h2 j (by omega)
end

/-! ### the calls, by values (CallR of 03t; MtR of 06l) -/
section
variable {X : Cx}
/-- sum(xs) of a list of ints -/
def rSum (K : PySem.W.Frag) : List V → Hp → VK → Prop := fun vs H Q => ∃ (a : Addr) (ns : List Int), vs = [V.ref a] ∧ SqL K H a (ns.map V.int) ∧ Q (.int ns.sum) H
def rMin (K : PySem.W.Frag) : List V → Hp → VK → Prop := fun vs H Q => ∃ (a : Addr) (ns : List Int), vs = [V.ref a] ∧ SqL K H a (ns.map V.int) ∧ 0 < ns.length ∧ ∀ m, m ∈ ns → (∀ y, y ∈ ns → m ≤ y) → Q (.int m) H
theorem cr_sum (hc : X.calm = true) : CallR X (.builtin "sum") (rSum X.K) := by
  intro pins s σ H vs us Q I r h
  obtain ⟨a, ns, rfl, hs, q⟩ := h
  obtain ⟨its, rv, hl, _⟩ := I.list hs
  rw [Vals.ref1 r]
  exact sum_raw (I.ok.hd hc) hl.isList rv.ints fun h' tk t' hk => ⟨.int _, H, I.kept hk, ⟨_, rfl⟩, q⟩
theorem cr_min (hc : X.calm = true) : CallR X (.builtin "min") (rMin X.K) := by
  intro pins s σ H vs us Q I r h
  obtain ⟨a, ns, rfl, hs, hne, q⟩ := h
  obtain ⟨its, rv, hl, _⟩ := I.list hs
  rw [Vals.ref1 r]
  exact min_raw (I.ok.hd hc) hl.isList rv.ints hne fun h' tk m t' hk h1 h2 => ⟨.int _, H, I.kept hk, ⟨_, rfl⟩, q m h1 h2⟩

/-! sorted, sort (fewer than 64 items: the library's own bound) -/
end

/-! ### list.index, flat items -/
section
variable {X : Cx}
def rIndex (K : PySem.W.Frag) : V → List V → Hp → VK → Prop := fun x xs H Q => ∃ (a : Addr) (ys : List V) (y : V) (j : Nat) (z : V), x = V.ref a ∧ xs = [y] ∧ SqL K H a ys ∧ flatV y = true ∧ ys.all flatV = true ∧ ys[j]? = some z ∧ eqV z y = true ∧
  (∀ (m : Nat) (z' : V), m < j → ys[m]? = some z' → eqV z' y = false) ∧ Q (.int (j : Nat)) H
theorem flat_at {ys : List V} (f : ys.all flatV = true) {j : Nat} {z : V} (h : ys[j]? = some z) : flatV z = true := List.all_eq_true.mp f z (List.mem_of_getElem? h)
theorem mt_index : MtR X "list.index" (rIndex X.K) := by
  intro pins s σ H x xs v us Q I rx rxs h
  obtain ⟨a, ys, y, j, z, rfl, rfl, hs, fy, fys, hz, hzj, hno, q⟩ := h
  cases rx
  cases rxs with
  | cons ry rt =>
    rename_i uy ut
    cases rt
    obtain ⟨its, rv, ⟨⟨cls, dd, data, sl⟩, n, ho, hc, hdn, hd⟩, hlen⟩ := I.list hs
    simp only at hc hd
    subst hc hd
    obtain ⟨u, hu, ru⟩ := rv.get hz
    obtain ⟨hjl, hje⟩ := List.getElem?_eq_some_iff.mp hu
    have hvl := rv.length
    have hj : j < its.toArray.size := by simpa using hjl
    have hsl := sizeLine_eq
    refine call_meets PySem.F.slot_list_index ⟨_, ho, rfl⟩ PySem.F.entry_list_index (PySem.F.args_list_index_2 _ _)
      (SeqAt.list_indexAt a its.toArray n dd sl uy (eqU y) j hj (by omega) ?_ ?_) ⟨ho, fun u' hu' => mem_eqAt ry fy rv fys u' (by simpa using hu'), ?_⟩
    · have e1 : its.toArray[j] = u := by simpa using hje
      rw [e1, eqU_of ru (flat_at fys hz)]
      exact hzj
    · intro m hm hmj
      have hml : m < its.length := by simpa using hm
      have hmy : m < ys.length := by omega
      have hy' : ys[m]? = some ys[m] := List.getElem?_eq_getElem hmy
      obtain ⟨u2, hu2, ru2⟩ := rv.get hy'
      obtain ⟨_, hme⟩ := List.getElem?_eq_some_iff.mp hu2
      have e1 : its.toArray[m] = u2 := by simpa using hme
      rw [e1, eqU_of ru2 (flat_at fys hy')]
      exact hno m _ hmj hy'
    · exact ⟨.int (j : Nat), H, I.tok _, ⟨_, rfl⟩, q⟩
end

/-! ### type(x) of an own instance; is, is not of a module's class -/
section
variable {X : Cx}
end

/-! ### any(xs), all(xs) of a list of bools -/
section
variable {X : Cx}
end

/-! ### == and != of data at any depth: none, bools, ints, texts, lists, tuples -/
mutual
inductive Dp (K : PySem.W.Frag) (H : Hp) : V → PyData → Prop
  | non : Dp K H .non .none
  | bl (b : Bool) : Dp K H (.bl b) (.bool b)
  | int (i : Int) : Dp K H (.int i) (.int i)
  | str (x : Str) : Dp K H (.str x) (.str x)
  | lst {a : Addr} {xs : List V} {ds : List PyData} : SqL K H a xs → DpAll K H xs ds → Dp K H (.ref a) (.list ds)
  | tup {a : Addr} {xs : List V} {ds : List PyData} : SqT K H a xs → DpAll K H xs ds → Dp K H (.ref a) (.tuple ds)
inductive DpAll (K : PySem.W.Frag) (H : Hp) : List V → List PyData → Prop
  | nil : DpAll K H [] []
  | cons {v : V} {vs : List V} {d : PyData} {ds : List PyData} : Dp K H v d → DpAll K H vs ds → DpAll K H (v :: vs) (d :: ds)
end
section
variable {X : Cx} {pins : List (Addr × Obj)} {σ : St} {H : Hp} {s : Shared}
mutual
theorem Dp.reads (I : Inv X pins σ H s) : ∀ (d : PyData) (v : V) (u : Value), Dp X.K H v d → RelV v u → ∃ as, Reads s.heap u d as
  | .none, _, _, h, r => by
    cases h
    cases r
    exact ⟨_, Reads.none⟩
  | .bool b, _, _, h, r => by
    cases h
    cases r
    exact ⟨_, Reads.bool b⟩
  | .int i, _, _, h, r => by
    cases h
    obtain ⟨t, rfl⟩ := r
    exact ⟨_, Reads.int i t⟩
  | .str x, _, _, h, r => by
    cases h
    obtain ⟨t, rfl⟩ := r
    exact ⟨_, Reads.str x t⟩
  | .list ds, _, _, h, r => by
    cases h with
    | lst hs ha =>
      cases r
      obtain ⟨its, rv, ⟨o, n, ho, hc, _, hd⟩, _⟩ := I.list hs
      obtain ⟨as, hr⟩ := Dp.readsAll I ds _ its ha rv
      exact ⟨_, Reads.list ho hc hd hr⟩
  | .tuple ds, _, _, h, r => by
    cases h with
    | tup hs ha =>
      cases r
      obtain ⟨its, rv, ⟨o, ho, hc, n, hd⟩, _⟩ := I.tuple hs
      obtain ⟨as, hr⟩ := Dp.readsAll I ds _ its ha rv
      exact ⟨_, Reads.tuple ho hc hd hr⟩
  | .dict _, _, _, h, _ => by cases h
theorem Dp.readsAll (I : Inv X pins σ H s) : ∀ (ds : List PyData) (vs : List V) (us : List Value), DpAll X.K H vs ds → Vals vs us → ∃ as, ReadsAll s.heap us ds as
  | [], _, _, h, r => by
    cases h
    cases r
    exact ⟨_, ReadsAll.nil⟩
  | d :: ds, _, _, h, r => by
    cases h with
    | cons h1 h2 =>
      cases r with
      | cons r1 r2 =>
        obtain ⟨as, q1⟩ := Dp.reads I d _ _ h1 r1
        obtain ⟨bs, q2⟩ := Dp.readsAll I ds _ _ h2 r2
        exact ⟨_, ReadsAll.cons q1 q2⟩
end
end
section
variable {X : Cx}
end
end L2

namespace L2
open PySem PySem.Spec PyProof.Rows
abbrev CellAt (h : Heap) (c : Addr) (v : Option Value) : Prop := h.IsCell c v
def relS (scope sc : Scope) : Scope :=
  { scope with names := scope.names.map fun (n, k) => if (k == .free && sc.kind == .function && sc.names.lookup n == some .cell) then (n, .cell) else (n, k) }

def cloFrom (cells : List (Str × Addr)) : List (Str × NameKind) → List (Str × Addr) → List (Str × Addr)
  | [], acc => acc
  | (n, k) :: r, acc => if k == .free then cloFrom cells r ((n, (cells.lookup n).getD 0) :: acc) else cloFrom cells r acc

theorem closure_loop (env : Env) (f : Str × NameKind → List (Str × Addr) → Sem (ForInStep (List (Str × Addr))))
    (hf : ∀ n k c, f (n, k) c = if k == .free then (do let a ← cellOf env n; pure (.yield ((n, a) :: c))) else pure (.yield c)) :
    ∀ (names : List (Str × NameKind)) (acc : List (Str × Addr)), (∀ y ∈ names, y.2 = .free → ∃ c, env.cells.lookup y.1 = some c) → forIn names acc f = pure (cloFrom env.cells names acc)
  | [], acc, _ => by rw [List.forIn_nil]; rfl
  | (n, k) :: r, acc, h => by
    rw [List.forIn_cons, hf]
    have ih := fun acc => closure_loop env f hf r acc fun y hy => h y (List.mem_cons_of_mem _ hy)
    unfold cloFrom
    by_cases hk : (k == NameKind.free) = true
    · rw [if_pos hk, if_pos hk]
      obtain ⟨c, hc⟩ := h (n, k) List.mem_cons_self (by simpa using hk)
      have e : cellOf env n = pure c := by unfold cellOf; rw [hc]
      rw [e]
      have e2 : (env.cells.lookup n).getD 0 = c := by rw [hc]; rfl
      rw [e2]
      exact ih _
    · rw [if_neg hk, if_neg hk]
      exact ih _
theorem closure_ok {scope : Scope} {env : Env} (h : ∀ y ∈ scope.names, y.2 = .free → ∃ c, env.cells.lookup y.1 = some c) : closureFor scope env = pure (cloFrom env.cells scope.names []) := by
  simp only [closureFor]
  rw [closure_loop env _ (fun n k c => rfl) scope.names [] h]
  rfl

theorem mem_lookup {α : Type} : ∀ {l : List (Str × α)} {n : Str} {c : α}, (n, c) ∈ l → ∃ c', l.lookup n = some c'
  | (k, v) :: r, n, c, h => by
    rw [List.lookup_cons]
    cases hb : n == k with
    | true => exact ⟨_, rfl⟩
    | false =>
      rcases List.mem_cons.mp h with e | h
      · cases e; simp at hb
      · exact mem_lookup h

theorem cloFrom_mem {cells : List (Str × Addr)} : ∀ {names : List (Str × NameKind)} {acc : List (Str × Addr)} {n : Str} {c : Addr}, (n, c) ∈ cloFrom cells names acc → (n, c) ∈ acc ∨ ((n, .free) ∈ names ∧ c = (cells.lookup n).getD 0)
  | [], _, _, _, h => .inl h
  | (m, k) :: r, acc, n, c, h => by
    unfold cloFrom at h
    split at h
    · rename_i hk
      have hk : k = .free := by simpa using hk
      rcases cloFrom_mem h with h | ⟨h1, h2⟩
      · rcases List.mem_cons.mp h with e | h
        · cases e; exact .inr ⟨hk ▸ List.mem_cons_self, rfl⟩
        · exact .inl h
      · exact .inr ⟨List.mem_cons_of_mem _ h1, h2⟩
    · rcases cloFrom_mem h with h | ⟨h1, h2⟩
      · exact .inl h
      · exact .inr ⟨List.mem_cons_of_mem _ h1, h2⟩
theorem cloFrom_acc {cells : List (Str × Addr)} : ∀ {names : List (Str × NameKind)} {acc : List (Str × Addr)} {p : Str × Addr}, p ∈ acc → p ∈ cloFrom cells names acc
  | [], _, _, h => h
  | (m, k) :: r, acc, p, h => by
    unfold cloFrom
    split
    · exact cloFrom_acc (List.mem_cons_of_mem _ h)
    · exact cloFrom_acc h
theorem cloFrom_has {cells : List (Str × Addr)} : ∀ {names : List (Str × NameKind)} {acc : List (Str × Addr)} {n : Str}, (n, .free) ∈ names → (n, (cells.lookup n).getD 0) ∈ cloFrom cells names acc
  | (m, k) :: r, acc, n, h => by
    unfold cloFrom
    rcases List.mem_cons.mp h with e | h
    · cases e
      exact cloFrom_acc List.mem_cons_self
    · split
      · exact cloFrom_has h
      · exact cloFrom_has h

theorem cells_mem : ∀ {names : List (Str × NameKind)} {h : Heap} {acc : List (Str × Addr)} {x : Str} {c : Addr}, (x, c) ∈ cellsFrom h.objs.size names acc →
    (x, c) ∈ acc ∨ ((x, .cell) ∈ names ∧ h.objs.size ≤ c ∧ CellAt (pushCells h names) c none)
  | [], _, _, _, _, h => .inl h
  | (n, k) :: r, h, acc, x, c, hm => by
    unfold cellsFrom at hm
    unfold pushCells
    split at hm
    · rename_i hk
      rw [if_pos hk]
      have hk : k = .cell := by simpa using hk
      rw [← Heap.size_push h { cls := .type "cell", data := .cell none }] at hm
      rcases cells_mem hm with hm | ⟨h1, h2, h3⟩
      · rcases List.mem_cons.mp hm with e | hm
        · cases e
          exact .inr ⟨hk ▸ List.mem_cons_self, Nat.le_refl _, _, pushCells_keeps r _ _ _ (Heap.get?_push_size _ rfl), rfl⟩
        · exact .inl hm
      · rw [Heap.size_push] at h2
        exact .inr ⟨List.mem_cons_of_mem _ h1, Nat.le_of_succ_le h2, h3⟩
    · rename_i hk
      rw [if_neg hk]
      rcases cells_mem hm with hm | ⟨h1, h2, h3⟩
      · exact .inl hm
      · exact .inr ⟨List.mem_cons_of_mem _ h1, h2, h3⟩
theorem cells_acc : ∀ {names : List (Str × NameKind)} {n : Nat} {acc : List (Str × Addr)} {p : Str × Addr}, p ∈ acc → p ∈ cellsFrom n names acc
  | [], _, _, _, h => h
  | (m, k) :: r, n, acc, p, h => by
    unfold cellsFrom
    split
    · exact cells_acc (List.mem_cons_of_mem _ h)
    · exact cells_acc h
theorem cells_has : ∀ {names : List (Str × NameKind)} {n : Nat} {acc : List (Str × Addr)} {x : Str}, (x, .cell) ∈ names → ∃ c, (x, c) ∈ cellsFrom n names acc
  | (m, k) :: r, n, acc, x, h => by
    unfold cellsFrom
    rcases List.mem_cons.mp h with e | h
    · cases e
      exact ⟨n, cells_acc List.mem_cons_self⟩
    · split
      · exact cells_has h
      · exact cells_has h
theorem cells_inj : ∀ {names : List (Str × NameKind)} {h : Heap} {acc : List (Str × Addr)} {x y : Str} {c : Addr}, (∀ p ∈ acc, p.2 < h.objs.size) → (∀ x y c, (x, c) ∈ acc → (y, c) ∈ acc → x = y) →
    (x, c) ∈ cellsFrom h.objs.size names acc → (y, c) ∈ cellsFrom h.objs.size names acc → x = y
  | [], _, _, _, _, _, _, hi, h1, h2 => hi _ _ _ h1 h2
  | (n, k) :: r, h, acc, x, y, c, hl, hi, h1, h2 => by
    unfold cellsFrom at h1 h2
    split at h1
    · rename_i hk
      rw [if_pos hk] at h2
      rw [← Heap.size_push h { cls := .type "cell", data := .cell none }] at h1 h2
      refine cells_inj (h := h.push _) (fun p hp => ?_) (fun x y c a b => ?_) h1 h2
      · rw [Heap.size_push]
        rcases List.mem_cons.mp hp with rfl | hp
        · exact Nat.lt_succ_self _
        · exact Nat.lt_succ_of_lt (hl p hp)
      · rcases List.mem_cons.mp a with e | a <;> rcases List.mem_cons.mp b with e' | b
        · cases e; cases e'; rfl
        · cases e; exact absurd (hl _ b) (Nat.lt_irrefl _)
        · cases e'; exact absurd (hl _ a) (Nat.lt_irrefl _)
        · exact hi _ _ _ a b
    · rename_i hk
      rw [if_neg hk] at h2
      exact cells_inj hl hi h1 h2

theorem newEnv_comp {M : Model} {A : Around} {E : Value → Shared → Prop} {s : Shared} {scope : Scope} {globals : Addr} {closure : List (Str × Addr)} {qual : Str} {func : Option Addr} {code : Value} {around : Env} {builtins : Addr} {Q : Env → Shared → Prop}
    (h : Q (newEnv scope s.heap.objs.size globals (cellsFrom (s.heap.objs.size + 1) scope.names closure) qual func code (some around) builtins)
      { s with heap := pushCells (s.heap.push { cls := .type "dict", data := .dict #[] }) scope.names }) :
    wpAny M A (newFunctionEnv scope globals closure [] qual func code (some around) builtins) Q E s := by
  simp only [newFunctionEnv, Option.isSome_some, if_true]
  refine wpAny_bind (wpAny_alloc ?_)
  refine wpAny_bind (wpAny_layCells _ (fun n k c => rfl) scope.names closure _ _ ?_)
  rw [show ({ s with heap := s.heap.push { cls := .type "dict", data := .dict #[] } } : Shared).heap.objs.size = s.heap.objs.size + 1 from Heap.size_push ..]
  rw [List.forIn_nil]
  exact wpAny_bind (wpAny_pure (wpAny_pure h))

/-- every name of the written scope, in the scope that runs -/
theorem lookup_relS {sc : Scope} : ∀ {names : List (Str × NameKind)} {x : Str} {k : NameKind},
    (names.map fun (n, k) => if (k == NameKind.free && sc.kind == .function && sc.names.lookup n == some .cell) then (n, NameKind.cell) else (n, k)).lookup x = some k →
    ∃ k', names.lookup x = some k' ∧ (k = k' ∨ (k' = .free ∧ k = .cell))
  | [], _, _, h => by simp at h
  | (n, k₀) :: r, x, k, h => by
    have ih := @lookup_relS sc r x k
    have h' : List.lookup x ((if (k₀ == NameKind.free && sc.kind == .function && sc.names.lookup n == some .cell) = true then (n, NameKind.cell) else (n, k₀)) :: (r.map _)) = some k := h
    cases hx : x == n with
    | true =>
      simp only [List.lookup_cons, hx]
      by_cases hc : (k₀ == NameKind.free && sc.kind == .function && sc.names.lookup n == some .cell) = true
      · rw [if_pos hc] at h'
        simp only [List.lookup_cons, hx] at h'
        cases h'
        simp only [Bool.and_eq_true, beq_iff_eq] at hc
        exact ⟨k₀, rfl, .inr ⟨hc.1.1, rfl⟩⟩
      · rw [if_neg hc] at h'
        simp only [List.lookup_cons, hx] at h'
        cases h'
        exact ⟨_, rfl, .inl rfl⟩
    | false =>
      simp only [List.lookup_cons, hx]
      by_cases hc : (k₀ == NameKind.free && sc.kind == .function && sc.names.lookup n == some .cell) = true
      · rw [if_pos hc] at h'
        simp only [List.lookup_cons, hx] at h'
        exact ih h'
      · rw [if_neg hc] at h'
        simp only [List.lookup_cons, hx] at h'
        exact ih h'
/-- the names of a comprehension's block: its own (with their places in N), or captured -/
structure BlkOk (N : List Str) (sc scope : Scope) (own : List (Str × Nat)) : Prop where
  kind : scope.kind = .function
  uniq : ∀ y ∈ scope.names, scope.names.lookup y.1 = some y.2
  ix : ∀ p ∈ own, N[p.2]? = some p.1
  free : ∀ y ∈ scope.names, y.2 = .free → sc.names.lookup y.1 = some .cell ∨ sc.names.lookup y.1 = some .free
  own : ∀ y ∈ scope.names, y.2 = .local ∨ y.2 = .cell → y.1 ∈ own.map (·.1) ∨ y.1 ∉ N
/-- the slots of the block's own names forgotten -/
def wipe (σ : St) : List Nat → St
  | [] => σ
  | v :: vs => (wipe σ vs).set v none
theorem wipe_length (σ : St) : ∀ vs : List Nat, (wipe σ vs).length = σ.length
  | [] => rfl
  | v :: vs => by unfold wipe; rw [List.length_set, wipe_length σ vs]
theorem wipe_some {σ : St} {i : Nat} {x : V} : ∀ {vs : List Nat}, (wipe σ vs)[i]? = some (some x) → σ[i]? = some (some x) ∧ i ∉ vs
  | [], h => ⟨h, by simp⟩
  | v :: vs, h => by
    unfold wipe at h
    by_cases hi : v = i
    · subst hi
      by_cases hv : v < (wipe σ vs).length
      · rw [List.getElem?_set_self hv] at h; cases h
      · rw [List.getElem?_eq_none (by simpa using hv)] at h; cases h
    · rw [List.getElem?_set_ne hi] at h
      obtain ⟨h1, h2⟩ := wipe_some h
      exact ⟨h1, by simp only [List.mem_cons, not_or]; exact ⟨fun e => hi e.symm, h2⟩⟩

/-- the context of a block that starts at s, its iterator's objects at fp -/
abbrev Cx.blk (X : Cx) (s : Shared) (H : Hp) (scope : Scope) (cenv : Env) (fp : List Addr) : Cx := { X with s_0 := s, H_0 := H, env := cenv, outer := X.stack, ex := fp, fn := fun x => scope.names.lookup x == some .cell, pn := [], xe := fun _ _ => False }
section
variable {X : Cx} {pins : List (Addr × Obj)} {σ : St} {H : Hp} {s : Shared}
theorem block_start {scope : Scope} {own : List (Str × Nat)} {fp : List Addr} (I : Inv X pins σ H s) (ok : BlkOk X.N X.env.scope scope own) (hN : X.N.Nodup) (hfp : ∀ b ∈ fp, FpOk X pins H b ∧ b < s.heap.objs.size) :
    Inv (X.blk s H scope (compEnvC scope (cellsFrom (s.heap.objs.size + 1) scope.names (cloFrom X.env.cells scope.names [])) s.heap.objs.size X.env) fp) [] (wipe σ (own.map (·.2))) H { s with heap := pushCells (s.heap.push { cls := .type "dict", data := .dict #[] }) scope.names } := by
  have hfree : ∀ y ∈ scope.names, y.2 = .free → ∃ c, X.env.cells.lookup y.1 = some c := fun y hy e => by
    rcases ok.free y hy e with k | k
    · exact I.ok.has _ (.inl k)
    · exact I.ok.has _ (.inr k)
  generalize hcenv : compEnvC scope (cellsFrom (s.heap.objs.size + 1) scope.names (cloFrom X.env.cells scope.names [])) s.heap.objs.size X.env = cenv
  have kp : ∀ b o, s.heap.get? b = some o → (pushCells (s.heap.push { cls := .type "dict", data := .dict #[] }) scope.names).get? b = some o := fun b o e => pushCells_keeps _ _ _ _ (Heap.get?_push_of_some _ e)
  have hL : cenv.locals = s.heap.objs.size := by rw [← hcenv]; rfl
  have hcl : cenv.cells = cellsFrom (s.heap.objs.size + 1) scope.names (cloFrom X.env.cells scope.names []) := by rw [← hcenv]; rfl
  have hsc : cenv.scope = relS scope X.env.scope := by rw [← hcenv]; rfl
  rw [← Heap.size_push s.heap { cls := .type "dict", data := .dict #[] }] at hcl
  have cm : ∀ {y c}, (y, c) ∈ cloFrom X.env.cells scope.names [] → X.env.cells.lookup y = some c ∧ c < s.heap.objs.size := fun {y c} hm => by
    rcases cloFrom_mem hm with hm | ⟨h1, rfl⟩
    · cases hm
    · obtain ⟨c, hc⟩ := hfree _ h1 rfl
      rw [hc]
      obtain ⟨w, z⟩ := I.cell _ _ hc
      exact ⟨rfl, z.lt⟩
  have mem : ∀ {y c}, cenv.cells.lookup y = some c → (X.env.cells.lookup y = some c ∧ c < s.heap.objs.size) ∨ (s.heap.objs.size + 1 ≤ c ∧ CellAt (pushCells (s.heap.push { cls := .type "dict", data := .dict #[] }) scope.names) c none) := fun {y c} e => by
    rw [hcl] at e
    rcases cells_mem (PySem.mem_of_lookup e) with hm | ⟨_, h2, h3⟩
    · exact .inl (cm hm)
    · rw [Heap.size_push] at h2; exact .inr ⟨h2, h3⟩
  have look : ∀ {y}, scope.names.lookup y = some .free → ∃ c, cenv.cells.lookup y = some c ∧ X.env.cells.lookup y = some c := fun {y} hl => by
    have hy : (y, NameKind.free) ∈ scope.names := PySem.mem_of_lookup hl
    obtain ⟨c', e'⟩ := mem_lookup (cells_acc (names := scope.names) (n := (s.heap.push { cls := .type "dict", data := .dict #[] }).objs.size) (cloFrom_has (cells := X.env.cells) (acc := []) hy))
    rw [← hcl] at e'
    refine ⟨c', e', ?_⟩
    rw [hcl] at e'
    rcases cells_mem (PySem.mem_of_lookup e') with hm | ⟨h1, _, _⟩
    · exact (cm hm).1
    · have := ok.uniq _ h1
      rw [hl] at this; cases this
  have okB : (X.blk s H scope cenv fp).Ok := by
    refine ⟨I.ok.mod, by show cenv.scope.kind = _; rw [hsc]; exact ok.kind, by show cenv.globals = _; rw [← hcenv]; exact I.ok.glob, by show cenv.builtins = _; rw [← hcenv]; exact I.ok.blt, by show s.heap.objs.size ≤ cenv.locals; rw [hL]; exact Nat.le_refl _,
      fun y z c e1 e2 => ?_, fun y hy => ?_, fun y c z e => ?_, I.ok.hd, I.ok.frames, .inl rfl, fun b hb => ⟨?_, fun y c e z => ?_⟩, I.bs, Nat.le_trans I.ok.bsz I.sz, fun b o e hb => ?_, fun b hb z => ?_, I.stack, I.stkFree⟩
    · have e1 : cenv.cells.lookup y = some c := e1
      have e2 : cenv.cells.lookup z = some c := e2
      rw [hcl] at e1 e2
      refine cells_inj (fun p hp => ?_) (fun y z c a b => I.ok.inj y z c (cm a).1 (cm b).1) (PySem.mem_of_lookup e1) (PySem.mem_of_lookup e2)
      rw [Heap.size_push]
      exact Nat.lt_succ_of_lt (cm (y := p.1) (c := p.2) hp).2
    · show ∃ c, cenv.cells.lookup y = some c
      have key : ∀ k, cenv.kindOf y = some k → (k = .cell ∨ k = .free) → ∃ c, cenv.cells.lookup y = some c := fun k hk hk' => by
        unfold Env.kindOf at hk
        rw [hsc] at hk
        obtain ⟨k', e, r⟩ := lookup_relS hk
        have : k' = .cell ∨ k' = .free := by
          rcases r with rfl | ⟨rfl, _⟩
          · exact hk'
          · exact .inr rfl
        rcases this with rfl | rfl
        · obtain ⟨c, hm⟩ := cells_has (n := (s.heap.push { cls := .type "dict", data := .dict #[] }).objs.size) (acc := cloFrom X.env.cells scope.names []) (PySem.mem_of_lookup e)
          obtain ⟨c', e'⟩ := mem_lookup hm
          exact ⟨c', by rw [hcl]; exact e'⟩
        · obtain ⟨c, h1, _⟩ := look e
          exact ⟨c, h1⟩
      rcases hy with hy | hy
      · exact key _ hy (.inl rfl)
      · exact key _ hy (.inr rfl)
    · have z : (scope.names.lookup y == some NameKind.cell) = true := z
      have z : scope.names.lookup y = some .cell := by simpa using z
      have e : cenv.cells.lookup y = some c := e
      rw [hcl] at e
      rcases cells_mem (PySem.mem_of_lookup e) with hm | ⟨_, h2, _⟩
      · rcases cloFrom_mem hm with hm | ⟨h1, _⟩
        · cases hm
        · have q := ok.uniq _ h1
          rw [z] at q; cases q
      · rw [Heap.size_push] at h2
        exact Nat.le_of_succ_le h2
    · show b ≠ cenv.locals
      rw [hL]; exact Nat.ne_of_lt (hfp b hb).2
    · have e : cenv.cells.lookup y = some c := e
      rcases mem e with ⟨h1, _⟩ | ⟨h1, _⟩
      · exact (hfp b hb).1.2.2.2.2.1 y c h1 z
      · have h2 : s.heap.objs.size + 1 ≤ b := by rw [← z]; exact h1
        exact absurd (Nat.lt_of_lt_of_le (hfp b hb).2 (Nat.le_of_succ_le h2)) (Nat.lt_irrefl _)
    · rcases (hfp b hb).1.2.2.2.1 with z | z
      · exact I.ok.noex b o e z
      · exact absurd (Nat.lt_of_lt_of_le (Heap.lt_size e) (Nat.le_trans I.ok.bsz z)) (Nat.lt_irrefl _)
    · rcases List.mem_cons.mp (I.stkSub b z) with z | z
      · exact (hfp b hb).1.2.1 z
      · exact (hfp b hb).1.2.2.1 z
  refine ⟨okB, rfl, I.bare, Un.kept kp, ⟨fun _ => none, ?_, fun i y av e1 e2 e3 => ?_⟩, fun y c e => ?_, ?_, fun y c e => ?_, fun p hp => ?_, I.hok.kept kp, by rw [wipe_length]; exact I.len⟩
  · show Heap.Ns _ cenv.locals _
    rw [hL]
    exact Heap.Ns.keeps (Heap.Ns.new ..) fun b o e => pushCells_keeps _ _ _ _ e
  · obtain ⟨e2, hne⟩ := wipe_some e2
    have hfr : scope.names.lookup y = some .free ∧ (cenv.kindOf y = some .cell ∨ cenv.kindOf y = some .free) := by
      have key : ∀ k, cenv.scope.names.lookup y = some k → k = .local ∨ k = .cell ∨ k = .free → scope.names.lookup y = some .free ∧ (cenv.kindOf y = some .cell ∨ cenv.kindOf y = some .free) := fun k hk hk' => by
        have hk0 := hk
        rw [hsc] at hk
        obtain ⟨k', e, r⟩ := lookup_relS hk
        have no : ¬ (k' = .local ∨ k' = .cell) := fun hh => by
          rcases ok.own _ (PySem.mem_of_lookup e) hh with e' | e'
          · obtain ⟨p, hp, hpy⟩ := List.mem_map.mp e'
            have e3 := ok.ix p hp
            have : p.1 = y := hpy
            rw [this] at e3
            exact hne (List.mem_map.mpr ⟨p, hp, nodup_ix hN e3 e1⟩)
          · exact e' (List.mem_of_getElem? e1)
        rcases r with rfl | ⟨rfl, rfl⟩
        · rcases hk' with rfl | rfl | rfl
          · exact absurd (.inl rfl) no
          · exact absurd (.inr rfl) no
          · exact ⟨e, .inr hk0⟩
        · exact ⟨e, .inl hk0⟩
      have e3 : Vis cenv.scope y := e3
      rcases e3 with e3 | e3 | e3
      · exact key _ e3 (.inl rfl)
      · exact key _ e3 (.inr (.inl rfl))
      · exact key _ e3 (.inr (.inr rfl))
    obtain ⟨m, hn, hl⟩ := I.loc
    have hvis : Vis X.env.scope y := (ok.free _ (PySem.mem_of_lookup hfr.1) rfl).elim (fun k => .inr (.inl k)) (fun k => .inr (.inr k))
    obtain ⟨w, r, q⟩ := hl i y av e1 e2 hvis
    refine ⟨w, r, .inr ⟨hfr.2, ?_⟩⟩
    obtain ⟨c, h1, h2⟩ := look hfr.1
    rcases q with ⟨k, _⟩ | ⟨_, c', e', z⟩
    · have k : X.env.scope.names.lookup y = some .local := k
      rcases ok.free _ (PySem.mem_of_lookup hfr.1) rfl with k' | k' <;> rw [show X.env.scope.names.lookup y = _ from k'] at k <;> cases k
    · rw [h2] at e'; cases e'
      exact ⟨c, h1, z.keeps kp⟩
  · have e : cenv.cells.lookup y = some c := e
    rcases mem e with ⟨h1, _⟩ | ⟨_, z⟩
    · obtain ⟨w, z⟩ := I.cell y c h1
      exact ⟨w, z.keeps kp⟩
    · exact ⟨_, z⟩
  · show H cenv.locals = none
    rw [hL]; exact I.hok.fresh (Nat.le_refl _)
  · have e : cenv.cells.lookup y = some c := e
    rcases mem e with ⟨h1, _⟩ | ⟨h1, _⟩
    · exact I.freeC y c h1
    · exact I.hok.fresh (Nat.le_of_succ_le h1)
  · exact absurd (show p ∈ ([] : List (Addr × Obj)) ++ [] from hp) (by simp)

/-- an item appended to a tracked list -/
theorem app_ok {E : Value → Shared → Prop} {D : Addr} {xs : List V} {y : V} {v : Value} {Q : Value → Shared → Prop} (I : Inv X pins σ H s) (hD : H D = some (.lst xs)) (hz : xs.length < sizeLine) (r : RelV y v)
    (h : ∀ s', Inv X pins σ (upd H D (.lst (xs ++ [y]))) s' → Q .none s') : wpAny (model X.prog X.w) X.A (call (.builtin "list.append") [.ref D, v]) Q E s := by
  obtain ⟨hz', its, n, ri, e⟩ := I.hok D _ hD
  have hl := ri.length
  refine append_at (hsz := by rw [List.size_toArray]; omega) e fun h' sb ho' => ?_
  refine h { s with heap := h' } (I.write (t' := s.toks) (by rw [hD]; trivial) (.inl rfl) (fun b u hb q => (sb.2 b hb).trans q) ⟨_, ho'⟩ ⟨by rw [List.length_append]; exact hz, its ++ [v], n + 1, ri.append (.cons r .nil), ?_⟩)
  rw [ho']
  simp

/-- a clause's tests -/
def PTs (X : Cx) (ifs : List Expr) (t : TT) : Prop :=
  ∀ (pins : List (Addr × Obj)) (s : Shared) (σ : St) (H : Hp) (Q : Bool → Hp → Prop), Inv X pins σ H s → t σ H Q →
    wpAny (model X.prog X.w) X.A (forIn ifs true fun c r => if r = true then do let ok ← isTrue c X.env (eval c X.env); pure (ForInStep.yield ok) else pure (ForInStep.yield r)) (TP X pins σ Q) X.xe s
def tYes : TT := fun _ H Q => Q true H
theorem pts_nil : PTs X [] tYes := fun _ _ _ H _ I h => wpAny_tests_nil ⟨H, I, h⟩
theorem pts_one {c : Expr} {t : TT} (h : PT X c t) : PTs X [c] t := fun pins s σ H Q I hw => wpAny_tests_one (h pins s σ H Q I hw)
end

theorem thnF {α : Type} {t : Sem α} {Q Q' : α → Shared → Prop} {M : Model} {A : Around} {E : Value → Shared → Prop} {s : Shared} (h : wpAny M A t Q (fun _ _ => False) s) (hQ : ∀ a s, Q a s → Q' a s) : wpAny M A t Q' E s := wpAny_mono h hQ fun _ _ z => False.elim z

/-- the loop of a list comprehension's block, the target of any form (codeAny_compLoop_tests asks a target that no tuple goes to; statement and proof follow it, PyProof/CompMap.lean:41-61, with the step letOwnedTupleGo kept) -/
theorem compLoop_any {prog : Program} {w : World} {A : Around} {R : Result → Shared → Prop} {s : Shared} {elt target iter : Expr} {ifs : List Expr} {scope : Scope} {pos : Pos} {it acc : Value} {env : Env} (I : Nat → Shared → Prop)
    (turn : ∀ n s, I n s → wpAny (model prog w) A (pyNext it) (fun r s₁ => match r with
      | none => R (.ok .next) s₁
      | some v => wpAny (model prog w) A (letOwnedTupleGo target it v) (fun _ s₁' => wpAny (model prog w) A (assign target env v) (fun _ s₂ =>
          wpAny (model prog w) A (forIn ifs true fun c r => if r = true then do let ok ← isTrue c env (eval c env); pure (ForInStep.yield ok) else pure (ForInStep.yield r)) (fun ok s₃ =>
            if ok = true then wpAny (model prog w) A (eval elt env) (fun x s₄ =>
              wpAny (model prog w) A (call (.builtin "list.append") [acc, x]) (fun _ s₅ => ∃ m, m < n ∧ I m s₅) (notedBy (model prog w) A env fun e s' => R (.error e) s') s₄) (notedBy (model prog w) A env fun e s' => R (.error e) s') s₃
            else ∃ m, m < n ∧ I m s₃) (notedBy (model prog w) A env fun e s' => R (.error e) s') s₂) (notedBy (model prog w) A env fun e s' => R (.error e) s') s₁') (notedBy (model prog w) A env fun e s' => R (.error e) s') s₁) (notedBy (model prog w) A env fun e s' => R (.error e) s') s)
    (n : Nat) (h : I n s) :
    codeAny (model prog w) A (.compLoop (.ListComp elt [⟨target, iter, ifs, 0⟩] scope pos) 0 it acc env) R s := by
  refine codeAny_loop rfl I (fun n s hI => ?_) n h
  show wpAny _ A ((compTurn (.ListComp elt [⟨target, iter, ifs, 0⟩] scope pos) 0 it acc env).onRaise (fun x => do noteFrame x env; theTreesLotGoes x)) _ _ s
  refine wpAny_noted ?_
  rw [compTurn_list]
  refine wpAny_bind (wpAny_standAt (wpAny_bind (wpAny_mono (turn n s hI) (fun r s₁ h₁ => ?_) fun _ _ h' => h')))
  cases r with
  | none => exact wpAny_pure h₁
  | some v =>
    refine wpAny_bind (wpAny_mono h₁ (fun _ s₁' h₁' => ?_) fun _ _ h' => h')
    refine wpAny_bind (wpAny_mono h₁' (fun _ s₂ h₂ => wpAny_bind (wpAny_mono h₂ (fun ok s₃ h₃ => ?_) fun _ _ h' => h')) fun _ _ h' => h')
    cases ok with
    | false => exact wpAny_pure ⟨rfl, h₃⟩
    | true =>
      exact wpAny_bind (wpAny_bind (wpAny_mono h₃ (fun x s₄ h₄ => wpAny_bind (wpAny_mono h₄ (fun _ s₅ h₅ => wpAny_pure (wpAny_pure ⟨rfl, h₅⟩)) fun _ _ h' => h')) fun _ _ h' => h'))

section
variable {X : Cx}
/-- [elt for target in iter if ..]: D the new list; W by the turn and a measure, Nx what a turn is to reach -/
def tLc (wi : TI) (g : TG) (tt : TT) (te : TE) (vs : List Nat) : TE := fun σ H Q => wi σ H fun J H1 => ∀ D, H1 D = none → ∃ W : Nat → Nat → Hp → Prop, (∃ m, W 0 m (upd H1 D (.lst []))) ∧ ∀ i m H, W i m H →
  (J.stop i H ∧ Q (.ref D) H) ∨ (J.go i H ∧ ∃ Nx : Hp → Prop, (∀ H', Nx H' → ∃ m', m' < m ∧ W (i + 1) m' H') ∧ ∀ x H', J.yld i H x H' → g x (wipe σ vs) H' fun σ2 H2 => wipe σ2 vs = wipe σ vs ∧ tt σ2 H2 fun b H3 =>
    if b = true then te σ2 H3 fun y H4 => ∃ acc, H4 D = some (.lst acc) ∧ acc.length < sizeLine ∧ Nx (upd H4 D (.lst (acc ++ [y]))) else Nx H3)
theorem lc_core {pins : List (Addr × Obj)} {s : Shared} {σ : St} {H : Hp} {Q : VK} {elt tg iter : Expr} {ifs : List Expr} {scope : Scope} {own : List (Str × Nat)} {pos pos' : Pos} {wi : TI} {g : TG} {tt : TT} {te : TE} {use : Option (Value → Sem Unit)} {Qf : Value → Shared → Prop}
    (hc : X.calm = true) (hN : X.N.Nodup) (I : Inv X pins σ H s) (hi : PI X tg iter wi) (ok : BlkOk X.N X.env.scope scope own)
    (hg : ∀ (s : Shared) (H : Hp) (C : Addr) (cl : List (Str × Addr)) (fp : List Addr), PG (X.blk s H scope (compEnvC scope cl C X.env) fp) tg g) (ht : ∀ (s : Shared) (H : Hp) (C : Addr) (cl : List (Str × Addr)) (fp : List Addr), PTs (X.blk s H scope (compEnvC scope cl C X.env) fp) ifs tt)
    (he : ∀ (s : Shared) (H : Hp) (C : Addr) (cl : List (Str × Addr)) (fp : List Addr), PE (X.blk s H scope (compEnvC scope cl C X.env) fp) elt te) (hs : ∀ x, foldedSetIterable iter X.env x = pure x)
    (h : tLc wi g tt te (own.map (·.2)) σ H Q)
    (hRR : ∀ D C s' m H', Inv X pins σ H' s' → Q (.ref D) H' → s'.heap.Ns C m → FpOk X pins H' C → compPost (model X.prog X.w) X.A X.xe use Qf (.ref D) C (.ok .next) s') :
    wpAny (model X.prog X.w) X.A (comprehension (.ListComp elt [⟨tg, iter, ifs, 0⟩] scope pos) scope X.env pos' (newList []) false (eval iter X.env) use) Qf X.xe s := by
  have hfree : ∀ y ∈ scope.names, y.2 = .free → ∃ c, X.env.cells.lookup y.1 = some c := fun y hy e => by
    rcases ok.free y hy e with k | k
    · exact I.ok.has _ (.inl k)
    · exact I.ok.has _ (.inr k)
  refine wpAny_comprehension_free (use := use) rfl hs (closure_ok hfree) ok.kind (fun y hy e => by rw [ok.uniq y hy, e])
    (thn (hi pins s σ H _ I h) fun xv s1 hx => thn hx fun itv s2 h2 => ?_)
  obtain ⟨it, fp, tn, J, H2, e, I2, T, st2, f2, q⟩ := h2
  subst e
  refine wpAny_newObj_type (newEnv_comp ?_) (by show 0 ≤ sizeLine; decide)
  generalize hD : s2.heap.objs.size = D
  have hDn : H2 D = none := I2.hok.fresh (Nat.le_of_eq hD)
  obtain ⟨W, ⟨m0, w0⟩, turn⟩ := q D hDn
  -- the new list
  generalize hs3 : ({ s2 with heap := s2.heap.push { cls := .type "list", data := .seq ([] : List Value).toArray } } : Shared) = s3
  have I3 : Inv X pins σ (upd H2 D (.lst [])) s3 := by
    rw [← hs3]
    refine I2.laid (t' := s2.toks) (fun b o e => Heap.get?_push_of_some _ e) (Nat.le_of_eq hD) ⟨Nat.zero_le _, [], 0, .nil, ?_⟩
    rw [← hD]
    exact Heap.get?_push_size _ rfl
  have h3 : s3.heap = s2.heap.push { cls := .type "list", data := .seq ([] : List Value).toArray } := by rw [← hs3]
  have sz : ∀ b ∈ fp, b < s2.heap.objs.size := fun b hb => by
    obtain ⟨o, e, _⟩ := T.obj _ _ st2 b hb
    exact Heap.lt_size e
  have f3 : ∀ b ∈ fp, FpOk X pins (upd H2 D (.lst [])) b ∧ b < s3.heap.objs.size := fun b hb => by
    have hlt := sz b hb
    refine ⟨⟨?_, (f2 b hb).2⟩, by rw [h3, Heap.size_push]; exact Nat.lt_succ_of_lt hlt⟩
    rw [upd_ne (by rw [← hD]; exact Nat.ne_of_lt hlt)]
    exact (f2 b hb).1
  have st3 : tn 0 s3.heap := T.keep _ _ _ st2 fun b _ o e => by rw [h3]; exact Heap.get?_push_of_some _ e
  have I4 := block_start I3 ok hN f3
  have pg := hg s3 (upd H2 D (.lst [])) s3.heap.objs.size (cellsFrom (s3.heap.objs.size + 1) scope.names (cloFrom X.env.cells scope.names [])) fp
  have pt := ht s3 (upd H2 D (.lst [])) s3.heap.objs.size (cellsFrom (s3.heap.objs.size + 1) scope.names (cloFrom X.env.cells scope.names [])) fp
  have pe := he s3 (upd H2 D (.lst [])) s3.heap.objs.size (cellsFrom (s3.heap.objs.size + 1) scope.names (cloFrom X.env.cells scope.names [])) fp
  show codeAny _ _ (.compStart (.ListComp elt [⟨tg, iter, ifs, 0⟩] scope pos) 0 (.ref it) (.ref D) (compEnvC scope (cellsFrom (s3.heap.objs.size + 1) scope.names (cloFrom X.env.cells scope.names [])) s3.heap.objs.size X.env)) (compPost (model X.prog X.w) X.A X.xe use Qf (.ref D) s3.heap.objs.size) { s3 with heap := pushCells (s3.heap.push { cls := .type "dict", data := .dict #[] }) scope.names }
  have nfp : ∀ b ∈ fp, (upd H2 D (.lst [])) b = none := fun b hb => (f3 b hb).1.1
  generalize hce : compEnvC scope (cellsFrom (s3.heap.objs.size + 1) scope.names (cloFrom X.env.cells scope.names [])) s3.heap.objs.size X.env = ce at I4 pg pt pe ⊢
  have cL : ce.locals = s3.heap.objs.size := by subst hce; rfl
  generalize hH3 : upd H2 D (.lst []) = H3 at I3 I4 pg pt pe w0 nfp f3
  generalize hs4 : ({ s3 with heap := pushCells (s3.heap.push { cls := .type "dict", data := .dict #[] }) scope.names } : Shared) = s4 at I4 ⊢
  have st4 : tn 0 s4.heap := T.keep _ _ _ st3 fun b _ o e => by rw [← hs4]; exact pushCells_keeps _ _ _ _ (Heap.get?_push_of_some _ e)
  have stat : ∀ {σ' : St} {H' : Hp} {s' : Shared}, Inv (X.blk s3 H3 scope ce fp) [] σ' H' s' → (∀ b ∈ fp, H' b = none) → ∀ b ∈ fp, FpOk (X.blk s3 H3 scope ce fp) [] H' b := fun {σ' H' s'} I' hn b hb =>
    ⟨hn b hb, (I'.ok.exf b hb).1, I'.ok.exfs b hb, .inl hb, fun x c e => (I'.ok.exf b hb).2 x c e, fun p hp => absurd (show p ∈ ([] : List (Addr × Obj)) ++ [] from hp) (by simp)⟩
  have loop : codeAny (model X.prog X.w) X.A (.compLoop (.ListComp elt [⟨tg, iter, ifs, 0⟩] scope pos) 0 (.ref it) (.ref D) ce) (compPost (model X.prog X.w) X.A X.xe use Qf (.ref D) s3.heap.objs.size) s4 := by
    refine compLoop_any (fun n s' => ∃ i H', Inv (X.blk s3 H3 scope ce fp) [] (wipe σ (own.map (·.2))) H' s' ∧ tn i s'.heap ∧ (∀ b ∈ fp, H' b = none) ∧ W i n H') ?_ m0 ⟨0, H3, I4, st4, nfp, w0⟩
    rintro n s5 ⟨i, H5, I5, st5, n5, w5⟩
    rcases turn i n H5 w5 with ⟨stop, qq⟩ | ⟨go, Nx, hNx, step⟩
    · have td := T.done (X.blk s3 H3 scope ce fp) rfl rfl rfl hc i [] s5 _ H5 (fun _ _ => False) I5 (stat I5 n5) st5 stop
      refine thnF td fun r s6 ⟨hr, I6⟩ => ?_
      subst hr
      -- back in the def's context
      have I7 : Inv X pins σ H5 s6 := I3.call' (ch := fp) I6.os I6.base I6.hok I6.bare fun b hb => ⟨(f3 b hb).1.2.2.2.1, (f3 b hb).1.2.1, (f3 b hb).1.2.2.2.2.1, (f3 b hb).1.2.2.2.2.2⟩
      have nC : H5 s3.heap.objs.size = none := by
        have z : H5 ce.locals = none := I6.free
        rw [cL] at z
        exact z
      obtain ⟨m, hn, _⟩ := I6.loc
      have hn : s6.heap.Ns ce.locals m := hn
      rw [cL] at hn
      exact hRR D s3.heap.objs.size s6 m H5 I7 qq hn (I3.fpOk (Nat.le_refl _) nC)
    · have ti := T.item (X.blk s3 H3 scope ce fp) rfl rfl rfl hc i [] s5 _ H5 (fun _ _ => False) I5 (stat I5 n5) st5 go
      refine thnF ti fun r s6 ⟨u, hr, h6⟩ => ?_
      subst hr
      refine thnF h6 fun _ s7 ⟨x, H7, I7, r7, y7, st7, n7⟩ => ?_
      have I7' := I7.pinned (stat I7 n7) (T.obj _ _ st7)
      refine thnF (pg _ s7 _ H7 x u _ I7' r7 (step x H7 y7)) fun _ s8 ⟨σ8, H8, I8, hw8, q8⟩ => ?_
      refine thnF (pt _ s8 σ8 H8 _ I8 q8) fun b s9 ⟨H9, I9, q9⟩ => ?_
      -- the turn's end
      have fin : ∀ {s' : Shared} {H' : Hp}, Inv (X.blk s3 H3 scope ce fp) ([] ++ pinsAt fp s7.heap) σ8 H' s' → Nx H' → ∃ m, m < n ∧ ∃ i H', Inv (X.blk s3 H3 scope ce fp) [] (wipe σ (own.map (·.2))) H' s' ∧ tn i s'.heap ∧ (∀ b ∈ fp, H' b = none) ∧ W i m H' := fun {s' H'} I' nx => by
        obtain ⟨m', hm, w'⟩ := hNx H' nx
        have pin' : ∀ b ∈ fp, ∀ o, s7.heap.get? b = some o → s'.heap.get? b = some o ∧ H' b = none := fun b hb o e =>
          let z := I'.pin (b, o) (List.mem_append_right _ (List.mem_append_right _ (mem_pinsAt hb e)))
          ⟨z.1, z.2.1⟩
        have hl : (wipe σ (own.map (·.2))).length = σ8.length := by rw [← hw8, wipe_length]
        refine ⟨m', hm, i + 1, H', (I'.unpinned (pins := [])).weak hl (fun j v e => ?_), T.keep _ _ _ st7 fun b hb o e => (pin' b hb o e).1, fun b hb => ?_, w'⟩
        · rw [← hw8] at e
          exact (wipe_some e).1
        · obtain ⟨o, e, _⟩ := T.obj _ _ st7 b hb
          exact (pin' b hb o e).2
      cases b with
      | false =>
        simp only [Bool.false_eq_true, if_false] at q9 ⊢
        exact fin I9 q9
      | true =>
        simp only [if_true] at q9 ⊢
        refine thnF (pe _ s9 σ8 H9 _ I9 q9) fun z s10 ⟨yv, H10, I10, r10, acc, hD10, hz10, nx⟩ => ?_
        exact app_ok (X := X.blk s3 H3 scope ce fp) I10 hD10 hz10 r10 fun s11 I11 => fin I11 nx
  exact codeAny_compStart_list loop (T.self X.A 0 _ _ _ st4 loop)
/-- as a value -/
theorem pe_lc {elt tg iter : Expr} {ifs : List Expr} {scope : Scope} {own : List (Str × Nat)} {pos : Pos} {wi : TI} {g : TG} {tt : TT} {te : TE} (hc : X.calm = true) (hN : X.N.Nodup) (hi : PI X tg iter wi) (ok : BlkOk X.N X.env.scope scope own)
    (hg : ∀ (s : Shared) (H : Hp) (C : Addr) (cl : List (Str × Addr)) (fp : List Addr), PG (X.blk s H scope (compEnvC scope cl C X.env) fp) tg g) (ht : ∀ (s : Shared) (H : Hp) (C : Addr) (cl : List (Str × Addr)) (fp : List Addr), PTs (X.blk s H scope (compEnvC scope cl C X.env) fp) ifs tt)
    (he : ∀ (s : Shared) (H : Hp) (C : Addr) (cl : List (Str × Addr)) (fp : List Addr), PE (X.blk s H scope (compEnvC scope cl C X.env) fp) elt te) (hs : ∀ x, foldedSetIterable iter X.env x = pure x := by intro _; rfl) :
    PE X (.ListComp elt [⟨tg, iter, ifs, 0⟩] scope pos) (tLc wi g tt te (own.map (·.2))) := by
  intro pins s σ H Q I h
  rw [eval_ListComp]
  refine lc_core hc hN I hi ok hg ht he hs h fun D C s' m H' I' q hn f => ⟨m, hn, fun h'' sb => ?_⟩
  obtain ⟨f0, f1, f2, f3, f4, f5⟩ := f
  exact ⟨.ref D, H', I'.turned (t' := s'.toks) (fun b o hb e => (sb.2 b hb).trans e) f0 f1 f3 f4 f5, rfl, q⟩
/-- name = [..] on one line, the name a local -/
theorem ps_setLc {i : Nat} {y : Str} {py : Pos} {elt tg iter : Expr} {ifs : List Expr} {scope : Scope} {own : List (Str × Nat)} {pos spos : Pos} {wi : TI} {g : TG} {tt : TT} {te : TE} (hc : X.calm = true) (hN : X.N.Nodup) (hy : X.N[i]? = some y) (hyl : X.env.scope.names.lookup y = some .local)
    (hsw : swapsWith (.ListComp elt [⟨tg, iter, ifs, 0⟩] scope pos) (some (.Name y py)) spos.line X.env = pure true) (hi : PI X tg iter wi) (ok : BlkOk X.N X.env.scope scope own)
    (hg : ∀ (s : Shared) (H : Hp) (C : Addr) (cl : List (Str × Addr)) (fp : List Addr), PG (X.blk s H scope (compEnvC scope cl C X.env) fp) tg g) (ht : ∀ (s : Shared) (H : Hp) (C : Addr) (cl : List (Str × Addr)) (fp : List Addr), PTs (X.blk s H scope (compEnvC scope cl C X.env) fp) ifs tt)
    (he : ∀ (s : Shared) (H : Hp) (C : Addr) (cl : List (Str × Addr)) (fp : List Addr), PE (X.blk s H scope (compEnvC scope cl C X.env) fp) elt te) (hs : ∀ x, foldedSetIterable iter X.env x = pure x := by intro _; rfl) :
    PS X (.Assign [.Name y py] (.ListComp elt [⟨tg, iter, ifs, 0⟩] scope pos) spos) (tAsg (tLc wi g tt te (own.map (·.2))) (gName i)) := by
  intro pins s σ H D I h
  rw [exec_Assign_Name_used _ _ _ _ hsw]
  refine wpAny_bind (wpAny_standAt (wpAny_bind ?_))
  show wpAny _ X.A (do let _ ← comprehension (.ListComp elt [⟨tg, iter, ifs, 0⟩] scope pos) scope X.env (firstIterPos [⟨tg, iter, ifs, 0⟩] pos) (newList []) false (eval iter X.env) (some (assign (.Name y py) X.env))) _ _ s
  have h : tLc wi g tt te (own.map (·.2)) σ H (fun x H1 => gName i x σ H1 D.nx) := h
  refine wpAny_bind (thn (lc_core (Qf := fun _ s' => SP X pins D .next s') hc hN I hi ok hg ht he hs h fun L C s' m H' I' q hn f => ?_) fun _ s' hq => wpAny_pure (wpAny_pure hq))
  show wpAny _ _ (assign (.Name y py) X.env (.ref L)) _ _ _
  refine wpAny_assign_Name (store_ok2 (v := V.ref L) I' hN hy (.inl hyl) rfl (fun s2 I2 ⟨a, sb, ha⟩ => ?_) (.inr hyl))
  obtain ⟨f0, f1, f2, f3, f4, f5⟩ := f
  have haC : C ≠ a := by
    rcases ha with z | z
    · rw [z]; exact f1
    · exact fun e => f4 y a z e.symm
  refine ⟨m, hn.sameBut sb haC, fun h3 sb3 => ?_⟩
  exact ⟨_, H', I2.turned (t' := s2.toks) (fun b o hb e => (sb3.2 b hb).trans e) f0 f1 f3 f4 f5, q⟩
theorem sw_true {elt : Expr} {gs : List Comprehension} {scope : Scope} {pos py : Pos} {y : Str} {l : Nat} {env : Env} (hk : env.scope.kind = .function) (hy : env.scope.names.lookup y = some .local) (hl : (py.line == pos.line) = true)
    (ha : (scope.names.any fun (n, k) => n == y && (k == .local || k == .cell)) = false) : swapsWith (.ListComp elt gs scope pos) (some (.Name y py)) l env = pure true := by
  have ky : env.kindOf y = some .local := hy
  have hb : env.blockKind = .function := by unfold Env.blockKind; rw [hk]; rfl
  unfold swapsWith
  simp only [hb, ky, ha, Expr.pos, hl]
  rfl
end

/-! ### the forms one uses -/
/-- over a range: Pv by the turn and the heap (the new list at D within) -/
theorem lc_range {lo : Int} {n : Nat} {g : TG} {tt : TT} {te : TE} {vs : List Nat} {σ : St} {H1 : Hp} {D : Addr} {Qd : Hp → Prop} (Pv : Nat → Hp → Prop) (h0 : Pv 0 (upd H1 D (.lst [])))
    (hs : ∀ i H, i < n → Pv i H → g (.int (lo + i)) (wipe σ vs) H fun σ2 H2 => wipe σ2 vs = wipe σ vs ∧ tt σ2 H2 fun b H3 =>
      if b = true then te σ2 H3 fun y H4 => ∃ acc, H4 D = some (.lst acc) ∧ acc.length < sizeLine ∧ Pv (i + 1) (upd H4 D (.lst (acc ++ [y]))) else Pv (i + 1) H3) (hd : ∀ H, Pv n H → Qd H) :
    ∃ W : Nat → Nat → Hp → Prop, (∃ m, W 0 m (upd H1 D (.lst []))) ∧ ∀ i m H, W i m H →
      ((Itr lo n).stop i H ∧ Qd H) ∨ ((Itr lo n).go i H ∧ ∃ Nx : Hp → Prop, (∀ H', Nx H' → ∃ m', m' < m ∧ W (i + 1) m' H') ∧ ∀ x H', (Itr lo n).yld i H x H' → g x (wipe σ vs) H' fun σ2 H2 => wipe σ2 vs = wipe σ vs ∧ tt σ2 H2 fun b H3 =>
        if b = true then te σ2 H3 fun y H4 => ∃ acc, H4 D = some (.lst acc) ∧ acc.length < sizeLine ∧ Nx (upd H4 D (.lst (acc ++ [y]))) else Nx H3) := by
  refine ⟨fun i m H => m = n - i ∧ i ≤ n ∧ Pv i H, ⟨n, by simp, Nat.zero_le _, h0⟩, ?_⟩
  rintro i m H ⟨rfl, hi, p⟩
  by_cases hlt : i < n
  · refine .inr ⟨hlt, Pv (i + 1), fun H' p' => ⟨n - (i + 1), by omega, rfl, hlt, p'⟩, fun x H' y => ?_⟩
    obtain ⟨e, y⟩ := y
    subst e y
    exact hs i _ hlt p
  · have e : i = n := by omega
    subst e
    exact .inl ⟨Nat.le_refl _, hd H p⟩
/-- over a list that the block leaves as it is -/
theorem lc_list {K : PySem.W.Frag} {a : Addr} {xs : List V} {g : TG} {tt : TT} {te : TE} {vs : List Nat} {σ : St} {H1 : Hp} {D : Addr} {Qd : Hp → Prop} (Pv : Nat → Hp → Prop) (h0 : Pv 0 (upd H1 D (.lst []))) (hl : ∀ i H, i ≤ xs.length → Pv i H → SqL K H a xs)
    (hs : ∀ i x H, xs[i]? = some x → Pv i H → g x (wipe σ vs) H fun σ2 H2 => wipe σ2 vs = wipe σ vs ∧ tt σ2 H2 fun b H3 =>
      if b = true then te σ2 H3 fun y H4 => ∃ acc, H4 D = some (.lst acc) ∧ acc.length < sizeLine ∧ Pv (i + 1) (upd H4 D (.lst (acc ++ [y]))) else Pv (i + 1) H3) (hd : ∀ H, Pv xs.length H → Qd H) :
    ∃ W : Nat → Nat → Hp → Prop, (∃ m, W 0 m (upd H1 D (.lst []))) ∧ ∀ i m H, W i m H →
      ((Itl K a).stop i H ∧ Qd H) ∨ ((Itl K a).go i H ∧ ∃ Nx : Hp → Prop, (∀ H', Nx H' → ∃ m', m' < m ∧ W (i + 1) m' H') ∧ ∀ x H', (Itl K a).yld i H x H' → g x (wipe σ vs) H' fun σ2 H2 => wipe σ2 vs = wipe σ vs ∧ tt σ2 H2 fun b H3 =>
        if b = true then te σ2 H3 fun y H4 => ∃ acc, H4 D = some (.lst acc) ∧ acc.length < sizeLine ∧ Nx (upd H4 D (.lst (acc ++ [y]))) else Nx H3) := by
  refine ⟨fun i m H => m = xs.length - i ∧ i ≤ xs.length ∧ Pv i H, ⟨xs.length, by simp, Nat.zero_le _, h0⟩, ?_⟩
  rintro i m H ⟨rfl, hi, p⟩
  have q := hl i H hi p
  by_cases hlt : i < xs.length
  · refine .inr ⟨⟨xs, xs[i], q, by simp [hlt]⟩, Pv (i + 1), fun H' p' => ⟨xs.length - (i + 1), by omega, rfl, hlt, p'⟩, fun x H' y => ?_⟩
    obtain ⟨e, y⟩ := y
    subst e
    exact hs i x _ (y xs q) p
  · have e : i = xs.length := by omega
    subst e
    exact .inl ⟨⟨xs, q, Nat.le_refl _⟩, hd H p⟩
def blkC (N : List Str) (sc scope : Scope) (own : List (Str × Nat)) : Bool :=
  (match scope.kind with | .function => true | _ => false) && (scope.names.all fun y => decide (scope.names.lookup y.1 = some y.2)) && (own.all fun p => decide (N[p.2]? = some p.1)) &&
    (scope.names.all fun y => match y.2 with
      | .free => (match sc.names.lookup y.1 with | some .cell => true | some .free => true | _ => false)
      | .local => decide (y.1 ∈ own.map (·.1)) || decide (y.1 ∉ N)
      | .cell => decide (y.1 ∈ own.map (·.1)) || decide (y.1 ∉ N)
      | _ => true)
theorem blkOk_by {N : List Str} {sc scope : Scope} {own : List (Str × Nat)} (h : blkC N sc scope own = true) : BlkOk N sc scope own := by
  unfold blkC at h
  simp only [Bool.and_eq_true, List.all_eq_true, decide_eq_true_eq] at h
  obtain ⟨⟨⟨h1, h2⟩, h3⟩, h4⟩ := h
  refine ⟨?_, h2, h3, fun y hy e => ?_, fun y hy e => ?_⟩
  · split at h1
    · assumption
    · cases h1
  · have q := h4 y hy
    simp only [e] at q
    split at q <;> first | exact .inl (by assumption) | exact .inr (by assumption) | cases q
  · have q := h4 y hy
    rcases e with e | e <;> (simp only [e, Bool.or_eq_true, decide_eq_true_eq] at q; exact q)
end L2

namespace L2
open PySem PySem.Spec PyProof.Rows

section
variable {prog : Program} {w : World} {A : Around} {R : Result → Shared → Prop} {s : Shared} {elt t0 i0 t1 i1 : Expr} {ifs0 ifs1 : List Expr} {scope : Scope} {pos : Pos} {it acc : Value} {env : Env}
end

section
variable {X : Cx}
end
end L2

namespace L2
open PySem PySem.Spec PyProof.Rows

/-! ### lists of pairs as tables -/
section
variable {κ : Type} [DecidableEq κ]
end


/-! ### a tracked dict, its keys ints and texts or tuples of these -/
section
variable {P : Program} {w : World} {H : Hp} {h : Heap} {a : Addr}
end

section
variable {X : Cx} {pins : List (Addr × Obj)} {σ : St} {H : Hp} {s : Shared} {a : Addr} {y v : V} {u r : Value} {o : Option V} {A : Around} {E : Value → Shared → Prop}

end

section
variable {X : Cx} {pins : List (Addr × Obj)} {σ : St} {H : Hp} {s : Shared} {a : Addr} {kvs : List (Key × V)} {k : Key} {u : Value} {A : Around} {E : Value → Shared → Prop}
end


/-! ### readings and rules -/
/-- the element of a subscription, not a slice -/
def NoSl (i : Expr) : Prop := ∀ ov iv, subscripted i false ov iv = operate [ov, iv] (getItem ov iv)
theorem subD_of {prog : Program} {w : World} {A : Around} {E : Value → Shared → Prop} {s : Shared} {env : Env} {value slice : Expr} {pos : Pos} {T id : String} {Q : Value → Shared → Prop}
    (hl : typeLookup (.type T) "__getitem__" = pure (some (.builtin id))) (hs : NoSl slice)
    (h : wpAny (model prog w) A (eval value env) (fun o s₁ => wpAny (model prog w) A (eval slice env) (fun i s₂ => s₂.TypeIs o T ∧ wpAny (model prog w) A (getItem o i) Q E s₂) E s₁) E s) :
    wpAny (model prog w) A (eval (.Subscript value slice pos) env) Q E s := by
  refine Subscript_ (wpAny_mono h (fun o s₁ h₁ => wpAny_mono h₁ (fun i s₂ h₂ => ?_) fun _ _ x => x) fun _ _ x => x)
  obtain ⟨hT, h₂⟩ := h₂
  unfold subscriptTail
  refine wpAny_bind ?_
  rw [getitemInPython_of_ne hT.not_modules]
  refine wpAny_bind (wpAny_specialOf hT hl ?_)
  have fin : wpAny (model prog w) A (subscripted slice false o i) (fun r s₃ => wpAny (model prog w) A (letTemporaryGo value o r >>= fun _ => pure r) Q E s₃) E s₂ := by
    rw [hs o i]
    exact wpAny_operating (wpAny_mono h₂ (fun r s₃ h₃ => wpAny_bind (wpAny_letTemporaryGo (wpAny_pure h₃))) fun _ _ x => x)
  first
    | exact wpAny_pure (wpAny_bind fin)
    | exact wpAny_bind (wpAny_pure (wpAny_bind fin))
    | exact wpAny_bind fin

section
variable {X : Cx} {o i e value : Expr} {pos pos' tpos : Pos} {td ty tv : TE}
end


/-! ### displays -/
section
variable {X : Cx} {pos : Pos}
end

/-! ### methods -/
/-- a method call o.m(e) of a built-in, with one argument: what must be seen of the text -/
structure M1 (X : Cx) (o : Expr) (m : Str) (apos : Pos) (e : Expr) (cpos : Pos) : Prop where
  base : attributeBase o m X.env (eval o X.env) = eval o X.env
  few : ((backTo cpos (starEach [e] X.env)).all (fun x => !x.1) && (backToKw cpos (keywordEach [] X.env)).all (fun x => x.1.isSome)
    && decide (([e] : List Expr).length + ([] : List Keyword).length + (if ([] : List Keyword).isEmpty then 0 else 1) < 30)) = true
  line : (apos.endLine == cpos.line) = true
  trees : backTo cpos (starEach [e] X.env) = [(false, eval e X.env)]
structure M2 (X : Cx) (o : Expr) (m : Str) (apos : Pos) (e f : Expr) (cpos : Pos) : Prop where
  base : attributeBase o m X.env (eval o X.env) = eval o X.env
  few : ((backTo cpos (starEach [e, f] X.env)).all (fun x => !x.1) && (backToKw cpos (keywordEach [] X.env)).all (fun x => x.1.isSome)
    && decide (([e, f] : List Expr).length + ([] : List Keyword).length + (if ([] : List Keyword).isEmpty then 0 else 1) < 30)) = true
  line : (apos.endLine == cpos.line) = true
  trees : backTo cpos (starEach [e, f] X.env) = [(false, eval e X.env), (false, eval f X.env)]

section
variable {X : Cx} {pins : List (Addr × Obj)} {σ : St} {H : Hp} {s : Shared} {a : Addr} {y d : V} {u r : Value} {o : Option V} {A : Around} {E : Value → Shared → Prop}
end

section
variable {X : Cx} {o e f : Expr} {apos cpos : Pos} {td ty tx : TE}
end

/-! ### dict(d): a copy -/
section
variable {X : Cx} {pins : List (Addr × Obj)} {σ : St} {H : Hp} {s : Shared} {a : Addr} {kvs : List (Key × V)} {A : Around} {E : Value → Shared → Prop}
end


section
variable {X : Cx} {pins : List (Addr × Obj)} {σ : St} {H : Hp} {s : Shared} {a : Addr} {y : V} {u : Value} {A : Around} {E : Value → Shared → Prop}
end
end L2

namespace L2
open PySem PySem.Spec PyProof.Rows

section
variable {prog : Program} {w : World} {A : Around} {E : Value → Shared → Prop}
end

section
variable {X : Cx}
end
end L2

namespace L2
open PySem PySem.Spec PyProof.Rows

theorem boot_reversed5 : bootBuiltins "reversed" = some (.type "reversed") := by decide +kernel

section
variable {X : Cx} {pins : List (Addr × Obj)} {σ : St} {H : Hp} {s : Shared} {h' : Heap}
/-- .. and one new object is laid -/
theorem Inv.turnedNew {t' : Nat} {ch : List Addr} {T : Addr} {ob : HO} (I : Inv X pins σ H s) (k : ∀ b o, b ∉ ch → s.heap.get? b = some o → h'.get? b = some o) (hf : ∀ b ∈ ch, FpOk X pins H b) (hT : s.heap.objs.size ≤ T)
    (new : ObjOk X.prog X.w (upd H T ob) h' T ob) : Inv X pins σ (upd H T ob) { s with heap := h', toks := t' } := by
  have hn : H T = none := I.hok.fresh hT
  have nit : ∀ b u, H b = some u → b ∉ ch := fun b u e z => by
    have q := (hf b z).1
    rw [q] at e; cases e
  refine I.step (g' := s.gens) (d' := s.drawn) (ch := ch) (fun b hb => ⟨(hf b hb).2.2.2.1, (hf b hb).2.1, (hf b hb).2.2.2.2.1, (hf b hb).2.2.2.2.2⟩) (fun b o _ _ hc e _ => k b o hc e) (fun b o _ _ hc e _ => ⟨o.slots, k b o hc e⟩)
    (fun b o _ e n => ?_) (fun b o hc e => ⟨o, k b o hc e⟩) (fun b xs e => ?_) (fun b o u e => ?_) (fun b ps e => ⟨#[], ?_⟩) (fun m hm => ?_) (fun b u e => ?_) I.bare
  · rw [upd_ne (Nat.ne_of_lt (Nat.lt_of_lt_of_le (Heap.lt_size e) hT))]; exact n
  · rw [upd_ne (ne_of_none e hn)]; exact e
  · rw [upd_ne (ne_of_none e hn)]; exact e
  · rw [upd_ne (ne_of_none e hn), e]; simp
  · obtain ⟨o, es, ep, ho, r⟩ := hm
    exact ⟨o, es, ep, k _ o (fun z => (hf _ z).2.1 rfl) ho, r⟩
  · by_cases hb : b = T
    · subst hb
      rw [upd_same] at e
      cases e
      exact new
    · rw [upd_ne hb] at e
      refine (I.hok b u e).stay (fun c v hc q => k c v ?_ q) (fun c q => by rw [upd_ne (ne_of_none q hn)]; exact q) fun c xs q => by rw [upd_ne (ne_of_none q hn)]; exact q
      rcases hc with z | z
      · rw [z]; exact nit b u e
      · exact nit c _ z

/-! ### locking a thing while a statement runs -/
end
section
variable {X : Cx}
/-! ### one iterator just laid -/
end

/-! ### range with a step -/
section
variable {X : Cx} {tg : Expr}
end
/-! ### reversed(list) -/
section
variable {X : Cx} {tg : Expr}
end

/-! ### a str -/
/-! ### a dict's keys: any dict's entries -/
section
variable {prog : Program} {w : World} {A : Around} {E : Value → Shared → Prop} {s : Shared}
end

/-! ### a locked dict -/
section
variable {X : Cx} {pins : List (Addr × Obj)} {σ : St} {H : Hp} {s : Shared} {d : Addr} {o : Obj}
end

section
variable {P : Program} {w : World} {K : PySem.W.Frag} {tg : Expr} {d : Addr} {o : Obj} {es : Array DictEntry} {ep : Nat}
end

/-! ### for k in d, d.keys(), d.values(), d.items() -/
section
variable {X : Cx} {tg e : Expr} {td : TE} {apos cpos : Pos}
end

/-! ### enumerate(list) -/
/-! ### zip(list, list) -/
end L2

section 
namespace Bits
open PySem PyProof.Rows

end Bits
end 

section 
namespace TL
open PySem PySem.Builtin PySem.Builtin.Str PySem.StrLaws

/-! ### the list functions -/
/-! ### the model's split and partition are these -/
/-! ### computing spl and par -/
/-! ### digits -/
/-! ### words: x.split() -/
end TL
end 

namespace L2
open PySem PySem.Spec PyProof.Rows

section
variable {X : Cx} {pins : List (Addr × Obj)} {σ : St} {H : Hp} {s : Shared} {Q : VK}
end

section
variable {X : Cx}

/-! ### of a text alone -/
/-! ### of a text and a text -/
end

section
variable {X : Cx} {o e : Expr} {to te : TE}
end
end L2

namespace L2
open PySem PySem.Spec PyProof.Rows

section
variable {X : Cx}
end

/-! ### slices of a text -/
end L2

namespace Att
open PySem PySem.W PySem.Calls PyProof.Rows

/-! ### the script -/
/-! ### the attachment: holds_open's last premise (the goal 'hc' behind k_head) from a wpAny of the law's body -/
/-! ### rules over ANY heap (no ledger) from facts about the written part K: the library's own take a ledger (News) for what they write -/
section
variable {prog : Program} {w : World} {A : Around} {E : Value → Shared → Prop} {s : Shared} {K : Frag}

/-! the whole heap as the ledger: makes every rule that writes through a ledger a rule over any heap -/
end
end Att

namespace L2
open PySem PySem.Spec PyProof.Rows

end L2

namespace L2
open PySem PySem.Spec PyProof.Rows

end L2

/- THE LAST THEOREM (shape; LID, My.* are yours):
   My.Adr: a structure of the addresses that your layer names (classes, functions); My.Txt K t: a structure (Prop) of the equations over K;
   My.txt_mk : {K} {implicit addresses ..} (e1 : nsIn K mainGlobals "law" = some (some (.ref f))) (e2 : K.lookup f = some ⟨oc, od, .func (fnOf "law" "law" params body scope dV kV doc pm an cdv ct), sl⟩) (e3 : codeIn K cdv "law" = true) .. : ∃ t, My.Txt K t

set_option maxRecDepth 100000 in
set_option maxHeartbeats 0 in
(the tactic k_is has no namespace: write k_is) -/

/-! SHORT WORDS over the layer: a def of the text, its body, what a loop and a test want. -/
namespace L2
open PySem PySem.Spec PyProof.Rows

/-! ### the text by places -/
/-- the j-th statement of a class's body -/
def inClass (s : Stmt) (j : Nat) : Stmt := match s with
  | .ClassDef _ _ _ body _ _ _ _ _ _ _ => body.getD j (.Pass ⟨0, 0, 0, 0⟩)
  | _ => .Pass ⟨0, 0, 0, 0⟩
def defArgs (s : Stmt) : Arguments := match s with
  | .FunctionDef _ a _ _ _ _ _ _ _ _ => a
  | _ => { posonlyargs := [], args := [], vararg := none, kwonlyargs := [], kw_defaults := [], kwarg := none, defaults := [] }
def defBody (s : Stmt) : List Stmt := match s with
  | .FunctionDef _ _ b _ _ _ _ _ _ _ => b
  | _ => []
def defScope (s : Stmt) : Scope := match s with
  | .FunctionDef _ _ _ _ _ _ sc _ _ _ => sc
  | _ => { kind := .function, names := [], isGenerator := false, isCoroutine := false }

/-! ### no exception leaves a def -/
abbrev CX0 : CXT := fun _ _ _ _ _ _ => False
abbrev E0 : XK := fun _ _ _ => False
theorem pass0 {X : Cx} : Passes CX0 X E0 := fun _ _ _ _ _ _ _ h => h.elim

/-! ### a def (or method) of the text as it stands behind the top -/
structure Fun (K : PySem.W.Frag) (x qual : Str) (st : Stmt) (f : Addr) (fd : FuncData) : Prop where
  ex : ∃ (oc : Value) (od : Option Addr) (kV doc pm : Value) (an : Option Addr) (cdv ct : Value) (osl : Array (Option Value)),
    fd = PySem.W.fnOf x qual (defArgs st) (defBody st) (defScope st) .none kV doc pm an cdv ct ∧ K.lookup f = some ⟨oc, od, .func fd, osl⟩ ∧ PySem.W.codeIn K cdv qual = true
  kp : PySem.W.keepIn K (.ref f) = true
section
variable {P : Program} {w : World} {K : PySem.W.Frag} {mg : Str → Option Value} {base : Heap}
/-- THE RULE for a def: its body as a term of rules, and the reading of that term -/
theorem Fun.ok {x qual : Str} {st : Stmt} {f : Addr} {fd : FuncData} {N ps : List Str} {k : Nat} {sp : Sp} (F : Fun K x qual st f fd) (S : FnScope N ps (defScope st)) (len : ∀ vs H Q E, sp vs H Q E → vs.length = ps.length)
    (hbody : ∀ (cdv : Value) (A : Around) (outer : List Env) (s : Shared) (H : Hp) (vs : List V) (Q : VK) (E : XK), Room k (A.deeper (envOfC qual (defScope st) s.heap.objs.size f cdv)) → sp vs H Q E →
      ∃ t, PSs (cxOf CX0 P w K mg base N qual (defScope st) f cdv A outer s H E).nox (defBody st) t ∧ t { nx := fun _ H' => Q .non H', rt := Q } (start N vs) H) : FnOk P w K mg base CX0 (k + 1) f fd ps sp := by
  obtain ⟨oc, od, kV, doc, pm, an, cdv, ct, osl, rfl, lk, hcd⟩ := F.ex
  refine fn_of lk hcd S len fun A outer s H vs Q E hr hsp => ?_
  obtain ⟨t, h, q⟩ := hbody cdv A outer s H vs Q E hr hsp
  exact ⟨t, h.nox, q⟩
/-- how its arguments bind (no defaults): h is «fun _ _ _ _ _ _ us hl => match us, hl with | [_, _], _ => rfl», one _ a parameter -/
theorem Fun.binds {x qual : Str} {st : Stmt} {f : Addr} {fd : FuncData} {ps : List Str} (F : Fun K x qual st f fd)
    (h : ∀ (kV doc pm : Value) (an : Option Addr) (cdv ct : Value) (us : List Value), us.length = ps.length → bindArgs (PySem.W.fnOf x qual (defArgs st) (defBody st) (defScope st) .none kV doc pm an cdv ct) ⟨us, []⟩ = pure (ps.zip us)) : Binds K fd ps [] := by
  obtain ⟨oc, od, kV, doc, pm, an, cdv, ct, osl, rfl, lk, hcd⟩ := F.ex
  exact .all (h kV doc pm an cdv ct)
theorem fun_mk {x qual : Str} {st : Stmt} {f : Addr} {oc : Value} {od an : Option Addr} {osl : Array (Option Value)} {kV doc pm cdv ct : Value} (l : K.lookup f = some ⟨oc, od, .func (PySem.W.fnOf x qual (defArgs st) (defBody st) (defScope st) .none kV doc pm an cdv ct), osl⟩)
    (c : PySem.W.codeIn K cdv qual = true) (k : PySem.W.keepIn K (.ref f) = true) : Fun K x qual st f (PySem.W.fnOf x qual (defArgs st) (defBody st) (defScope st) .none kV doc pm an cdv ct) := ⟨⟨oc, od, kV, doc, pm, an, cdv, ct, osl, rfl, l, c⟩, k⟩
end
/-! ### expressions in short: the name that stands in the i-th slot -/
section
variable {X : Cx}
theorem pv (i : Nat) {x : Str} {pos : Pos} (hN : X.N[i]? = some x := by rfl) (hv : Vis X.env.scope x := by first | exact Or.inl rfl | exact Or.inr (Or.inl rfl) | exact Or.inr (Or.inr rfl)) (hd : (x == ("__debug__" : Str)) = false := by decide)
    (hcd : (x == ("__classdict__" : Str)) = false := by decide) : PE X (.Name x pos) (tVar i) := pe_var hN hv hd hcd
end

/-! ### tests -/
theorem iteF {A B : Prop} (h : B) : if false = true then A else B := by
  rw [if_neg Bool.false_ne_true]
  exact h
theorem iteT {A B : Prop} (h : A) : if true = true then A else B := by
  rw [if_pos rfl]
  exact h
theorem ite2 {c A B : Prop} [Decidable c] (h1 : c → A) (h2 : ¬ c → B) : if c then A else B := by
  by_cases h : c
  · rw [if_pos h]
    exact h1 h
  · rw [if_neg h]
    exact h2 h
/-! ### heaps -/
/-- all that was tracked is as it was -/
def Same (H H' : Hp) : Prop := ∀ b o, H b = some o → H' b = some o
theorem Same.refl (H : Hp) : Same H H := fun _ _ h => h
theorem Same.trans {H H1 H2 : Hp} (a : Same H H1) (b : Same H1 H2) : Same H H2 := fun c o h => b c o (a c o h)
theorem Same.free {H H' : Hp} (e : Same H H') {l : Addr} (h : H' l = Option.none) : H l = Option.none := by
  cases q : H l with
  | none => rfl
  | some o =>
    rw [e l o q] at h
    cases h
theorem Same.seq {K : PySem.W.Frag} {H H' : Hp} {a : Addr} {xs : List V} (e : Same H H') (h : SqL K H a xs) : SqL K H' a xs := by
  rcases h with (h | ⟨o, h⟩) | h
  · exact .inl (.inl (e _ _ h))
  · exact .inl (.inr ⟨o, e _ _ h⟩)
  · exact .inr h

/-! ### a dict's pairs: keys that differ -/
section
variable {κ : Type} [DecidableEq κ]
end
/-! ### lists -/
theorem at_of {xs : List V} {z : Int} {j : Nat} {v : V} (e : z = (j : Int)) (h : xs[j]? = some v) : atI xs z = some v := by
  rw [e]
  exact atI_nat h
/-- a new instance and its __init__ leave all that was tracked as it was -/
theorem Same.made {H H1 : Hp} {x dx C : Addr} (nx : H x = Option.none) (nd : H dx = Option.none) (k : ∀ b o, (upd (upd H dx (.own x)) x (.ins C dx [])) b = some o → b ≠ x → H1 b = some o) : Same H H1 := fun b o e =>
  k b o (by rw [upd_ne (ne_of_none e nx), upd_ne (ne_of_none e nd)]; exact e) (ne_of_none e nx)
end L2
end
section
set_option Elab.async false
set_option linter.all false
set_option maxRecDepth 100000
set_option maxHeartbeats 2000000
namespace L2
open PySem PySem.Spec PyProof.Rows
open PySem.W (WData Codec OpenSpec Well WellAll ReadsW ReadsAllW)
/-! ### an answer as data -/
mutual
/-- x stands for the datum d, lists and tuples all the way -/
inductive Dw (K : PySem.W.Frag) (H : Hp) : V → WData → Prop
  | non : Dw K H .non .none
  | bl (b : Bool) : Dw K H (.bl b) (.bool b)
  | int (i : Int) : Dw K H (.int i) (.int i)
  | str (x : Str) : Dw K H (.str x) (.str x)
  | byt (b : Array UInt8) : Dw K H (.byt b) (.bytes b.toList)
  | lst {a : Addr} {xs : List V} {ds : List WData} : SqL K H a xs → DwAll K H xs ds → Dw K H (.ref a) (.list ds)
  | tup {a : Addr} {xs : List V} {ds : List WData} : SqT K H a xs → DwAll K H xs ds → Dw K H (.ref a) (.tuple ds)
inductive DwAll (K : PySem.W.Frag) (H : Hp) : List V → List WData → Prop
  | nil : DwAll K H [] []
  | cons {v : V} {vs : List V} {d : WData} {ds : List WData} : Dw K H v d → DwAll K H vs ds → DwAll K H (v :: vs) (d :: ds)
end
theorem dw_ints {K : PySem.W.Frag} {H : Hp} : ∀ ns : List Int, DwAll K H (ns.map V.int) (ns.map WData.int)
  | [] => .nil
  | n :: r => .cons (.int n) (dw_ints r)
theorem ints_dw {K : PySem.W.Frag} {H : Hp} : ∀ (ns : List Int) (xs : List V), DwAll K H xs (ns.map WData.int) → xs = ns.map V.int
  | [], xs, h => by
    cases h
    rfl
  | n :: r, xs, h => by
    cases h with
    | cons h1 h2 =>
      cases h1
      rw [ints_dw r _ h2] <;> rfl
section
variable {P : Program} {w : World} {K : PySem.W.Frag} {H : Hp} {h : Heap} {R : PySem.W.WRecords} {cl : Str → Option Addr}
theorem sqL_at {a : Addr} {xs : List V} (hok : HOk P w H h) (KX : K.In h) (q : SqL K H a xs) : ∃ (its : List Value) (o : Obj) (n : Nat), Vals xs its ∧ h.get? a = some o ∧ o.cls = .type "list" ∧ o.data = .seq its.toArray n := by
  rcases q with q | ⟨o, its, n, e, hc, _, hd, _, hv⟩
  · obtain ⟨_, its, n, hv, e⟩ := (show ObjOk P w H h a (.lst xs) from q.ok hok)
    exact ⟨its, _, n, hv, e, rfl, rfl⟩
  · exact ⟨its.toList, o, n, hv, KX _ _ e, hc, by simp [hd]⟩
theorem sqT_at {a : Addr} {xs : List V} (hok : HOk P w H h) (KX : K.In h) (q : SqT K H a xs) : ∃ (its : List Value) (o : Obj) (n : Nat), Vals xs its ∧ h.get? a = some o ∧ o.cls = .type "tuple" ∧ o.data = .seq its.toArray n := by
  rcases q with q | ⟨o, its, n, e, hc, hd, _, hv⟩
  · obtain ⟨_, its, hv, o, e, hc, n, hd⟩ := (show ObjOk P w H h a (.tup xs) from q.ok hok)
    exact ⟨its, o, n, hv, e, hc, hd⟩
  · exact ⟨its.toList, o, n, hv, KX _ _ e, hc, by simp [hd]⟩
mutual
theorem Dw.reads (hok : HOk P w H h) (KX : K.In h) : ∀ (d : WData) (v : V) (u : Value), Dw K H v d → RelV v u → ∃ as, ReadsW R cl h u d as
  | .none, _, _, x, r => by
    cases x
    cases r
    exact ⟨_, ReadsW.none⟩
  | .bool b, _, _, x, r => by
    cases x
    cases r
    exact ⟨_, ReadsW.bool b⟩
  | .int i, _, _, x, r => by
    cases x
    obtain ⟨t, rfl⟩ := r
    exact ⟨_, ReadsW.int i t⟩
  | .str s, _, _, x, r => by
    cases x
    obtain ⟨t, rfl⟩ := r
    exact ⟨_, ReadsW.str s t⟩
  | .bytes b, _, _, x, r => by
    cases x
    obtain ⟨t, rfl⟩ := r
    exact ⟨_, ReadsW.bytes _ t⟩
  | .list ds, _, _, x, r => by
    cases x with
    | lst hs ha =>
      cases r
      obtain ⟨its, o, n, rv, ho, hc, hd⟩ := sqL_at hok KX hs
      obtain ⟨as, hr⟩ := Dw.readsAll hok KX ds _ its ha rv
      exact ⟨_, ReadsW.list ho hc hd hr⟩
  | .tuple ds, _, _, x, r => by
    cases x with
    | tup hs ha =>
      cases r
      obtain ⟨its, o, n, rv, ho, hc, hd⟩ := sqT_at hok KX hs
      obtain ⟨as, hr⟩ := Dw.readsAll hok KX ds _ its ha rv
      exact ⟨_, ReadsW.tuple ho hc hd hr⟩
  | .float _, _, _, x, _ => by cases x
  | .dict _, _, _, x, _ => by cases x
  | .bytearray _, _, _, x, _ => by cases x
  | .set _, _, _, x, _ => by cases x
  | .frozenset _, _, _, x, _ => by cases x
  | .obj _ _, _, _, x, _ => by cases x
theorem Dw.readsAll (hok : HOk P w H h) (KX : K.In h) : ∀ (ds : List WData) (vs : List V) (us : List Value), DwAll K H vs ds → Vals vs us → ∃ as, ReadsAllW R cl h us ds as
  | [], _, _, x, r => by
    cases x
    cases r
    exact ⟨_, ReadsAllW.nil⟩
  | d :: ds, _, _, x, r => by
    cases x with
    | cons h1 h2 =>
      cases r with
      | cons r1 r2 =>
        obtain ⟨as, q1⟩ := Dw.reads hok KX d _ _ h1 r1
        obtain ⟨bs, q2⟩ := Dw.readsAll hok KX ds _ _ h2 r2
        exact ⟨_, ReadsAllW.cons q1 q2⟩
end
end
/-! ### the arguments -/
mutual
/-- data that a codec tells -/
def plW : WData → Bool
  | .none => true
  | .bool _ => true
  | .int _ => true
  | .str _ => true
  | .bytes _ => true
  | .list xs => plWs xs
  | .tuple xs => plWs xs
  | _ => false
def plWs : List WData → Bool
  | [] => true
  | x :: r => plW x && plWs r
end
theorem plWs_map {α : Type} {f : α → WData} (h : ∀ a, plW (f a) = true) : ∀ l : List α, plWs (l.map f) = true
  | [] => rfl
  | x :: r => by
    show (plW (f x) && plWs (r.map f)) = true
    rw [h x, plWs_map h r] <;> rfl
theorem pl_enc : ∀ (c : Codec) (a : c.denote), plW (c.enc a) = true
  | .unit, _ => rfl
  | .bool, _ => rfl
  | .int _ _, _ => rfl
  | .nat _ _, _ => rfl
  | .u8, _ => rfl
  | .bytes _ _, _ => rfl
  | .text _ _ _ _, _ => rfl
  | .list _ _ c, a => plWs_map (fun x => pl_enc c x) a
  | .pair c d, a => by
    show (plW (c.enc a.1) && (plW (d.enc a.2) && true)) = true
    rw [pl_enc c a.1, pl_enc d a.2] <;> rfl
  | .triple c d e, a => by
    show (plW (c.enc a.1) && (plW (d.enc a.2.1) && (plW (e.enc a.2.2) && true))) = true
    rw [pl_enc c a.1, pl_enc d a.2.1, pl_enc e a.2.2] <;> rfl
  | .option c, none => rfl
  | .option c, some x => pl_enc c x
theorem pl_encAll : ∀ (cs : List Codec) (a : Codec.denoteAll cs), plWs (Codec.encAll cs a) = true
  | [], _ => rfl
  | c :: cs, a => by
    show (plW (c.enc a.1) && plWs (Codec.encAll cs a.2)) = true
    rw [pl_enc c a.1, pl_encAll cs a.2] <;> rfl
theorem weight_mem : ∀ {xs : List WData} {d : WData}, d ∈ xs → d.weight ≤ WData.weightAll xs
  | [], d, h => absurd h (by simp)
  | x :: r, d, h => by
    show d.weight ≤ x.weight + 1 + WData.weightAll r
    rcases List.mem_cons.mp h with e | m
    · rw [e]
      omega
    · have z := weight_mem m
      omega
def toV : Value → V
  | .none => .non
  | .bool b => .bl b
  | .int i _ => .int i
  | .str x _ => .str x
  | .bytes b _ => .byt b
  | .ref a => .ref a
  | _ => .non
/-- a value of the arguments, its objects among A -/
def OkU (A : List Addr) : Value → Prop
  | .none => True
  | .bool _ => True
  | .int _ _ => True
  | .str _ _ => True
  | .bytes _ _ => True
  | .ref a => a ∈ A
  | _ => False
theorem OkU.mono {A B : List Addr} (h : ∀ a ∈ A, a ∈ B) : ∀ {u : Value}, OkU A u → OkU B u := fun {u} x => by
  cases u with
  | ref a => exact h a x
  | none => trivial
  | bool b => trivial
  | int i t => trivial
  | str s t => trivial
  | bytes b t => trivial
  | _ => exact False.elim x
theorem relV_toV {A : List Addr} {u : Value} (x : OkU A u) : RelV (toV u) u := by
  cases u with
  | ref a => rfl
  | none => rfl
  | bool b => rfl
  | int i t => exact ⟨t, rfl⟩
  | str s t => exact ⟨t, rfl⟩
  | bytes b t => exact ⟨t, rfl⟩
  | _ => exact False.elim x
theorem vals_toV {A : List Addr} : ∀ {vs : List Value}, (∀ u ∈ vs, OkU A u) → Vals (vs.map toV) vs
  | [], _ => .nil
  | u :: r, h => .cons (relV_toV (h u (List.mem_cons_self ..))) (vals_toV fun x hx => h x (List.mem_cons_of_mem _ hx))
/-- an object of the arguments -/
def ArgOb (h : Heap) (A : List Addr) (a : Addr) : Prop := ∃ vs : List Value, vs.length ≤ sizeLine ∧ (∀ u ∈ vs, OkU A u) ∧
  (h.get? a = some { cls := .type "list", data := .seq vs.toArray } ∨ h.get? a = some { cls := .type "tuple", data := .seq vs.toArray })
theorem ArgOb.mono {h : Heap} {A B : List Addr} {a : Addr} (k : ∀ a ∈ A, a ∈ B) (x : ArgOb h A a) : ArgOb h B a := by
  obtain ⟨vs, h1, h2, h3⟩ := x
  exact ⟨vs, h1, fun u hu => (h2 u hu).mono k, h3⟩
theorem wellAll_len {P : Params} {h : Heap} : ∀ {vs : List Value} {ds : List WData}, WellAll P h vs ds → vs.length = ds.length
  | _, _, .nil => rfl
  | _, _, .cons _ b => by
    show _ + 1 = _ + 1
    rw [wellAll_len b]
theorem well_list {P : Params} {h : Heap} {v : Value} {ds : List WData} (x : Well P h v (.list ds)) : ∃ (a : Addr) (vs : List Value), v = .ref a ∧ h.get? a = some { cls := .type "list", data := .seq vs.toArray } ∧ WellAll P h vs ds := by
  cases x with
  | list ho hall => exact ⟨_, _, rfl, ho, hall⟩
theorem well_tuple {P : Params} {h : Heap} {v : Value} {ds : List WData} (x : Well P h v (.tuple ds)) : ∃ (a : Addr) (vs : List Value), v = .ref a ∧ h.get? a = some { cls := .type "tuple", data := .seq vs.toArray } ∧ WellAll P h vs ds := by
  cases x with
  | tuple ho hall => exact ⟨_, _, rfl, ho, hall⟩
theorem well_cons {P : Params} {h : Heap} {us : List Value} {d : WData} {ds : List WData} (x : WellAll P h us (d :: ds)) : ∃ (v : Value) (vs : List Value), us = v :: vs ∧ Well P h v d ∧ WellAll P h vs ds := by
  cases x with
  | cons a b => exact ⟨_, _, rfl, a, b⟩
theorem line_of {n : Nat} (h : n ≤ 1048576) : n ≤ sizeLine := Nat.le_trans h (by decide)
section
variable {P : Params} {h : Heap}
mutual
theorem area_one : ∀ (d : WData) (v : Value), Well P h v d → plW d = true → d.weight ≤ 1048576 → ∃ A : List Addr, OkU A v ∧ ∀ a ∈ A, ArgOb h A a
  | .none, _, x, _, _ => by
    cases x
    exact ⟨[], trivial, fun a m => absurd m (by simp)⟩
  | .bool b, _, x, _, _ => by
    cases x
    exact ⟨[], trivial, fun a m => absurd m (by simp)⟩
  | .int i, _, x, _, _ => by
    cases x
    exact ⟨[], trivial, fun a m => absurd m (by simp)⟩
  | .str s, _, x, _, _ => by
    cases x
    exact ⟨[], trivial, fun a m => absurd m (by simp)⟩
  | .bytes b, _, x, _, _ => by
    cases x
    exact ⟨[], trivial, fun a m => absurd m (by simp)⟩
  | .list ds, _, x, p, z => by
    obtain ⟨a, vs, rfl, ho, hall⟩ := well_list x
    have z2 : WData.weightAll ds ≤ 1048576 := z
    obtain ⟨A, h1, h2⟩ := area_all ds _ hall p fun d hd => Nat.le_trans (weight_mem hd) z2
    have k : ∀ b ∈ A, b ∈ a :: A := fun b hb => List.mem_cons_of_mem _ hb
    refine ⟨a :: A, List.mem_cons_self .., fun b hb => ?_⟩
    rcases List.mem_cons.mp hb with e | m
    · rw [e]
      exact ⟨vs, line_of (by rw [wellAll_len hall]; exact Nat.le_trans (PySem.W.length_le_weightAllW ds) z2), fun u hu => (h1 u hu).mono k, .inl ho⟩
    · exact (h2 b m).mono k
  | .tuple ds, _, x, p, z => by
    obtain ⟨a, vs, rfl, ho, hall⟩ := well_tuple x
    have z2 : WData.weightAll ds ≤ 1048576 := z
    obtain ⟨A, h1, h2⟩ := area_all ds _ hall p fun d hd => Nat.le_trans (weight_mem hd) z2
    have k : ∀ b ∈ A, b ∈ a :: A := fun b hb => List.mem_cons_of_mem _ hb
    refine ⟨a :: A, List.mem_cons_self .., fun b hb => ?_⟩
    rcases List.mem_cons.mp hb with e | m
    · rw [e]
      exact ⟨vs, line_of (by rw [wellAll_len hall]; exact Nat.le_trans (PySem.W.length_le_weightAllW ds) z2), fun u hu => (h1 u hu).mono k, .inr ho⟩
    · exact (h2 b m).mono k
  | .float _, _, _, p, _ => Bool.noConfusion (show false = true from p)
  | .dict _, _, _, p, _ => Bool.noConfusion (show false = true from p)
  | .bytearray _, _, _, p, _ => Bool.noConfusion (show false = true from p)
  | .set _, _, _, p, _ => Bool.noConfusion (show false = true from p)
  | .frozenset _, _, _, p, _ => Bool.noConfusion (show false = true from p)
  | .obj _ _, _, _, p, _ => Bool.noConfusion (show false = true from p)
theorem area_all : ∀ (ds : List WData) (vs : List Value), WellAll P h vs ds → plWs ds = true → (∀ d ∈ ds, d.weight ≤ 1048576) → ∃ A : List Addr, (∀ u ∈ vs, OkU A u) ∧ ∀ a ∈ A, ArgOb h A a
  | [], _, x, _, _ => by
    cases x
    exact ⟨[], fun u m => absurd m (by simp), fun a m => absurd m (by simp)⟩
  | d :: ds, _, x, p, z => by
    obtain ⟨v, vs, rfl, x1, x2⟩ := well_cons x
    have q : plW d = true ∧ plWs ds = true := Bool.and_eq_true_iff.mp p
    obtain ⟨A, a1, a2⟩ := area_one d v x1 q.1 (z d (List.mem_cons_self ..))
    obtain ⟨B, b1, b2⟩ := area_all ds vs x2 q.2 fun e he => z e (List.mem_cons_of_mem _ he)
    have kA : ∀ b ∈ A, b ∈ A ++ B := fun b hb => List.mem_append.mpr (.inl hb)
    have kB : ∀ b ∈ B, b ∈ A ++ B := fun b hb => List.mem_append.mpr (.inr hb)
    refine ⟨A ++ B, fun u hu => ?_, fun b hb => ?_⟩
    · rcases List.mem_cons.mp hu with e | m
      · rw [e]
        exact a1.mono kA
      · exact (b1 u m).mono kB
    · rcases List.mem_append.mp hb with m | m
      · exact (a2 b m).mono kA
      · exact (b2 b m).mono kB
end
end
/-- what is tracked of an argument's object -/
def hoOf (o : Obj) : Option HO := match o.data with
  | .seq vs _ => if (o.cls == Value.type "list") = true then some (.frz o (.lst (vs.toList.map toV))) else some (.frz o (.tup (vs.toList.map toV)))
  | _ => none
def argH (K : PySem.W.Frag) (h : Heap) (A : List Addr) : Hp := fun b => if b ∈ A then (if (K.lookup b).isNone = true then (h.get? b).bind hoOf else none) else none
/-- nothing is tracked but what is known to the object -/
def OnlyF (H : Hp) : Prop := ∀ b, H b = none ∨ ∃ o u, H b = some (.frz o u)
theorem hoOf_lst (vs : List Value) : hoOf { cls := .type "list", data := .seq vs.toArray } = some (.frz { cls := .type "list", data := .seq vs.toArray } (.lst (vs.map toV))) := by
  show (if (Value.type "list" == Value.type "list") = true then some (HO.frz { cls := .type "list", data := .seq vs.toArray } (.lst (vs.toArray.toList.map toV))) else some (HO.frz { cls := .type "list", data := .seq vs.toArray } (.tup (vs.toArray.toList.map toV)))) = _
  rw [if_pos (beq_self_eq_true _)]
theorem hoOf_tup (vs : List Value) : hoOf { cls := .type "tuple", data := .seq vs.toArray } = some (.frz { cls := .type "tuple", data := .seq vs.toArray } (.tup (vs.map toV))) := by
  show (if (Value.type "tuple" == Value.type "list") = true then some (HO.frz { cls := .type "tuple", data := .seq vs.toArray } (.lst (vs.toArray.toList.map toV))) else some (HO.frz { cls := .type "tuple", data := .seq vs.toArray } (.tup (vs.toArray.toList.map toV)))) = _
  rw [if_neg (by decide)]
section
variable {P : Program} {w : World} {K : PySem.W.Frag} {h : Heap} {A : List Addr}
theorem argH_at {b : Addr} {o : Obj} (hb : b ∈ A) (hk : K.lookup b = none) (e : h.get? b = some o) : argH K h A b = hoOf o := by
  unfold argH
  rw [if_pos hb, hk, if_pos (show (none : Option Obj).isNone = true from rfl), e] <;> rfl
theorem of_argH {b : Addr} {u : HO} (q : argH K h A b = some u) : b ∈ A ∧ K.lookup b = none := by
  unfold argH at q
  by_cases hb : b ∈ A
  · rw [if_pos hb] at q
    cases hk : K.lookup b with
    | none => exact ⟨hb, rfl⟩
    | some o =>
      rw [hk, if_neg (by simp)] at q
      cases q
  · rw [if_neg hb] at q
    cases q
/-- what stands tracked -/
theorem argH_is (ar : ∀ a ∈ A, ArgOb h A a) {b : Addr} {u : HO} (q : argH K h A b = some u) : K.lookup b = none ∧ ∃ vs : List Value, vs.length ≤ sizeLine ∧ (∀ u ∈ vs, OkU A u) ∧
    ((h.get? b = some { cls := .type "list", data := .seq vs.toArray } ∧ u = .frz { cls := .type "list", data := .seq vs.toArray } (.lst (vs.map toV))) ∨
     (h.get? b = some { cls := .type "tuple", data := .seq vs.toArray } ∧ u = .frz { cls := .type "tuple", data := .seq vs.toArray } (.tup (vs.map toV)))) := by
  obtain ⟨hb, hk⟩ := of_argH q
  obtain ⟨vs, h1, h2, h3⟩ := ar b hb
  refine ⟨hk, vs, h1, h2, ?_⟩
  rcases h3 with e | e
  · rw [argH_at hb hk e, hoOf_lst] at q
    exact .inl ⟨e, (Option.some.inj q).symm⟩
  · rw [argH_at hb hk e, hoOf_tup] at q
    exact .inr ⟨e, (Option.some.inj q).symm⟩
theorem argH_only (ar : ∀ a ∈ A, ArgOb h A a) : OnlyF (argH K h A) := fun b => by
  cases q : argH K h A b with
  | none => exact .inl rfl
  | some u =>
    obtain ⟨_, vs, _, _, ⟨_, e⟩ | ⟨_, e⟩⟩ := argH_is ar q
    · exact .inr ⟨_, _, by rw [e]⟩
    · exact .inr ⟨_, _, by rw [e]⟩
theorem argH_ok (ar : ∀ a ∈ A, ArgOb h A a) : HOk P w (argH K h A) h := fun b u q => by
  obtain ⟨_, vs, h1, h2, ⟨e, rfl⟩ | ⟨e, rfl⟩⟩ := argH_is ar q
  · exact ⟨e, by rw [List.length_map]; exact h1, vs, _, vals_toV h2, e⟩
  · exact ⟨e, by rw [List.length_map]; exact h1, vs, vals_toV h2, _, e, rfl, _, rfl⟩
theorem seq_inj {c c' : Value} {vs us : List Value} (e : (some { cls := c, data := .seq vs.toArray } : Option Obj) = some { cls := c', data := .seq us.toArray }) : c = c' ∧ vs = us := by
  have e1 := Option.some.inj e
  have e2 : c = c' := congrArg Obj.cls e1
  have e3 : Data.seq vs.toArray = Data.seq us.toArray := congrArg Obj.data e1
  injection e3 with e4
  refine ⟨e2, ?_⟩
  have e5 := congrArg Array.toList e4
  simpa using e5
/-- a list argument -/
theorem argL (KX : K.In h) (ar : ∀ a ∈ A, ArgOb h A a) {a : Addr} {vs : List Value} (ha : a ∈ A) (e : h.get? a = some { cls := .type "list", data := .seq vs.toArray }) : (∀ u ∈ vs, OkU A u) ∧ SqL K (argH K h A) a (vs.map toV) := by
  obtain ⟨us, h1, h2, h3⟩ := ar a ha
  have hu : us = vs := by
    rcases h3 with q | q
    · rw [e] at q
      exact (seq_inj q).2.symm
    · rw [e] at q
      exact absurd (Value.type.inj (seq_inj q).1) (by decide)
  subst hu
  refine ⟨h2, ?_⟩
  cases hk : K.lookup a with
  | none => exact .inl (.inr ⟨_, by rw [argH_at ha hk e, hoOf_lst]⟩)
  | some o =>
    have e2 := KX a o hk
    rw [e] at e2
    obtain rfl := Option.some.inj e2
    exact .inr ⟨_, us.toArray, _, hk, rfl, rfl, rfl, by rw [List.size_toArray]; exact h1, by simpa using vals_toV h2⟩
theorem argT (KX : K.In h) (ar : ∀ a ∈ A, ArgOb h A a) {a : Addr} {vs : List Value} (ha : a ∈ A) (e : h.get? a = some { cls := .type "tuple", data := .seq vs.toArray }) : (∀ u ∈ vs, OkU A u) ∧ SqT K (argH K h A) a (vs.map toV) := by
  obtain ⟨us, h1, h2, h3⟩ := ar a ha
  have hu : us = vs := by
    rcases h3 with q | q
    · rw [e] at q
      exact absurd (Value.type.inj (seq_inj q).1) (by decide)
    · rw [e] at q
      exact (seq_inj q).2.symm
  subst hu
  refine ⟨h2, ?_⟩
  cases hk : K.lookup a with
  | none => exact .inl (.inr ⟨_, by rw [argH_at ha hk e, hoOf_tup]⟩)
  | some o =>
    have e2 := KX a o hk
    rw [e] at e2
    obtain rfl := Option.some.inj e2
    exact .inr ⟨_, us.toArray, _, hk, rfl, rfl, by rw [List.size_toArray]; exact h1, by simpa using vals_toV h2⟩
mutual
theorem dw_one {Pm : Params} (KX : K.In h) (ar : ∀ a ∈ A, ArgOb h A a) : ∀ (d : WData) (v : Value), Well Pm h v d → plW d = true → OkU A v → Dw K (argH K h A) (toV v) d
  | .none, _, x, _, _ => by
    cases x
    exact .non
  | .bool b, _, x, _, _ => by
    cases x
    exact .bl b
  | .int i, _, x, _, _ => by
    cases x
    exact .int i
  | .str s, _, x, _, _ => by
    cases x
    exact .str s
  | .bytes b, _, x, _, _ => by
    cases x
    have z := Dw.byt (K := K) (H := argH K h A) b.toArray
    exact z
  | .list ds, _, x, p, hu => by
    obtain ⟨a, vs, rfl, ho, hall⟩ := well_list x
    obtain ⟨h2, hs⟩ := argL KX ar hu ho
    exact .lst hs (dw_all KX ar ds _ hall p h2)
  | .tuple ds, _, x, p, hu => by
    obtain ⟨a, vs, rfl, ho, hall⟩ := well_tuple x
    obtain ⟨h2, hs⟩ := argT KX ar hu ho
    exact .tup hs (dw_all KX ar ds _ hall p h2)
  | .float _, _, _, p, _ => Bool.noConfusion (show false = true from p)
  | .dict _, _, _, p, _ => Bool.noConfusion (show false = true from p)
  | .bytearray _, _, _, p, _ => Bool.noConfusion (show false = true from p)
  | .set _, _, _, p, _ => Bool.noConfusion (show false = true from p)
  | .frozenset _, _, _, p, _ => Bool.noConfusion (show false = true from p)
  | .obj _ _, _, _, p, _ => Bool.noConfusion (show false = true from p)
theorem dw_all {Pm : Params} (KX : K.In h) (ar : ∀ a ∈ A, ArgOb h A a) : ∀ (ds : List WData) (vs : List Value), WellAll Pm h vs ds → plWs ds = true → (∀ u ∈ vs, OkU A u) → DwAll K (argH K h A) (vs.map toV) ds
  | [], _, x, _, _ => by
    cases x
    exact .nil
  | d :: ds, _, x, p, hu => by
    obtain ⟨v, vs, rfl, x1, x2⟩ := well_cons x
    have q : plW d = true ∧ plWs ds = true := Bool.and_eq_true_iff.mp p
    exact .cons (dw_one KX ar d v x1 q.1 (hu _ (List.mem_cons_self ..))) (dw_all KX ar ds vs x2 q.2 fun u m => hu u (List.mem_cons_of_mem _ m))
end
end
/-! ### the call -/
theorem spec_call {P : Program} {w : World} {K : PySem.W.Frag} {mg mb : Str → Option Value} {CX : CXT} {k : Nat} {fa : Addr} {fd : FuncData} {ps : List Str} {sp : Sp} {s₁ : Shared} {vals : List Value} {ds : List WData} {R : PySem.W.WRecords} {cl : Str → Option Addr} {d0 : WData}
    (KX : K.In s₁.heap) (hns : s₁.heap.Ns mainGlobals mg) (hb : s₁.heap.Ns builtinsNs mb) (hbb : ∀ x : Str, x ≠ "__name__" → mb x = bootBuiltins x) (hlim : s₁.heap.NoLimit) (hg : s₁.gens = #[])
    (hwl : WellAll w.params s₁.heap vals ds) (hpl : plWs ds = true) (hwt : ∀ d ∈ ds, d.weight ≤ 1048576) (hr : Room k callerA)
    (F : ∀ base : Heap, K.In base → base.Ns mainGlobals mg → FnOk P w K mg base CX k fa fd ps sp) (hbind : ∀ (s : Shared) (us : List Value), us.length = ps.length → BindsTo s fd ⟨us, []⟩ (ps.zip us)) (hlen : ds.length = ps.length)
    (hsp : ∀ (H : Hp) (xs : List V), OnlyF H → DwAll K H xs ds → sp xs H (fun v H' => Dw K H' v d0) fun _ _ _ => False)
    (hCX : ∀ H e s', CX [] H s₁ (fun _ _ _ => False) e s' → False) :
    codeAny (model P w) callerA (.call (.ref fa) ⟨vals, []⟩) (fun r s' => ∃ u as, r = .ok (.ret u) ∧ ReadsW R cl s'.heap u d0 as ∧ OldK s₁.heap s'.heap ∧ s'.os = s₁.os ∧ AllBare s'.gens) s₁ := by
  obtain ⟨A, ho, ar⟩ := area_all ds vals hwl hpl hwt
  have hO : OnlyF (argH K s₁.heap A) := argH_only ar
  have hok : HOk P w (argH K s₁.heap A) s₁.heap := argH_ok ar
  have hS := dw_all KX ar ds vals hwl hpl ho
  have hV := vals_toV ho
  have hK : ∀ b u, argH K s₁.heap A b = some u → K.lookup b = none := fun b u q => (argH_is ar q).1
  have noA : ∀ {b : Addr} {o : Obj} {es : Array DictEntry} {ep : Nat}, s₁.heap.get? b = some o → o.data = .dict es ep → argH K s₁.heap A b = none := fun {b o es ep} e d => by
    cases q : argH K s₁.heap A b with
    | none => rfl
    | some u =>
      obtain ⟨_, vs, _, _, ⟨e2, _⟩ | ⟨e2, _⟩⟩ := argH_is ar q
      · rw [e2] at e
        cases e
        have d' : Data.seq vs.toArray _ = Data.dict es ep := d
        cases d'
      · rw [e2] at e
        cases e
        have d' : Data.seq vs.toArray _ = Data.dict es ep := d
        cases d'
  generalize argH K s₁.heap A = H at hO hok hS hK noA
  have base_of : ∀ {b : Addr} {o : Obj}, s₁.heap.get? b = some o → H b = none → (hidT s₁.heap H).get? b = some o := fun e n => hidT_get e n
  have nsK : ∀ {b : Addr} {m : Str → Option Value}, s₁.heap.Ns b m → (hidT s₁.heap H).Ns b m := fun {b m} ⟨o, es, ep, e, d, r⟩ => ⟨o, es, ep, base_of e (noA e d), d, r⟩
  have nK : ∀ b o, K.lookup b = some o → H b = none := fun b o e => by
    cases q : H b with
    | none => rfl
    | some u =>
      rw [hK b u q] at e
      cases e
  have hKb : K.In (hidT s₁.heap H) := fun b o e => base_of (KX b o e) (nK b o e)
  have hM : Mod K mg (hidT s₁.heap H) := ⟨hKb, nsK hns, ⟨mb, nsK hb, hbb⟩, let ⟨mc, h1, h2⟩ := hlim; ⟨mc, nsK h1, h2⟩⟩
  have e0 : Env0 P w K mg (hidT s₁.heap H) callerA [] s₁ H := ⟨rfl, hM, fun b o e => of_hidT e, Nat.le_of_eq (hidT_size _ _), trivial, fun b hb => absurd (show b ∈ ([] : List Addr) from hb) (by simp), hok, .of_eq hg⟩
  have hl : vals.length = ps.length := by rw [wellAll_len hwl]; exact hlen
  refine codeAny_mono ((F _ hKb (nsK hns)).run callerA [] s₁ H ⟨vals, []⟩ vals (vals.map toV) _ _ hr e0 (hbind s₁ vals hl) hV (hsp H _ hO hS)) fun r s' x => ?_
  cases r with
  | error e => exact (hCX H e s' x).elim
  | ok fl =>
    cases fl with
    | next => exact False.elim x
    | brk => exact False.elim x
    | cont => exact False.elim x
    | ret u =>
      obtain ⟨v, H', os, bare, un, hok', r', q⟩ := x
      have kept : ∀ b o, s₁.heap.get? b = some o → s'.heap.get? b = some o := fun b o e => by
        cases q2 : H b with
        | none => exact un.keep b o e q2 (by intro z; exact absurd (show b ∈ ([] : List Addr) from z) (by simp)) (by simp)
        | some u2 =>
          rcases hO b with z | ⟨ob, u3, z⟩
          · rw [q2] at z
            cases z
          · have z2 := un.frzs b ob _ z
            obtain ⟨e1, _⟩ := hok b _ z
            obtain ⟨e2, _⟩ := hok' b _ z2
            rw [e] at e1
            cases e1
            exact e2
      have KX' : K.In s'.heap := fun b o e => kept b o (KX b o e)
      obtain ⟨as, hrd⟩ := Dw.reads (R := R) (cl := cl) hok' KX' d0 v u q r'
      exact ⟨u, as, rfl, hrd, OldK.of_keep kept, os, bare⟩
/-! ### the row -/
theorem layable_weight {ds : List WData} (h : WData.layableAll ds = true) : ∀ d ∈ ds, d.weight ≤ 1048576 := fun d hd =>
  (PySem.W.layableW_iff.mp (List.all_eq_true.mp h d hd)).2.2
theorem encAll_len : ∀ (cs : List Codec) (a : Codec.denoteAll cs), (Codec.encAll cs a).length = cs.length
  | [], _ => rfl
  | c :: cs, a => by
    show (Codec.encAll cs a.2).length + 1 = cs.length + 1
    rw [encAll_len cs a.2]
/-- the goal that k_headS leaves (case hc), from the promise of the row's def: whatever the arguments that the codecs let and the row asks for, the def gives what stands for enc (f ..) -/
theorem walk_spec {r : OpenSpec} {k : Nat} {q : Program} {loose : List Str} {XP : (Str → Option Value) → Heap → Prop} {YP : World → Heap → Prop} {d : DefRec} {K : Params → PySem.W.Frag} {CX : World → CXT} {ps : List Str} {sp : World → Sp}
    (hwell : r.wellSaid = true) (hdf : d.params.defaults = []) (hlen : r.args.length = ps.length) (hr : Room k callerA)
    (hY : ∀ (w : World) (h : Heap), YP w h → (K w.params).In h)
    (F : ∀ (w : World) (mg : Str → Option Value) (fa : Addr) (h : Heap), YP w h → (K w.params).In h → h.Ns mainGlobals mg → mg d.name = some (.ref fa) →
      ∃ fd : FuncData, (∀ (s : Shared) (us : List Value), us.length = ps.length → BindsTo s fd ⟨us, []⟩ (ps.zip us)) ∧
        ∀ base : Heap, (K w.params).In base → base.Ns mainGlobals mg → FnOk r.prog w (K w.params) mg base (CX w) k fa fd ps (sp w))
    (hsp : ∀ (w : World) (H : Hp) (xs : List V) (a : Codec.denoteAll r.args), OnlyF H → Codec.withinAll r.args a = true → Codec.app r.args r.asked a = true → DwAll (K w.params) H xs (Codec.encAll r.args a) →
      sp w xs H (fun v H' => Dw (K w.params) H' v (r.ret.enc (Codec.app r.args r.f a))) fun _ _ _ => False)
    (hCX : ∀ (w : World) (H : Hp) (s : Shared) (e : Value) (s' : Shared), CX w [] H s (fun _ _ _ => False) e s' → False) :
    PySem.W.WalkOS q loose XP YP r d [] (fun f vs => PySem.call f vs) := by
  intro w s_0 s₁ mg mb G Y fa o pm cd doc dV kV ho hd hcd hD hmg hg args vals as hpre hlay hrd hwl hlo
  obtain ⟨a, e1, e2⟩ := PySem.W.os_pre_some hpre
  obtain ⟨e3, hwi⟩ := Codec.encAll_of_decAll r.args args a e1
  subst e3
  have KX := hY w _ Y
  obtain ⟨fd, hb, hF⟩ := F w mg fa _ Y KX G.T.g hmg
  refine PySem.W.enter_call (codeAny_mono (spec_call (R := []) (cl := classAt s_0.heap) (d0 := r.ret.enc (Codec.app r.args r.f a)) KX G.T.g G.T.b G.T.builtins G.T.nolimit hg hwl (pl_encAll _ _) (layable_weight hlay) hr hF hb (by rw [encAll_len]; exact hlen)
    (fun H xs hO hS => hsp w H xs a hO hwi e2 hS) fun H e s' => hCX w H s₁ e s') fun r' s' hq => ?_)
  obtain ⟨u, as', rfl, h1, h2, h3, h4⟩ := hq
  exact ⟨.inl ⟨u, _, as', rfl, fun _ => rfl, h1, (OpenSpec.post_iff hwell hwi _ _).mpr rfl, fun z => Bool.noConfusion (show false = true from z)⟩, h2, h3, h4⟩
/-- the same where the promise hangs on the written part alone -/
theorem walk_specK {r : OpenSpec} {k : Nat} {q : Program} {loose : List Str} {XP : (Str → Option Value) → Heap → Prop} {YP : World → Heap → Prop} {d : DefRec} {K : Params → PySem.W.Frag} {CX : CXT} {ps : List Str} {sp : PySem.W.Frag → Sp}
    (hwell : r.wellSaid = true) (hdf : d.params.defaults = []) (hlen : r.args.length = ps.length) (hr : Room k callerA)
    (hY : ∀ (w : World) (h : Heap), YP w h → (K w.params).In h)
    (F : ∀ (w : World) (mg : Str → Option Value) (fa : Addr) (h : Heap), YP w h → (K w.params).In h → h.Ns mainGlobals mg → mg d.name = some (.ref fa) →
      ∃ fd : FuncData, (∀ (s : Shared) (us : List Value), us.length = ps.length → BindsTo s fd ⟨us, []⟩ (ps.zip us)) ∧
        ∀ base : Heap, (K w.params).In base → base.Ns mainGlobals mg → FnOk r.prog w (K w.params) mg base CX k fa fd ps (sp (K w.params)))
    (hsp : ∀ (K : PySem.W.Frag) (H : Hp) (xs : List V) (a : Codec.denoteAll r.args), OnlyF H → Codec.withinAll r.args a = true → Codec.app r.args r.asked a = true → DwAll K H xs (Codec.encAll r.args a) →
      sp K xs H (fun v H' => Dw K H' v (r.ret.enc (Codec.app r.args r.f a))) fun _ _ _ => False)
    (hCX : ∀ (H : Hp) (s : Shared) (e : Value) (s' : Shared), CX [] H s (fun _ _ _ => False) e s' → False) :
    PySem.W.WalkOS q loose XP YP r d [] (fun f vs => PySem.call f vs) :=
  walk_spec (K := K) (CX := fun _ => CX) (sp := fun w => sp (K w.params)) hwell hdf hlen hr hY F (fun w H xs a h1 h2 h3 h4 => hsp (K w.params) H xs a h1 h2 h3 h4) fun _ H s e s' => hCX H s e s'
end L2
end
section
set_option Elab.async false
set_option linter.all false
set_option maxRecDepth 100000
set_option maxHeartbeats 4000000
/-! RULES OF MY OWN over the layer: a constant of the top, a table of the top, enumerate, list(reversed(..)). -/
namespace L2
open PySem PySem.Spec PyProof.Rows
theorem pe_const {X : Cx} {x : Str} {i : Int} {pos : Pos} (hg : Gl X x) (hm : ∃ t, X.mg x = some (.int i t)) (hd : (x == ("__debug__" : Str)) = false := by decide) : PE X (.Name x pos) (tC (.int i)) := by
  obtain ⟨t, h⟩ := hm
  exact pe_glob hg h ⟨t, rfl⟩ hd
theorem boot_sum5 : bootBuiltins "sum" = some (.builtin "sum") := by decide +kernel
theorem boot_min5 : bootBuiltins "min" = some (.builtin "min") := by decide +kernel
theorem boot_max5 : bootBuiltins "max" = some (.builtin "max") := by decide +kernel
theorem boot_list5 : bootBuiltins "list" = some (.type "list") := by decide +kernel
/-! a table of the top: ints to ints -/
def mdE : List DictEntry → List (Int × Int) → Bool
  | [], [] => true
  | ⟨h, .int k _, .int v _⟩ :: es, (k', v') :: r => k == k' && (v == v' && (h == hashInt k && mdE es r))
  | _, _ => false
def mdOk (o : Obj) (kvs : List (Int × Int)) : Bool := match o with
  | ⟨.type n, none, .dict es _, sl⟩ => n == "dict" && (sl.size == 0 && mdE es.toList kvs)
  | _ => false
def MD (K : PySem.W.Frag) (a : Addr) (kvs : List (Int × Int)) : Prop := ∃ o, K.lookup a = some o ∧ mdOk o kvs = true ∧ (a == sysModules) = false
theorem mdE_keys : ∀ {es : List DictEntry} {kvs : List (Int × Int)}, mdE es kvs = true → ∀ e ∈ es, ∃ k, Value.isInt k e.key = true ∧ e.hash = hashInt k
  | [], _, _, e, he => by cases he
  | ⟨h, .int k t, .int v u⟩ :: es, (k', v') :: r, hm, e, he => by
    simp only [mdE, Bool.and_eq_true, beq_iff_eq] at hm
    rcases List.mem_cons.mp he with rfl | he
    · exact ⟨k, by simp [Value.isInt], hm.2.2.1⟩
    · exact mdE_keys hm.2.2.2 e he
theorem mdE_find : ∀ {es : List DictEntry} {kvs : List (Int × Int)} {k v : Int}, mdE es kvs = true → kvs.lookup k = some v → ∃ t, (es.find? fun e => Value.isInt k e.key).map (·.val) = some (.int v t)
  | [], [], k, v, _, h => by cases h
  | ⟨h, .int k0 t, .int v0 u⟩ :: es, (k', v') :: r, k, v, hm, hl => by
    simp only [mdE, Bool.and_eq_true, beq_iff_eq] at hm
    obtain ⟨rfl, rfl, _, hm⟩ := hm
    rw [List.lookup_cons] at hl
    rw [List.find?_cons]
    by_cases q : k0 = k
    · subst q
      simp only [beq_self_eq_true] at hl
      cases hl
      exact ⟨u, by simp [Value.isInt]⟩
    · have q1 : (k == k0) = false := beq_eq_false_iff_ne.mpr fun e => q e.symm
      have q2 : (k0 == k) = false := beq_eq_false_iff_ne.mpr q
      rw [q1] at hl
      simp only [Value.isInt, q2]
      exact mdE_find hm hl
theorem md_map {P : Program} {w : World} {K : PySem.W.Frag} {h : Heap} {a : Addr} {kvs : List (Int × Int)} (KX : K.In h) (m : MD K a kvs) : ∃ f : Int → Option Value, h.MapOf (intKind P w) a f ∧ ∀ k v, kvs.lookup k = some v → ∃ t, f k = some (.int v t) := by
  obtain ⟨o, hl, hm, _⟩ := m
  have hg := KX a o hl
  unfold mdOk at hm
  split at hm
  · rename_i n es ep sl
    simp only [Bool.and_eq_true, beq_iff_eq] at hm
    obtain ⟨rfl, hs, he⟩ := hm
    have hs' : sl = #[] := Array.eq_empty_of_size_eq_zero hs
    subst hs'
    refine ⟨_, ⟨_, es, ep, hg, ⟨rfl, rfl, rfl⟩, rfl, fun e hin => mdE_keys he e (Array.mem_def.mp hin), fun k => rfl⟩, fun k v hk => ?_⟩
    obtain ⟨t, ht⟩ := mdE_find he hk
    refine ⟨t, ?_⟩
    show findBy Value.isInt es k = _
    unfold findBy
    rw [← Array.find?_toList]
    exact ht
  · cases hm
def tMD (K : PySem.W.Frag) (td ty : TE) : TE := fun σ H Q => td σ H fun x H1 => ty σ H1 fun y H2 => ∃ (a : Addr) (kvs : List (Int × Int)) (k v : Int), x = .ref a ∧ y = .int k ∧ MD K a kvs ∧ kvs.lookup k = some v ∧ Q (.int v) H2
theorem pe_mdget {X : Cx} {o i : Expr} {pos : Pos} {td ty : TE} (ho : PE X o td) (hi : PE X i ty) (hs : NoSl i) : PE X (.Subscript o i pos) (tMD X.K td ty) := by
  intro pins s σ H Q I h
  refine subD_of PySem.F.slot_dict_getitem.lookup hs (thn (ho pins s σ H _ I h) fun u s1 ⟨x, H1, I1, rx, q1⟩ => thn (hi pins s1 σ H1 _ I1 q1) fun iv s2 ⟨y, H2, I2, ry, a, kvs, k, v, ex, ey, m, hk, q2⟩ => ?_)
  subst ex ey
  obtain rfl : u = Value.ref a := rx
  obtain ⟨t, rfl⟩ := ry
  obtain ⟨f, hm, hf⟩ := md_map (P := X.prog) (w := X.w) I2.kIn m
  obtain ⟨t', e⟩ := hf k v hk
  exact ⟨hm.typeIs, wpAny_getItem_of (by simp [intKind, Value.isInt]) hm e ⟨.int v, H2, I2.tok _, ⟨t', rfl⟩, q2⟩⟩
end L2
/-! list(reversed(xs)) -/
namespace PySem
namespace F
theorem nolen_rv : typeLookup (.type "list_reverseiterator") "__len__" = pure none := by rw [typeLookup_type, builtinLookup_eq_fast]; kernel_rfl
theorem hint_rv : typeLookup (.type "list_reverseiterator") "__length_hint__" = pure (some (.builtin "list_reverseiterator.__length_hint__")) := by rw [typeLookup_type, builtinLookup_eq_fast]; kernel_rfl
end F
section
variable {prog : Program} {w : World} {A : Around} {E : Value → Shared → Prop} {s : Shared}
theorem hint_rev {r : Addr} {Q : Bool → Shared → Prop} (hT : s.TypeIs (.ref r) "list_reverseiterator") (h : Q false s) : wpAny (model prog w) A (Builtin.List.listLengthHint (.ref r)) Q E s := by
  unfold Builtin.List.listLengthHint
  refine wpAny_bind (wpAny_specialOf hT F.nolen_rv ?_)
  show wpAny _ A (specialOf (Value.ref r) (Str.ofString "__length_hint__") >>= _) _ _ _
  refine wpAny_bind (wpAny_specialOf hT F.hint_rv ?_)
  (generalize hid : ("list_reverseiterator.__length_hint__" : String) = id0; (fail_if_success (clear hid id0)); wp_delta; rw [show splitId id0 = some ("list_reverseiterator", "__length_hint__") from by subst hid; decide +kernel]; subst hid)
  refine wpAny_bind (wpAny_isInstance (b := true) hT (by rw [isSubtype_type]; kernel_rfl) ?_)
  exact wpAny_pure h
theorem extend_rev {R : Result → Shared → Prop} {I l : Addr} {items : Array Value} (hh : A.handled = none) (hne : l ≠ I) (hit : s.heap.IsRevIter I l ((items.size : Int) - 1)) (hl : s.heap.IsList l items) (S : Addr) (hSI : S ≠ I) (hSl : S ≠ l) (res : Value) (c₀ : Nat)
    (hS : s.heap.get? S = some { cls := .type "list", data := .seq #[] c₀ })
    (hR : ∀ h' tk acc' c', (∀ b o, b ≠ S → b ≠ I → s.heap.get? b = some o → h'.get? b = some o) → h'.get? S = some { cls := .type "list", dict := none, data := .seq acc' c', slots := #[] } →
      ItemsOf (fun i v => items[items.size - 1 - i]? = some v) acc' items.size → R (.ok (.ret res)) { s with heap := h', toks := tk }) (hn : items.size ≤ sizeLine) :
    wpAny (model prog w) A.in1 (Builtin.List.listExtendWith (.ref S) (.ref I) res)
      (fun fin s' => match fin with | .done f => R (.ok f) s' | .again c' => c'.quiet = true ∧ codeAny (model prog w) A c' R s') (fun e s' => R (.error e) s') s := by
  have W := (Walks.listRev (prog := prog) (w := w) (A := A.in1) hh I l hne items).toS
  have hSf : S ∉ [I, l] := by simp [hSI, hSl]
  unfold Builtin.List.listExtendWith
  refine wpAny_bind (wpAny_typeOf hit.typeIs ?_)
  have h1 : Builtin.List.listSameRef (.ref S) (.ref I) = false := by simp [Builtin.List.listSameRef, hSI]
  have h2 : (Value.type "list_reverseiterator" == Value.type "list") = false := by decide
  have h3 : (Value.type "list_reverseiterator" == Value.type "tuple") = false := by decide
  simp only [h1, h2, h3, Bool.or_false, Bool.false_eq_true, if_false]
  refine wpAny_bind (wpAny_pyIter_revIter hit ?_)
  refine wpAny_bind (wpAny_holding (hint_rev hit.typeIs ?_))
  rw [if_neg (by decide)]
  refine wpAny_pure ⟨plainId_quiet F.plain_extend_loop _, codeAny_extend_loopS W hn S hSf res items.size 0 _ _ c₀ rfl (Nat.zero_le _) ⟨Nat.zero_le _, by simpa using hit, hl⟩ hS (ItemsOf.nil _) fun s' acc' c' hm hS' hacc => ?_⟩
  rw [Moved.eq_with hm]
  refine hR s'.heap s'.toks acc' c' (fun b o hb hb2 e => hm.heap b o (fun hmem => ?_) e) hS' hacc
  rcases List.mem_cons.mp hmem with e' | hmem
  · exact hb e'
  · exact hb2 (List.mem_singleton.mp hmem)
theorem call_list_rev {Q : Value → Shared → Prop} {I l : Addr} {items : Array Value} (hh : A.handled = none) (hne : l ≠ I) (hit : s.heap.IsRevIter I l ((items.size : Int) - 1)) (hl : s.heap.IsList l items) (hn : items.size ≤ sizeLine)
    (hQ : ∀ h' tk acc' c', (∀ b o, b ≠ I → s.heap.get? b = some o → h'.get? b = some o) → h'.get? s.heap.objs.size = some { cls := .type "list", dict := none, data := .seq acc' c', slots := #[] } →
      ItemsOf (fun i v => items[items.size - 1 - i]? = some v) acc' items.size → Q (.ref s.heap.objs.size) { s with heap := h', toks := tk }) :
    wpAny (model prog w) A (call (.type "list") [.ref I]) Q E s := by
  have hIlt : I < s.heap.objs.size := let ⟨o, ho, _⟩ := hit; Heap.lt_size ho
  have hllt : l < s.heap.objs.size := let ⟨o, ho, _⟩ := hl; Heap.lt_size ho
  refine callType_codes (Q₁ := fun obj s₁ => obj = .ref s.heap.objs.size ∧ s₁ = { s with heap := s.heap.push { cls := .type "list", data := .seq #[] } }) F.called_list (F.typeCall_list_1 _) F.entry_list_init
    (code_list_new _ ⟨rfl, rfl⟩) fun obj s₁ h₁ => ?_
  obtain ⟨rfl, rfl⟩ := h₁
  have hS : (s.heap.push { cls := .type "list", data := .seq #[] }).get? s.heap.objs.size = some { cls := .type "list", data := .seq #[] } := Heap.get?_push_size _ rfl
  refine ⟨⟨_, hS, rfl⟩, F.args_list_init_2 _ _, ?_⟩
  show wpAny _ _ (do let old ← Builtin.List.listItems (.ref s.heap.objs.size); Builtin.List.listUpdate (.ref s.heap.objs.size) (fun _ => #[]); letGo old.toList.reverse; Builtin.List.listExtendWith (.ref s.heap.objs.size) (.ref I) .none) _ _ _
  refine wpAny_bind ?_
  unfold Builtin.List.listItems
  refine wpAny_bind (wpAny_seqItems hS rfl (wpAny_pure ?_))
  show wpAny _ _ (updateSeq s.heap.objs.size (fun _ => #[]) >>= fun _ => letGo (#[] : Array Value).toList.reverse >>= fun _ => Builtin.List.listExtendWith (.ref s.heap.objs.size) (.ref I) .none) _ _ _
  refine wpAny_bind (wpAny_updateSeq hS rfl ?_)
  have hS₂ := Heap.get?_update_self (Obj.mapSeq (fun _ => (#[] : Array Value))) hS rfl
  have oth : ∀ b o, b ≠ s.heap.objs.size → s.heap.get? b = some o → ((s.heap.push { cls := .type "list", data := .seq #[] }).update s.heap.objs.size (Obj.mapSeq (fun _ => (#[] : Array Value)))).get? b = some o :=
    fun b o hb e => (Heap.get?_update_other _ _ (Ne.symm hb)).trans (Heap.get?_push_of_some _ e)
  refine wpAny_bind (wpAny_letGo ?_)
  refine extend_rev (A := A.in1) (items := items) hh hne (hit.at fun o e => oth I o (Nat.ne_of_lt hIlt) e) (hl.at fun o e => oth l o (Nat.ne_of_lt hllt) e) s.heap.objs.size (fun e => Nat.ne_of_lt hIlt e.symm) (fun e => Nat.ne_of_lt hllt e.symm) .none _ hS₂ (fun h' tk acc' c' hk hS' hacc => ?_) hn
  exact ⟨rfl, hQ h' tk acc' c' (fun b o hb e => hk b o (Nat.ne_of_lt (Heap.lt_size e)) hb (oth b o (Nat.ne_of_lt (Heap.lt_size e)) e)) hS' hacc⟩
end
end PySem
namespace L2
open PySem PySem.Spec PyProof.Rows
def rRevL (K : PySem.W.Frag) : List V → Hp → VK → Prop := fun vs H Q => ∃ (a : Addr) (xs : List V), vs = [.ref a] ∧ SqL K H a xs ∧ ∀ l, H l = none → Q (.ref l) (upd H l (.lst xs.reverse))
theorem pe_listRev {X : Cx} {e : Expr} {ta : TA} {p1 p2 pos1 pos2 : Pos} (hc : X.calm = true) (hg1 : Gl X "list") (hg2 : Gl X "reversed") (hm1 : X.mg "list" = none) (hm2 : X.mg "reversed" = none) (ha : PA X [e] ta)
    (hs1 : starEach [.Call (.Name "reversed" p2) [e] [] pos2] X.env = [(false, eval (.Call (.Name "reversed" p2) [e] [] pos2) X.env)] := by rfl) (hs : starEach [e] X.env = [(false, eval e X.env)] := by rfl) :
    PE X (.Call (.Name "list" p1) [.Call (.Name "reversed" p2) [e] [] pos2] [] pos1) (tCB (rRevL X.K) ta) := by
  intro pins s σ H Q I h
  refine wpAny_Call_Name_kw (ld_blt I hg1 hm1 boot_list5 (PyProof.Rows.callWith_type1 ?_ hs1 rfl))
  rw [hs1]
  show wpAny _ _ (spliced ((false, eval (.Call (.Name "reversed" p2) [e] [] pos2) X.env) :: backTo pos1 (starEach [] X.env))) _ _ s
  refine Calls.spliced_cons ?_
  refine wpAny_Call_Name_kw (ld_blt I hg2 hm2 boot_reversed5 (PyProof.Rows.callWith_type1 (thn (ha pos2 pins s σ H _ I h) fun us s1 ⟨vs, H1, I1, r1, q1⟩ => ?_) hs rfl))
  obtain ⟨a, xs, ev, hq, q⟩ := q1
  subst ev
  rw [Vals.ref1 r1]
  obtain ⟨its, rv, pl, hz⟩ := I1.list hq
  have hl := rv.length
  have hlen : its.toArray.size = its.length := by simp
  refine call_reversed_list pl.isList ?_
  have I2 : Inv X pins σ H1 { s1 with heap := s1.heap.push (revObj a ((its.toArray.size : Int) - 1)), toks := s1.toks } := I1.kept fun b u eb => Heap.get?_push_of_some _ eb
  have hfp : FpOk X pins H1 s1.heap.objs.size := I1.fpOk (Nat.le_refl _) (I1.hok.fresh (Nat.le_refl _))
  obtain ⟨oa, hoa, hoc, na, hod⟩ := pl.isList
  have hne : a ≠ s1.heap.objs.size := Nat.ne_of_lt (Heap.lt_size hoa)
  have hit : (s1.heap.push (revObj a ((its.toArray.size : Int) - 1))).IsRevIter s1.heap.objs.size a ((its.toArray.size : Int) - 1) := ⟨_, Heap.get?_push_size _ rfl, rfl, rfl⟩
  have hil : (s1.heap.push (revObj a ((its.toArray.size : Int) - 1))).IsList a its.toArray := ⟨oa, Heap.get?_push_of_some _ hoa, hoc, na, hod⟩
  refine Calls.spliced_nil ?_
  refine call_list_rev (s := { s1 with heap := s1.heap.push (revObj a ((its.toArray.size : Int) - 1)), toks := s1.toks }) (items := its.toArray) (I2.ok.hd hc) hne hit hil (by omega) fun h' tk acc' c' hk hS' hacc => ?_
  have hfresh : H1 (s1.heap.push (revObj a ((its.toArray.size : Int) - 1))).objs.size = none := I2.hok.fresh (Nat.le_refl _)
  have hval : Vals xs.reverse acc'.toList := by
    have e1 : acc'.toList = its.reverse := by
      apply List.ext_getElem?
      intro j
      by_cases hj : j < its.length
      · have h1 : j < acc'.size := by rw [hacc.1]; omega
        have h2 := hacc.2 j acc'[j] (Array.getElem?_eq_getElem h1)
        rw [List.getElem?_reverse hj]
        rw [hlen] at h2
        rw [List.getElem?_toArray] at h2
        rw [h2]
        simp [h1]
      · rw [List.getElem?_eq_none (by simp [hacc.1]; omega), List.getElem?_eq_none (by simp; omega)]
    rw [e1]
    exact rv.reverse
  refine ⟨.ref _, upd H1 _ (.lst xs.reverse), I2.turnedNew (t' := tk) (ch := [s1.heap.objs.size]) (fun b o hb eb => hk b o (fun z => hb (by simp [z])) eb) (fun b hb => by
    have : b = s1.heap.objs.size := by simpa using hb
    subst this
    exact hfp) (Nat.le_refl _) ⟨by simpa using hz, acc'.toList, c', hval, hS'⟩, rfl, q _ hfresh⟩
end L2
end
section
set_option Elab.async false
set_option linter.all false
set_option maxRecDepth 100000
set_option maxHeartbeats 4000000
/-! a tuple of ints of the top; tuple(..) -/
namespace L2
open PySem PySem.Spec PyProof.Rows
theorem boot_tuple5 : bootBuiltins "tuple" = some (.type "tuple") := by decide +kernel
def mtE : List Value → List Int → Bool
  | [], [] => true
  | .int k _ :: es, k' :: r => k == k' && mtE es r
  | _, _ => false
def mtOk (o : Obj) (ns : List Int) : Bool := match o with
  | ⟨.type n, _, .seq its _, _⟩ => n == "tuple" && (decide (its.size ≤ 100) && mtE its.toList ns)
  | _ => false
def MT (K : PySem.W.Frag) (a : Addr) (ns : List Int) : Prop := ∃ o, K.lookup a = some o ∧ mtOk o ns = true
theorem mtE_vals : ∀ {es : List Value} {ns : List Int}, mtE es ns = true → Vals (ns.map V.int) es
  | [], [], _ => .nil
  | .int k t :: es, k' :: r, h => by
    simp only [mtE, Bool.and_eq_true, beq_iff_eq] at h
    obtain ⟨rfl, h⟩ := h
    exact .cons ⟨t, rfl⟩ (mtE_vals h)
theorem MT.seq {K : PySem.W.Frag} {a : Addr} {ns : List Int} (m : MT K a ns) (H : Hp) : SqT K H a (ns.map V.int) := by
  obtain ⟨o, hl, hm⟩ := m
  unfold mtOk at hm
  split at hm
  · rename_i n dd its k sl
    simp only [Bool.and_eq_true, beq_iff_eq, decide_eq_true_eq] at hm
    obtain ⟨rfl, hs, he⟩ := hm
    exact .inr ⟨_, its, _, hl, rfl, rfl, Nat.le_trans hs (by decide), mtE_vals he⟩
  · cases hm
end L2
end
section
set_option linter.all false
namespace My
open LinkCut
def pof (par : List (Option Nat)) (a : Nat) : Option Nat := match par[a]? with
  | some (some b) => some b
  | _ => none
theorem parent_eq (f : Forest) (a : Nat) : f.parent a = pof f.par a := rfl
inductive Up (par : List (Option Nat)) : Nat → List Nat → Prop
  | root {a : Nat} : pof par a = none → Up par a [a]
  | step {a b : Nat} {l : List Nat} : pof par a = some b → Up par b l → Up par a (a :: l)
theorem Up.det {par : List (Option Nat)} {a : Nat} {l : List Nat} (h : Up par a l) : ∀ {l' : List Nat}, Up par a l' → l = l' := by
  induction h with
  | root e =>
    intro l' h'
    cases h' with
    | root _ => rfl
    | step e' _ => rw [e] at e'; cases e'
  | step e hb ih =>
    intro l' h'
    cases h' with
    | root e' => rw [e] at e'; cases e'
    | step e' hb' =>
      rw [e] at e'
      cases e'
      rw [ih hb']
theorem Up.head {par : List (Option Nat)} {a : Nat} {l : List Nat} (h : Up par a l) : ∃ t, l = a :: t := by
  cases h with
  | root _ => exact ⟨_, rfl⟩
  | step _ _ => exact ⟨_, rfl⟩
theorem Up.ne {par : List (Option Nat)} {a : Nat} {l : List Nat} (h : Up par a l) : l ≠ [] := by
  obtain ⟨t, rfl⟩ := h.head
  simp
theorem Up.mem {par : List (Option Nat)} {a c : Nat} {l : List Nat} (h : Up par a l) : c ∈ l → ∃ l1 l2, l = l1 ++ l2 ∧ Up par c l2 := by
  induction h with
  | root e =>
    intro hc
    have : c = _ := List.mem_singleton.mp hc
    subst this
    exact ⟨[], _, rfl, .root e⟩
  | step e hb ih =>
    intro hc
    rcases List.mem_cons.mp hc with rfl | hc
    · exact ⟨[], _, rfl, .step e hb⟩
    · obtain ⟨l1, l2, rfl, h2⟩ := ih hc
      exact ⟨_ :: l1, l2, rfl, h2⟩
theorem Up.nodup {par : List (Option Nat)} {a : Nat} {l : List Nat} (h : Up par a l) : l.Nodup := by
  induction h with
  | root e => simp
  | @step a b l e hb ih =>
    refine List.nodup_cons.mpr ⟨fun hm => ?_, ih⟩
    obtain ⟨l1, l2, e2, h2⟩ := hb.mem hm
    have := h2.det (Up.step e hb)
    rw [e2] at this
    have := congrArg List.length this
    simp at this
    omega
theorem Up.lt {par : List (Option Nat)} {n : Nat} (hl : ∀ a b, pof par a = some b → b < n) {a : Nat} {l : List Nat} (h : Up par a l) : a < n → ∀ c ∈ l, c < n := by
  induction h with
  | root e =>
    intro ha c hc
    have : c = _ := List.mem_singleton.mp hc
    subst this
    exact ha
  | step e hb ih =>
    intro ha c hc
    rcases List.mem_cons.mp hc with rfl | hc
    · exact ha
    · exact ih (hl _ _ e) c hc
theorem pigeon : ∀ (n : Nat) (l : List Nat), l.Nodup → (∀ c ∈ l, c < n) → l.length ≤ n
  | 0, [], _, _ => Nat.le_refl _
  | 0, a :: l, _, h => absurd (h a (by simp)) (by omega)
  | n + 1, l, hn, h => by
    have h1 : (l.erase n).length ≤ n := pigeon n (l.erase n) (hn.erase n) fun c hc => by
      have := (List.Nodup.mem_erase_iff hn).mp hc
      have := h c this.2
      omega
    have := List.length_erase (a := n) (l := l)
    split at this <;> omega
theorem upFrom_eq (f : Forest) {a : Nat} {l : List Nat} (h : Up f.par a l) : ∀ {k : Nat}, l.length ≤ k → f.upFrom k a = l := by
  induction h with
  | root e =>
    intro k hk
    match k, hk with
    | k + 1, _ =>
      unfold Forest.upFrom
      rw [parent_eq, e]
  | step e hb ih =>
    intro k hk
    match k, hk with
    | k + 1, hk =>
      unfold Forest.upFrom
      rw [parent_eq, e]
      show _ :: f.upFrom k _ = _
      rw [ih (by simp at hk; omega)]
structure Good (f : Forest) : Prop where
  len : f.val.length = f.par.length
  pos : 0 < f.par.length
  le : f.par.length ≤ 32
  lt : ∀ a b, pof f.par a = some b → b < f.par.length
  up : ∀ a, a < f.par.length → ∃ l, Up f.par a l
theorem Good.up_ok {f : Forest} (G : Good f) {a : Nat} (ha : a < f.par.length) : Up f.par a (f.up a) := by
  obtain ⟨l, h⟩ := G.up a ha
  have := upFrom_eq f h (k := f.par.length) (pigeon _ _ h.nodup (h.lt G.lt ha))
  show Up f.par a (f.upFrom f.par.length a)
  rw [this]
  exact h
theorem Good.up_le {f : Forest} (G : Good f) {a : Nat} (ha : a < f.par.length) : (f.up a).length ≤ f.par.length :=
  pigeon _ _ (G.up_ok ha).nodup ((G.up_ok ha).lt G.lt ha)
theorem Good.up_lt {f : Forest} (G : Good f) {a : Nat} (ha : a < f.par.length) : ∀ c ∈ f.up a, c < f.par.length :=
  (G.up_ok ha).lt G.lt ha
/-! the last of a chain -/
theorem Up.last {par : List (Option Nat)} {a : Nat} {l : List Nat} (h : Up par a l) (d : Nat) : pof par (l.getLastD d) = none := by
  induction h generalizing d with
  | root e => simpa using e
  | step e hb ih =>
    obtain ⟨t, rfl⟩ := hb.head
    have := ih d
    simpa using this
theorem getLastD_mem : ∀ (l : List Nat) (d : Nat), l ≠ [] → l.getLastD d ∈ l
  | [], _, h => absurd rfl h
  | [a], d, _ => by simp
  | a :: b :: l, d, _ => by
    have := getLastD_mem (b :: l) a (by simp)
    rw [List.getLastD_cons]
    exact List.mem_cons_of_mem _ this
theorem Up.last_mem {par : List (Option Nat)} {a : Nat} {l : List Nat} (h : Up par a l) (d : Nat) : l.getLastD d ∈ l := getLastD_mem l d h.ne
theorem Up.last_of {par : List (Option Nat)} {a c : Nat} {l : List Nat} (h : Up par a l) (d : Nat) : c ∈ l → pof par c = none → l.getLastD d = c := by
  induction h generalizing d with
  | root e =>
    intro hc _
    have : c = _ := List.mem_singleton.mp hc
    subst this
    rfl
  | step e hb ih =>
    intro hc hn
    rcases List.mem_cons.mp hc with rfl | hc
    · rw [e] at hn; cases hn
    · rw [List.getLastD_cons]
      exact ih _ hc hn
/-- who share a node share the root -/
theorem Up.share {par : List (Option Nat)} {a b c : Nat} {l m : List Nat} (h : Up par a l) (h' : Up par b m) (d e : Nat) (hc : c ∈ l) (hc' : c ∈ m) : l.getLastD d = m.getLastD e := by
  obtain ⟨l1, l2, rfl, h2⟩ := h.mem hc
  obtain ⟨m1, m2, rfl, h3⟩ := h'.mem hc'
  have e2 := h2.det h3
  subst e2
  have hr := h2.last_mem 0
  have hn := h2.last 0
  rw [h.last_of d (List.mem_append_right _ hr) hn, h'.last_of e (List.mem_append_right _ hr) hn]
theorem joined_iff {f : Forest} (G : Good f) {a b : Nat} (ha : a < f.par.length) (hb : b < f.par.length) : f.joined a b = true ↔ ∃ c, c ∈ f.up a ∧ c ∈ f.up b := by
  have h1 := G.up_ok ha
  have h2 := G.up_ok hb
  unfold Forest.joined Forest.root
  rw [beq_iff_eq]
  constructor
  · intro e
    exact ⟨_, h1.last_mem a, by rw [e]; exact h2.last_mem b⟩
  · rintro ⟨c, h3, h4⟩
    exact h1.share h2 a b h3 h4
/-! changes of one parent -/
theorem pof_set {par : List (Option Nat)} {a : Nat} (o : Option Nat) (c : Nat) (ha : a < par.length) : pof (par.set a o) c = if c = a then o else pof par c := by
  unfold pof
  rw [List.getElem?_set]
  by_cases e : a = c
  · subst e
    rw [if_pos rfl, if_pos ha, if_pos rfl]
    cases o <;> rfl
  · rw [if_neg e, if_neg (fun q => e q.symm)]
theorem pof_lt {par : List (Option Nat)} {a b : Nat} (h : pof par a = some b) : a < par.length := by
  unfold pof at h
  split at h
  · rename_i e
    exact (List.getElem?_eq_some_iff.mp e).1
  · cases h
theorem Up.keep {par : List (Option Nat)} {a c : Nat} {l : List Nat} (o : Option Nat) (ha : a < par.length) (h : Up par c l) : a ∉ l → Up (par.set a o) c l := by
  induction h with
  | @root c e =>
    intro hm
    refine .root ?_
    rw [pof_set o _ ha, if_neg (fun q => hm (by simp [q])), e]
  | @step c b l e hb ih =>
    intro hm
    refine .step ?_ (ih fun q => hm (List.mem_cons_of_mem _ q))
    rw [pof_set o _ ha, if_neg (fun q => hm (by simp [q])), e]
theorem Up.cut {par : List (Option Nat)} {a c : Nat} {l : List Nat} (ha : a < par.length) (h : Up par c l) : ∃ l', Up (par.set a none) c l' := by
  induction h with
  | @root c e =>
    refine ⟨_, .root ?_⟩
    rw [pof_set none _ ha, e]
    split <;> rfl
  | @step c b l e hb ih =>
    by_cases q : c = a
    · exact ⟨_, .root (by rw [pof_set none _ ha, if_pos q])⟩
    · obtain ⟨l', h'⟩ := ih
      exact ⟨_, .step (by rw [pof_set none _ ha, if_neg q, e]) h'⟩
theorem Up.link {par : List (Option Nat)} {a b c : Nat} {l m : List Nat} (ha : a < par.length) (hb : Up par b m) (hm : a ∉ m) (h : Up par c l) : ∃ l', Up (par.set a (some b)) c l' := by
  induction h with
  | @root c e =>
    by_cases q : c = a
    · exact ⟨_, .step (by rw [pof_set _ _ ha, if_pos q]) (hb.keep _ ha hm)⟩
    · exact ⟨_, .root (by rw [pof_set _ _ ha, if_neg q, e])⟩
  | @step c d l e hd ih =>
    by_cases q : c = a
    · exact ⟨_, .step (by rw [pof_set _ _ ha, if_pos q]) (hb.keep _ ha hm)⟩
    · obtain ⟨l', h'⟩ := ih
      exact ⟨_, .step (by rw [pof_set _ _ ha, if_neg q, e]) h'⟩
theorem Good.cut {f : Forest} (G : Good f) {a : Nat} (ha : a < f.par.length) : Good ⟨f.par.set a none, f.val⟩ where
  len := by simpa using G.len
  pos := by simpa using G.pos
  le := by simpa using G.le
  lt := fun x y h => by
    rw [pof_set none _ ha] at h
    split at h
    · cases h
    · simpa using G.lt _ _ h
  up := fun c hc => by
    obtain ⟨l, h⟩ := G.up c (by simpa using hc)
    exact h.cut ha
theorem Good.link {f : Forest} (G : Good f) {a b : Nat} (ha : a < f.par.length) (hb : b < f.par.length) (hr : f.parent a = none) (hj : f.joined a b = false) : Good ⟨f.par.set a (some b), f.val⟩ where
  len := by simpa using G.len
  pos := by simpa using G.pos
  le := by simpa using G.le
  lt := fun x y h => by
    rw [pof_set _ _ ha] at h
    split at h
    · cases h
      simpa using hb
    · simpa using G.lt _ _ h
  up := fun c hc => by
    obtain ⟨l, h⟩ := G.up c (by simpa using hc)
    refine Up.link ha (G.up_ok hb) (fun q => ?_) h
    have : f.joined a b = true := (joined_iff G ha hb).mpr ⟨a, by obtain ⟨t, e⟩ := (G.up_ok ha).head; rw [e]; simp, q⟩
    rw [hj] at this
    cases this
theorem Good.val {f : Forest} (G : Good f) {v : List Int} (hl : v.length = f.val.length) : Good ⟨f.par, v⟩ := ⟨hl.trans G.len, G.pos, G.le, G.lt, G.up⟩
theorem pof_rep (n a : Nat) : pof (List.replicate n none) a = none := by
  unfold pof
  rw [List.getElem?_replicate]
  split
  · rename_i e
    split at e
    · cases e
    · cases e
  · rfl
theorem Good.new {n : Nat} (h1 : 1 ≤ n) (h2 : n ≤ 32) : Good ⟨List.replicate n none, List.replicate n 0⟩ where
  len := by simp
  pos := by rw [List.length_replicate]; omega
  le := by simpa using h2
  lt := fun x y h => by rw [pof_rep] at h; cases h
  up := fun c hc => ⟨_, .root (pof_rep n c)⟩
/-! turned -/
theorem turned_len : ∀ (l : List Nat) (p : List (Option Nat)), (turnedOn l p).length = p.length
  | [], _ => rfl
  | [_], _ => rfl
  | a :: b :: r, p => by
    show (turnedOn (b :: r) (p.set b (some a))).length = _
    rw [turned_len (b :: r)]
    simp
/-- what stands on no place behind the first stays -/
theorem turned_out : ∀ (l : List Nat) (p : List (Option Nat)) (c : Nat), c ∉ l.tail → (∀ x ∈ l, x < p.length) → pof (turnedOn l p) c = pof p c
  | [], _, _, _, _ => rfl
  | [_], _, _, _, _ => rfl
  | a :: b :: r, p, c, h, hl => by
    show pof (turnedOn (b :: r) (p.set b (some a))) c = _
    rw [turned_out (b :: r) _ c (fun q => h (List.mem_cons_of_mem _ q)) (fun x hx => by simpa using hl x (List.mem_cons_of_mem _ hx)), pof_set _ _ (hl b (by simp)), if_neg]
    intro q
    exact h (by simp [q])
theorem turned_in : ∀ (l : List Nat) (p : List (Option Nat)) (l1 l2 : List Nat) (x y : Nat), l = l1 ++ x :: y :: l2 → l.Nodup → (∀ x ∈ l, x < p.length) → pof (turnedOn l p) y = some x
  | [], p, l1, l2, x, y, e, _, _ => by cases l1 <;> cases e
  | [z], p, l1, l2, x, y, e, _, _ => by
    have := congrArg List.length e
    simp at this
    omega
  | a :: b :: r, p, [], l2, x, y, e, hn, hl => by
    injection e with e1 e2
    injection e2 with e2 e3
    subst e1 e2 e3
    show pof (turnedOn (b :: r) (p.set b (some a))) b = _
    rw [turned_out _ _ _ (List.nodup_cons.mp (List.nodup_cons.mp hn).2).1 (fun x hx => by simpa using hl x (List.mem_cons_of_mem _ hx)), pof_set _ _ (hl b (by simp)), if_pos rfl]
  | a :: b :: r, p, z :: l1, l2, x, y, e, hn, hl => by
    injection e with e1 e2
    show pof (turnedOn (b :: r) (p.set b (some a))) y = _
    exact turned_in (b :: r) _ l1 l2 x y e2 (List.nodup_cons.mp hn).2 (fun x hx => by simpa using hl x (List.mem_cons_of_mem _ hx))
/-- the chain of a node of the turned row -/
theorem turned_up {l : List Nat} {q : List (Option Nat)} {a : Nat} (hn : l.Nodup) (hh : ∃ t, l = a :: t) (h0 : pof q a = none) (h1 : ∀ (l1 l2 : List Nat) (x y : Nat), l = l1 ++ x :: y :: l2 → pof q y = some x) :
    ∀ (k : Nat) (l1 l2 : List Nat) (c : Nat), l1.length = k → l = l1 ++ c :: l2 → ∃ m, Up q c m
  | 0, l1, l2, c, hk, e => by
    have : l1 = [] := List.length_eq_zero_iff.mp hk
    subst this
    obtain ⟨t, ht⟩ := hh
    rw [ht] at e
    injection e with e1 e2
    subst e1
    exact ⟨_, .root h0⟩
  | k + 1, l1, l2, c, hk, e => by
    obtain ⟨l3, x, rfl⟩ : ∃ l3 x, l1 = l3 ++ [x] := by
      rcases List.eq_nil_or_concat l1 with h | ⟨l3, x, h⟩
      · rw [h] at hk; cases hk
      · exact ⟨l3, x, by simpa using h⟩
    have e' : l = l3 ++ x :: c :: l2 := by rw [e]; simp
    obtain ⟨m, hm⟩ := turned_up hn hh h0 h1 k l3 (c :: l2) x (by simp at hk; omega) e'
    exact ⟨_, .step (h1 l3 l2 x c e') hm⟩
theorem Good.reroot {f : Forest} (G : Good f) {a : Nat} (ha : a < f.par.length) : Good (f.reroot a) := by
  have hu := G.up_ok ha
  have hlt := G.up_lt ha
  have hl : (turnedOn (f.up a) f.par).length = f.par.length := turned_len _ _
  have hq : ∀ c, pof (f.reroot a).par c = if c = a then none else pof (turnedOn (f.up a) f.par) c := fun c => pof_set none c (by rw [hl]; exact ha)
  have hL : (f.reroot a).par.length = f.par.length := by
    show ((turnedOn (f.up a) f.par).set a none).length = _
    simp [hl]
  obtain ⟨t, ht⟩ := hu.head
  have h0 : pof (f.reroot a).par a = none := by rw [hq, if_pos rfl]
  have h1 : ∀ (l1 l2 : List Nat) (x y : Nat), f.up a = l1 ++ x :: y :: l2 → pof (f.reroot a).par y = some x := by
    intro l1 l2 x y e
    rw [hq, if_neg, turned_in _ _ l1 l2 x y e hu.nodup hlt]
    intro q
    subst q
    have hn := hu.nodup
    rw [ht] at hn e
    match l1, e with
    | [], e =>
      injection e with e1 e2
      exact (List.nodup_cons.mp hn).1 (by rw [e2]; simp)
    | z :: l1, e =>
      injection e with e1 e2
      exact (List.nodup_cons.mp hn).1 (by rw [e2]; simp)
  have hout : ∀ c, c ∉ f.up a → pof (f.reroot a).par c = pof f.par c := by
    intro c hc
    rw [hq, if_neg (fun q => hc (by rw [ht, q]; simp)), turned_out _ _ _ (fun q => hc (List.mem_of_mem_tail q)) hlt]
  have hup : ∀ c l, Up f.par c l → ∃ m, Up (f.reroot a).par c m := by
    intro c l h
    induction h with
    | @root c e =>
      by_cases hc : c ∈ f.up a
      · obtain ⟨l1, l2, e2⟩ := List.append_of_mem hc
        exact turned_up hu.nodup ⟨t, ht⟩ h0 h1 _ l1 l2 c rfl e2
      · exact ⟨_, .root (by rw [hout c hc, e])⟩
    | @step c d l e hd ih =>
      by_cases hc : c ∈ f.up a
      · obtain ⟨l1, l2, e2⟩ := List.append_of_mem hc
        exact turned_up hu.nodup ⟨t, ht⟩ h0 h1 _ l1 l2 c rfl e2
      · obtain ⟨m, hm⟩ := ih
        exact ⟨_, .step (by rw [hout c hc, e]) hm⟩
  refine ⟨by rw [hL]; exact G.len, by rw [hL]; exact G.pos, by rw [hL]; exact G.le, fun x y h => ?_, fun c hc => ?_⟩
  · rw [hL]
    by_cases hc : x ∈ f.up a
    · obtain ⟨l1, l2, e2⟩ := List.append_of_mem hc
      rcases List.eq_nil_or_concat l1 with e3 | ⟨l3, z, e3⟩
      · subst e3
        rw [ht] at e2
        injection e2 with e4 e5
        rw [← e4, h0] at h
        cases h
      · have e4 : f.up a = l3 ++ z :: x :: l2 := by rw [e2, e3]; simp
        rw [h1 l3 l2 z x e4] at h
        cases h
        exact hlt _ (by rw [e4]; simp)
    · rw [hout x hc] at h
      exact G.lt _ _ h
  · rw [hL] at hc
    obtain ⟨l, h⟩ := G.up c hc
    exact hup c l h
/-! lists -/
theorem find_at {α : Type} {p : α → Bool} : ∀ {l : List α} {i : Nat} {c : α}, l[i]? = some c → p c = true → (∀ (j : Nat) (x : α), j < i → l[j]? = some x → p x = false) → l.find? p = some c
  | [], i, c, h, _, _ => by simp at h
  | a :: l, 0, c, h, hp, _ => by
    have e : a = c := Option.some.inj h
    subst e
    rw [List.find?_cons, hp]
  | a :: l, i + 1, c, h, hp, hn => by
    rw [List.find?_cons, hn 0 a (Nat.succ_pos i) rfl]
    exact find_at (l := l) (i := i) h hp (fun j x hj hx => hn (j + 1) x (Nat.succ_lt_succ hj) hx)
theorem find_none {α : Type} {p : α → Bool} {l : List α} (h : ∀ (j : Nat) (x : α), l[j]? = some x → p x = false) : l.find? p = none := by
  rw [List.find?_eq_none]
  intro x hx
  obtain ⟨j, hj⟩ := List.mem_iff_getElem?.mp hx
  rw [h j x hj]
  exact Bool.false_ne_true
theorem while_at {α : Type} {p : α → Bool} : ∀ {l : List α} {i : Nat} {c : α}, l[i]? = some c → p c = false → (∀ (j : Nat) (x : α), j < i → l[j]? = some x → p x = true) → l.takeWhile p = l.take i
  | [], i, c, h, _, _ => by simp at h
  | a :: l, 0, c, h, hp, _ => by
    have e : a = c := Option.some.inj h
    subst e
    rw [List.takeWhile_cons, hp]
    rfl
  | a :: l, i + 1, c, h, hp, hn => by
    rw [List.takeWhile_cons, hn 0 a (Nat.succ_pos i) rfl, List.take_succ_cons]
    exact congrArg (a :: ·) (while_at (l := l) (i := i) h hp (fun j x hj hx => hn (j + 1) x (Nat.succ_lt_succ hj) hx))
theorem take_snoc {α : Type} : ∀ {l : List α} {i : Nat} {x : α}, l[i]? = some x → l.take (i + 1) = l.take i ++ [x]
  | [], i, x, h => by simp at h
  | a :: l, 0, x, h => by
    have e : a = x := Option.some.inj h
    subst e
    rfl
  | a :: l, i + 1, x, h => by
    have ih := take_snoc (l := l) (i := i) (x := x) h
    show a :: l.take (i + 1) = a :: l.take i ++ [x]
    rw [ih]
    rfl
/-! the way, as two rows are walked -/
theorem way_at {f : Forest} (G : Good f) {a b : Nat} (ha : a < f.par.length) (hb : b < f.par.length) {i k : Nat} {c : Nat} (hi : (f.up a)[i]? = some c) (hk : (f.up b)[k]? = some c)
    (h1 : ∀ (j : Nat) (x : Nat), j < i → (f.up a)[j]? = some x → x ∉ f.up b) (h2 : ∀ (j : Nat) (x : Nat), j < k → (f.up b)[j]? = some x → x ≠ c) :
    f.joined a b = true ∧ f.meet a b = c ∧ f.way a b = (f.up a).take (i + 1) ++ ((f.up b).take k).reverse := by
  have hm : c ∈ f.up b := List.mem_of_getElem? hk
  have e1 : f.meet a b = c := by
    unfold Forest.meet
    rw [find_at hi (by simpa using hm) (fun j x hj hx => by simpa using h1 j x hj hx)]
    rfl
  refine ⟨(joined_iff G ha hb).mpr ⟨c, List.mem_of_getElem? hi, hm⟩, e1, ?_⟩
  have e2 : f.way a b = (f.up a).takeWhile (fun (x : Nat) => x != c) ++ (c :: ((f.up b).takeWhile fun (x : Nat) => x != c).reverse) := by
    unfold Forest.way
    rw [e1]
  rw [e2, while_at hi (by simp) (fun j x hj hx => by
      have := h1 j x hj hx
      have q : x ≠ c := fun e => this (e ▸ hm)
      simpa using q), while_at hk (by simp) (fun j x hj hx => by simpa using h2 j x hj hx), take_snoc hi]
  simp
theorem way_none {f : Forest} (G : Good f) {a b : Nat} (ha : a < f.par.length) (hb : b < f.par.length) (h1 : ∀ (j : Nat) (x : Nat), (f.up a)[j]? = some x → x ∉ f.up b) : f.joined a b = false := by
  cases e : f.joined a b with
  | false => rfl
  | true =>
    obtain ⟨c, h2, h3⟩ := (joined_iff G ha hb).mp e
    obtain ⟨j, hj⟩ := List.mem_iff_getElem?.mp h2
    exact absurd h3 (h1 j c hj)
/-- the way has its ends, all of it is there -/
theorem way_ne (f : Forest) (a b : Nat) : f.way a b ≠ [] := by
  unfold Forest.way
  simp
theorem way_lt {f : Forest} (G : Good f) {a b : Nat} (ha : a < f.par.length) (hb : b < f.par.length) : ∀ c ∈ f.way a b, c < f.par.length := by
  intro c hc
  unfold Forest.way at hc
  rcases List.mem_append.mp hc with h | h
  · exact G.up_lt ha c ((List.takeWhile_sublist _).subset h)
  · rcases List.mem_cons.mp h with e | h
    · rw [e]
      unfold Forest.meet
      cases q : (f.up a).find? fun (c : Nat) => (f.up b).contains c with
      | none => exact ha
      | some z => exact G.up_lt ha z (List.mem_of_find?_eq_some q)
    · exact G.up_lt hb c ((List.takeWhile_sublist _).subset (List.mem_reverse.mp h))
theorem way_len {f : Forest} (G : Good f) {a b : Nat} (ha : a < f.par.length) (hb : b < f.par.length) : (f.way a b).length ≤ 65 := by
  have h1 := G.up_le ha
  have h2 := G.up_le hb
  have h3 := G.le
  have h4 := (List.takeWhile_sublist (l := f.up a) (fun (c : Nat) => c != f.meet a b)).length_le
  have h5 := (List.takeWhile_sublist (l := f.up b) (fun (c : Nat) => c != f.meet a b)).length_le
  unfold Forest.way
  simp only [List.length_append, List.length_cons, List.length_reverse]
  omega
/-! the least -/
theorem least_at (f : Forest) : ∀ {w : List Nat} {j : Nat} {c : Nat} {m : Int}, w[j]? = some c → f.value c = m → (∀ x ∈ w, m ≤ f.value x) → (∀ (i : Nat) (x : Nat), i < j → w[i]? = some x → f.value x ≠ m) → leastOn f w = some (m, c)
  | [], j, c, m, h, _, _, _ => by simp at h
  | [a], j, c, m, h, hv, hl, hn => by
    match j, h with
    | 0, h =>
      have e : a = c := Option.some.inj h
      subst e
      subst hv
      rfl
    | j + 1, h => simp at h
  | a :: b :: w, 0, c, m, h, hv, hl, hn => by
    have e : a = c := Option.some.inj h
    subst e
    unfold leastOn
    cases q : leastOn f (b :: w) with
    | none => simp [hv]
    | some x =>
      have hx : ∃ y ∈ b :: w, f.value y = x.1 := least_mem f q
      obtain ⟨y, hy, ey⟩ := hx
      have := hl y (List.mem_cons_of_mem _ hy)
      show (if x.1 < f.value a then some x else some (f.value a, a)) = some (m, a)
      rw [if_neg (by omega), hv]
  | a :: b :: w, j + 1, c, m, h, hv, hl, hn => by
    have ih := least_at f (w := b :: w) (j := j) (c := c) (m := m) h hv (fun x hx => hl x (List.mem_cons_of_mem _ hx)) (fun i x hi hx => hn (i + 1) x (Nat.succ_lt_succ hi) hx)
    unfold leastOn
    rw [ih]
    have h1 := hl a (by simp)
    have h2 := hn 0 a (Nat.succ_pos j) rfl
    show (if m < f.value a then some (m, c) else some (f.value a, a)) = some (m, c)
    rw [if_pos (by omega)]
where
  least_mem (f : Forest) : ∀ {w : List Nat} {x : Int × Nat}, leastOn f w = some x → ∃ y ∈ w, f.value y = x.1
  | [], x, h => by cases h
  | a :: w, x, h => by
    unfold leastOn at h
    cases q : leastOn f w with
    | none =>
      rw [q] at h
      cases h
      exact ⟨a, by simp, rfl⟩
    | some z =>
      rw [q] at h
      have h' : (if z.1 < f.value a then some z else some (f.value a, a)) = some x := h
      split at h'
      · cases h'
        obtain ⟨y, hy, ey⟩ := least_mem f q
        exact ⟨y, List.mem_cons_of_mem _ hy, ey⟩
      · cases h'
        exact ⟨a, by simp, rfl⟩
theorem sumOf_eq : ∀ l : List Int, sumOf l = l.sum
  | [] => rfl
  | a :: l => by
    show a + sumOf l = _
    rw [sumOf_eq l, List.sum_cons]
/-! add -/
theorem addTo_len (d : Int) : ∀ (w : List Nat) (v : List Int), (addTo d w v).length = v.length
  | [], _ => rfl
  | a :: w, v => by
    show (addTo d w _).length = _
    rw [addTo_len d w, List.length_set]
theorem addTo_snoc (d : Int) : ∀ (w : List Nat) (v : List Int) (x : Nat), addTo d (w ++ [x]) v = (addTo d w v).set x ((addTo d w v).getD x 0 + d)
  | [], _, _ => rfl
  | a :: w, v, x => by
    show addTo d (w ++ [x]) _ = _
    rw [addTo_snoc d w]
    rfl
/-! turned -/
theorem turned_comm : ∀ (l : List Nat) (p : List (Option Nat)) (a : Nat) (o : Option Nat), a ∉ l.tail → turnedOn l (p.set a o) = (turnedOn l p).set a o
  | [], _, _, _, _ => rfl
  | [_], _, _, _, _ => rfl
  | x :: b :: r, p, a, o, h => by
    show turnedOn (b :: r) ((p.set a o).set b (some x)) = (turnedOn (b :: r) (p.set b (some x))).set a o
    have q : a ≠ b := fun e => h (by simp [e])
    rw [List.set_comm _ _ q, turned_comm (b :: r) _ a o (fun e => h (List.mem_cons_of_mem _ e))]
theorem turned_snoc : ∀ (l : List Nat) (p : List (Option Nat)) (x y : Nat), turnedOn (l ++ [x, y]) p = (turnedOn (l ++ [x]) p).set y (some x)
  | [], _, _, _ => rfl
  | [a], p, x, y => rfl
  | a :: b :: r, p, x, y => by
    show turnedOn (b :: r ++ [x, y]) _ = (turnedOn (b :: r ++ [x]) _).set y (some x)
    exact turned_snoc (b :: r) _ x y
theorem turned_take {l : List Nat} {p : List (Option Nat)} {k x y : Nat} (hx : l[k]? = some x) (hy : l[k + 1]? = some y) : turnedOn (l.take (k + 2)) p = (turnedOn (l.take (k + 1)) p).set y (some x) := by
  rw [take_snoc hy, take_snoc hx, List.append_assoc]
  exact turned_snoc _ _ _ _
theorem reroot_eq {f : Forest} (G : Good f) {a : Nat} (ha : a < f.par.length) : (f.reroot a).par = turnedOn (f.up a) (f.par.set a none) := by
  have hu := G.up_ok ha
  obtain ⟨t, ht⟩ := hu.head
  have hn := hu.nodup
  rw [turned_comm]
  · rfl
  · rw [ht] at hn ⊢
    exact (List.nodup_cons.mp hn).1
/-! parents as numbers -/
def enc (par : List (Option Nat)) : List Int := par.map fun o => ((o.getD 99 : Nat) : Int)
theorem enc_len (par : List (Option Nat)) : (enc par).length = par.length := List.length_map ..
theorem enc_set (par : List (Option Nat)) (a : Nat) (o : Option Nat) : enc (par.set a o) = (enc par).set a ((o.getD 99 : Nat) : Int) := List.map_set
theorem enc_get {par : List (Option Nat)} {a : Nat} (ha : a < par.length) : (enc par)[a]? = some (((pof par a).getD 99 : Nat) : Int) := by
  unfold enc pof
  rw [List.getElem?_map, List.getElem?_eq_getElem ha]
  cases par[a] <;> rfl
theorem Good.none_iff {f : Forest} (G : Good f) {a : Nat} : (((pof f.par a).getD 99 : Nat) : Int) = 99 ↔ pof f.par a = none := by
  cases e : pof f.par a with
  | none => simp
  | some b =>
    have := G.lt a b e
    have := G.le
    simp
    omega
/-! the calls -/
theorem whole_eq (c : List (List Int)) : PyWqaqah.whole c = c := by
  unfold PyWqaqah.whole
  split <;> rfl
theorem map_whole (cs : List (List (List Int))) : cs.map PyWqaqah.whole = cs := by
  have : PyWqaqah.whole = id := funext fun c => whole_eq c
  rw [this, List.map_id]
def nums (p : Int) : Nat := match PyWqaqah.shape p with
  | some (n, _) => n
  | none => 0
theorem shape_in {p : Int} {n k : Nat} (h : PyWqaqah.shape p = some (n, k)) : p = 1 ∨ p = 2 ∨ p = 3 ∨ p = 4 ∨ p = 5 ∨ p = 6 ∨ p = 7 ∨ p = 8 ∨ p = 9 ∨ p = 10 ∨ p = 11 ∨ p = 12 ∨ p = 13 ∨ p = 14 ∨ p = 15 ∨ p = 16 := by
  by_cases q : 1 ≤ p ∧ p ≤ 16
  · omega
  · unfold PyWqaqah.shape at h
    rw [if_neg (by omega), if_neg (by omega), if_neg (by omega), if_neg (by omega), if_neg (by omega), if_neg (by omega), if_neg (by omega), if_neg (by omega), if_neg (by omega), if_neg (by omega), if_neg (by omega), if_neg (by omega), if_neg (by omega), if_neg (by omega), if_neg (by omega), if_neg (by omega)] at h
    cases h
theorem shape_rows {p : Int} {n k : Nat} (h : PyWqaqah.shape p = some (n, k)) : k = 0 ∧ nums p = n ∧ 1 ≤ p ∧ p ≤ 16 := by
  refine ⟨?_, by unfold nums; rw [h], ?_⟩
  · rcases shape_in h with rfl | rfl | rfl | rfl | rfl | rfl | rfl | rfl | rfl | rfl | rfl | rfl | rfl | rfl | rfl | rfl <;> (simp [PyWqaqah.shape] at h; omega)
  · have := shape_in h
    omega
theorem calls_cons {f : Nat} {p : Int} {r : List Int} {cs : List (List (List Int))} (h : PyFlat.calls PyWqaqah.shape f (p :: r) = some cs) :
    ∃ g cs', f = g + 1 ∧ 1 ≤ p ∧ p ≤ 16 ∧ nums p ≤ r.length ∧ cs = [p :: r.take (nums p)] :: cs' ∧ PyFlat.calls PyWqaqah.shape g (r.drop (nums p)) = some cs' := by
  cases f with
  | zero => cases h
  | succ g =>
    unfold PyFlat.calls at h
    unfold PyFlat.call at h
    cases e : PyWqaqah.shape p with
    | none =>
      dsimp only at h
      rw [e] at h
      cases h
    | some nk =>
      obtain ⟨n, k⟩ := nk
      obtain ⟨rfl, hn, h1, h2⟩ := shape_rows e
      subst hn
      dsimp only at h
      rw [e] at h
      dsimp only at h
      split at h
      · cases h
      · rename_i c t q
        split at q
        · cases q
        · rename_i hl
          unfold PyFlat.rows at q
          dsimp only at q
          cases q
          split at h
          · cases h
          · rename_i cs' hcs
            cases h
            exact ⟨g, cs', rfl, h1, h2, by omega, rfl, hcs⟩
end My
namespace My
open LinkCut
theorem Up.next {par : List (Option Nat)} {a : Nat} {L : List Nat} (h : Up par a L) : ∀ {k c b : Nat}, L[k]? = some c → pof par c = some b → L[k + 1]? = some b := by
  induction h with
  | @root a e =>
    intro k c b hk hb
    match k, hk with
    | 0, hk =>
      have : a = c := Option.some.inj hk
      subst this
      rw [e] at hb
      cases hb
    | k + 1, hk => simp at hk
  | @step a d l e hd ih =>
    intro k c b hk hb
    match k, hk with
    | 0, hk =>
      have : a = c := Option.some.inj hk
      subst this
      rw [e] at hb
      cases hb
      obtain ⟨t, rfl⟩ := hd.head
      rfl
    | k + 1, hk => exact ih (k := k) hk hb
theorem Up.stop {par : List (Option Nat)} {a : Nat} {L : List Nat} (h : Up par a L) : ∀ {k c : Nat}, L[k]? = some c → pof par c = none → k + 1 = L.length := by
  induction h with
  | @root a e =>
    intro k c hk hb
    match k, hk with
    | 0, hk => rfl
    | k + 1, hk => simp at hk
  | @step a d l e hd ih =>
    intro k c hk hb
    match k, hk with
    | 0, hk =>
      have : a = c := Option.some.inj hk
      subst this
      rw [e] at hb
      cases hb
    | k + 1, hk =>
      have := ih (k := k) hk hb
      simp
      omega
end My
end
section
set_option linter.all false
namespace My
open LinkCut
def Fine : State → Prop
  | none => True
  | some r => Good r.now ∧ (∀ m ∈ r.marks, Good m) ∧ r.marks.length ≤ 8
theorem size_eq (f : Forest) : f.size = f.par.length := rfl
def Ok2 (x : State × Ans) : Prop := Fine x.1 ∧ x.2.nums.length ≤ 65
theorem ok2_ite {c : Prop} [Decidable c] {x y : State × Ans} (h1 : c → Ok2 x) (h2 : ¬ c → Ok2 y) : Ok2 (if c then x else y) := by
  by_cases h : c
  · rw [if_pos h]
    exact h1 h
  · rw [if_neg h]
    exact h2 h
theorem step_ok2 {s : State} (h : Fine s) (c : LinkCut.Call) : Ok2 (LinkCut.step s c) := by
  cases s with
  | none =>
    cases c with
    | open_ n =>
      refine ok2_ite (fun _ => ⟨trivial, Nat.zero_le _⟩) fun q => ?_
      have : NODES = 32 := rfl
      exact ⟨⟨Good.new (by omega) (by omega), by simp, by simp⟩, by simp [tells]⟩
    | _ => exact ⟨trivial, Nat.zero_le _⟩
  | some r =>
    obtain ⟨hg, hm, hl⟩ := h
    have keep : Fine (some r) := ⟨hg, hm, hl⟩
    have no : ∀ z, Ok2 (some r, says z) := fun z => ⟨keep, Nat.zero_le _⟩
    have two : ∀ (a b : Nat) (f : Rec → State × Ans), (a < r.now.par.length → b < r.now.par.length → Ok2 (f r)) → Ok2 (ofTwo (some r) a b f) := by
      intro a b f hf
      refine ok2_ite (fun _ => no _) fun q => ?_
      rw [size_eq] at q
      exact hf (by omega) (by omega)
    have one : ∀ (a : Nat) (f : Rec → State × Ans), (a < r.now.par.length → Ok2 (f r)) → Ok2 (ofNode (some r) a f) := by
      intro a f hf
      refine ok2_ite (fun _ => no _) fun q => ?_
      rw [size_eq] at q
      exact hf (by omega)
    have joi : ∀ (a b : Nat) (f : Rec → State × Ans), (a < r.now.par.length → b < r.now.par.length → r.now.joined a b = true → Ok2 (f r)) → Ok2 (ofJoined (some r) a b f) := by
      intro a b f hf
      refine two a b _ fun h1 h2 => ok2_ite (fun _ => no _) fun q => hf h1 h2 (by simpa using q)
    cases c with
    | open_ n =>
      refine ok2_ite (fun _ => no _) fun q => ?_
      have : NODES = 32 := rfl
      exact ⟨⟨Good.new (by omega) (by omega), by simp, by simp⟩, by simp [tells]⟩
    | link a b =>
      exact two a b _ fun h1 h2 => ok2_ite (fun _ => no _) fun q1 => ok2_ite (fun _ => no _) fun q2 =>
        ⟨⟨hg.link h1 h2 (by simpa using q1) (by simpa using q2), hm, hl⟩, by simp [tells]⟩
    | cut a => exact one a _ fun h1 => ok2_ite (fun _ => no _) fun _ => ⟨⟨hg.cut h1, hm, hl⟩, by simp [tells]⟩
    | root a => exact one a _ fun h1 => ⟨keep, by simp [tells, «ints»]⟩
    | reroot a => exact one a _ fun h1 => ⟨⟨hg.reroot h1, hm, hl⟩, by simp [tells]⟩
    | put a v => exact one a _ fun h1 => ok2_ite (fun _ => no _) fun _ => ⟨⟨hg.val (by simp), hm, hl⟩, by simp [tells]⟩
    | add a b d => exact joi a b _ fun h1 h2 _ => ok2_ite (fun _ => ⟨⟨hg.val (addTo_len _ _ _), hm, hl⟩, by simp [tells]⟩) fun _ => no _
    | path a b =>
      refine joi a b _ fun h1 h2 _ => ⟨keep, ?_⟩
      dsimp only
      split <;> simp [says, tells]
    | place a b i =>
      refine joi a b _ fun h1 h2 _ => ⟨keep, ?_⟩
      dsimp only
      split <;> simp [says, tells]
    | find a b v =>
      refine joi a b _ fun h1 h2 _ => ⟨keep, ?_⟩
      dsimp only
      split <;> simp [says, tells]
    | meet a b => exact joi a b _ fun h1 h2 _ => ⟨keep, by simp [tells]⟩
    | below a => exact one a _ fun h1 => ⟨keep, by simp [tells]⟩
    | mark =>
      have : MARKS = 8 := rfl
      refine ok2_ite (fun _ => no _) fun q => ⟨⟨hg, fun m hm' => ?_, by simp; omega⟩, by simp [tells]⟩
      rcases List.mem_append.mp hm' with h | h
      · exact hm m h
      · rw [List.mem_singleton.mp h]
        exact hg
    | back i =>
      show Ok2 (match r.marks[i]? with | none => (some r, says (-6)) | some f => (some ⟨f, r.marks.take (i + 1)⟩, tells []))
      split
      · exact no _
      · rename_i f e
        exact ⟨⟨hm f (List.mem_of_getElem? e), fun m hm' => hm m (List.mem_of_mem_take hm'), by simp; omega⟩, by simp [tells]⟩
    | way a b => exact joi a b _ fun h1 h2 _ => ⟨keep, by simpa [tells, «ints»] using way_len hg h1 h2⟩
    | parents => exact ⟨keep, by have := hg.le; simp [ofRec, LinkCut.step, tells, «ints»]; omega⟩
theorem step_fine {s : State} (h : Fine s) (c : LinkCut.Call) : Fine (LinkCut.step s c).1 ∧ (LinkCut.step s c).2.nums.length ≤ 65 := step_ok2 h c
/-! the list of calls, taken one by one -/
structure Run (ns : List Int) (s : State) (place : Nat) (told : List Int) : Prop where
  fine : Fine s
  le : place ≤ ns.length
  go : ∃ f cs, PyFlat.calls PyWqaqah.shape f (ns.drop place) = some cs ∧ (∀ c ∈ cs, LinkCutNeutral.asked1 c = true) ∧ told ++ PyFlat.told (PyFlat.played LinkCutNeutral.step s cs) = PyWqaqah.answers ns ∧ told.length + 67 * cs.length ≤ 13400
theorem Run.start {ns : List Int} (h : PyWqaqah.answers_asked ns = true) : Run ns none 0 [] := by
  unfold PyWqaqah.answers_asked at h
  unfold PyWqaqah.calls at h
  refine ⟨trivial, Nat.zero_le _, ?_⟩
  cases e : PyFlat.calls PyWqaqah.shape ns.length ns with
  | none =>
    rw [e] at h
    cases h
  | some cs =>
    rw [e] at h
    dsimp only at h
    rw [map_whole] at h
    unfold PyFlat.atMost LinkCutNeutral.asked at h
    rw [Bool.and_eq_true, Bool.and_eq_true, Bool.and_eq_true] at h
    obtain ⟨h1, h2, h3, h4⟩ := h
    refine ⟨ns.length, cs, by rw [List.drop_zero]; exact e, fun c hc => List.all_eq_true.mp h4 c hc, ?_, ?_⟩
    · unfold PyWqaqah.answers PyWqaqah.calls
      rw [e]
      dsimp only
      rw [map_whole]
      rfl
    · have := of_decide_eq_true h1
      simp
      omega
theorem Run.done {ns : List Int} {s : State} {told : List Int} {place : Nat} (h : Run ns s place told) (hp : ns.length ≤ place) : told = PyWqaqah.answers ns := by
  obtain ⟨f, cs, h1, h2, h3, h4⟩ := h.go
  rw [List.drop_eq_nil_of_le hp] at h1
  have : cs = [] := by
    cases f with
    | zero => cases h1; rfl
    | succ f => cases h1; rfl
  subst this
  rw [← h3]
  show told = told ++ PyFlat.told []
  unfold PyFlat.told
  simp
/-- the next call: its number, how many numbers it has, what it does -/
theorem Run.next {ns : List Int} {s : State} {told : List Int} {place : Nat} (h : Run ns s place told) {p : Int} (hp : ns[place]? = some p) :
    1 ≤ p ∧ p ≤ 16 ∧ place + 1 + nums p ≤ ns.length ∧ LinkCutNeutral.asked1 [p :: (ns.drop (place + 1)).take (nums p)] = true ∧ told.length + 67 ≤ 13400 ∧
    ∃ c, LinkCutNeutral.callOf [p :: (ns.drop (place + 1)).take (nums p)] = some c ∧
      Run ns (LinkCut.step s c).1 (place + 1 + nums p) (told ++ (((LinkCut.step s c).2.nums.length + 1 : Nat) : Int) :: (LinkCut.step s c).2.code :: (LinkCut.step s c).2.nums) := by
  obtain ⟨f, cs, h1, h2, h3, h4⟩ := h.go
  have hlt : place < ns.length := (List.getElem?_eq_some_iff.mp hp).1
  have hd : ns.drop place = p :: ns.drop (place + 1) := by
    rw [List.drop_eq_getElem_cons hlt]
    congr 1
    exact Option.some.inj ((List.getElem?_eq_getElem hlt).symm.trans hp)
  rw [hd] at h1
  obtain ⟨g, cs', _, p1, p2, hn, rfl, h5⟩ := calls_cons h1
  have ha := h2 _ (List.mem_cons_self ..)
  have hn' : place + 1 + nums p ≤ ns.length := by
    rw [List.length_drop] at hn
    omega
  refine ⟨p1, p2, hn', ha, by rw [List.length_cons] at h4; omega, ?_⟩
  have hc : ∃ c, LinkCutNeutral.callOf [p :: (ns.drop (place + 1)).take (nums p)] = some c := by
    generalize [p :: (ns.drop (place + 1)).take (nums p)] = C at ha
    unfold LinkCutNeutral.asked1 at ha
    split at ha <;> first | exact ⟨_, rfl⟩ | cases ha
  obtain ⟨c, hc⟩ := hc
  obtain ⟨fi, ln⟩ := step_fine h.fine c
  refine ⟨c, hc, fi, hn', g, cs', ?_, fun x hx => h2 x (List.mem_cons_of_mem _ hx), ?_, ?_⟩
  · rw [List.drop_drop] at h5
    exact h5
  · rw [← h3]
    have e : LinkCutNeutral.step s [p :: (ns.drop (place + 1)).take (nums p)] = ((LinkCut.step s c).1, (LinkCut.step s c).2.code :: (LinkCut.step s c).2.nums) := by
      unfold LinkCutNeutral.step
      rw [hc]
    show _ = told ++ PyFlat.told ((LinkCutNeutral.step s _).2 :: PyFlat.played LinkCutNeutral.step (LinkCutNeutral.step s _).1 cs')
    rw [e]
    unfold PyFlat.told
    simp
  · rw [List.length_cons] at h4
    simp only [List.length_append, List.length_cons]
    omega
end My
end
section
set_option linter.all false
namespace My
open LinkCut
/-! a call that is asked, by its number and its numbers -/
inductive View : Int → List Int → LinkCut.Call → Prop
  | open_ (n : Nat) : View 1 [(n : Int)] (.open_ n)
  | link (a b : Nat) : View 2 [(a : Int), (b : Int)] (.link a b)
  | cut (a : Nat) : View 3 [(a : Int)] (.cut a)
  | root (a : Nat) : View 4 [(a : Int)] (.root a)
  | reroot (a : Nat) : View 5 [(a : Int)] (.reroot a)
  | put (a : Nat) (v : Int) : View 6 [(a : Int), v] (.put a v)
  | add (a b : Nat) (d : Int) : View 7 [(a : Int), (b : Int), d] (.add a b d)
  | path (a b : Nat) : View 8 [(a : Int), (b : Int)] (.path a b)
  | place (a b i : Nat) : View 9 [(a : Int), (b : Int), (i : Int)] (.place a b i)
  | find (a b : Nat) (v : Int) : View 10 [(a : Int), (b : Int), v] (.find a b v)
  | meet (a b : Nat) : View 11 [(a : Int), (b : Int)] (.meet a b)
  | below (a : Nat) : View 12 [(a : Int)] (.below a)
  | mark : View 13 [] .mark
  | back (i : Nat) : View 14 [(i : Int)] (.back i)
  | way (a b : Nat) : View 15 [(a : Int), (b : Int)] (.way a b)
  | parents : View 16 [] .parents
theorem nat_of {z : Int} (h : LinkCutNeutral.whole32 z = true) : ∃ n : Nat, z = (n : Int) := by
  unfold LinkCutNeutral.whole32 at h
  rw [Bool.and_eq_true] at h
  have := of_decide_eq_true h.1
  exact ⟨z.toNat, by omega⟩
theorem view {p : Int} {args : List Int} {c : LinkCut.Call} (h : LinkCutNeutral.callOf [p :: args] = some c) (ha : LinkCutNeutral.asked1 [p :: args] = true) : View p args c := by
  unfold LinkCutNeutral.callOf at h
  split at h
  all_goals (rename_i e; first | (cases h; done) | skip)
  all_goals (injection e with e1 _; injection e1 with e1 e2; subst e1 e2; injection h with h; subst h)
  · obtain ⟨n, rfl⟩ := nat_of ha
    exact .open_ n
  · obtain ⟨h1, h2⟩ := Bool.and_eq_true_iff.mp ha
    obtain ⟨n, rfl⟩ := nat_of h1
    obtain ⟨m, rfl⟩ := nat_of h2
    exact .link n m
  · obtain ⟨n, rfl⟩ := nat_of ha
    exact .cut n
  · obtain ⟨n, rfl⟩ := nat_of ha
    exact .root n
  · obtain ⟨n, rfl⟩ := nat_of ha
    exact .reroot n
  · obtain ⟨h1, h2⟩ := Bool.and_eq_true_iff.mp ha
    obtain ⟨n, rfl⟩ := nat_of h1
    exact .put n _
  · obtain ⟨h1, h2⟩ := Bool.and_eq_true_iff.mp ha
    obtain ⟨h2, h3⟩ := Bool.and_eq_true_iff.mp h2
    obtain ⟨n, rfl⟩ := nat_of h1
    obtain ⟨m, rfl⟩ := nat_of h2
    exact .add n m _
  · obtain ⟨h1, h2⟩ := Bool.and_eq_true_iff.mp ha
    obtain ⟨n, rfl⟩ := nat_of h1
    obtain ⟨m, rfl⟩ := nat_of h2
    exact .path n m
  · obtain ⟨h1, h2⟩ := Bool.and_eq_true_iff.mp ha
    obtain ⟨h2, h3⟩ := Bool.and_eq_true_iff.mp h2
    obtain ⟨n, rfl⟩ := nat_of h1
    obtain ⟨m, rfl⟩ := nat_of h2
    obtain ⟨i, rfl⟩ := nat_of h3
    exact .place n m i
  · obtain ⟨h1, h2⟩ := Bool.and_eq_true_iff.mp ha
    obtain ⟨h2, h3⟩ := Bool.and_eq_true_iff.mp h2
    obtain ⟨n, rfl⟩ := nat_of h1
    obtain ⟨m, rfl⟩ := nat_of h2
    exact .find n m _
  · obtain ⟨h1, h2⟩ := Bool.and_eq_true_iff.mp ha
    obtain ⟨n, rfl⟩ := nat_of h1
    obtain ⟨m, rfl⟩ := nat_of h2
    exact .meet n m
  · obtain ⟨n, rfl⟩ := nat_of ha
    exact .below n
  · exact .mark
  · obtain ⟨n, rfl⟩ := nat_of ha
    exact .back n
  · obtain ⟨h1, h2⟩ := Bool.and_eq_true_iff.mp ha
    obtain ⟨n, rfl⟩ := nat_of h1
    obtain ⟨m, rfl⟩ := nat_of h2
    exact .way n m
  · exact .parents
/-! the nodes that a call is handed -/
def nodesOf : LinkCut.Call → List Nat
  | .link a b => [a, b]
  | .cut a => [a]
  | .root a => [a]
  | .reroot a => [a]
  | .put a _ => [a]
  | .add a b _ => [a, b]
  | .path a b => [a, b]
  | .place a b _ => [a, b]
  | .find a b _ => [a, b]
  | .meet a b => [a, b]
  | .below a => [a]
  | .way a b => [a, b]
  | _ => []
def isOpen : LinkCut.Call → Bool
  | .open_ _ => true
  | _ => false
theorem step_no {c : LinkCut.Call} (h : isOpen c = false) : LinkCut.step none c = (none, says (-10)) := by
  cases c <;> first | (cases h; done) | rfl
theorem step_out {c : LinkCut.Call} {r : Rec} {x : Nat} (hx : x ∈ nodesOf c) (hn : r.now.par.length ≤ x) : LinkCut.step (some r) c = (some r, says (-1)) := by
  have two : ∀ (a b : Nat) (f : Rec → State × Ans), (x ∈ [a, b]) → ofTwo (some r) a b f = (some r, says (-1)) := by
    intro a b f h
    show (if r.now.par.length ≤ a ∨ r.now.par.length ≤ b then _ else _) = _
    rw [if_pos]
    simp at h
    rcases h with rfl | rfl
    · exact .inl hn
    · exact .inr hn
  have one : ∀ (a : Nat) (f : Rec → State × Ans), (x ∈ [a]) → ofNode (some r) a f = (some r, says (-1)) := by
    intro a f h
    show (if r.now.par.length ≤ a then _ else _) = _
    rw [if_pos]
    simp at h
    rw [← h]
    exact hn
  cases c with
  | open_ n => cases hx
  | link a b => exact two a b _ hx
  | cut a => exact one a _ hx
  | root a => exact one a _ hx
  | reroot a => exact one a _ hx
  | put a v => exact one a _ hx
  | add a b d =>
    show ofJoined _ _ _ _ = _
    unfold ofJoined
    exact two a b _ hx
  | path a b =>
    show ofJoined _ _ _ _ = _
    unfold ofJoined
    exact two a b _ hx
  | place a b i =>
    show ofJoined _ _ _ _ = _
    unfold ofJoined
    exact two a b _ hx
  | find a b v =>
    show ofJoined _ _ _ _ = _
    unfold ofJoined
    exact two a b _ hx
  | meet a b =>
    show ofJoined _ _ _ _ = _
    unfold ofJoined
    exact two a b _ hx
  | below a => exact one a _ hx
  | mark => cases hx
  | back i => cases hx
  | way a b =>
    show ofJoined _ _ _ _ = _
    unfold ofJoined
    exact two a b _ hx
  | parents => cases hx
theorem two_in {r : Rec} {a b : Nat} (f : Rec → State × Ans) (h1 : a < r.now.par.length) (h2 : b < r.now.par.length) : ofTwo (some r) a b f = f r := by
  show (if r.now.par.length ≤ a ∨ r.now.par.length ≤ b then _ else _) = _
  rw [if_neg (by omega)]
theorem one_in {r : Rec} {a : Nat} (f : Rec → State × Ans) (h1 : a < r.now.par.length) : ofNode (some r) a f = f r := by
  show (if r.now.par.length ≤ a then _ else _) = _
  rw [if_neg (by omega)]
/-! what each call does with the forest alone: the forest behind it, the numbers told -/
def Told (r : Rec) (x : State × Ans) (y : Forest × List Int) : Prop := x.1 = some ⟨y.1, r.marks⟩ ∧ x.2.code :: x.2.nums = y.2
def linkF (f : Forest) (a b : Nat) : Forest × List Int := if (f.parent a).isSome = true then (f, [-2]) else if f.joined a b = true then (f, [-3]) else (⟨f.par.set a (some b), f.val⟩, [0])
def cutF (f : Forest) (a : Nat) : Forest × List Int := if (f.parent a).isNone = true then (f, [-2]) else (⟨f.par.set a none, f.val⟩, [0])
def rootF (f : Forest) (a : Nat) : Forest × List Int := (f, [0, ((f.root a : Nat) : Int)])
def rerootF (f : Forest) (a : Nat) : Forest × List Int := (f.reroot a, [0])
def putsF (f : Forest) (a : Nat) (v : Int) : Forest × List Int := if fits v = false then (f, [-2]) else (⟨f.par, f.val.set a v⟩, [0])
def addF (f : Forest) (a b : Nat) (d : Int) : Forest × List Int := if f.joined a b = false then (f, [-2]) else if (f.way a b).all (fun (c : Nat) => fits (f.value c + d)) = true then (⟨f.par, addTo d (f.way a b) f.val⟩, [0]) else (f, [-3])
def pathF (f : Forest) (a b : Nat) : Forest × List Int := if f.joined a b = false then (f, [-2]) else (f, match leastOn f (f.way a b) with
  | none => [-2]
  | some x => [0, ((f.way a b).length : Nat), sumOf ((f.way a b).map f.value), x.1, (x.2 : Nat)])
def placeF (f : Forest) (a b i : Nat) : Forest × List Int := if f.joined a b = false then (f, [-2]) else (f, match (f.way a b)[i]? with
  | none => [-3]
  | some c => [0, (c : Nat)])
def findF (f : Forest) (a b : Nat) (v : Int) : Forest × List Int := if f.joined a b = false then (f, [-2]) else (f, match (f.way a b).find? fun (c : Nat) => decide (v ≤ f.value c) with
  | none => [-3]
  | some c => [0, (c : Nat)])
def meetF (f : Forest) (a b : Nat) : Forest × List Int := if f.joined a b = false then (f, [-2]) else (f, [0, (f.meet a b : Nat)])
def belowF (f : Forest) (a : Nat) : Forest × List Int := (f, [0, ((f.below a).length : Nat), sumOf ((f.below a).map f.value)])
def wayF (f : Forest) (a b : Nat) : Forest × List Int := if f.joined a b = false then (f, [-2]) else (f, 0 :: (f.way a b).map fun (n : Nat) => (n : Int))
def parentsF (f : Forest) : Forest × List Int := (f, 0 :: enc f.par)
section
variable {r : Rec} {a b : Nat}
theorem told_ite {c : Prop} [Decidable c] {x x' : State × Ans} {y y' : Forest × List Int} (h1 : c → Told r x y) (h2 : ¬ c → Told r x' y') : Told r (if c then x else x') (if c then y else y') := by
  by_cases h : c
  · rw [if_pos h, if_pos h]
    exact h1 h
  · rw [if_neg h, if_neg h]
    exact h2 h
theorem told_link (h1 : a < r.now.par.length) (h2 : b < r.now.par.length) : Told r (LinkCut.step (some r) (.link a b)) (linkF r.now a b) := by
  show Told r (ofTwo _ _ _ _) _
  rw [two_in _ h1 h2]
  exact told_ite (fun _ => ⟨rfl, rfl⟩) fun _ => told_ite (fun _ => ⟨rfl, rfl⟩) fun _ => ⟨rfl, rfl⟩
theorem told_cut (h1 : a < r.now.par.length) : Told r (LinkCut.step (some r) (.cut a)) (cutF r.now a) := by
  show Told r (ofNode _ _ _) _
  rw [one_in _ h1]
  exact told_ite (fun _ => ⟨rfl, rfl⟩) fun _ => ⟨rfl, rfl⟩
theorem told_root (h1 : a < r.now.par.length) : Told r (LinkCut.step (some r) (.root a)) (rootF r.now a) := by
  show Told r (ofNode _ _ _) _
  rw [one_in _ h1]
  exact ⟨rfl, rfl⟩
theorem told_reroot (h1 : a < r.now.par.length) : Told r (LinkCut.step (some r) (.reroot a)) (rerootF r.now a) := by
  show Told r (ofNode _ _ _) _
  rw [one_in _ h1]
  exact ⟨rfl, rfl⟩
theorem told_put {v : Int} (h1 : a < r.now.par.length) : Told r (LinkCut.step (some r) (.put a v)) (putsF r.now a v) := by
  show Told r (ofNode _ _ _) _
  rw [one_in _ h1]
  exact told_ite (fun _ => ⟨rfl, rfl⟩) fun _ => ⟨rfl, rfl⟩
theorem told_add {d : Int} (h1 : a < r.now.par.length) (h2 : b < r.now.par.length) : Told r (LinkCut.step (some r) (.add a b d)) (addF r.now a b d) := by
  show Told r (ofTwo _ _ _ _) _
  rw [two_in _ h1 h2]
  exact told_ite (fun _ => ⟨rfl, rfl⟩) fun _ => told_ite (fun _ => ⟨rfl, rfl⟩) fun _ => ⟨rfl, rfl⟩
theorem told_path (h1 : a < r.now.par.length) (h2 : b < r.now.par.length) : Told r (LinkCut.step (some r) (.path a b)) (pathF r.now a b) := by
  show Told r (ofTwo _ _ _ _) _
  rw [two_in _ h1 h2]
  refine told_ite (fun _ => ⟨rfl, rfl⟩) fun _ => ⟨rfl, ?_⟩
  dsimp only
  cases leastOn r.now (r.now.way a b) <;> rfl
theorem told_place {i : Nat} (h1 : a < r.now.par.length) (h2 : b < r.now.par.length) : Told r (LinkCut.step (some r) (.place a b i)) (placeF r.now a b i) := by
  show Told r (ofTwo _ _ _ _) _
  rw [two_in _ h1 h2]
  refine told_ite (fun _ => ⟨rfl, rfl⟩) fun _ => ⟨rfl, ?_⟩
  dsimp only
  cases (r.now.way a b)[i]? <;> rfl
theorem told_find {v : Int} (h1 : a < r.now.par.length) (h2 : b < r.now.par.length) : Told r (LinkCut.step (some r) (.find a b v)) (findF r.now a b v) := by
  show Told r (ofTwo _ _ _ _) _
  rw [two_in _ h1 h2]
  refine told_ite (fun _ => ⟨rfl, rfl⟩) fun _ => ⟨rfl, ?_⟩
  dsimp only
  cases (r.now.way a b).find? fun (c : Nat) => decide (v ≤ r.now.value c) <;> rfl
theorem told_meet (h1 : a < r.now.par.length) (h2 : b < r.now.par.length) : Told r (LinkCut.step (some r) (.meet a b)) (meetF r.now a b) := by
  show Told r (ofTwo _ _ _ _) _
  rw [two_in _ h1 h2]
  exact told_ite (fun _ => ⟨rfl, rfl⟩) fun _ => ⟨rfl, rfl⟩
theorem told_below (h1 : a < r.now.par.length) : Told r (LinkCut.step (some r) (.below a)) (belowF r.now a) := by
  show Told r (ofNode _ _ _) _
  rw [one_in _ h1]
  exact ⟨rfl, rfl⟩
theorem told_way (h1 : a < r.now.par.length) (h2 : b < r.now.par.length) : Told r (LinkCut.step (some r) (.way a b)) (wayF r.now a b) := by
  show Told r (ofTwo _ _ _ _) _
  rw [two_in _ h1 h2]
  exact told_ite (fun _ => ⟨rfl, rfl⟩) fun _ => ⟨rfl, rfl⟩
theorem told_parents : Told r (LinkCut.step (some r) .parents) (parentsF r.now) := by
  refine ⟨rfl, ?_⟩
  show (0 : Int) :: LinkCut.«ints» (r.now.par.map fun (x : Option Nat) => x.getD NONE) = 0 :: enc r.now.par
  unfold LinkCut.«ints» enc
  rw [List.map_map]
  rfl
end
/-- what the table of the numbers must hold -/
theorem nums_eq : nums 1 = 1 ∧ nums 2 = 2 ∧ nums 3 = 1 ∧ nums 4 = 1 ∧ nums 5 = 1 ∧ nums 6 = 2 ∧ nums 7 = 3 ∧ nums 8 = 2 ∧ nums 9 = 3 ∧ nums 10 = 3 ∧ nums 11 = 2 ∧ nums 12 = 1 ∧ nums 13 = 0 ∧ nums 14 = 1 ∧ nums 15 = 2 ∧ nums 16 = 0 := by
  refine ⟨?_, ?_, ?_, ?_, ?_, ?_, ?_, ?_, ?_, ?_, ?_, ?_, ?_, ?_, ?_, ?_⟩ <;> simp [nums, PyWqaqah.shape]
end My
end
section
set_option Elab.async false
set_option linter.all false
set_option maxRecDepth 100000
set_option maxHeartbeats 2000000
namespace My
open PySem PySem.Spec PyProof.Rows L2
open PySem.W (Codec)
open LinkCut (Forest fits addTo turnedOn leastOn sumOf Rec State says tells)
def top (i : Nat) : Stmt := PySem.Challenge.pw_treewaysdesk_s01_answers.main.body.getD i (.Pass ⟨0, 0, 0, 0⟩)
abbrev s_within_limits : Stmt := top 36
abbrev s_init : Stmt := inClass (top 37) 0
abbrev s_is_there : Stmt := inClass (top 37) 1
abbrev s_has_node : Stmt := inClass (top 37) 2
abbrev s_nodes_above : Stmt := inClass (top 37) 3
abbrev s_nodes_below : Stmt := inClass (top 37) 4
abbrev s_root_above : Stmt := inClass (top 37) 5
abbrev s_are_joined : Stmt := inClass (top 37) 6
abbrev s_meeting_node : Stmt := inClass (top 37) 7
abbrev s_nodes_between : Stmt := inClass (top 37) 8
abbrev s_values_of : Stmt := inClass (top 37) 9
abbrev s_begin : Stmt := inClass (top 37) 10
abbrev s_link : Stmt := inClass (top 37) 11
abbrev s_cut : Stmt := inClass (top 37) 12
abbrev s_root : Stmt := inClass (top 37) 13
abbrev s_reroot : Stmt := inClass (top 37) 14
abbrev s_put : Stmt := inClass (top 37) 15
abbrev s_add : Stmt := inClass (top 37) 16
abbrev s_path : Stmt := inClass (top 37) 17
abbrev s_place : Stmt := inClass (top 37) 18
abbrev s_find : Stmt := inClass (top 37) 19
abbrev s_meet : Stmt := inClass (top 37) 20
abbrev s_below : Stmt := inClass (top 37) 21
abbrev s_mark : Stmt := inClass (top 37) 22
abbrev s_back : Stmt := inClass (top 37) 23
abbrev s_way : Stmt := inClass (top 37) 24
abbrev s_parents : Stmt := inClass (top 37) 25
abbrev s_answer_change : Stmt := top 38
abbrev s_answer_question : Stmt := top 39
abbrev s_answer_call : Stmt := top 40
abbrev s_answers : Stmt := top 41
theorem sc_within_limits : FnScope ["value"] ["value"] (defScope s_within_limits) := ⟨rfl, rfl, rfl, by decide +kernel, rfl, by decide +kernel, by decide +kernel⟩
theorem sc_init : FnScope ["self"] ["self"] (defScope s_init) := ⟨rfl, rfl, rfl, by decide +kernel, rfl, by decide +kernel, by decide +kernel⟩
theorem sc_is_there : FnScope ["self"] ["self"] (defScope s_is_there) := ⟨rfl, rfl, rfl, by decide +kernel, rfl, by decide +kernel, by decide +kernel⟩
theorem sc_has_node : FnScope ["self", "node"] ["self", "node"] (defScope s_has_node) := ⟨rfl, rfl, rfl, by decide +kernel, rfl, by decide +kernel, by decide +kernel⟩
theorem sc_nodes_above : FnScope ["self", "a", "nodes"] ["self", "a"] (defScope s_nodes_above) := ⟨rfl, rfl, rfl, by decide +kernel, rfl, by decide +kernel, by decide +kernel⟩
theorem sc_nodes_below : FnScope ["self", "a", "node"] ["self", "a"] (defScope s_nodes_below) := ⟨rfl, rfl, rfl, by decide +kernel, rfl, by decide +kernel, by decide +kernel⟩
theorem sc_root_above : FnScope ["self", "a"] ["self", "a"] (defScope s_root_above) := ⟨rfl, rfl, rfl, by decide +kernel, rfl, by decide +kernel, by decide +kernel⟩
theorem sc_are_joined : FnScope ["self", "a", "b"] ["self", "a", "b"] (defScope s_are_joined) := ⟨rfl, rfl, rfl, by decide +kernel, rfl, by decide +kernel, by decide +kernel⟩
theorem sc_meeting_node : FnScope ["self", "a", "b", "above_b", "above_both", "node"] ["self", "a", "b"] (defScope s_meeting_node) := ⟨rfl, rfl, rfl, by decide +kernel, rfl, by decide +kernel, by decide +kernel⟩
theorem sc_nodes_between : FnScope ["self", "a", "b", "turn", "rising", "falling", "behind_turn"] ["self", "a", "b"] (defScope s_nodes_between) := ⟨rfl, rfl, rfl, by decide +kernel, rfl, by decide +kernel, by decide +kernel⟩
theorem sc_values_of : FnScope ["self", "nodes", "node"] ["self", "nodes"] (defScope s_values_of) := ⟨rfl, rfl, rfl, by decide +kernel, rfl, by decide +kernel, by decide +kernel⟩
theorem sc_begin : FnScope ["self", "n"] ["self", "n"] (defScope s_begin) := ⟨rfl, rfl, rfl, by decide +kernel, rfl, by decide +kernel, by decide +kernel⟩
theorem sc_link : FnScope ["self", "a", "b"] ["self", "a", "b"] (defScope s_link) := ⟨rfl, rfl, rfl, by decide +kernel, rfl, by decide +kernel, by decide +kernel⟩
theorem sc_cut : FnScope ["self", "a"] ["self", "a"] (defScope s_cut) := ⟨rfl, rfl, rfl, by decide +kernel, rfl, by decide +kernel, by decide +kernel⟩
theorem sc_root : FnScope ["self", "a"] ["self", "a"] (defScope s_root) := ⟨rfl, rfl, rfl, by decide +kernel, rfl, by decide +kernel, by decide +kernel⟩
theorem sc_reroot : FnScope ["self", "a", "nodes", "place"] ["self", "a"] (defScope s_reroot) := ⟨rfl, rfl, rfl, by decide +kernel, rfl, by decide +kernel, by decide +kernel⟩
theorem sc_put : FnScope ["self", "a", "v"] ["self", "a", "v"] (defScope s_put) := ⟨rfl, rfl, rfl, by decide +kernel, rfl, by decide +kernel, by decide +kernel⟩
theorem sc_add : FnScope ["self", "a", "b", "d", "nodes", "node"] ["self", "a", "b", "d"] (defScope s_add) := ⟨rfl, rfl, rfl, by decide +kernel, rfl, by decide +kernel, by decide +kernel⟩
theorem sc_path : FnScope ["self", "a", "b", "nodes", "on_way", "least"] ["self", "a", "b"] (defScope s_path) := ⟨rfl, rfl, rfl, by decide +kernel, rfl, by decide +kernel, by decide +kernel⟩
theorem sc_place : FnScope ["self", "a", "b", "i", "nodes"] ["self", "a", "b", "i"] (defScope s_place) := ⟨rfl, rfl, rfl, by decide +kernel, rfl, by decide +kernel, by decide +kernel⟩
theorem sc_find : FnScope ["self", "a", "b", "v", "node"] ["self", "a", "b", "v"] (defScope s_find) := ⟨rfl, rfl, rfl, by decide +kernel, rfl, by decide +kernel, by decide +kernel⟩
theorem sc_meet : FnScope ["self", "a", "b"] ["self", "a", "b"] (defScope s_meet) := ⟨rfl, rfl, rfl, by decide +kernel, rfl, by decide +kernel, by decide +kernel⟩
theorem sc_below : FnScope ["self", "a", "nodes"] ["self", "a"] (defScope s_below) := ⟨rfl, rfl, rfl, by decide +kernel, rfl, by decide +kernel, by decide +kernel⟩
theorem sc_mark : FnScope ["self"] ["self"] (defScope s_mark) := ⟨rfl, rfl, rfl, by decide +kernel, rfl, by decide +kernel, by decide +kernel⟩
theorem sc_back : FnScope ["self", "i", "marked"] ["self", "i"] (defScope s_back) := ⟨rfl, rfl, rfl, by decide +kernel, rfl, by decide +kernel, by decide +kernel⟩
theorem sc_way : FnScope ["self", "a", "b"] ["self", "a", "b"] (defScope s_way) := ⟨rfl, rfl, rfl, by decide +kernel, rfl, by decide +kernel, by decide +kernel⟩
theorem sc_parents : FnScope ["self"] ["self"] (defScope s_parents) := ⟨rfl, rfl, rfl, by decide +kernel, rfl, by decide +kernel, by decide +kernel⟩
theorem sc_answer_change : FnScope ["forest", "call", "given"] ["forest", "call", "given"] (defScope s_answer_change) := ⟨rfl, rfl, rfl, by decide +kernel, rfl, by decide +kernel, by decide +kernel⟩
theorem sc_answer_question : FnScope ["forest", "call", "given"] ["forest", "call", "given"] (defScope s_answer_question) := ⟨rfl, rfl, rfl, by decide +kernel, rfl, by decide +kernel, by decide +kernel⟩
theorem sc_answer_call : FnScope ["forest", "call", "given", "node"] ["forest", "call", "given"] (defScope s_answer_call) := ⟨rfl, rfl, rfl, by decide +kernel, rfl, by decide +kernel, by decide +kernel⟩
theorem sc_answers : FnScope ["calls", "forest", "told", "place", "call", "behind", "answer"] ["calls"] (defScope s_answers) := ⟨rfl, rfl, rfl, by decide +kernel, rfl, by decide +kernel, by decide +kernel⟩
structure Txt (K : PySem.W.Frag) (mg : Str → Option Value) (C : Addr) : Prop where
  cl : Cls K C
  n_parent_of : NoAttr K C "parent_of"
  n_value_of : NoAttr K C "value_of"
  n_marks : NoAttr K C "marks"
  mg_Forest : mg "Forest" = some (.ref C)
  g_MOST_NODES : ∃ t, mg "MOST_NODES" = some (.int 32 t)
  g_MOST_MARKS : ∃ t, mg "MOST_MARKS" = some (.int 8 t)
  g_LIMIT : ∃ t, mg "LIMIT" = some (.int 1000000000 t)
  g_NO_PARENT : ∃ t, mg "NO_PARENT" = some (.int 99 t)
  g_CALL_OPEN : ∃ t, mg "CALL_OPEN" = some (.int 1 t)
  g_CALL_LINK : ∃ t, mg "CALL_LINK" = some (.int 2 t)
  g_CALL_CUT : ∃ t, mg "CALL_CUT" = some (.int 3 t)
  g_CALL_ROOT : ∃ t, mg "CALL_ROOT" = some (.int 4 t)
  g_CALL_REROOT : ∃ t, mg "CALL_REROOT" = some (.int 5 t)
  g_CALL_PUT : ∃ t, mg "CALL_PUT" = some (.int 6 t)
  g_CALL_ADD : ∃ t, mg "CALL_ADD" = some (.int 7 t)
  g_CALL_PATH : ∃ t, mg "CALL_PATH" = some (.int 8 t)
  g_CALL_PLACE : ∃ t, mg "CALL_PLACE" = some (.int 9 t)
  g_CALL_FIND : ∃ t, mg "CALL_FIND" = some (.int 10 t)
  g_CALL_MEET : ∃ t, mg "CALL_MEET" = some (.int 11 t)
  g_CALL_BELOW : ∃ t, mg "CALL_BELOW" = some (.int 12 t)
  g_CALL_MARK : ∃ t, mg "CALL_MARK" = some (.int 13 t)
  g_CALL_WAY : ∃ t, mg "CALL_WAY" = some (.int 15 t)
  g_NO_FOREST : ∃ t, mg "NO_FOREST" = some (.int (-10) t)
  g_WRONG_SIZE : ∃ t, mg "WRONG_SIZE" = some (.int (-1) t)
  g_NO_SUCH_NODE : ∃ t, mg "NO_SUCH_NODE" = some (.int (-1) t)
  g_HAS_PARENT : ∃ t, mg "HAS_PARENT" = some (.int (-2) t)
  g_HAS_NO_PARENT : ∃ t, mg "HAS_NO_PARENT" = some (.int (-2) t)
  g_NOT_JOINED : ∃ t, mg "NOT_JOINED" = some (.int (-2) t)
  g_PUT_PAST_LIMITS : ∃ t, mg "PUT_PAST_LIMITS" = some (.int (-2) t)
  g_ALREADY_JOINED : ∃ t, mg "ALREADY_JOINED" = some (.int (-3) t)
  g_ADD_PAST_LIMITS : ∃ t, mg "ADD_PAST_LIMITS" = some (.int (-3) t)
  g_NO_SUCH_PLACE : ∃ t, mg "NO_SUCH_PLACE" = some (.int (-3) t)
  g_NONE_FOUND : ∃ t, mg "NONE_FOUND" = some (.int (-3) t)
  g_TOO_MANY_MARKS : ∃ t, mg "TOO_MANY_MARKS" = some (.int (-5) t)
  g_NO_SUCH_MARK : ∃ t, mg "NO_SUCH_MARK" = some (.int (-6) t)
  d_NUMBER_COUNTS : ∃ a, mg "NUMBER_COUNTS" = some (.ref a) ∧ MD K a [(1, 1), (2, 2), (3, 1), (4, 1), (5, 1), (6, 2), (7, 3), (8, 2), (9, 3), (10, 3), (11, 2), (12, 1), (13, 0), (14, 1), (15, 2), (16, 0)]
  d_NODE_COUNTS : ∃ a, mg "NODE_COUNTS" = some (.ref a) ∧ MD K a [(2, 2), (3, 1), (4, 1), (5, 1), (6, 1), (7, 2), (8, 2), (9, 2), (10, 2), (11, 2), (12, 1), (13, 0), (14, 0), (15, 2), (16, 0)]
  d_JOINED_CALLS : ∃ a, mg "JOINED_CALLS" = some (.ref a) ∧ MT K a [7, 8, 9, 10, 11, 15]
  d_CHANGING_CALLS : ∃ a, mg "CHANGING_CALLS" = some (.ref a) ∧ MT K a [2, 3, 5, 6, 7, 13, 14]
  b_len : mg "len" = none
  b_list : mg "list" = none
  b_min : mg "min" = none
  b_range : mg "range" = none
  b_reversed : mg "reversed" = none
  b_sum : mg "sum" = none
  b_tuple : mg "tuple" = none
/-! ### what is held -/
def vn (l : List Nat) : List V := l.map fun (n : Nat) => V.int (n : Int)
def vi (l : List Int) : List V := l.map V.int
def vp (par : List (Option Nat)) : List V := vi (enc par)
def Frame (A : List Addr) (H H' : Hp) : Prop := ∀ b x, H b = some x → b ∉ A → H' b = some x
def attrNames : List Str := ["parent_of", "value_of", "marks"]
structure FAt (C : Addr) (H : Hp) (o dx p1 p2 : Addr) (fs : List (Str × V)) (f : Forest) : Prop where
  obj : H o = some (.ins C dx fs)
  fp : fs.lookup ("parent_of" : Str) = some (.ref p1)
  fv : fs.lookup ("value_of" : Str) = some (.ref p2)
  no : ∀ m : Str, m ∉ attrNames → fs.lookup m = none
  pl : H p1 = some (.lst (vp f.par))
  vl : H p2 = some (.lst (vi f.val))
  ne : p1 ≠ p2
  good : Good f
theorem FAt.same {C : Addr} {H H' : Hp} {o dx p1 p2 : Addr} {fs : List (Str × V)} {f : Forest} (F : FAt C H o dx p1 p2 fs f) (s : Same H H') : FAt C H' o dx p1 p2 fs f :=
  ⟨s _ _ F.obj, F.fp, F.fv, F.no, s _ _ F.pl, s _ _ F.vl, F.ne, F.good⟩
theorem vn_get {l : List Nat} {i c : Nat} (h : l[i]? = some c) : (vn l)[i]? = some (V.int (c : Int)) := by
  unfold vn
  rw [List.getElem?_map, h]
  rfl
theorem vn_of {l : List Nat} {i : Nat} {x : V} (h : (vn l)[i]? = some x) : ∃ c, l[i]? = some c ∧ x = V.int (c : Int) := by
  unfold vn at h
  rw [List.getElem?_map] at h
  cases e : l[i]? with
  | none =>
    rw [e] at h
    cases h
  | some c =>
    rw [e] at h
    exact ⟨c, rfl, (Option.some.inj h).symm⟩
theorem vn_len (l : List Nat) : (vn l).length = l.length := List.length_map ..
theorem vi_len (l : List Int) : (vi l).length = l.length := List.length_map ..
theorem vp_len (l : List (Option Nat)) : (vp l).length = l.length := by
  unfold vp
  rw [vi_len, enc_len]
theorem vn_app (l m : List Nat) : vn (l ++ m) = vn l ++ vn m := List.map_append
theorem vi_get {l : List Int} {i : Nat} {c : Int} (h : l[i]? = some c) : (vi l)[i]? = some (V.int c) := by
  unfold vi
  rw [List.getElem?_map, h]
  rfl
theorem vp_get {f : Forest} {a : Nat} (ha : a < f.par.length) : (vp f.par)[a]? = some (V.int (((pof f.par a).getD 99 : Nat) : Int)) := by
  unfold vp
  exact vi_get (enc_get ha)
theorem val_get {f : Forest} (G : Good f) {a : Nat} (ha : a < f.par.length) : (vi f.val)[a]? = some (V.int (f.value a)) := by
  refine vi_get ?_
  have := G.len
  unfold Forest.value
  rw [List.getElem?_eq_getElem (by omega), List.getD_eq_getElem?_getD, List.getElem?_eq_getElem (by omega)]
  rfl
theorem vn_last {l : List Nat} (d : Nat) (h : l ≠ []) : atI (vn l) (-1) = some (V.int ((l.getLastD d : Nat) : Int)) := by
  have e : l = l.dropLast ++ [l.getLastD d] := by
    rw [List.getLastD_eq_getLast?, List.getLast?_eq_some_getLast h]
    exact (List.dropLast_concat_getLast h).symm
  have : vn l = vn l.dropLast ++ [V.int ((l.getLastD d : Nat) : Int)] := by
    conv => lhs; rw [e]
    exact vn_app _ _
  rw [this]
  exact atI_last _ _
theorem vn_flat (l : List Nat) : (vn l).all flatV = true := by
  unfold vn
  rw [List.all_map]
  exact List.all_eq_true.mpr fun _ _ => rfl
theorem vi_flat (l : List Int) : (vi l).all flatV = true := by
  unfold vi
  rw [List.all_map]
  exact List.all_eq_true.mpr fun _ _ => rfl
theorem vn_in (c : Nat) (l : List Nat) : inV (V.int (c : Int)) (vn l) = decide (c ∈ l) := by
  unfold inV vn
  rw [List.any_map]
  induction l with
  | nil => rfl
  | cons a l ih =>
    rw [List.any_cons, ih]
    show ((a : Int) == (c : Int) || _) = _
    by_cases e : a = c
    · subst e
      simp
    · have : ¬ (a : Int) = (c : Int) := by omega
      have e' : ¬ c = a := fun q => e q.symm
      simp [this, e']
theorem line_lt {n : Nat} (h : n ≤ 100000) : n < sizeLine := Nat.lt_of_le_of_lt h (by decide)
theorem line_le {n : Nat} (h : n ≤ 100000) : n ≤ sizeLine := Nat.le_of_lt (line_lt h)
theorem same_upd {H H' : Hp} {l : Addr} (o : HO) (s : Same H H') (h : H l = none) : Same H (upd H' l o) := fun b x e => by
  rw [upd_ne (ne_of_none e h)]
  exact s b x e
theorem cut_to (xs : List V) (j : Nat) (h : j ≤ xs.length) : cutV xs none (some (j : Int)) = xs.take j := by
  unfold cutV
  rw [HT.sIx_none, HT.sIx_nat, List.drop_zero, Nat.sub_zero, Nat.min_eq_left h]
theorem cut_mid (xs : List V) (i j : Nat) (h : i ≤ j) (hj : j ≤ xs.length) : cutV xs (some (i : Int)) (some (j : Int)) = (xs.drop i).take (j - i) := by
  unfold cutV
  rw [HT.sIx_nat, HT.sIx_nat, Nat.min_eq_left hj, Nat.min_eq_left (Nat.le_trans h hj)]
theorem vn_take (l : List Nat) (j : Nat) : (vn l).take j = vn (l.take j) := (List.map_take ..).symm
theorem vn_rev (l : List Nat) : (vn l).reverse = vn l.reverse := (List.map_reverse ..).symm
/-- the first place of a node in a row -/
theorem first_at : ∀ {l : List Nat} {c : Nat}, c ∈ l → ∃ j, l[j]? = some c ∧ ∀ (m x : Nat), m < j → l[m]? = some x → x ≠ c
  | a :: l, c, h => by
    by_cases e : a = c
    · subst e
      exact ⟨0, rfl, fun m x hm => absurd hm (Nat.not_lt_zero m)⟩
    · have h' : c ∈ l := by
        rcases List.mem_cons.mp h with q | q
        · exact absurd q.symm e
        · exact q
      obtain ⟨j, h1, h2⟩ := first_at h'
      refine ⟨j + 1, h1, fun m x hm hx => ?_⟩
      match m, hx with
      | 0, hx =>
        have : a = x := Option.some.inj hx
        exact this ▸ e
      | m + 1, hx => exact h2 m x (by omega) hx
/-! ### promises -/
def spWithin : Sp := fun vs H Q _ => ∃ v : Int, vs = [.int v] ∧ Q (.bl (fits v)) H
def spIsThere (C : Addr) : Sp := fun vs H Q _ => ∃ (o dx p1 : Addr) (fs : List (Str × V)) (xs : List V), vs = [.ref o] ∧ H o = some (.ins C dx fs) ∧ fs.lookup ("parent_of" : Str) = some (.ref p1) ∧ H p1 = some (.lst xs) ∧ Q (.bl (decide (0 < xs.length))) H
def spHasNode (C : Addr) : Sp := fun vs H Q _ => ∃ (o dx p1 : Addr) (fs : List (Str × V)) (xs : List V) (n : Int), vs = [.ref o, .int n] ∧ H o = some (.ins C dx fs) ∧ fs.lookup ("parent_of" : Str) = some (.ref p1) ∧ H p1 = some (.lst xs) ∧ Q (.bl (decide (n < (xs.length : Int)))) H
def spAbove (C : Addr) : Sp := fun vs H Q _ => ∃ (o dx p1 p2 : Addr) (fs : List (Str × V)) (f : Forest) (a : Nat), vs = [.ref o, .int (a : Int)] ∧ FAt C H o dx p1 p2 fs f ∧ a < f.par.length ∧
  ∀ (H' : Hp) (q : Addr), Same H H' → H q = none → H' q = some (.lst (vn (f.up a))) → Q (.ref q) H'
def spRootAbove (C : Addr) : Sp := fun vs H Q _ => ∃ (o dx p1 p2 : Addr) (fs : List (Str × V)) (f : Forest) (a : Nat), vs = [.ref o, .int (a : Int)] ∧ FAt C H o dx p1 p2 fs f ∧ a < f.par.length ∧
  ∀ H' : Hp, Same H H' → Q (.int ((f.root a : Nat) : Int)) H'
def spJoined (C : Addr) : Sp := fun vs H Q _ => ∃ (o dx p1 p2 : Addr) (fs : List (Str × V)) (f : Forest) (a b : Nat), vs = [.ref o, .int (a : Int), .int (b : Int)] ∧ FAt C H o dx p1 p2 fs f ∧ a < f.par.length ∧ b < f.par.length ∧
  ∀ H' : Hp, Same H H' → Q (.bl (f.joined a b)) H'
def spMeeting (C : Addr) : Sp := fun vs H Q _ => ∃ (o dx p1 p2 : Addr) (fs : List (Str × V)) (f : Forest) (a b : Nat), vs = [.ref o, .int (a : Int), .int (b : Int)] ∧ FAt C H o dx p1 p2 fs f ∧ a < f.par.length ∧ b < f.par.length ∧ f.joined a b = true ∧
  ∀ H' : Hp, Same H H' → Q (.int ((f.meet a b : Nat) : Int)) H'
def spBetween (C : Addr) : Sp := fun vs H Q _ => ∃ (o dx p1 p2 : Addr) (fs : List (Str × V)) (f : Forest) (a b : Nat), vs = [.ref o, .int (a : Int), .int (b : Int)] ∧ FAt C H o dx p1 p2 fs f ∧ a < f.par.length ∧ b < f.par.length ∧ f.joined a b = true ∧
  ∀ (H' : Hp) (q : Addr), Same H H' → H q = none → H' q = some (.lst (vn (f.way a b))) → Q (.ref q) H'
def spNodesBelow (C : Addr) : Sp := fun vs H Q _ => ∃ (o dx p1 p2 : Addr) (fs : List (Str × V)) (f : Forest) (a : Nat), vs = [.ref o, .int (a : Int)] ∧ FAt C H o dx p1 p2 fs f ∧ a < f.par.length ∧
  ∀ (H' : Hp) (q : Addr), Same H H' → H q = none → H' q = some (.lst (vn (f.below a))) → Q (.ref q) H'
def spValuesOf (C : Addr) : Sp := fun vs H Q _ => ∃ (o dx p1 p2 : Addr) (fs : List (Str × V)) (f : Forest) (l : Addr) (ns : List Nat), vs = [.ref o, .ref l] ∧ FAt C H o dx p1 p2 fs f ∧ H l = some (.lst (vn ns)) ∧ (∀ c ∈ ns, c < f.par.length) ∧ ns.length ≤ 100 ∧
  ∀ (H' : Hp) (q : Addr), Same H H' → H q = none → H' q = some (.lst (vi (ns.map f.value))) → Q (.ref q) H'
section
variable {P : Program} {w : World} {K : PySem.W.Frag} {mg : Str → Option Value} {base : Heap}
theorem ok_within_limits {f C : Addr} {fd : FuncData} (F : Fun K "within_limits" "within_limits" s_within_limits f fd) (T : Txt K mg C) : FnOk P w K mg base CX0 1 f fd ["value"] spWithin := by
  refine F.ok sc_within_limits (fun vs H Q E h => ?_) (fun cdv A outer s H vs Q E hr h => ?_)
  · obtain ⟨v, rfl, _⟩ := h
    rfl
  · obtain ⟨v, rfl, k⟩ := h
    refine ⟨_, (pss_one (ps_ret (pe_and (pe_cmpR op_le (pe_un un_neg (pe_const rfl T.g_LIMIT)) (pv 0) (nomark _)) (pe_one (pe_cmpR op_le (pv 0) (pe_const rfl T.g_LIMIT) (nomark _)))))), ?_⟩
    refine ⟨_, rfl, _, rfl, _, _, rfl, rfl, _, rfl, ite2 (fun q => ?_) (fun q => ?_)⟩
    · refine ⟨_, rfl, _, _, rfl, rfl, ?_⟩
      have e : fits v = decide (v ≤ 1000000000) := by
        unfold fits
        have q' : -LinkCut.LIMIT ≤ v := of_decide_eq_true q
        rw [decide_eq_true q']
        rfl
      rw [e] at k
      exact k
    · have e : fits v = false := by
        unfold fits
        have q' : ¬ -LinkCut.LIMIT ≤ v := fun z => q (decide_eq_true z)
        rw [decide_eq_false q']
        rfl
      rw [e] at k
      exact k
theorem ok_is_there {f C : Addr} {fd : FuncData} (F : Fun K "is_there" "Forest.is_there" s_is_there f fd) (T : Txt K mg C) : FnOk P w K mg base CX0 1 f fd ["self"] (spIsThere C) := by
  refine F.ok sc_is_there (fun vs H Q E h => ?_) (fun cdv A outer s H vs Q E hr h => ?_)
  · obtain ⟨o, dx, p1, fs, xs, rfl, _⟩ := h
    rfl
  · obtain ⟨o, dx, p1, fs, xs, rfl, ho, hf, hp, k⟩ := h
    refine ⟨_, (pss_one (ps_ret (pe_cmpR op_gt (pe_callB call_len_seq (by rfl) T.b_len PySem.boot_len (pa_cons (pe_fld (pv 0) rfl) pa_nil)) pe_int (nomark _)))), ?_⟩
    refine ⟨_, rfl, o, C, dx, _, _, rfl, ho, T.cl, T.n_parent_of, hf, p1, _, rfl, .inl (SqL.of hp), _, _, rfl, rfl, ?_⟩
    have e : decide ((0 : Int) < (xs.length : Int)) = decide (0 < xs.length) := by
      apply decide_eq_decide.mpr
      omega
    show Q (V.bl (decide ((0 : Int) < (xs.length : Int)))) H
    rw [e]
    exact k
theorem ok_has_node {f C : Addr} {fd : FuncData} (F : Fun K "has_node" "Forest.has_node" s_has_node f fd) (T : Txt K mg C) : FnOk P w K mg base CX0 1 f fd ["self", "node"] (spHasNode C) := by
  refine F.ok sc_has_node (fun vs H Q E h => ?_) (fun cdv A outer s H vs Q E hr h => ?_)
  · obtain ⟨o, dx, p1, fs, xs, n, rfl, _⟩ := h
    rfl
  · obtain ⟨o, dx, p1, fs, xs, n, rfl, ho, hf, hp, k⟩ := h
    refine ⟨_, (pss_one (ps_ret (pe_cmpR op_lt (pv 1) (pe_callB call_len_seq (by rfl) T.b_len PySem.boot_len (pa_cons (pe_fld (pv 0) rfl) pa_nil)) (nomark _)))), ?_⟩
    exact ⟨_, rfl, _, rfl, o, C, dx, _, _, rfl, ho, T.cl, T.n_parent_of, hf, p1, _, rfl, .inl (SqL.of hp), _, _, rfl, rfl, k⟩
theorem ok_nodes_above {f C : Addr} {fd : FuncData} (F : Fun K "nodes_above" "Forest.nodes_above" s_nodes_above f fd) (T : Txt K mg C) : FnOk P w K mg base CX0 1 f fd ["self", "a"] (spAbove C) := by
  refine F.ok sc_nodes_above (fun vs H Q E h => ?_) (fun cdv A outer s H vs Q E hr h => ?_)
  · obtain ⟨o, dx, p1, p2, fs, f, a, rfl, _⟩ := h
    rfl
  · obtain ⟨o, dx, p1, p2, fs, f, a, rfl, FA, ha, k⟩ := h
    refine ⟨_, (pss_cons (ps_set (i := 2) sc_nodes_above.nd rfl (Or.inl rfl) (pe_lst (pa_cons (pv 1) pa_nil)))
        (pss_cons (ps_while PassesOwn.never (pt_cmpR op_ne (pe_ix ix_list (pe_fld (pv 0) rfl) (pe_ix ix_list (pv 2) (pe_un un_neg pe_int) (fun _ _ => rfl)) (fun _ _ => rfl)) (pe_const rfl T.g_NO_PARENT) (nomark _))
        (pss_one (ps_expr (pe_bm PySem.F.plainAttrs_list PySem.F.slot_list_append PySem.F.type_list_append mt_append (pv 2) (pa_cons (pe_ix ix_list (pe_fld (pv 0) rfl) (pe_ix ix_list (pv 2) (pe_un un_neg pe_int) (fun _ _ => rfl)) (fun _ _ => rfl)) pa_nil)))))
        (pss_one (ps_ret (pv 2))))), ?_⟩
    refine ⟨_, rfl, line_le (by simp), fun l hl => ?_⟩
    have U := FA.good.up_ok ha
    have hle := FA.good.up_le ha
    have h32 := FA.good.le
    have hlt := FA.good.up_lt ha
    have hpos : 0 < (f.up a).length := List.length_pos_iff.mpr U.ne
    refine ⟨fun m σ H' => ∃ i, i + m + 1 = (f.up a).length ∧ σ = [some (.ref o), some (.int (a : Int)), some (.ref l)] ∧ Same H H' ∧ H' l = some (.lst (vn ((f.up a).take (i + 1)))), ⟨(f.up a).length - 1, 0, by omega, rfl, same_upd _ (Same.refl _) hl, ?_⟩, ?_⟩
    · rw [upd_same]
      obtain ⟨t, ht⟩ := U.head
      rw [ht]
      rfl
    · rintro m σ H' ⟨i, hi, rfl, sm, hl'⟩
      obtain ⟨c, hc⟩ : ∃ c, (f.up a)[i]? = some c := ⟨_, List.getElem?_eq_getElem (by omega)⟩
      have hcn : c < f.par.length := hlt c (List.mem_of_getElem? hc)
      have hat : atI (vn ((f.up a).take (i + 1))) (-1) = some (V.int (c : Int)) := by
        rw [take_snoc hc, vn_app]
        exact atI_last _ _
      have hat2 := atI_nat (vp_get hcn)
      refine ⟨_, rfl, o, C, dx, _, _, rfl, sm _ _ FA.obj, T.cl, T.n_parent_of, FA.fp, _, rfl, _, rfl, l, _, _, _, rfl, rfl, SqL.of hl', hat, p1, _, _, _, rfl, rfl, SqL.of (sm _ _ FA.pl), hat2, rfl, _, rfl, ite2 (fun q => ?_) (fun q => ?_)⟩
      · refine ⟨fun σ' H' => ∃ m', m' < m ∧ ∃ i, i + m' + 1 = (f.up a).length ∧ σ' = [some (.ref o), some (.int (a : Int)), some (.ref l)] ∧ Same H H' ∧ H' l = some (.lst (vn ((f.up a).take (i + 1)))), fun _ _ h => h, ?_⟩
        have q' : ¬ (((pof f.par c).getD 99 : Nat) : Int) = 99 := by
          intro e
          rw [e] at q
          simp at q
        obtain ⟨b, hb⟩ : ∃ b, pof f.par c = some b := by
          cases e : pof f.par c with
          | none => exact absurd (FA.good.none_iff.mpr e) q'
          | some b => exact ⟨b, rfl⟩
        have hnx := U.next hc hb
        have hlen := (List.getElem?_eq_some_iff.mp hnx).1
        refine ⟨_, rfl, .inl ⟨rfl, _, SqL.of hl'⟩, _, rfl, o, C, dx, _, _, rfl, sm _ _ FA.obj, T.cl, T.n_parent_of, FA.fp, _, rfl, _, rfl, l, _, _, _, rfl, rfl, SqL.of hl', hat, p1, _, _, _, rfl, rfl, SqL.of (sm _ _ FA.pl), hat2, l, _, _, rfl, rfl, hl', (by rw [vn_len, List.length_take]; exact line_lt (by omega)), ?_⟩
        refine ⟨m - 1, by omega, i + 1, by omega, rfl, same_upd _ sm hl, ?_⟩
        rw [upd_same, take_snoc hnx, hb, vn_app]
        rfl
      · have e : pof f.par c = none := by
          rw [← FA.good.none_iff]
          simpa using q
        have hst := U.stop hc e
        refine ⟨_, rfl, k H' l sm hl ?_⟩
        rw [hl', hst, List.take_length]
theorem ok_root_above {f C f1 : Addr} {fd fd1 : FuncData} (F : Fun K "root_above" "Forest.root_above" s_root_above f fd) (T : Txt K mg C)
    (G_nodes_above : FnOk P w K mg base CX0 1 f1 fd1 ["self", "a"] (spAbove C)) (b_nodes_above : Binds K fd1 ["self", "a"] []) (m_nodes_above : Meth K C "nodes_above" f1) : FnOk P w K mg base CX0 2 f fd ["self", "a"] (spRootAbove C) := by
  refine F.ok sc_root_above (fun vs H Q E h => ?_) (fun cdv A outer s H vs Q E hr h => ?_)
  · obtain ⟨o, dx, p1, p2, fs, f, a, rfl, _⟩ := h
    rfl
  · obtain ⟨o, dx, p1, p2, fs, f, a, rfl, FA, ha, k⟩ := h
    refine ⟨_, (pss_one (ps_ret (pe_ix ix_list (pe_meth (pv 0) T.cl m_nodes_above G_nodes_above (hr.mono (by decide)) b_nodes_above .nil pass0 (pa_cons (pv 1) pa_nil)) (pe_un un_neg pe_int) (fun _ _ => rfl)))), ?_⟩
    refine ⟨_, rfl, o, dx, _, rfl, FA.obj, FA.no _ (by decide +kernel), _, rfl, o, dx, p1, p2, fs, f, a, rfl, FA, ha, fun H1 q1 s1 n1 h1 => ?_⟩
    exact ⟨_, rfl, q1, _, _, _, rfl, rfl, SqL.of h1, vn_last a (FA.good.up_ok ha).ne, k H1 s1⟩
end
end My
end
section
set_option Elab.async false
set_option linter.all false
set_option maxRecDepth 100000
set_option maxHeartbeats 2000000
namespace My
open PySem PySem.Spec PyProof.Rows L2
open PySem.W (Codec)
open LinkCut (Forest fits addTo turnedOn leastOn sumOf Rec State says tells)
section
variable {P : Program} {w : World} {K : PySem.W.Frag} {mg : Str → Option Value} {base : Heap}
theorem yes_if {σ : L2.St} {H : Hp} {A B : Hp → Prop} (h : A H) : tYes σ H fun b H3 => if b = true then A H3 else B H3 := by
  show if true = true then A H else B H
  rw [if_pos rfl]
  exact h
theorem joined_bl (f : Forest) (a b : Nat) : decide (V.int ((f.root a : Nat) : Int) = V.int ((f.root b : Nat) : Int)) = f.joined a b := by
  unfold Forest.joined
  by_cases e : f.root a = f.root b
  · rw [e]
    simp
  · have h : ¬ V.int ((f.root a : Nat) : Int) = V.int ((f.root b : Nat) : Int) := fun q => by
      injection q with q
      omega
    rw [decide_eq_false h]
    exact (beq_eq_false_iff_ne.mpr e).symm
theorem ok_are_joined {f C f1 : Addr} {fd fd1 : FuncData} (F : Fun K "are_joined" "Forest.are_joined" s_are_joined f fd) (T : Txt K mg C)
    (G_root_above : FnOk P w K mg base CX0 2 f1 fd1 ["self", "a"] (spRootAbove C)) (b_root_above : Binds K fd1 ["self", "a"] []) (m_root_above : Meth K C "root_above" f1) : FnOk P w K mg base CX0 3 f fd ["self", "a", "b"] (spJoined C) := by
  refine F.ok sc_are_joined (fun vs H Q E h => ?_) (fun cdv A outer s H vs Q E hr h => ?_)
  · obtain ⟨o, dx, p1, p2, fs, f, a, b, rfl, _⟩ := h
    rfl
  · obtain ⟨o, dx, p1, p2, fs, f, a, b, rfl, FA, ha, hb, k⟩ := h
    refine ⟨_, (pss_one (ps_ret (pe_cmpR op_eq (pe_meth (pv 0) T.cl m_root_above G_root_above (hr.mono (by decide)) b_root_above .nil pass0 (pa_cons (pv 1) pa_nil)) (pe_meth (pv 0) T.cl m_root_above G_root_above (hr.mono (by decide)) b_root_above .nil pass0 (pa_cons (pv 2) pa_nil)) (nomark _)))), ?_⟩
    refine ⟨_, rfl, o, dx, _, rfl, FA.obj, FA.no _ (by decide +kernel), _, rfl, o, dx, p1, p2, fs, f, a, rfl, FA, ha, fun H1 s1 => ?_⟩
    have FA1 := FA.same s1
    refine ⟨_, rfl, o, dx, _, rfl, FA1.obj, FA1.no _ (by decide +kernel), _, rfl, o, dx, p1, p2, fs, f, b, rfl, FA1, hb, fun H2 s2 => ⟨rfl, ?_⟩⟩
    have e := k H2 (s1.trans s2)
    rw [← joined_bl] at e
    exact e
theorem meet_in {f : Forest} (G : Good f) {a b : Nat} (ha : a < f.par.length) (hb : b < f.par.length) (hj : f.joined a b = true) : ∃ c, (f.up a).find? (fun (c : Nat) => (f.up b).contains c) = some c ∧ f.meet a b = c ∧ c ∈ f.up a ∧ c ∈ f.up b := by
  obtain ⟨c, h1, h2⟩ := (joined_iff G ha hb).mp hj
  cases e : (f.up a).find? (fun (c : Nat) => (f.up b).contains c) with
  | none =>
    have := List.find?_eq_none.mp e c h1
    simp [h2] at this
  | some d =>
    refine ⟨d, rfl, ?_, List.mem_of_find?_eq_some e, ?_⟩
    · unfold Forest.meet
      rw [e]
      rfl
    · have := List.find?_some e
      simpa using this
theorem meet_first {f : Forest} (G : Good f) {a b : Nat} (ha : a < f.par.length) (hb : b < f.par.length) (hj : f.joined a b = true) : ((f.up a).filter (fun (c : Nat) => decide (c ∈ f.up b)))[0]? = some (f.meet a b) := by
  obtain ⟨c, h1, h2, _⟩ := meet_in G ha hb hj
  rw [← List.head?_eq_getElem?, List.head?_filter, h2, ← h1]
  congr 1
  funext x
  rw [List.contains_eq_mem]
theorem ok_meeting_node {f C f1 : Addr} {fd fd1 : FuncData} (F : Fun K "meeting_node" "Forest.meeting_node" s_meeting_node f fd) (T : Txt K mg C)
    (G_nodes_above : FnOk P w K mg base CX0 1 f1 fd1 ["self", "a"] (spAbove C)) (b_nodes_above : Binds K fd1 ["self", "a"] []) (m_nodes_above : Meth K C "nodes_above" f1) : FnOk P w K mg base CX0 2 f fd ["self", "a", "b"] (spMeeting C) := by
  refine F.ok sc_meeting_node (fun vs H Q E h => ?_) (fun cdv A outer s H vs Q E hr h => ?_)
  · obtain ⟨o, dx, p1, p2, fs, f, a, b, rfl, _⟩ := h
    rfl
  · obtain ⟨o, dx, p1, p2, fs, f, a, b, rfl, FA, ha, hb, hj, k⟩ := h
    refine ⟨_, (pss_cons (ps_set (i := 3) sc_meeting_node.nd rfl (Or.inr rfl) (pe_meth (pv 0) T.cl m_nodes_above G_nodes_above (hr.mono (by decide)) b_nodes_above .nil pass0 (pa_cons (pv 2) pa_nil)))
        (pss_cons (ps_setLc (i := 4) (te := (tVar 5)) (tt := tTest (tOp (rIn K false) (tVar 5) (tVar 3))) rfl sc_meeting_node.nd rfl rfl (sw_true rfl rfl rfl rfl) (pi_list (pe_meth (pv 0) T.cl m_nodes_above G_nodes_above (hr.mono (by decide)) b_nodes_above .nil pass0 (pa_cons (pv 1) pa_nil))) (blkOk_by (N := ["self", "a", "b", "above_b", "above_both", "node"]) (sc := defScope s_meeting_node) (own := [("node", 5)]) (by decide +kernel)) (fun _ _ _ _ _ => (pg_name (i := 5) sc_meeting_node.nd rfl (Or.inl rfl))) (fun _ _ _ _ _ => (pts_one (pt_cmpR op_in_seq (pv 5) (pv 3) rfl))) (fun _ _ _ _ _ => (pv 5)))
        (pss_one (ps_ret (pe_ix ix_list (pv 4) pe_int (fun _ _ => rfl)))))), ?_⟩
    refine ⟨_, rfl, o, dx, _, rfl, FA.obj, FA.no _ (by decide +kernel), _, rfl, o, dx, p1, p2, fs, f, b, rfl, FA, hb, fun H1 q1 s1 n1 h1 => ?_⟩
    have FA1 := FA.same s1
    refine ⟨_, rfl, o, dx, _, rfl, FA1.obj, FA1.no _ (by decide +kernel), _, rfl, o, dx, p1, p2, fs, f, a, rfl, FA1, ha, fun H2 q2 s2 n2 h2 => ?_⟩
    have s12 : Same H H2 := s1.trans s2
    have hla := FA.good.up_le ha
    have h32 := FA.good.le
    refine ⟨q2, rfl, ⟨_, SqL.of h2⟩, fun D hD => lc_list (K := K) (a := q2) (xs := vn (f.up a)) (fun i H' => Same H2 H' ∧ H' D = some (.lst (vn (((f.up a).take i).filter (fun (c : Nat) => decide (c ∈ f.up b))))))
        ⟨same_upd _ (Same.refl _) hD, upd_same⟩ (fun i H' _ h => SqL.of (h.1 _ _ h2)) ?_ ?_⟩
    · rintro i x H' hx ⟨sm, hD'⟩
      obtain ⟨c, hc, rfl⟩ := vn_of hx
      refine ⟨rfl, _, rfl, _, rfl, q1, _, rfl, .inl (SqL.of (sm _ _ (s2 _ _ h1))), rfl, vn_flat _, _, rfl, ite2 (fun q => ?_) (fun q => ?_)⟩
      · have q' : inV (V.int (c : Int)) (vn (f.up b)) = true := q
        rw [vn_in] at q'
        refine ⟨_, rfl, _, hD', ?_, same_upd _ sm hD, ?_⟩
        · rw [vn_len]
          have := List.length_filter_le (fun (c : Nat) => decide (c ∈ f.up b)) ((f.up a).take i)
          rw [List.length_take] at this
          exact line_lt (by omega)
        · rw [upd_same, take_snoc hc, List.filter_append, List.filter_cons, if_pos q', vn_app]
          rfl
      · have q' : ¬ inV (V.int (c : Int)) (vn (f.up b)) = true := q
        rw [vn_in] at q'
        refine ⟨sm, ?_⟩
        rw [hD', take_snoc hc, List.filter_append, List.filter_cons, if_neg q', List.filter_nil, List.append_nil]
    · rintro H' ⟨sm, hD'⟩
      rw [vn_len, List.take_length] at hD'
      exact ⟨_, rfl, D, _, _, _, rfl, rfl, SqL.of hD', at_of (j := 0) rfl (vn_get (meet_first FA.good ha hb hj)), k H' (s12.trans sm)⟩
theorem way_idx {f : Forest} {a b i j : Nat} (hi : (f.up a)[i]? = some (f.meet a b)) (h1 : ∀ (m x : Nat), m < i → (f.up a)[m]? = some x → x ≠ f.meet a b) (hj : (f.up b)[j]? = some (f.meet a b)) (h2 : ∀ (m x : Nat), m < j → (f.up b)[m]? = some x → x ≠ f.meet a b) :
    f.way a b = (f.up a).take (i + 1) ++ ((f.up b).take j).reverse := by
  have e2 : f.way a b = (f.up a).takeWhile (fun (x : Nat) => x != f.meet a b) ++ (f.meet a b :: ((f.up b).takeWhile fun (x : Nat) => x != f.meet a b).reverse) := rfl
  rw [e2, while_at hi (by simp) (fun m x hm hx => by simpa using h1 m x hm hx), while_at hj (by simp) (fun m x hm hx => by simpa using h2 m x hm hx), take_snoc hi]
  simp
theorem ok_nodes_between {f C f1 f2 : Addr} {fd fd1 fd2 : FuncData} (F : Fun K "nodes_between" "Forest.nodes_between" s_nodes_between f fd) (T : Txt K mg C)
    (G_nodes_above : FnOk P w K mg base CX0 1 f1 fd1 ["self", "a"] (spAbove C)) (b_nodes_above : Binds K fd1 ["self", "a"] []) (m_nodes_above : Meth K C "nodes_above" f1)
    (G_meeting_node : FnOk P w K mg base CX0 2 f2 fd2 ["self", "a", "b"] (spMeeting C)) (b_meeting_node : Binds K fd2 ["self", "a", "b"] []) (m_meeting_node : Meth K C "meeting_node" f2) : FnOk P w K mg base CX0 3 f fd ["self", "a", "b"] (spBetween C) := by
  refine F.ok sc_nodes_between (fun vs H Q E h => ?_) (fun cdv A outer s H vs Q E hr h => ?_)
  · obtain ⟨o, dx, p1, p2, fs, f, a, b, rfl, _⟩ := h
    rfl
  · obtain ⟨o, dx, p1, p2, fs, f, a, b, rfl, FA, ha, hb, hj, k⟩ := h
    refine ⟨_, (pss_cons (ps_set (i := 3) sc_nodes_between.nd rfl (Or.inl rfl) (pe_meth (pv 0) T.cl m_meeting_node G_meeting_node (hr.mono (by decide)) b_meeting_node .nil pass0 (pa_cons (pv 1) (pa_cons (pv 2) pa_nil))))
        (pss_cons (ps_set (i := 4) sc_nodes_between.nd rfl (Or.inl rfl) (pe_meth (pv 0) T.cl m_nodes_above G_nodes_above (hr.mono (by decide)) b_nodes_above .nil pass0 (pa_cons (pv 1) pa_nil)))
        (pss_cons (ps_set (i := 5) sc_nodes_between.nd rfl (Or.inl rfl) (pe_meth (pv 0) T.cl m_nodes_above G_nodes_above (hr.mono (by decide)) b_nodes_above .nil pass0 (pa_cons (pv 2) pa_nil)))
        (pss_cons (ps_set (i := 6) sc_nodes_between.nd rfl (Or.inl rfl) (pe_slice sl_list (pv 5) po_none (po_some (pe_bm PySem.F.plainAttrs_list PySem.F.slot_list_index PySem.F.type_list_index mt_index (pv 5) (pa_cons (pv 3) pa_nil)))))
        (pss_one (ps_ret (pe_op op_cat (pe_slice sl_list (pv 4) po_none (po_some (pe_op op_add (pe_bm PySem.F.plainAttrs_list PySem.F.slot_list_index PySem.F.type_list_index mt_index (pv 4) (pa_cons (pv 3) pa_nil)) pe_int))) (pe_listRev rfl (by rfl) (by rfl) T.b_list T.b_reversed (pa_cons (pv 6) pa_nil))))))))), ?_⟩
    refine ⟨_, rfl, o, dx, _, rfl, FA.obj, FA.no _ (by decide +kernel), _, rfl, _, rfl, o, dx, p1, p2, fs, f, a, b, rfl, FA, ha, hb, hj, fun H0 s0 => ?_⟩
    have FA0 := FA.same s0
    refine ⟨_, rfl, o, dx, _, rfl, FA0.obj, FA0.no _ (by decide +kernel), _, rfl, o, dx, p1, p2, fs, f, a, rfl, FA0, ha, fun H1 q1 s1 n1 h1 => ?_⟩
    have FA1 := FA0.same s1
    refine ⟨_, rfl, o, dx, _, rfl, FA1.obj, FA1.no _ (by decide +kernel), _, rfl, o, dx, p1, p2, fs, f, b, rfl, FA1, hb, fun H2 q2 s2 n2 h2 => ?_⟩
    have s02 : Same H H2 := (s0.trans s1).trans s2
    have h1' := s2 _ _ h1
    have hla := FA.good.up_le ha
    have hlb := FA.good.up_le hb
    have h32 := FA.good.le
    obtain ⟨c, _, ec, hca, hcb⟩ := meet_in FA.good ha hb hj
    rw [← ec] at hca hcb
    obtain ⟨i, hi, hi2⟩ := first_at hca
    obtain ⟨j, hj, hj2⟩ := first_at hcb
    have hil := (List.getElem?_eq_some_iff.mp hi).1
    have hjl := (List.getElem?_eq_some_iff.mp hj).1
    have way := way_idx hi hi2 hj hj2
    have ne1 : ∀ (m : Nat) (z : V), ∀ (l : List Nat) (t : Nat), (∀ (m x : Nat), m < t → l[m]? = some x → x ≠ f.meet a b) → m < t → (vn l)[m]? = some z → eqV z (V.int ((f.meet a b : Nat) : Int)) = false := by
      intro m z l t hl hm hz
      obtain ⟨x', hx', rfl⟩ := vn_of hz
      have := hl m x' hm hx'
      show ((x' : Int) == ((f.meet a b : Nat) : Int)) = false
      exact beq_eq_false_iff_ne.mpr (by omega)
    refine ⟨_, rfl, _, rfl, .inl ⟨rfl, _, SqL.of h2⟩, _, rfl, q2, _, _, j, _, rfl, rfl, SqL.of h2, rfl, vn_flat _, vn_get hj, (by exact beq_self_eq_true _), (fun m z hm hz => ne1 m z _ j hj2 hm hz), _, rfl, q2, _, rfl, SqL.of h2, fun p3 hp3 => ?_⟩
    have s3 := same_upd (.lst (cutV (vn (f.up b)) none (some (j : Int)))) (Same.refl H2) hp3
    have h1'' := s3 _ _ h1'
    refine ⟨_, rfl, _, rfl, .inl ⟨rfl, _, SqL.of h1''⟩, _, rfl, q1, _, _, i, _, rfl, rfl, SqL.of h1'', rfl, vn_flat _, vn_get hi, (by exact beq_self_eq_true _), (fun m z hm hz => ne1 m z _ i hi2 hm hz), _, _, rfl, rfl, _, rfl, q1, _, rfl, SqL.of h1'', fun p4 hp4 => ?_⟩
    have n43 : p3 ≠ p4 := ne_of_none upd_same hp4
    refine ⟨_, rfl, p3, _, rfl, SqL.of (by rw [upd_ne n43, upd_same]), fun p5 hp5 => ?_⟩
    have n45 : p4 ≠ p5 := ne_of_none upd_same hp5
    refine ⟨p4, p5, _, _, rfl, rfl, by rw [upd_ne n45, upd_same], upd_same, ?_, fun p6 hp6 => ?_⟩
    · have e1 := cutV_length (vn (f.up a)) none (some ((i : Int) + 1))
      have e2 := cutV_length (vn (f.up b)) none (some (j : Int))
      rw [vn_len] at e1 e2
      rw [List.length_reverse]
      exact line_le (by omega)
    · have s4 := same_upd (.lst (cutV (vn (f.up a)) none (some ((i : Int) + 1)))) s3 (s3.free hp4)
      have s5 := same_upd (.lst (cutV (vn (f.up b)) none (some (j : Int))).reverse) s4 (s4.free hp5)
      have s6 := same_upd (.lst (cutV (vn (f.up a)) none (some ((i : Int) + 1)) ++ (cutV (vn (f.up b)) none (some (j : Int))).reverse)) s5 (s5.free hp6)
      refine k _ p6 (s02.trans s6) ((s02.trans s5).free hp6) ?_
      rw [upd_same, way, vn_app, ← vn_rev, ← vn_take, ← vn_take]
      have c1 := cut_to (vn (f.up a)) (i + 1) (by rw [vn_len]; omega)
      have c2 := cut_to (vn (f.up b)) j (by rw [vn_len]; omega)
      rw [← c1, ← c2]
      rfl
theorem ok_values_of {f C : Addr} {fd : FuncData} (F : Fun K "values_of" "Forest.values_of" s_values_of f fd) (T : Txt K mg C) : FnOk P w K mg base CX0 1 f fd ["self", "nodes"] (spValuesOf C) := by
  refine F.ok sc_values_of (fun vs H Q E h => ?_) (fun cdv A outer s H vs Q E hr h => ?_)
  · obtain ⟨o, dx, p1, p2, fs, f, l, ns, rfl, _⟩ := h
    rfl
  · obtain ⟨o, dx, p1, p2, fs, f, l, ns, rfl, FA, hl, hlt, hlen, k⟩ := h
    refine ⟨_, (pss_one (ps_ret (pe_lc (te := (tOp (rIxL K) (tFld K (tVar 0) "value_of") (tVar 2))) rfl sc_values_of.nd (pi_list (pv 1)) (blkOk_by (N := ["self", "nodes", "node"]) (sc := defScope s_values_of) (own := [("node", 2)]) (by decide +kernel)) (fun _ _ _ _ _ => (pg_name (i := 2) sc_values_of.nd rfl (Or.inl rfl))) (fun _ _ _ _ _ => pts_nil) (fun _ _ _ _ _ => (pe_ix ix_list (pe_fld (pv 0) rfl) (pv 2) (fun _ _ => rfl)))))), ?_⟩
    refine ⟨_, rfl, l, rfl, ⟨_, SqL.of hl⟩, fun D hD => lc_list (K := K) (a := l) (xs := vn ns) (fun i H' => Same H H' ∧ H' D = some (.lst (vi ((ns.take i).map f.value))))
        ⟨same_upd _ (Same.refl _) hD, upd_same⟩ (fun i H' _ h => SqL.of (h.1 _ _ hl)) ?_ ?_⟩
    · rintro i x H' hx ⟨sm, hD'⟩
      obtain ⟨c, hc, rfl⟩ := vn_of hx
      have hcn := hlt c (List.mem_of_getElem? hc)
      refine ⟨rfl, yes_if ?_⟩
      refine ⟨_, rfl, o, C, dx, _, _, rfl, sm _ _ FA.obj, T.cl, T.n_value_of, FA.fv, _, rfl, p2, _, _, _, rfl, rfl, SqL.of (sm _ _ FA.vl), atI_nat (val_get FA.good hcn), _, hD', ?_, same_upd _ sm hD, ?_⟩
      · rw [vi_len, List.length_map, List.length_take]
        exact line_lt (by omega)
      · rw [upd_same, take_snoc hc, List.map_append]
        unfold vi
        rw [List.map_append]
        rfl
    · rintro H' ⟨sm, hD'⟩
      rw [vn_len, List.take_length] at hD'
      exact k H' D sm hD hD'
theorem ok_nodes_below {f C f1 : Addr} {fd fd1 : FuncData} (F : Fun K "nodes_below" "Forest.nodes_below" s_nodes_below f fd) (T : Txt K mg C)
    (G_nodes_above : FnOk P w K mg base CX0 1 f1 fd1 ["self", "a"] (spAbove C)) (b_nodes_above : Binds K fd1 ["self", "a"] []) (m_nodes_above : Meth K C "nodes_above" f1) : FnOk P w K mg base CX0 2 f fd ["self", "a"] (spNodesBelow C) := by
  refine F.ok sc_nodes_below (fun vs H Q E h => ?_) (fun cdv A outer s H vs Q E hr h => ?_)
  · obtain ⟨o, dx, p1, p2, fs, f, a, rfl, _⟩ := h
    rfl
  · obtain ⟨o, dx, p1, p2, fs, f, a, rfl, FA, ha, k⟩ := h
    refine ⟨_, (pss_one (ps_ret (pe_lc (te := (tVar 2)) (tt := tTest (tOp (rIn K false) (tVar 1) (tMeth C "nodes_above" (spAbove C) [] E0 (tVar 0) (tCons (tVar 2) tNil)))) rfl sc_nodes_below.nd (pi_range1 rfl T.b_range (pa_cons (pe_callB call_len_seq (by rfl) T.b_len PySem.boot_len (pa_cons (pe_fld (pv 0) rfl) pa_nil)) pa_nil)) (blkOk_by (N := ["self", "a", "node"]) (sc := defScope s_nodes_below) (own := [("node", 2)]) (by decide +kernel)) (fun _ _ _ _ _ => (pg_name (i := 2) sc_nodes_below.nd rfl (Or.inl rfl))) (fun _ _ _ _ _ => (pts_one (pt_cmpR op_in_seq (pv 1) (pe_meth (pv 0) T.cl m_nodes_above G_nodes_above (hr.mono (by decide)) b_nodes_above .nil pass0 (pa_cons (pv 2) pa_nil)) rfl))) (fun _ _ _ _ _ => (pv 2))))), ?_⟩
    have h32 := FA.good.le
    refine ⟨_, rfl, o, C, dx, _, _, rfl, FA.obj, T.cl, T.n_parent_of, FA.fp, p1, _, rfl, .inl (SqL.of FA.pl), _, rfl, ?_, ?_, fun D hD => lc_range (lo := 0) (fun i H' => Same H H' ∧ H' D = some (.lst (vn ((List.range i).filter (fun (c : Nat) => (f.up c).contains a)))))
        ⟨same_upd _ (Same.refl _) hD, upd_same⟩ ?_ ?_⟩
    · rw [vp_len]
      omega
    · rw [vp_len]
      omega
    · rintro i H' hi ⟨sm, hD'⟩
      rw [vp_len] at hi
      have hi' : i < f.par.length := by omega
      have FA' := FA.same sm
      have e0 : (0 : Int) + (i : Int) = (i : Int) := Int.zero_add _
      rw [e0]
      refine ⟨rfl, _, rfl, _, rfl, o, dx, _, rfl, FA'.obj, FA'.no _ (by decide +kernel), _, rfl, o, dx, p1, p2, fs, f, i, rfl, FA', hi', fun H1 q1 s1 n1 h1 => ?_⟩
      have sm1 := sm.trans s1
      refine ⟨q1, _, rfl, .inl (SqL.of h1), rfl, vn_flat _, _, rfl, ite2 (fun q => ?_) (fun q => ?_)⟩
      · have q' : inV (V.int (a : Int)) (vn (f.up i)) = true := q
        rw [vn_in] at q'
        have q2 : (f.up i).contains a = true := by rw [List.contains_eq_mem]; exact q'
        refine ⟨_, rfl, _, s1 _ _ hD', ?_, same_upd _ sm1 hD, ?_⟩
        · rw [vn_len]
          have := List.length_filter_le (fun (c : Nat) => (f.up c).contains a) (List.range i)
          rw [List.length_range] at this
          exact line_lt (by omega)
        · rw [upd_same, List.range_succ, List.filter_append, List.filter_cons, if_pos q2, vn_app]
          rfl
      · have q' : ¬ inV (V.int (a : Int)) (vn (f.up i)) = true := q
        rw [vn_in] at q'
        have q2 : ¬ (f.up i).contains a = true := by rw [List.contains_eq_mem]; exact q'
        refine ⟨sm1, ?_⟩
        rw [s1 _ _ hD', List.range_succ, List.filter_append, List.filter_cons, if_neg q2, List.filter_nil, List.append_nil]
    · rintro H' ⟨sm, hD'⟩
      refine k H' D sm hD ?_
      rw [hD']
      have e : (((vp f.par).length : Nat) : Int).toNat = f.par.length := by
        rw [vp_len]
        omega
      rw [e]
      rfl
end
end My
end
section
set_option Elab.async false
set_option linter.all false
set_option maxRecDepth 100000
set_option maxHeartbeats 2000000
namespace My
open PySem PySem.Spec PyProof.Rows L2
open PySem.W (Codec)
open LinkCut (Forest fits addTo turnedOn leastOn sumOf Rec State says tells)
section
variable {P : Program} {w : World} {K : PySem.W.Frag} {mg : Str → Option Value} {base : Heap}
/-! ### the calls that change or tell -/
theorem frame_same {A : List Addr} {H H' : Hp} (s : Same H H') : Frame A H H' := fun b x e _ => s b x e
theorem Frame.upd_in {A : List Addr} {H H' : Hp} (s : Frame A H H') {p : Addr} (o : HO) (hp : p ∈ A) : Frame A H (upd H' p o) := fun b x e hb => by
  rw [upd_ne (fun q => hb (by rw [q]; exact hp))]
  exact s b x e hb
theorem Frame.upd_new {A : List Addr} {H H' : Hp} (s : Frame A H H') {p : Addr} (o : HO) (hp : H p = none) : Frame A H (upd H' p o) := fun b x e hb => by
  rw [upd_ne (ne_of_none e hp)]
  exact s b x e hb
theorem FAt.new {C : Addr} {H : Hp} {o dx p1 p2 : Addr} {fs : List (Str × V)} {f : Forest} (F : FAt C H o dx p1 p2 fs f) {l : Addr} (x : HO) (hl : H l = none) : FAt C (upd H l x) o dx p1 p2 fs f := F.same (same_upd x (Same.refl _) hl)
theorem FAt.setPar {C : Addr} {H : Hp} {o dx p1 p2 : Addr} {fs : List (Str × V)} {f : Forest} (F : FAt C H o dx p1 p2 fs f) {par : List (Option Nat)} {v : List Int} (hv : v = f.val) (G : Good ⟨par, v⟩) : FAt C (upd H p1 (.lst (vp par))) o dx p1 p2 fs ⟨par, v⟩ := by
  subst hv
  exact ⟨by rw [upd_ne (ne_of F.obj F.pl (by intro z; cases z))]; exact F.obj, F.fp, F.fv, F.no, upd_same, by rw [upd_ne (fun q => F.ne q.symm)]; exact F.vl, F.ne, G⟩
theorem FAt.setVal {C : Addr} {H : Hp} {o dx p1 p2 : Addr} {fs : List (Str × V)} {f : Forest} (F : FAt C H o dx p1 p2 fs f) {par : List (Option Nat)} {v : List Int} (hp : par = f.par) (G : Good ⟨par, v⟩) : FAt C (upd H p2 (.lst (vi v))) o dx p1 p2 fs ⟨par, v⟩ := by
  subst hp
  exact ⟨by rw [upd_ne (ne_of F.obj F.vl (by intro z; cases z))]; exact F.obj, F.fp, F.fv, F.no, by rw [upd_ne F.ne]; exact F.pl, upd_same, F.ne, G⟩
def Gives (C : Addr) (H : Hp) (o dx p1 p2 : Addr) (fs : List (Str × V)) (r : Forest × List Int) (Q : VK) : Prop :=
  ∀ (H' : Hp) (q : Addr), FAt C H' o dx p1 p2 fs r.1 → Frame [p1, p2] H H' → H q = none → H' q = some (.lst (vi r.2)) → Q (.ref q) H'
theorem Gives.say {C : Addr} {H H1 : Hp} {o dx p1 p2 : Addr} {fs : List (Str × V)} {f : Forest} {l : List Int} {Q : VK} (k : Gives C H o dx p1 p2 fs (f, l) Q) (F : FAt C H1 o dx p1 p2 fs f) (fr : Frame [p1, p2] H H1) {q : Addr} (hq : H1 q = none) (hq' : H q = none) {xs : List V} (e : xs = vi l) : Q (.ref q) (upd H1 q (.lst xs)) := by
  subst e
  exact k _ q (F.new _ hq) (fr.upd_new _ hq') hq' upd_same
def sp1 (C : Addr) (g : Forest → Nat → Forest × List Int) : Sp := fun vs H Q _ => ∃ (o dx p1 p2 : Addr) (fs : List (Str × V)) (f : Forest) (a : Nat), vs = [.ref o, .int (a : Int)] ∧ FAt C H o dx p1 p2 fs f ∧ a < f.par.length ∧ Gives C H o dx p1 p2 fs (g f a) Q
def sp2 (C : Addr) (g : Forest → Nat → Nat → Forest × List Int) : Sp := fun vs H Q _ => ∃ (o dx p1 p2 : Addr) (fs : List (Str × V)) (f : Forest) (a b : Nat), vs = [.ref o, .int (a : Int), .int (b : Int)] ∧ FAt C H o dx p1 p2 fs f ∧ a < f.par.length ∧ b < f.par.length ∧ Gives C H o dx p1 p2 fs (g f a b) Q
def sp1i (C : Addr) (g : Forest → Nat → Int → Forest × List Int) : Sp := fun vs H Q _ => ∃ (o dx p1 p2 : Addr) (fs : List (Str × V)) (f : Forest) (a : Nat) (v : Int), vs = [.ref o, .int (a : Int), .int v] ∧ FAt C H o dx p1 p2 fs f ∧ a < f.par.length ∧ Gives C H o dx p1 p2 fs (g f a v) Q
def sp2i (C : Addr) (g : Forest → Nat → Nat → Int → Forest × List Int) : Sp := fun vs H Q _ => ∃ (o dx p1 p2 : Addr) (fs : List (Str × V)) (f : Forest) (a b : Nat) (d : Int), vs = [.ref o, .int (a : Int), .int (b : Int), .int d] ∧ FAt C H o dx p1 p2 fs f ∧ a < f.par.length ∧ b < f.par.length ∧ Gives C H o dx p1 p2 fs (g f a b d) Q
def sp2j (C : Addr) (g : Forest → Nat → Nat → Forest × List Int) : Sp := fun vs H Q _ => ∃ (o dx p1 p2 : Addr) (fs : List (Str × V)) (f : Forest) (a b : Nat), vs = [.ref o, .int (a : Int), .int (b : Int)] ∧ FAt C H o dx p1 p2 fs f ∧ a < f.par.length ∧ b < f.par.length ∧ f.joined a b = true ∧ Gives C H o dx p1 p2 fs (g f a b) Q
def sp2ij (C : Addr) (g : Forest → Nat → Nat → Int → Forest × List Int) : Sp := fun vs H Q _ => ∃ (o dx p1 p2 : Addr) (fs : List (Str × V)) (f : Forest) (a b : Nat) (d : Int), vs = [.ref o, .int (a : Int), .int (b : Int), .int d] ∧ FAt C H o dx p1 p2 fs f ∧ a < f.par.length ∧ b < f.par.length ∧ f.joined a b = true ∧ Gives C H o dx p1 p2 fs (g f a b d) Q
def sp2nj (C : Addr) (g : Forest → Nat → Nat → Nat → Forest × List Int) : Sp := fun vs H Q _ => ∃ (o dx p1 p2 : Addr) (fs : List (Str × V)) (f : Forest) (a b i : Nat), vs = [.ref o, .int (a : Int), .int (b : Int), .int (i : Int)] ∧ FAt C H o dx p1 p2 fs f ∧ a < f.par.length ∧ b < f.par.length ∧ f.joined a b = true ∧ Gives C H o dx p1 p2 fs (g f a b i) Q
def sp0 (C : Addr) (g : Forest → Forest × List Int) : Sp := fun vs H Q _ => ∃ (o dx p1 p2 : Addr) (fs : List (Str × V)) (f : Forest), vs = [.ref o] ∧ FAt C H o dx p1 p2 fs f ∧ Gives C H o dx p1 p2 fs (g f) Q
theorem ix_nat {n a : Nat} (h : a < n) : ixN n (a : Int) = some a := by
  unfold ixN
  rw [if_pos (by omega), if_pos (by omega)]
  rfl
theorem vp_set (par : List (Option Nat)) (a : Nat) (o : Option Nat) : (vp par).set a (V.int ((o.getD 99 : Nat) : Int)) = vp (par.set a o) := by
  unfold vp vi
  rw [enc_set, List.map_set]
theorem vi_set (l : List Int) (a : Nat) (v : Int) : (vi l).set a (V.int v) = vi (l.set a v) := by
  unfold vi
  rw [List.map_set]
theorem ok_link {f C f1 : Addr} {fd fd1 : FuncData} (F : Fun K "link" "Forest.link" s_link f fd) (T : Txt K mg C)
    (G_are_joined : FnOk P w K mg base CX0 3 f1 fd1 ["self", "a", "b"] (spJoined C)) (b_are_joined : Binds K fd1 ["self", "a", "b"] []) (m_are_joined : Meth K C "are_joined" f1) : FnOk P w K mg base CX0 4 f fd ["self", "a", "b"] (sp2 C linkF) := by
  refine F.ok sc_link (fun vs H Q E h => ?_) (fun cdv A outer s H vs Q E hr h => ?_)
  · obtain ⟨o, dx, p1, p2, fs, f, a, b, rfl, _⟩ := h
    rfl
  · obtain ⟨o, dx, p1, p2, fs, f, a, b, rfl, FA, ha, hb, k⟩ := h
    refine ⟨_, (pss_cons (ps_if (pt_cmpR op_ne (pe_ix ix_list (pe_fld (pv 0) rfl) (pv 1) (fun _ _ => rfl)) (pe_const rfl T.g_NO_PARENT) (nomark _))
        (pss_one (ps_ret (pe_lst (pa_cons (pe_const rfl T.g_HAS_PARENT) pa_nil))))
        pss_nil)
        (pss_cons (ps_if (pt_truth (pe_meth (pv 0) T.cl m_are_joined G_are_joined (hr.mono (by decide)) b_are_joined .nil pass0 (pa_cons (pv 1) (pa_cons (pv 2) pa_nil))) (fun _ => rfl))
        (pss_one (ps_ret (pe_lst (pa_cons (pe_const rfl T.g_ALREADY_JOINED) pa_nil))))
        pss_nil)
        (pss_cons (ps_asg (pv 2) (pg_sub (pe_fld (pv 0) rfl) (pv 1) set_list))
        (pss_one (ps_ret (pe_lst (pa_cons pe_int pa_nil))))))), ?_⟩
    have e0 : f.parent a = pof f.par a := rfl
    refine ⟨_, rfl, o, C, dx, _, _, rfl, FA.obj, T.cl, T.n_parent_of, FA.fp, _, rfl, p1, _, _, _, rfl, rfl, SqL.of FA.pl, atI_nat (vp_get ha), rfl, _, rfl, ite2 (fun q => ?_) (fun q => ?_)⟩
    · refine ⟨line_le (by simp), fun l hl => ?_⟩
      have e1 : linkF f a b = (f, [-2]) := by
        unfold linkF
        rw [if_pos]
        rw [e0]
        cases e : pof f.par a with
        | none =>
          rw [e] at q
          simp at q
        | some b => rfl
      rw [e1] at k
      exact k.say FA (frame_same (Same.refl _)) hl hl rfl
    · have e2 : pof f.par a = none := by
        rw [← FA.good.none_iff]
        simpa using q
      refine ⟨_, rfl, o, dx, _, rfl, FA.obj, FA.no _ (by decide +kernel), _, rfl, _, rfl, o, dx, p1, p2, fs, f, a, b, rfl, FA, ha, hb, fun H2 s12 => ?_⟩
      have FA2 := FA.same s12
      refine ⟨_, rfl, ite2 (fun j => ?_) (fun j => ?_)⟩
      · refine ⟨line_le (by simp), fun l hl => ?_⟩
        have e1 : linkF f a b = (f, [-3]) := by
          unfold linkF
          rw [if_neg (by rw [e0, e2]; decide), if_pos j]
        rw [e1] at k
        exact k.say FA2 (frame_same s12) hl (s12.free hl) rfl
      · have j' : f.joined a b = false := by
          cases e : f.joined a b with
          | false => rfl
          | true => exact absurd e j
        have e1 : linkF f a b = (⟨f.par.set a (some b), f.val⟩, [0]) := by
          unfold linkF
          rw [if_neg (by rw [e0, e2]; decide), if_neg j]
        rw [e1] at k
        refine ⟨_, rfl, _, rfl, o, C, dx, _, _, rfl, FA2.obj, T.cl, T.n_parent_of, FA2.fp, _, rfl, p1, _, _, a, rfl, rfl, FA2.pl, (by rw [vp_len]; exact ix_nat ha), ?_⟩
        refine ⟨line_le (by simp), fun l hl => ?_⟩
        have ee : (vp f.par).set a (V.int (b : Int)) = vp (f.par.set a (some b)) := vp_set f.par a (some b)
        rw [ee] at hl ⊢
        have hl2 : H2 l = none := by
          rw [← hl, upd_ne]
          intro z
          rw [z, upd_same] at hl
          cases hl
        exact k.say (FA2.setPar rfl (FA.good.link ha hb (by rw [e0]; exact e2) j')) ((frame_same s12).upd_in _ (by simp)) hl (s12.free hl2) rfl
theorem free_of {H : Hp} {p l : Addr} {o : HO} (h : upd H p o l = none) : H l = none ∧ l ≠ p := by
  have n : l ≠ p := by
    intro z
    rw [z, upd_same] at h
    cases h
  rw [upd_ne n] at h
  exact ⟨h, n⟩
theorem ok_cut {f C : Addr} {fd : FuncData} (F : Fun K "cut" "Forest.cut" s_cut f fd) (T : Txt K mg C) : FnOk P w K mg base CX0 1 f fd ["self", "a"] (sp1 C cutF) := by
  refine F.ok sc_cut (fun vs H Q E h => ?_) (fun cdv A outer s H vs Q E hr h => ?_)
  · obtain ⟨o, dx, p1, p2, fs, f, a, rfl, _⟩ := h
    rfl
  · obtain ⟨o, dx, p1, p2, fs, f, a, rfl, FA, ha, k⟩ := h
    refine ⟨_, (pss_cons (ps_if (pt_cmpR op_eq (pe_ix ix_list (pe_fld (pv 0) rfl) (pv 1) (fun _ _ => rfl)) (pe_const rfl T.g_NO_PARENT) (nomark _))
        (pss_one (ps_ret (pe_lst (pa_cons (pe_const rfl T.g_HAS_NO_PARENT) pa_nil))))
        pss_nil)
        (pss_cons (ps_asg (pe_const rfl T.g_NO_PARENT) (pg_sub (pe_fld (pv 0) rfl) (pv 1) set_list))
        (pss_one (ps_ret (pe_lst (pa_cons pe_int pa_nil)))))), ?_⟩
    have e0 : f.parent a = pof f.par a := rfl
    refine ⟨_, rfl, o, C, dx, _, _, rfl, FA.obj, T.cl, T.n_parent_of, FA.fp, _, rfl, p1, _, _, _, rfl, rfl, SqL.of FA.pl, atI_nat (vp_get ha), rfl, _, rfl, ite2 (fun q => ?_) (fun q => ?_)⟩
    · refine ⟨line_le (by simp), fun l hl => ?_⟩
      have e2 : pof f.par a = none := by
        rw [← FA.good.none_iff]
        simpa using q
      have e1 : cutF f a = (f, [-2]) := by
        unfold cutF
        rw [if_pos (by rw [e0, e2]; decide)]
      rw [e1] at k
      exact k.say FA (frame_same (Same.refl _)) hl hl rfl
    · have e1 : cutF f a = (⟨f.par.set a none, f.val⟩, [0]) := by
        unfold cutF
        rw [if_neg]
        rw [e0]
        intro z
        refine q ?_
        have : pof f.par a = none := Option.isNone_iff_eq_none.mp z
        have := FA.good.none_iff.mpr this
        simpa using this
      rw [e1] at k
      refine ⟨_, rfl, o, C, dx, _, _, rfl, FA.obj, T.cl, T.n_parent_of, FA.fp, _, rfl, p1, _, _, a, rfl, rfl, FA.pl, (by rw [vp_len]; exact ix_nat ha), ?_⟩
      refine ⟨line_le (by simp), fun l hl => ?_⟩
      have ee : (vp f.par).set a (V.int 99) = vp (f.par.set a none) := vp_set f.par a none
      rw [ee] at hl ⊢
      exact k.say (FA.setPar rfl (FA.good.cut ha)) ((frame_same (Same.refl _)).upd_in _ (by simp)) hl (free_of hl).1 rfl
theorem ok_root {f C f1 : Addr} {fd fd1 : FuncData} (F : Fun K "root" "Forest.root" s_root f fd) (T : Txt K mg C)
    (G_root_above : FnOk P w K mg base CX0 2 f1 fd1 ["self", "a"] (spRootAbove C)) (b_root_above : Binds K fd1 ["self", "a"] []) (m_root_above : Meth K C "root_above" f1) : FnOk P w K mg base CX0 3 f fd ["self", "a"] (sp1 C rootF) := by
  refine F.ok sc_root (fun vs H Q E h => ?_) (fun cdv A outer s H vs Q E hr h => ?_)
  · obtain ⟨o, dx, p1, p2, fs, f, a, rfl, _⟩ := h
    rfl
  · obtain ⟨o, dx, p1, p2, fs, f, a, rfl, FA, ha, k⟩ := h
    refine ⟨_, (pss_one (ps_ret (pe_lst (pa_cons pe_int (pa_cons (pe_meth (pv 0) T.cl m_root_above G_root_above (hr.mono (by decide)) b_root_above .nil pass0 (pa_cons (pv 1) pa_nil)) pa_nil))))), ?_⟩
    refine ⟨_, rfl, o, dx, _, rfl, FA.obj, FA.no _ (by decide +kernel), _, rfl, o, dx, p1, p2, fs, f, a, rfl, FA, ha, fun H1 s1 => ?_⟩
    exact ⟨line_le (by simp), fun l hl => Gives.say k (FA.same s1) (frame_same s1) hl (s1.free hl) rfl⟩
theorem ok_reroot {f C f1 : Addr} {fd fd1 : FuncData} (F : Fun K "reroot" "Forest.reroot" s_reroot f fd) (T : Txt K mg C)
    (G_nodes_above : FnOk P w K mg base CX0 1 f1 fd1 ["self", "a"] (spAbove C)) (b_nodes_above : Binds K fd1 ["self", "a"] []) (m_nodes_above : Meth K C "nodes_above" f1) : FnOk P w K mg base CX0 2 f fd ["self", "a"] (sp1 C rerootF) := by
  refine F.ok sc_reroot (fun vs H Q E h => ?_) (fun cdv A outer s H vs Q E hr h => ?_)
  · obtain ⟨o, dx, p1, p2, fs, f, a, rfl, _⟩ := h
    rfl
  · obtain ⟨o, dx, p1, p2, fs, f, a, rfl, FA, ha, k⟩ := h
    refine ⟨_, (pss_cons (ps_set (i := 2) sc_reroot.nd rfl (Or.inl rfl) (pe_meth (pv 0) T.cl m_nodes_above G_nodes_above (hr.mono (by decide)) b_nodes_above .nil pass0 (pa_cons (pv 1) pa_nil)))
        (pss_cons (ps_asg (pe_const rfl T.g_NO_PARENT) (pg_sub (pe_fld (pv 0) rfl) (pv 1) set_list))
        (pss_cons (ps_for PassesOwn.never rfl (pi_range2 rfl T.b_range (pa_cons pe_int (pa_cons (pe_callB call_len_seq (by rfl) T.b_len PySem.boot_len (pa_cons (pv 2) pa_nil)) pa_nil))) (pg_name (i := 3) sc_reroot.nd rfl (Or.inl rfl))
        (pss_one (ps_asg (pe_ix ix_list (pv 2) (pe_op op_sub (pv 3) pe_int) (fun _ _ => rfl)) (pg_sub (pe_fld (pv 0) rfl) (pe_ix ix_list (pv 2) (pv 3) (fun _ _ => rfl)) set_list))))
        (pss_one (ps_ret (pe_lst (pa_cons pe_int pa_nil))))))), ?_⟩
    refine ⟨_, rfl, o, dx, _, rfl, FA.obj, FA.no _ (by decide +kernel), _, rfl, o, dx, p1, p2, fs, f, a, rfl, FA, ha, fun H1 q1 s1 n1 h1 => ?_⟩
    have FA1 := FA.same s1
    have hla := FA.good.up_le ha
    have h32 := FA.good.le
    have hlt := FA.good.up_lt ha
    have hpos : 0 < (f.up a).length := List.length_pos_iff.mpr (FA.good.up_ok ha).ne
    refine ⟨_, rfl, o, C, dx, _, _, rfl, FA1.obj, T.cl, T.n_parent_of, FA1.fp, _, rfl, p1, _, _, a, rfl, rfl, FA1.pl, (by rw [vp_len]; exact ix_nat ha), ?_⟩
    have nq1 : q1 ≠ p1 := fun z => by rw [z, FA.pl] at n1; cases n1
    have nqo : o ≠ p1 := ne_of FA.obj FA.pl (by intro z; cases z)
    have ee : (vp f.par).set a (V.int 99) = vp (f.par.set a none) := vp_set f.par a none
    refine ⟨_, rfl, q1, _, rfl, .inl (SqL.of (by rw [upd_ne nq1]; exact h1)), 1, _, rfl, ⟨by decide, by decide, ?_, ?_⟩, for_range (lo := 1) (fun i σ H' => ∃ v3 : Option V, σ = [some (.ref o), some (.int (a : Int)), some (.ref q1), v3] ∧ H' = upd H1 p1 (.lst (vp (turnedOn ((f.up a).take (i + 1)) (f.par.set a none)))))
      ⟨none, rfl, ?_⟩ ?_ ?_⟩
    · rw [vn_len]
      omega
    · rw [vn_len]
      omega
    · rw [ee]
      obtain ⟨t, ht⟩ := (FA.good.up_ok ha).head
      rw [ht]
      rfl
    · rintro i σ H' hi ⟨v3, rfl, rfl⟩
      rw [vn_len] at hi
      have hi' : i + 1 < (f.up a).length := by omega
      obtain ⟨x, hx⟩ : ∃ c, (f.up a)[i]? = some c := ⟨_, List.getElem?_eq_getElem (by omega)⟩
      obtain ⟨y, hy⟩ : ∃ c, (f.up a)[i + 1]? = some c := ⟨_, List.getElem?_eq_getElem hi'⟩
      have hq1 : upd H1 p1 (.lst (vp (turnedOn ((f.up a).take (i + 1)) (f.par.set a none)))) q1 = some (.lst (vn (f.up a))) := by rw [upd_ne nq1]; exact h1
      have hoo : upd H1 p1 (.lst (vp (turnedOn ((f.up a).take (i + 1)) (f.par.set a none)))) o = some (.ins C dx fs) := by rw [upd_ne nqo]; exact FA1.obj
      refine ⟨_, rfl, _, rfl, _, _, rfl, rfl, q1, _, _, _, rfl, rfl, SqL.of hq1, at_of (j := i) (by omega) (vn_get hx), _, rfl, o, C, dx, _, _, rfl, hoo, T.cl, T.n_parent_of, FA.fp, _, rfl, _, rfl, q1, _, _, _, rfl, rfl, SqL.of hq1, at_of (j := i + 1) (by omega) (vn_get hy), p1, _, _, y, rfl, rfl, upd_same, ?_, ?_⟩
      · rw [vp_len, turned_len, List.length_set]
        exact ix_nat (hlt y (List.mem_of_getElem? hy))
      · refine ⟨_, rfl, ?_⟩
        rw [upd_upd, turned_take hx hy]
        congr 2
        exact vp_set _ y (some x)
    · rintro σ H' ⟨v3, rfl, rfl⟩
      refine ⟨line_le (by simp), fun l hl => ?_⟩
      have e1 : ((((vn (f.up a)).length : Nat) : Int) - 1).toNat + 1 = (f.up a).length := by
        rw [vn_len]
        omega
      rw [e1, List.take_length, ← reroot_eq FA.good ha] at hl ⊢
      have hl2 := free_of hl
      exact Gives.say k (FA1.setPar (par := (f.reroot a).par) (v := (f.reroot a).val) rfl (FA.good.reroot ha)) ((frame_same s1).upd_in _ (by simp)) hl (s1.free hl2.1) rfl
theorem ok_put {f C f1 : Addr} {fd fd1 : FuncData} (F : Fun K "put" "Forest.put" s_put f fd) (T : Txt K mg C) (F_within_limits : Fun K "within_limits" "within_limits" s_within_limits f1 fd1) (mg_within_limits : mg "within_limits" = some (.ref f1))
    (G_within_limits : FnOk P w K mg base CX0 1 f1 fd1 ["value"] spWithin) (b_within_limits : Binds K fd1 ["value"] []) : FnOk P w K mg base CX0 2 f fd ["self", "a", "v"] (sp1i C putsF) := by
  refine F.ok sc_put (fun vs H Q E h => ?_) (fun cdv A outer s H vs Q E hr h => ?_)
  · obtain ⟨o, dx, p1, p2, fs, f, a, v, rfl, _⟩ := h
    rfl
  · obtain ⟨o, dx, p1, p2, fs, f, a, v, rfl, FA, ha, k⟩ := h
    refine ⟨_, (pss_cons (ps_if (pt_not (pt_truth (pe_call G_within_limits (hr.mono (by decide)) rfl mg_within_limits F_within_limits.kp b_within_limits .nil pass0 (pa_cons (pv 2) pa_nil)) (fun _ => rfl)))
        (pss_one (ps_ret (pe_lst (pa_cons (pe_const rfl T.g_PUT_PAST_LIMITS) pa_nil))))
        pss_nil)
        (pss_cons (ps_asg (pv 2) (pg_sub (pe_fld (pv 0) rfl) (pv 1) set_list))
        (pss_one (ps_ret (pe_lst (pa_cons pe_int pa_nil)))))), ?_⟩
    have hv := FA.good.len
    refine ⟨_, rfl, v, rfl, _, rfl, ite2 (fun q => ?_) (fun q => ?_)⟩
    · refine ⟨line_le (by simp), fun l hl => ?_⟩
      have e1 : putsF f a v = (f, [-2]) := by
        unfold putsF
        rw [if_pos (by simpa using q)]
      rw [e1] at k
      exact k.say FA (frame_same (Same.refl _)) hl hl rfl
    · have e1 : putsF f a v = (⟨f.par, f.val.set a v⟩, [0]) := by
        unfold putsF
        rw [if_neg (by simpa using q)]
      rw [e1] at k
      refine ⟨_, rfl, _, rfl, o, C, dx, _, _, rfl, FA.obj, T.cl, T.n_value_of, FA.fv, _, rfl, p2, _, _, a, rfl, rfl, FA.vl, (by rw [vi_len]; exact ix_nat (by omega)), ?_⟩
      refine ⟨line_le (by simp), fun l hl => ?_⟩
      rw [vi_set] at hl ⊢
      exact k.say (FA.setVal rfl (FA.good.val (by simp))) ((frame_same (Same.refl _)).upd_in _ (by simp)) hl (free_of hl).1 rfl
theorem ok_add {f C f1 f2 : Addr} {fd fd1 fd2 : FuncData} (F : Fun K "add" "Forest.add" s_add f fd) (T : Txt K mg C) (F_within_limits : Fun K "within_limits" "within_limits" s_within_limits f1 fd1) (mg_within_limits : mg "within_limits" = some (.ref f1))
    (G_within_limits : FnOk P w K mg base CX0 1 f1 fd1 ["value"] spWithin) (b_within_limits : Binds K fd1 ["value"] [])
    (G_nodes_between : FnOk P w K mg base CX0 3 f2 fd2 ["self", "a", "b"] (spBetween C)) (b_nodes_between : Binds K fd2 ["self", "a", "b"] []) (m_nodes_between : Meth K C "nodes_between" f2) : FnOk P w K mg base CX0 4 f fd ["self", "a", "b", "d"] (sp2ij C addF) := by
  refine F.ok sc_add (fun vs H Q E h => ?_) (fun cdv A outer s H vs Q E hr h => ?_)
  · obtain ⟨o, dx, p1, p2, fs, f, a, b, d, rfl, _⟩ := h
    rfl
  · obtain ⟨o, dx, p1, p2, fs, f, a, b, d, rfl, FA, ha, hb, j, k⟩ := h
    refine ⟨_, (pss_cons (ps_set (i := 4) sc_add.nd rfl (Or.inl rfl) (pe_meth (pv 0) T.cl m_nodes_between G_nodes_between (hr.mono (by decide)) b_nodes_between .nil pass0 (pa_cons (pv 1) (pa_cons (pv 2) pa_nil))))
        (pss_cons (ps_for PassesOwn.never rfl (pi_list (pv 4)) (pg_name (i := 5) sc_add.nd rfl (Or.inl rfl))
        (pss_one (ps_if (pt_not (pt_truth (pe_call G_within_limits (hr.mono (by decide)) rfl mg_within_limits F_within_limits.kp b_within_limits .nil pass0 (pa_cons (pe_op op_add (pe_ix ix_list (pe_fld (pv 0) rfl) (pv 5) (fun _ _ => rfl)) (pv 3)) pa_nil)) (fun _ => rfl)))
        (pss_one (ps_ret (pe_lst (pa_cons (pe_const rfl T.g_ADD_PAST_LIMITS) pa_nil))))
        pss_nil)))
        (pss_cons (ps_for PassesOwn.never rfl (pi_list (pv 4)) (pg_name (i := 5) sc_add.nd rfl (Or.inl rfl))
        (pss_one (ps_asg (pe_op op_add (pe_ix ix_list (pe_fld (pv 0) rfl) (pv 5) (fun _ _ => rfl)) (pv 3)) (pg_sub (pe_fld (pv 0) rfl) (pv 5) set_list))))
        (pss_one (ps_ret (pe_lst (pa_cons pe_int pa_nil))))))), ?_⟩
    have hv := FA.good.len
    refine ⟨_, rfl, o, dx, _, rfl, FA.obj, FA.no _ (by decide +kernel), _, rfl, _, rfl, o, dx, p1, p2, fs, f, a, b, rfl, FA, ha, hb, j, fun H1 q1 s1 n1 h1 => ?_⟩
    have FA1 := FA.same s1
    have hwl := way_lt FA.good ha hb
    have nq2 : q1 ≠ p2 := fun z => by rw [z, FA.vl] at n1; cases n1
    have nqo : o ≠ p2 := ne_of FA.obj FA.vl (by intro z; cases z)
    refine ⟨_, rfl, q1, rfl, ⟨_, SqL.of h1⟩, for_list (K := K) (a := q1) (xs := vn (f.way a b)) (fun i σ H' => ∃ v5 : Option V, σ = [some (.ref o), some (.int (a : Int)), some (.int (b : Int)), some (.int d), some (.ref q1), v5] ∧ H' = H1 ∧ ∀ (j c : Nat), j < i → (f.way a b)[j]? = some c → fits (f.value c + d) = true)
      ⟨none, rfl, rfl, fun j c hj => absurd hj (Nat.not_lt_zero j)⟩ (fun i σ H' _ ⟨_, _, e, _⟩ => by subst e; exact SqL.of h1) ?_ ?_⟩
    · rintro i x σ H' hx ⟨v5, rfl, rfl, hall⟩
      obtain ⟨c, hc, rfl⟩ := vn_of hx
      have hcn := hwl c (List.mem_of_getElem? hc)
      refine ⟨_, rfl, o, C, dx, _, _, rfl, FA1.obj, T.cl, T.n_value_of, FA1.fv, _, rfl, p2, _, _, _, rfl, rfl, SqL.of FA1.vl, atI_nat (val_get FA.good hcn), _, rfl, _, _, rfl, rfl, _, rfl, _, rfl, ite2 (fun q => ?_) (fun q => ?_)⟩
      · refine ⟨line_le (by simp), fun l hl => ?_⟩
        have e1 : addF f a b d = (f, [-3]) := by
          unfold addF
          rw [if_neg (by rw [j]; decide), if_neg]
          intro z
          have := List.all_eq_true.mp z c (List.mem_of_getElem? hc)
          rw [this] at q
          simp at q
        rw [e1] at k
        exact k.say FA1 (frame_same s1) hl (s1.free hl) rfl
      · refine ⟨_, rfl, rfl, fun j' c' hj' hc' => ?_⟩
        by_cases e : j' = i
        · subst e
          have : c' = c := Option.some.inj (hc'.symm.trans hc)
          subst this
          simpa using q
        · exact hall j' c' (by omega) hc'
    · rintro σ H' ⟨v5, rfl, rfl, hall⟩
      rw [vn_len] at hall
      have e1 : addF f a b d = (⟨f.par, addTo d (f.way a b) f.val⟩, [0]) := by
        unfold addF
        rw [if_neg (by rw [j]; decide), if_pos]
        refine List.all_eq_true.mpr fun c hc => ?_
        obtain ⟨j', hj'⟩ := List.mem_iff_getElem?.mp hc
        exact hall j' c (List.getElem?_eq_some_iff.mp hj').1 hj'
      rw [e1] at k
      refine ⟨_, rfl, q1, rfl, ⟨_, SqL.of h1⟩, for_list (K := K) (a := q1) (xs := vn (f.way a b)) (fun i σ H'' => ∃ v5 : Option V, σ = [some (.ref o), some (.int (a : Int)), some (.int (b : Int)), some (.int d), some (.ref q1), v5] ∧ H'' = upd H' p2 (.lst (vi (addTo d ((f.way a b).take i) f.val))))
        ⟨_, rfl, ?_⟩ (fun i σ H'' _ ⟨_, _, e⟩ => by subst e; exact SqL.of (by rw [upd_ne nq2]; exact h1)) ?_ ?_⟩
      · funext z
        unfold upd
        split
        · rename_i e
          rw [e]
          exact FA1.vl
        · rfl
      · rintro i x σ H'' hx ⟨v5, rfl, rfl⟩
        obtain ⟨c, hc, rfl⟩ := vn_of hx
        have hcn := hwl c (List.mem_of_getElem? hc)
        have hoo : upd H' p2 (.lst (vi (addTo d ((f.way a b).take i) f.val))) o = some (.ins C dx fs) := by rw [upd_ne nqo]; exact FA1.obj
        have hL : c < (addTo d ((f.way a b).take i) f.val).length := by rw [addTo_len]; omega
        have hg : (addTo d ((f.way a b).take i) f.val)[c]? = some ((addTo d ((f.way a b).take i) f.val).getD c 0) := by
          rw [List.getD_eq_getElem?_getD, List.getElem?_eq_getElem hL]
          rfl
        refine ⟨_, rfl, o, C, dx, _, _, rfl, hoo, T.cl, T.n_value_of, FA1.fv, _, rfl, p2, _, _, _, rfl, rfl, SqL.of upd_same, atI_nat (vi_get hg), _, rfl, _, _, rfl, rfl, _, rfl, o, C, dx, _, _, rfl, hoo, T.cl, T.n_value_of, FA1.fv, _, rfl, p2, _, _, c, rfl, rfl, upd_same, (by rw [vi_len]; exact ix_nat hL), ?_⟩
        refine ⟨_, rfl, ?_⟩
        rw [upd_upd, vi_set, take_snoc hc, addTo_snoc]
      · rintro σ H'' ⟨v5, rfl, rfl⟩
        refine ⟨line_le (by simp), fun l hl => ?_⟩
        rw [vn_len, List.take_length] at hl ⊢
        exact k.say (FA1.setVal rfl (FA.good.val (addTo_len _ _ _))) ((frame_same s1).upd_in _ (by simp)) hl (s1.free (free_of hl).1) rfl
theorem first_int : ∀ {l : List Int} {c : Int}, c ∈ l → ∃ j, l[j]? = some c ∧ ∀ (m : Nat) (x : Int), m < j → l[m]? = some x → x ≠ c
  | a :: l, c, h => by
    by_cases e : a = c
    · subst e
      exact ⟨0, rfl, fun m x hm => absurd hm (Nat.not_lt_zero m)⟩
    · have h' : c ∈ l := by
        rcases List.mem_cons.mp h with q | q
        · exact absurd q.symm e
        · exact q
      obtain ⟨j, h1, h2⟩ := first_int h'
      refine ⟨j + 1, h1, fun m x hm hx => ?_⟩
      match m, hx with
      | 0, hx =>
        have : a = x := Option.some.inj hx
        exact this ▸ e
      | m + 1, hx => exact h2 m x (by omega) hx
theorem vi_of {l : List Int} {i : Nat} {x : V} (h : (vi l)[i]? = some x) : ∃ c, l[i]? = some c ∧ x = V.int c := by
  unfold vi at h
  rw [List.getElem?_map] at h
  cases e : l[i]? with
  | none =>
    rw [e] at h
    cases h
  | some c =>
    rw [e] at h
    exact ⟨c, rfl, (Option.some.inj h).symm⟩
theorem ok_path {f C f2 f3 : Addr} {fd fd2 fd3 : FuncData} (F : Fun K "path" "Forest.path" s_path f fd) (T : Txt K mg C)
    (G_nodes_between : FnOk P w K mg base CX0 3 f2 fd2 ["self", "a", "b"] (spBetween C)) (b_nodes_between : Binds K fd2 ["self", "a", "b"] []) (m_nodes_between : Meth K C "nodes_between" f2)
    (G_values_of : FnOk P w K mg base CX0 1 f3 fd3 ["self", "nodes"] (spValuesOf C)) (b_values_of : Binds K fd3 ["self", "nodes"] []) (m_values_of : Meth K C "values_of" f3) : FnOk P w K mg base CX0 4 f fd ["self", "a", "b"] (sp2j C pathF) := by
  refine F.ok sc_path (fun vs H Q E h => ?_) (fun cdv A outer s H vs Q E hr h => ?_)
  · obtain ⟨o, dx, p1, p2, fs, f, a, b, rfl, _⟩ := h
    rfl
  · obtain ⟨o, dx, p1, p2, fs, f, a, b, rfl, FA, ha, hb, j, k⟩ := h
    refine ⟨_, (pss_cons (ps_set (i := 3) sc_path.nd rfl (Or.inl rfl) (pe_meth (pv 0) T.cl m_nodes_between G_nodes_between (hr.mono (by decide)) b_nodes_between .nil pass0 (pa_cons (pv 1) (pa_cons (pv 2) pa_nil))))
        (pss_cons (ps_set (i := 4) sc_path.nd rfl (Or.inl rfl) (pe_meth (pv 0) T.cl m_values_of G_values_of (hr.mono (by decide)) b_values_of .nil pass0 (pa_cons (pv 3) pa_nil)))
        (pss_cons (ps_set (i := 5) sc_path.nd rfl (Or.inl rfl) (pe_callB (cr_min rfl) (by rfl) T.b_min boot_min5 (pa_cons (pv 4) pa_nil)))
        (pss_one (ps_ret (pe_lst (pa_cons pe_int (pa_cons (pe_callB call_len_seq (by rfl) T.b_len PySem.boot_len (pa_cons (pv 3) pa_nil)) (pa_cons (pe_callB (cr_sum rfl) (by rfl) T.b_sum boot_sum5 (pa_cons (pv 4) pa_nil)) (pa_cons (pv 5) (pa_cons (pe_ix ix_list (pv 3) (pe_bm PySem.F.plainAttrs_list PySem.F.slot_list_index PySem.F.type_list_index mt_index (pv 4) (pa_cons (pv 5) pa_nil)) (fun _ _ => rfl)) pa_nil))))))))))), ?_⟩
    refine ⟨_, rfl, o, dx, _, rfl, FA.obj, FA.no _ (by decide +kernel), _, rfl, _, rfl, o, dx, p1, p2, fs, f, a, b, rfl, FA, ha, hb, j, fun H1 q1 s1 n1 h1 => ?_⟩
    have FA1 := FA.same s1
    have hwl := way_lt FA.good ha hb
    have hwn := way_len FA.good ha hb
    have hpos := List.length_pos_iff.mpr (way_ne f a b)
    refine ⟨_, rfl, o, dx, _, rfl, FA1.obj, FA1.no _ (by decide +kernel), _, rfl, o, dx, p1, p2, fs, f, q1, f.way a b, rfl, FA1, h1, hwl, by omega, fun H' D sm nD hD' => ?_⟩
    refine ⟨_, rfl, D, _, rfl, SqL.of hD', by rw [List.length_map]; exact hpos, fun m hm hmin => ?_⟩
    obtain ⟨jx, hj, hj2⟩ := first_int hm
    obtain ⟨c, hc, ec⟩ : ∃ c, (f.way a b)[jx]? = some c ∧ f.value c = m := by
      rw [List.getElem?_map] at hj
      cases e : (f.way a b)[jx]? with
      | none =>
        rw [e] at hj
        cases hj
      | some c =>
        rw [e] at hj
        exact ⟨c, rfl, Option.some.inj hj⟩
    have hle := least_at f hc ec (fun x hx => hmin _ (List.mem_map_of_mem hx)) (fun i x hi hx => hj2 i _ hi (by rw [List.getElem?_map, hx]; rfl))
    have e1 : pathF f a b = (f, ([0, (((f.way a b).length : Nat) : Int), sumOf ((f.way a b).map f.value), m, ((c : Nat) : Int)] : List Int)) := by
      unfold pathF
      rw [if_neg (by rw [j]; decide), hle]
    rw [e1] at k
    refine ⟨_, rfl, q1, _, rfl, .inl (SqL.of (sm _ _ h1)), _, rfl, D, _, rfl, SqL.of hD', _, rfl, _, rfl, _, rfl, .inl ⟨rfl, _, SqL.of hD'⟩, _, rfl, D, _, _, jx, _, rfl, rfl, SqL.of hD', rfl, vi_flat _, vi_get hj, (by show (m == m) = true; exact beq_self_eq_true _), (fun i z hi hz => ?_), q1, _, _, _, rfl, rfl, SqL.of (sm _ _ h1), atI_nat (vn_get hc), line_le (by simp), fun l hl => ?_⟩
    · obtain ⟨x, hx, rfl⟩ := vi_of hz
      exact beq_eq_false_iff_ne.mpr (hj2 i x hi hx)
    · refine k.say (FA1.same sm) (frame_same (s1.trans sm)) hl ((s1.trans sm).free hl) ?_
      rw [vn_len, sumOf_eq]
      rfl
theorem ok_place {f C f2 : Addr} {fd fd2 : FuncData} (F : Fun K "place" "Forest.place" s_place f fd) (T : Txt K mg C)
    (G_nodes_between : FnOk P w K mg base CX0 3 f2 fd2 ["self", "a", "b"] (spBetween C)) (b_nodes_between : Binds K fd2 ["self", "a", "b"] []) (m_nodes_between : Meth K C "nodes_between" f2) : FnOk P w K mg base CX0 4 f fd ["self", "a", "b", "i"] (sp2nj C placeF) := by
  refine F.ok sc_place (fun vs H Q E h => ?_) (fun cdv A outer s H vs Q E hr h => ?_)
  · obtain ⟨o, dx, p1, p2, fs, f, a, b, i, rfl, _⟩ := h
    rfl
  · obtain ⟨o, dx, p1, p2, fs, f, a, b, i, rfl, FA, ha, hb, j, k⟩ := h
    refine ⟨_, (pss_cons (ps_set (i := 4) sc_place.nd rfl (Or.inl rfl) (pe_meth (pv 0) T.cl m_nodes_between G_nodes_between (hr.mono (by decide)) b_nodes_between .nil pass0 (pa_cons (pv 1) (pa_cons (pv 2) pa_nil))))
        (pss_cons (ps_if (pt_cmpR op_ge (pv 3) (pe_callB call_len_seq (by rfl) T.b_len PySem.boot_len (pa_cons (pv 4) pa_nil)) (nomark _))
        (pss_one (ps_ret (pe_lst (pa_cons (pe_const rfl T.g_NO_SUCH_PLACE) pa_nil))))
        pss_nil)
        (pss_one (ps_ret (pe_lst (pa_cons pe_int (pa_cons (pe_ix ix_list (pv 4) (pv 3) (fun _ _ => rfl)) pa_nil))))))), ?_⟩
    refine ⟨_, rfl, o, dx, _, rfl, FA.obj, FA.no _ (by decide +kernel), _, rfl, _, rfl, o, dx, p1, p2, fs, f, a, b, rfl, FA, ha, hb, j, fun H1 q1 s1 n1 h1 => ?_⟩
    have FA1 := FA.same s1
    refine ⟨_, rfl, _, rfl, q1, _, rfl, .inl (SqL.of h1), _, _, rfl, rfl, _, rfl, ite2 (fun q => ?_) (fun q => ?_)⟩
    · refine ⟨line_le (by simp), fun l hl => ?_⟩
      have q' := of_decide_eq_true q
      rw [vn_len] at q'
      have e1 : placeF f a b i = (f, [-3]) := by
        unfold placeF
        rw [if_neg (by rw [j]; decide), List.getElem?_eq_none (by omega)]
      rw [e1] at k
      exact k.say FA1 (frame_same s1) hl (s1.free hl) rfl
    · have q' : ¬ (((vn (f.way a b)).length : Nat) : Int) ≤ (i : Int) := fun z => q (decide_eq_true z)
      rw [vn_len] at q'
      obtain ⟨c, hc⟩ : ∃ c, (f.way a b)[i]? = some c := ⟨_, List.getElem?_eq_getElem (by omega)⟩
      have e1 : placeF f a b i = (f, ([0, ((c : Nat) : Int)] : List Int)) := by
        unfold placeF
        rw [if_neg (by rw [j]; decide), hc]
      rw [e1] at k
      exact ⟨_, rfl, _, rfl, q1, _, _, _, rfl, rfl, SqL.of h1, atI_nat (vn_get hc), line_le (by simp), fun l hl => k.say FA1 (frame_same s1) hl (s1.free hl) rfl⟩
theorem ok_find {f C f2 : Addr} {fd fd2 : FuncData} (F : Fun K "find" "Forest.find" s_find f fd) (T : Txt K mg C)
    (G_nodes_between : FnOk P w K mg base CX0 3 f2 fd2 ["self", "a", "b"] (spBetween C)) (b_nodes_between : Binds K fd2 ["self", "a", "b"] []) (m_nodes_between : Meth K C "nodes_between" f2) : FnOk P w K mg base CX0 4 f fd ["self", "a", "b", "v"] (sp2ij C findF) := by
  refine F.ok sc_find (fun vs H Q E h => ?_) (fun cdv A outer s H vs Q E hr h => ?_)
  · obtain ⟨o, dx, p1, p2, fs, f, a, b, v, rfl, _⟩ := h
    rfl
  · obtain ⟨o, dx, p1, p2, fs, f, a, b, v, rfl, FA, ha, hb, j, k⟩ := h
    refine ⟨_, (pss_cons (ps_for PassesOwn.never rfl (pi_list (pe_meth (pv 0) T.cl m_nodes_between G_nodes_between (hr.mono (by decide)) b_nodes_between .nil pass0 (pa_cons (pv 1) (pa_cons (pv 2) pa_nil)))) (pg_name (i := 4) sc_find.nd rfl (Or.inl rfl))
        (pss_one (ps_if (pt_cmpR op_ge (pe_ix ix_list (pe_fld (pv 0) rfl) (pv 4) (fun _ _ => rfl)) (pv 3) (nomark _))
        (pss_one (ps_ret (pe_lst (pa_cons pe_int (pa_cons (pv 4) pa_nil)))))
        pss_nil)))
        (pss_one (ps_ret (pe_lst (pa_cons (pe_const rfl T.g_NONE_FOUND) pa_nil))))), ?_⟩
    refine ⟨_, rfl, o, dx, _, rfl, FA.obj, FA.no _ (by decide +kernel), _, rfl, _, rfl, o, dx, p1, p2, fs, f, a, b, rfl, FA, ha, hb, j, fun H1 q1 s1 n1 h1 => ?_⟩
    have FA1 := FA.same s1
    have hwl := way_lt FA.good ha hb
    refine ⟨q1, rfl, ⟨_, SqL.of h1⟩, for_list (K := K) (a := q1) (xs := vn (f.way a b)) (fun i σ H' => ∃ v5 : Option V, σ = [some (.ref o), some (.int (a : Int)), some (.int (b : Int)), some (.int v), v5] ∧ H' = H1 ∧ ∀ (j c : Nat), j < i → (f.way a b)[j]? = some c → decide (v ≤ f.value c) = false)
      ⟨none, rfl, rfl, fun j c hj => absurd hj (Nat.not_lt_zero j)⟩ (fun i σ H' _ ⟨_, _, e, _⟩ => by subst e; exact SqL.of h1) ?_ ?_⟩
    · rintro i x σ H' hx ⟨v5, rfl, rfl, hall⟩
      obtain ⟨c, hc, rfl⟩ := vn_of hx
      have hcn := hwl c (List.mem_of_getElem? hc)
      refine ⟨_, rfl, o, C, dx, _, _, rfl, FA1.obj, T.cl, T.n_value_of, FA1.fv, _, rfl, p2, _, _, _, rfl, rfl, SqL.of FA1.vl, atI_nat (val_get FA.good hcn), _, rfl, _, _, rfl, rfl, _, rfl, ite2 (fun q => ?_) (fun q => ?_)⟩
      · refine ⟨_, rfl, line_le (by simp), fun l hl => ?_⟩
        have e1 : findF f a b v = (f, ([0, ((c : Nat) : Int)] : List Int)) := by
          unfold findF
          rw [if_neg (by rw [j]; decide), find_at hc q hall]
        rw [e1] at k
        exact k.say FA1 (frame_same s1) hl (s1.free hl) rfl
      · refine ⟨_, rfl, rfl, fun j' c' hj' hc' => ?_⟩
        by_cases e : j' = i
        · subst e
          have : c' = c := Option.some.inj (hc'.symm.trans hc)
          subst this
          simpa using q
        · exact hall j' c' (by omega) hc'
    · rintro σ H' ⟨v5, rfl, rfl, hall⟩
      rw [vn_len] at hall
      refine ⟨line_le (by simp), fun l hl => ?_⟩
      have e1 : findF f a b v = (f, [-3]) := by
        unfold findF
        rw [if_neg (by rw [j]; decide), find_none (fun j x hx => hall j x (List.getElem?_eq_some_iff.mp hx).1 hx)]
      rw [e1] at k
      exact k.say FA1 (frame_same s1) hl (s1.free hl) rfl
theorem ok_meet {f C f2 : Addr} {fd fd2 : FuncData} (F : Fun K "meet" "Forest.meet" s_meet f fd) (T : Txt K mg C)
    (G_meeting_node : FnOk P w K mg base CX0 2 f2 fd2 ["self", "a", "b"] (spMeeting C)) (b_meeting_node : Binds K fd2 ["self", "a", "b"] []) (m_meeting_node : Meth K C "meeting_node" f2) : FnOk P w K mg base CX0 3 f fd ["self", "a", "b"] (sp2j C meetF) := by
  refine F.ok sc_meet (fun vs H Q E h => ?_) (fun cdv A outer s H vs Q E hr h => ?_)
  · obtain ⟨o, dx, p1, p2, fs, f, a, b, rfl, _⟩ := h
    rfl
  · obtain ⟨o, dx, p1, p2, fs, f, a, b, rfl, FA, ha, hb, j, k⟩ := h
    refine ⟨_, (pss_one (ps_ret (pe_lst (pa_cons pe_int (pa_cons (pe_meth (pv 0) T.cl m_meeting_node G_meeting_node (hr.mono (by decide)) b_meeting_node .nil pass0 (pa_cons (pv 1) (pa_cons (pv 2) pa_nil))) pa_nil))))), ?_⟩
    refine ⟨_, rfl, o, dx, _, rfl, FA.obj, FA.no _ (by decide +kernel), _, rfl, _, rfl, o, dx, p1, p2, fs, f, a, b, rfl, FA, ha, hb, j, fun H1 s1 => ?_⟩
    have e1 : meetF f a b = (f, ([0, ((f.meet a b : Nat) : Int)] : List Int)) := by
      unfold meetF
      rw [if_neg (by rw [j]; decide)]
    rw [e1] at k
    exact ⟨line_le (by simp), fun l hl => Gives.say k (FA.same s1) (frame_same s1) hl (s1.free hl) rfl⟩
theorem ok_way {f C f2 : Addr} {fd fd2 : FuncData} (F : Fun K "way" "Forest.way" s_way f fd) (T : Txt K mg C)
    (G_nodes_between : FnOk P w K mg base CX0 3 f2 fd2 ["self", "a", "b"] (spBetween C)) (b_nodes_between : Binds K fd2 ["self", "a", "b"] []) (m_nodes_between : Meth K C "nodes_between" f2) : FnOk P w K mg base CX0 4 f fd ["self", "a", "b"] (sp2j C wayF) := by
  refine F.ok sc_way (fun vs H Q E h => ?_) (fun cdv A outer s H vs Q E hr h => ?_)
  · obtain ⟨o, dx, p1, p2, fs, f, a, b, rfl, _⟩ := h
    rfl
  · obtain ⟨o, dx, p1, p2, fs, f, a, b, rfl, FA, ha, hb, j, k⟩ := h
    refine ⟨_, (pss_one (ps_ret (pe_op op_cat (pe_lst (pa_cons pe_int pa_nil)) (pe_meth (pv 0) T.cl m_nodes_between G_nodes_between (hr.mono (by decide)) b_nodes_between .nil pass0 (pa_cons (pv 1) (pa_cons (pv 2) pa_nil)))))), ?_⟩
    refine ⟨line_le (by simp), fun l0 hl0 => ?_⟩
    have s0 := same_upd (.lst [V.int 0]) (Same.refl H) hl0
    have FA0 := FA.same s0
    refine ⟨_, rfl, o, dx, _, rfl, FA0.obj, FA0.no _ (by decide +kernel), _, rfl, _, rfl, o, dx, p1, p2, fs, f, a, b, rfl, FA0, ha, hb, j, fun H1 q1 s1 n1 h1 => ?_⟩
    have hwn := way_len FA.good ha hb
    have e1 : wayF f a b = (f, 0 :: (f.way a b).map fun (n : Nat) => (n : Int)) := by
      unfold wayF
      rw [if_neg (by rw [j]; decide)]
    rw [e1] at k
    have s01 := s0.trans s1
    refine ⟨l0, q1, _, _, rfl, rfl, s1 _ _ upd_same, h1, ?_, fun l hl => ?_⟩
    · rw [vn_len]
      show 1 + _ ≤ sizeLine
      exact line_le (by omega)
    · refine k.say (FA.same s01) (frame_same s01) hl (s01.free hl) ?_
      unfold vi vn
      rw [List.map_cons, List.map_map]
      rfl
theorem ok_below {f C f2 f3 : Addr} {fd fd2 fd3 : FuncData} (F : Fun K "below" "Forest.below" s_below f fd) (T : Txt K mg C)
    (G_nodes_below : FnOk P w K mg base CX0 2 f2 fd2 ["self", "a"] (spNodesBelow C)) (b_nodes_below : Binds K fd2 ["self", "a"] []) (m_nodes_below : Meth K C "nodes_below" f2)
    (G_values_of : FnOk P w K mg base CX0 1 f3 fd3 ["self", "nodes"] (spValuesOf C)) (b_values_of : Binds K fd3 ["self", "nodes"] []) (m_values_of : Meth K C "values_of" f3) : FnOk P w K mg base CX0 3 f fd ["self", "a"] (sp1 C belowF) := by
  refine F.ok sc_below (fun vs H Q E h => ?_) (fun cdv A outer s H vs Q E hr h => ?_)
  · obtain ⟨o, dx, p1, p2, fs, f, a, rfl, _⟩ := h
    rfl
  · obtain ⟨o, dx, p1, p2, fs, f, a, rfl, FA, ha, k⟩ := h
    refine ⟨_, (pss_cons (ps_set (i := 2) sc_below.nd rfl (Or.inl rfl) (pe_meth (pv 0) T.cl m_nodes_below G_nodes_below (hr.mono (by decide)) b_nodes_below .nil pass0 (pa_cons (pv 1) pa_nil)))
        (pss_one (ps_ret (pe_lst (pa_cons pe_int (pa_cons (pe_callB call_len_seq (by rfl) T.b_len PySem.boot_len (pa_cons (pv 2) pa_nil)) (pa_cons (pe_callB (cr_sum rfl) (by rfl) T.b_sum boot_sum5 (pa_cons (pe_meth (pv 0) T.cl m_values_of G_values_of (hr.mono (by decide)) b_values_of .nil pass0 (pa_cons (pv 2) pa_nil)) pa_nil)) pa_nil))))))), ?_⟩
    refine ⟨_, rfl, o, dx, _, rfl, FA.obj, FA.no _ (by decide +kernel), _, rfl, o, dx, p1, p2, fs, f, a, rfl, FA, ha, fun H1 q1 s1 n1 h1 => ?_⟩
    have FA1 := FA.same s1
    have h32 := FA.good.le
    have hlt : ∀ c ∈ f.below a, c < f.par.length := fun c hc => by
      unfold Forest.below at hc
      exact List.mem_range.mp (List.mem_filter.mp hc).1
    have hlen : (f.below a).length ≤ 100 := by
      have := List.length_filter_le (fun (c : Nat) => (f.up c).contains a) (List.range f.size)
      rw [List.length_range] at this
      have e : f.size = f.par.length := rfl
      unfold Forest.below
      omega
    refine ⟨_, rfl, q1, _, rfl, .inl (SqL.of h1), _, rfl, o, dx, _, rfl, FA1.obj, FA1.no _ (by decide +kernel), _, rfl, o, dx, p1, p2, fs, f, q1, f.below a, rfl, FA1, h1, hlt, hlen, fun H2 q2 s2 n2 h2 => ?_⟩
    have s12 := s1.trans s2
    refine ⟨q2, _, rfl, SqL.of h2, line_le (by simp), fun l hl => ?_⟩
    refine Gives.say k (FA.same s12) (frame_same s12) hl (s12.free hl) ?_
    rw [vn_len, sumOf_eq]
    rfl
theorem ok_parents {f C : Addr} {fd : FuncData} (F : Fun K "parents" "Forest.parents" s_parents f fd) (T : Txt K mg C) : FnOk P w K mg base CX0 1 f fd ["self"] (sp0 C parentsF) := by
  refine F.ok sc_parents (fun vs H Q E h => ?_) (fun cdv A outer s H vs Q E hr h => ?_)
  · obtain ⟨o, dx, p1, p2, fs, f, rfl, _⟩ := h
    rfl
  · obtain ⟨o, dx, p1, p2, fs, f, rfl, FA, k⟩ := h
    refine ⟨_, (pss_one (ps_ret (pe_op op_cat (pe_lst (pa_cons pe_int pa_nil)) (pe_fld (pv 0) rfl)))), ?_⟩
    refine ⟨line_le (by simp), fun l0 hl0 => ?_⟩
    have s0 := same_upd (.lst [V.int 0]) (Same.refl H) hl0
    have FA0 := FA.same s0
    have h32 := FA.good.le
    refine ⟨_, rfl, o, C, dx, _, _, rfl, FA0.obj, T.cl, T.n_parent_of, FA0.fp, l0, p1, _, _, rfl, rfl, upd_same, FA0.pl, ?_, fun l hl => ?_⟩
    · rw [vp_len]
      show 1 + _ ≤ sizeLine
      exact line_le (by omega)
    · exact Gives.say k FA0 (frame_same s0) hl (s0.free hl) rfl
end
end My
end
section
set_option Elab.async false
set_option linter.all false
set_option maxRecDepth 100000
set_option maxHeartbeats 2000000
namespace My
open PySem PySem.Spec PyProof.Rows L2
open PySem.W (Codec)
open LinkCut (Forest fits addTo turnedOn leastOn sumOf Rec State says tells)
section
variable {P : Program} {w : World} {K : PySem.W.Frag} {mg : Str → Option Value} {base : Heap}
/-! ### the object, its marks -/
def ff (p1 p2 p3 : Addr) : List (Str × V) := [("parent_of", .ref p1), ("value_of", .ref p2), ("marks", .ref p3)]
theorem ff_p (p1 p2 p3 : Addr) : (ff p1 p2 p3).lookup ("parent_of" : Str) = some (.ref p1) := by
  unfold ff
  rw [List.lookup_cons, beq_self_eq_true]
theorem ff_v (p1 p2 p3 : Addr) : (ff p1 p2 p3).lookup ("value_of" : Str) = some (.ref p2) := by
  unfold ff
  rw [List.lookup_cons, show (("value_of" : Str) == "parent_of") = false by decide +kernel]
  show List.lookup _ _ = _
  rw [List.lookup_cons, beq_self_eq_true]
theorem ff_m (p1 p2 p3 : Addr) : (ff p1 p2 p3).lookup ("marks" : Str) = some (.ref p3) := by
  unfold ff
  rw [List.lookup_cons, show (("marks" : Str) == "parent_of") = false by decide +kernel]
  show List.lookup _ _ = _
  rw [List.lookup_cons, show (("marks" : Str) == "value_of") = false by decide +kernel]
  show List.lookup _ _ = _
  rw [List.lookup_cons, beq_self_eq_true]
theorem ff_no (p1 p2 p3 : Addr) {m : Str} (h : m ∉ attrNames) : (ff p1 p2 p3).lookup m = none := by
  unfold ff
  have h1 : (m == ("parent_of" : Str)) = false := beq_eq_false_iff_ne.mpr fun e => h (by rw [e]; simp [attrNames])
  have h2 : (m == ("value_of" : Str)) = false := beq_eq_false_iff_ne.mpr fun e => h (by rw [e]; simp [attrNames])
  have h3 : (m == ("marks" : Str)) = false := beq_eq_false_iff_ne.mpr fun e => h (by rw [e]; simp [attrNames])
  rw [List.lookup_cons, h1]
  show List.lookup _ _ = _
  rw [List.lookup_cons, h2]
  show List.lookup _ _ = _
  rw [List.lookup_cons, h3]
  rfl
theorem ff_putP (p1 p2 p3 q : Addr) : putF "parent_of" (.ref q) (ff p1 p2 p3) = ff q p2 p3 := by
  unfold ff
  show (if ("parent_of" : Str) = "parent_of" then _ else _) = _
  rw [if_pos rfl]
theorem ff_putV (p1 p2 p3 q : Addr) : putF "value_of" (.ref q) (ff p1 p2 p3) = ff p1 q p3 := by
  unfold ff
  show (if ("parent_of" : Str) = "value_of" then _ else (("parent_of" : Str), V.ref p1) :: (if ("value_of" : Str) = "value_of" then _ else _)) = _
  rw [if_neg (by decide +kernel), if_pos rfl]
theorem ff_putM (p1 p2 p3 q : Addr) : putF "marks" (.ref q) (ff p1 p2 p3) = ff p1 p2 q := by
  unfold ff
  show (if ("parent_of" : Str) = "marks" then _ else (("parent_of" : Str), V.ref p1) :: (if ("value_of" : Str) = "marks" then _ else (("value_of" : Str), V.ref p2) :: (if ("marks" : Str) = "marks" then _ else _))) = _
  rw [if_neg (by decide +kernel), if_neg (by decide +kernel), if_pos rfl]
def MarkAt (H : Hp) (t : Addr) (f : Forest) : Prop := ∃ a b : Addr, H t = some (.tup [.ref a, .ref b]) ∧ H a = some (.tup (vp f.par)) ∧ H b = some (.tup (vi f.val))
structure RecAt (C : Addr) (H : Hp) (o dx p1 p2 p3 : Addr) (ts : List Addr) (r : Rec) : Prop where
  fa : FAt C H o dx p1 p2 (ff p1 p2 p3) r.now
  ml : H p3 = some (.lst (ts.map V.ref))
  n1 : p3 ≠ p1
  n2 : p3 ≠ p2
  len : ts.length = r.marks.length
  ms : ∀ (i : Nat) (t : Addr) (f : Forest), ts[i]? = some t → r.marks[i]? = some f → MarkAt H t f
def StAt (C : Addr) (H : Hp) (o : Addr) (A : List Addr) : State → Prop
  | none => ∃ dx p1 p2 p3 : Addr, A = [o, p1, p2, p3] ∧ H o = some (.ins C dx (ff p1 p2 p3)) ∧ H p1 = some (.lst [])
  | some r => ∃ (dx p1 p2 p3 : Addr) (ts : List Addr), A = [o, p1, p2, p3] ∧ RecAt C H o dx p1 p2 p3 ts r
def Tells (C : Addr) (H : Hp) (o : Addr) (A : List Addr) (x : State × LinkCut.Ans) (Q : VK) : Prop :=
  ∀ (H' : Hp) (q : Addr) (A' : List Addr), StAt C H' o A' x.1 → Frame A H H' → (∀ z ∈ A', z ∈ A ∨ H z = none) → H q = none → H' q = some (.lst (vi (x.2.code :: x.2.nums))) → Q (.ref q) H'
/-- what only tuples lean on stays under a frame of things that are none -/
theorem MarkAt.frame {H H' : Hp} {A : List Addr} {t : Addr} {f : Forest} (m : MarkAt H t f) (fr : Frame A H H') (hA : ∀ z ∈ A, ∀ xs, H z ≠ some (.tup xs)) : MarkAt H' t f := by
  obtain ⟨a, b, h1, h2, h3⟩ := m
  exact ⟨a, b, fr _ _ h1 fun z => hA _ z _ h1, fr _ _ h2 fun z => hA _ z _ h2, fr _ _ h3 fun z => hA _ z _ h3⟩
theorem RecAt.noTup {C : Addr} {H : Hp} {o dx p1 p2 p3 : Addr} {ts : List Addr} {r : Rec} (R : RecAt C H o dx p1 p2 p3 ts r) : ∀ z ∈ [o, p1, p2, p3], ∀ xs, H z ≠ some (.tup xs) := by
  intro z hz xs e
  simp at hz
  rcases hz with rfl | rfl | rfl | rfl
  · rw [R.fa.obj] at e; cases e
  · rw [R.fa.pl] at e; cases e
  · rw [R.fa.vl] at e; cases e
  · rw [R.ml] at e; cases e
theorem RecAt.same {C : Addr} {H H' : Hp} {o dx p1 p2 p3 : Addr} {ts : List Addr} {r : Rec} (R : RecAt C H o dx p1 p2 p3 ts r) (s : Same H H') : RecAt C H' o dx p1 p2 p3 ts r :=
  ⟨R.fa.same s, s _ _ R.ml, R.n1, R.n2, R.len, fun i t f h1 h2 => (R.ms i t f h1 h2).frame (A := []) (frame_same s) (by simp)⟩
theorem StAt.same {C : Addr} {H H' : Hp} {o : Addr} {A : List Addr} : ∀ {s : State}, StAt C H o A s → Same H H' → StAt C H' o A s
  | none, ⟨dx, p1, p2, p3, e, h1, h2⟩, s => ⟨dx, p1, p2, p3, e, s _ _ h1, s _ _ h2⟩
  | some r, ⟨dx, p1, p2, p3, ts, e, R⟩, s => ⟨dx, p1, p2, p3, ts, e, R.same s⟩
theorem StAt.obj {C : Addr} {H : Hp} {o : Addr} {A : List Addr} : ∀ {s : State}, StAt C H o A s → ∃ dx p1 p2 p3 : Addr, A = [o, p1, p2, p3] ∧ H o = some (.ins C dx (ff p1 p2 p3))
  | none, ⟨dx, p1, p2, p3, e, h1, _⟩ => ⟨dx, p1, p2, p3, e, h1⟩
  | some r, ⟨dx, p1, p2, p3, ts, e, R⟩ => ⟨dx, p1, p2, p3, e, R.fa.obj⟩
/-- nothing changed, an answer told -/
theorem Tells.keep {C : Addr} {H H1 : Hp} {o : Addr} {A : List Addr} {s : State} {l : LinkCut.Ans} {Q : VK} (k : Tells C H o A (s, l) Q) (S : StAt C H o A s) (sm : Same H H1) {q : Addr} (hq : H1 q = none) {xs : List V} (e : xs = vi (l.code :: l.nums)) : Q (.ref q) (upd H1 q (.lst xs)) := by
  subst e
  exact k _ q A (S.same (same_upd _ sm (sm.free hq))) (frame_same (same_upd _ sm (sm.free hq))) (fun z hz => .inl hz) (sm.free hq) upd_same
/-- from a call that leaves the marks alone -/
theorem Tells.gives {C : Addr} {H : Hp} {o dx p1 p2 p3 : Addr} {ts : List Addr} {r : Rec} {x : State × LinkCut.Ans} {y : Forest × List Int} {Q : VK} (R : RecAt C H o dx p1 p2 p3 ts r) (k : Tells C H o [o, p1, p2, p3] x Q) (t : Told r x y) : Gives C H o dx p1 p2 (ff p1 p2 p3) y Q := by
  intro H' q FA fr hq hq'
  obtain ⟨t1, t2⟩ := t
  refine k H' q [o, p1, p2, p3] ?_ (fun b z e hb => fr b z e fun hm => hb ?_) (fun z hz => .inl hz) hq (by rw [t2]; exact hq')
  · rw [t1]
    refine ⟨dx, p1, p2, p3, ts, rfl, FA, fr _ _ R.ml ?_, R.n1, R.n2, R.len, fun i t f h1 h2 => (R.ms i t f h1 h2).frame fr fun z hz xs e => R.noTup z ?_ xs e⟩
    · simp [R.n1, R.n2]
    · simp at hz ⊢
      rcases hz with h | h <;> simp [h]
  · simp at hm ⊢
    rcases hm with h | h <;> simp [h]
def spInit (C : Addr) : Sp := fun vs H Q _ => ∃ (o dx : Addr), vs = [.ref o] ∧ H o = some (.ins C dx []) ∧ ∀ (H' : Hp) (p1 p2 p3 : Addr), StAt C H' o [o, p1, p2, p3] none → H' p2 = some (.lst []) → H' p3 = some (.lst []) → H p1 = none → H p2 = none → H p3 = none → Frame [o] H H' → Q .non H'
theorem ok_init {f C : Addr} {fd : FuncData} (F : Fun K "__init__" "Forest.__init__" s_init f fd) (T : Txt K mg C) : FnOk P w K mg base CX0 1 f fd ["self"] (spInit C) := by
  refine F.ok sc_init (fun vs H Q E h => ?_) (fun cdv A outer s H vs Q E hr h => ?_)
  · obtain ⟨o, dx, rfl, _⟩ := h
    rfl
  · obtain ⟨o, dx, rfl, ho, k⟩ := h
    refine ⟨_, (pss_cons (ps_fld (pv 0) (pe_lst pa_nil) rfl)
        (pss_cons (ps_fld (pv 0) (pe_lst pa_nil) rfl)
        (pss_one (ps_fld (pv 0) (pe_lst pa_nil) rfl)))), ?_⟩
    refine ⟨Nat.zero_le _, fun a1 h1 => ⟨_, rfl, o, C, dx, _, rfl, by rw [upd_ne (ne_of_none ho h1)]; exact ho, T.cl, T.n_parent_of, (by show 0 < 1000; decide), ?_⟩⟩
    have no1 : a1 ≠ o := fun z => ne_of_none ho h1 z.symm
    refine ⟨Nat.zero_le _, fun a2 h2 => ?_⟩
    obtain ⟨h2', no2⟩ := free_of h2
    obtain ⟨h2'', n12⟩ := free_of h2'
    refine ⟨_, rfl, o, C, dx, _, rfl, by rw [upd_ne (fun z => no2 z.symm), upd_same], T.cl, T.n_value_of, (by show 1 < 1000; decide), ?_⟩
    refine ⟨Nat.zero_le _, fun a3 h3 => ?_⟩
    obtain ⟨h3', no3⟩ := free_of h3
    obtain ⟨h3', n32⟩ := free_of h3'
    obtain ⟨h3', _⟩ := free_of h3'
    obtain ⟨h3', n31⟩ := free_of h3'
    refine ⟨_, rfl, o, C, dx, _, rfl, by rw [upd_ne (fun z => no3 z.symm), upd_same], T.cl, T.n_marks, (by show 2 < 1000; decide), ?_⟩
    refine k _ a1 a2 a3 ⟨dx, a1, a2, a3, rfl, upd_same, ?_⟩ ?_ ?_ h1 h2'' h3' (fun b x e hb => ?_)
    · rw [upd_ne no1, upd_ne (fun z => n31 z.symm), upd_ne no1, upd_ne (fun z => n12 z.symm), upd_ne no1, upd_same]
    · rw [upd_ne no2, upd_ne (fun z => n32 z.symm), upd_ne no2, upd_same]
    · rw [upd_ne no3, upd_same]
    · have hbo : b ≠ o := fun z => hb (by simp [z])
      rw [upd_ne hbo, upd_ne (ne_of_none e h3'), upd_ne hbo, upd_ne (ne_of_none e h2''), upd_ne hbo, upd_ne (ne_of_none e h1)]
      exact e
def openF (n : Nat) : Forest := ⟨List.replicate n none, List.replicate n 0⟩
def spBegin (C : Addr) : Sp := fun vs H Q _ => ∃ (o : Addr) (A : List Addr) (s : State) (n : Nat), vs = [.ref o, .int (n : Int)] ∧ StAt C H o A s ∧ Tells C H o A (LinkCut.step s (.open_ n)) Q
theorem rep_flat (n : Nat) (v : V) : (List.replicate n [v]).flatten = List.replicate n v := by
  induction n with
  | zero => rfl
  | succ n ih =>
    rw [List.replicate_succ, List.flatten_cons, ih, List.replicate_succ]
    rfl
theorem ok_begin {f C : Addr} {fd : FuncData} (F : Fun K "begin" "Forest.begin" s_begin f fd) (T : Txt K mg C) : FnOk P w K mg base CX0 1 f fd ["self", "n"] (spBegin C) := by
  refine F.ok sc_begin (fun vs H Q E h => ?_) (fun cdv A outer s H vs Q E hr h => ?_)
  · obtain ⟨o, A', s', n, rfl, _⟩ := h
    rfl
  · obtain ⟨o, A', s', n, rfl, S, k⟩ := h
    refine ⟨_, (pss_cons (ps_if (PW.pt (pw_or (pt_cmpR op_lt (pv 1) pe_int (nomark _)) (pw_or1 (pt_cmpR op_gt (pv 1) (pe_const rfl T.g_MOST_NODES) (nomark _)))))
        (pss_one (ps_ret (pe_lst (pa_cons (pe_const rfl T.g_WRONG_SIZE) pa_nil))))
        pss_nil)
        (pss_cons (ps_fld (pv 0) (pe_op op_rep (pe_lst (pa_cons (pe_const rfl T.g_NO_PARENT) pa_nil)) (pv 1)) rfl)
        (pss_cons (ps_fld (pv 0) (pe_op op_rep (pe_lst (pa_cons pe_int pa_nil)) (pv 1)) rfl)
        (pss_cons (ps_fld (pv 0) (pe_lst pa_nil) rfl)
        (pss_one (ps_ret (pe_lst (pa_cons pe_int pa_nil)))))))), ?_⟩
    obtain ⟨dx, a1, a2, a3, eA, ho⟩ := S.obj
    have fin : ∀ (bad : n < 1 ∨ 32 < n) (l : Addr), H l = none → Q (.ref l) (upd H l (.lst [V.int (-1)])) := fun bad l hl => by
      have e : LinkCut.step s' (.open_ n) = (s', says (-1)) := if_pos bad
      rw [e] at k
      exact k.keep S (Same.refl _) hl rfl
    refine ⟨_, rfl, _, _, rfl, rfl, _, rfl, ite2 (fun q => ?_) (fun q => ?_)⟩
    · exact iteT ⟨line_le (by simp), fin (.inl (by have := of_decide_eq_true q; omega))⟩
    · refine ⟨_, rfl, _, _, rfl, rfl, _, rfl, ite2 (fun q2 => ?_) (fun q2 => ?_)⟩
      · exact ⟨line_le (by simp), fin (.inr (by have := of_decide_eq_true q2; omega))⟩
      · have q1' : ¬ (n : Int) < 1 := fun z => q (decide_eq_true z)
        have q2' : ¬ (32 : Int) < n := fun z => q2 (decide_eq_true z)
        have ok : ¬ (n < 1 ∨ 32 < n) := by omega
        have e : LinkCut.step s' (.open_ n) = (some ⟨openF n, []⟩, tells []) := if_neg ok
        rw [e] at k
        refine ⟨line_le (by simp), fun l1 hl1 => ?_⟩
        refine ⟨_, rfl, l1, _, _, rfl, rfl, upd_same, by omega, by omega, line_le (by show 1 * ((n : Int)).toNat ≤ _; omega), fun l2 hl2 => ?_⟩
        obtain ⟨hl2', n21⟩ := free_of hl2
        refine ⟨_, rfl, o, C, dx, _, rfl, by rw [upd_ne (ne_of_none ho hl2'), upd_ne (ne_of_none ho hl1)]; exact ho, T.cl, T.n_parent_of, (by show 3 < 1000; decide), ?_⟩
        rw [ff_putP]
        have no1 : l1 ≠ o := fun z => ne_of_none ho hl1 z.symm
        have no2 : l2 ≠ o := fun z => ne_of_none ho hl2' z.symm
        refine ⟨line_le (by simp), fun l3 hl3 => ?_⟩
        obtain ⟨g3, no3⟩ := free_of hl3
        obtain ⟨g3, n32⟩ := free_of g3
        obtain ⟨g3, n31⟩ := free_of g3
        refine ⟨_, rfl, l3, _, _, rfl, rfl, upd_same, by omega, by omega, line_le (by show 1 * ((n : Int)).toNat ≤ _; omega), fun l4 hl4 => ?_⟩
        obtain ⟨g4, n43⟩ := free_of hl4
        obtain ⟨g4, no4⟩ := free_of g4
        obtain ⟨g4, n42⟩ := free_of g4
        obtain ⟨g4, n41⟩ := free_of g4
        refine ⟨_, rfl, o, C, dx, _, rfl, by rw [upd_ne (fun z => no4 z.symm), upd_ne (fun z => no3 z.symm), upd_same], T.cl, T.n_value_of, (by show 3 < 1000; decide), ?_⟩
        rw [ff_putV]
        refine ⟨Nat.zero_le _, fun l5 hl5 => ?_⟩
        obtain ⟨g5, no5⟩ := free_of hl5
        obtain ⟨g5, n54⟩ := free_of g5
        obtain ⟨g5, n53⟩ := free_of g5
        obtain ⟨g5, _⟩ := free_of g5
        obtain ⟨g5, n52⟩ := free_of g5
        obtain ⟨g5, n51⟩ := free_of g5
        refine ⟨_, rfl, o, C, dx, _, rfl, by rw [upd_ne (fun z => no5 z.symm), upd_same], T.cl, T.n_marks, (by show 3 < 1000; decide), ?_⟩
        rw [ff_putM]
        refine ⟨line_le (by simp), fun l6 hl6 => ?_⟩
        obtain ⟨g6, no6⟩ := free_of hl6
        obtain ⟨g6, n65⟩ := free_of g6
        obtain ⟨g6, _⟩ := free_of g6
        obtain ⟨g6, n64⟩ := free_of g6
        obtain ⟨g6, n63⟩ := free_of g6
        obtain ⟨g6, _⟩ := free_of g6
        obtain ⟨g6, n62⟩ := free_of g6
        obtain ⟨g6, n61⟩ := free_of g6
        refine k _ l6 [o, l2, l4, l5] ⟨dx, l2, l4, l5, [], rfl, ⟨?_, ff_p _ _ _, ff_v _ _ _, fun m hm => ff_no _ _ _ hm, ?_, ?_, fun z => n42 z.symm, Good.new (by omega) (by omega)⟩, ?_, n52, n54, rfl, fun i t f h => by simp at h⟩ (fun b x e hb => ?_) (fun z hz => ?_) g6 upd_same
        · rw [upd_ne (fun z => no6 z.symm), upd_same]
        · rw [upd_ne (fun z => n62 z.symm), upd_ne no2, upd_ne (fun z => n52 z.symm), upd_ne no2, upd_ne (fun z => n42 z.symm), upd_ne (fun z => n32 z.symm), upd_ne no2, upd_same, rep_flat]
          congr 2
          unfold vp vi enc openF
          simp
        · rw [upd_ne (fun z => n64 z.symm), upd_ne no4, upd_ne (fun z => n54 z.symm), upd_ne no4, upd_same, rep_flat]
          congr 2
          unfold vi openF
          simp
        · rw [upd_ne (fun z => n65 z.symm), upd_ne no5, upd_same]
          rfl
        · have hbo : b ≠ o := fun z => hb (by simp [z, eA])
          rw [upd_ne (ne_of_none e g6), upd_ne hbo, upd_ne (ne_of_none e g5), upd_ne hbo, upd_ne (ne_of_none e g4), upd_ne (ne_of_none e g3), upd_ne hbo, upd_ne (ne_of_none e hl2'), upd_ne (ne_of_none e hl1)]
          exact e
        · simp at hz
          rcases hz with rfl | rfl | rfl | rfl
          · exact .inl (by simp [eA])
          · exact .inr hl2'
          · exact .inr g4
          · exact .inr g5
end
end My
end
section
set_option Elab.async false
set_option linter.all false
set_option maxRecDepth 100000
set_option maxHeartbeats 2000000
namespace My
open PySem PySem.Spec PyProof.Rows L2
open PySem.W (Codec)
open LinkCut (Forest fits addTo turnedOn leastOn sumOf Rec State says tells)
section
variable {P : Program} {w : World} {K : PySem.W.Frag} {mg : Str → Option Value} {base : Heap}
def spMark (C : Addr) : Sp := fun vs H Q _ => ∃ (o : Addr) (A : List Addr) (r : Rec), vs = [.ref o] ∧ StAt C H o A (some r) ∧ r.marks.length ≤ 8 ∧ Tells C H o A (LinkCut.step (some r) .mark) Q
def spBack (C : Addr) : Sp := fun vs H Q _ => ∃ (o : Addr) (A : List Addr) (r : Rec) (i : Nat), vs = [.ref o, .int (i : Int)] ∧ StAt C H o A (some r) ∧ (∀ m ∈ r.marks, Good m) ∧ Tells C H o A (LinkCut.step (some r) (.back i)) Q
theorem snoc_get {α : Type} {l : List α} {x y : α} {i : Nat} (h : (l ++ [x])[i]? = some y) : l[i]? = some y ∨ (i = l.length ∧ y = x) := by
  by_cases hi : i < l.length
  · rw [List.getElem?_append_left hi] at h
    exact .inl h
  · rw [List.getElem?_append_right (by omega)] at h
    have h' := (List.getElem?_eq_some_iff.mp h).1
    simp at h'
    have e : i = l.length := by omega
    subst e
    rw [Nat.sub_self] at h
    exact .inr ⟨rfl, (Option.some.inj h).symm⟩
theorem ok_mark {f C : Addr} {fd : FuncData} (F : Fun K "mark" "Forest.mark" s_mark f fd) (T : Txt K mg C) : FnOk P w K mg base CX0 1 f fd ["self"] (spMark C) := by
  refine F.ok sc_mark (fun vs H Q E h => ?_) (fun cdv A outer s H vs Q E hr h => ?_)
  · obtain ⟨o, A', r, rfl, _⟩ := h
    rfl
  · obtain ⟨o, A', r, rfl, S, h8, k⟩ := h
    refine ⟨_, (pss_cons (ps_if (pt_cmpR op_eq (pe_callB call_len_seq (by rfl) T.b_len PySem.boot_len (pa_cons (pe_fld (pv 0) rfl) pa_nil)) (pe_const rfl T.g_MOST_MARKS) (nomark _))
        (pss_one (ps_ret (pe_lst (pa_cons (pe_const rfl T.g_TOO_MANY_MARKS) pa_nil))))
        pss_nil)
        (pss_cons (ps_expr (pe_bm PySem.F.plainAttrs_list PySem.F.slot_list_append PySem.F.type_list_append mt_append (pe_fld (pv 0) rfl) (pa_cons (pe_tup (pa_cons (pe_callTy call_tuple_of (by rfl) T.b_tuple boot_tuple5 (pa_cons (pe_fld (pv 0) rfl) pa_nil)) (pa_cons (pe_callTy call_tuple_of (by rfl) T.b_tuple boot_tuple5 (pa_cons (pe_fld (pv 0) rfl) pa_nil)) pa_nil))) pa_nil)))
        (pss_one (ps_ret (pe_lst (pa_cons pe_int (pa_cons (pe_op op_sub (pe_callB call_len_seq (by rfl) T.b_len PySem.boot_len (pa_cons (pe_fld (pv 0) rfl) pa_nil)) pe_int) pa_nil))))))), ?_⟩
    have S' := S
    obtain ⟨dx, p1, p2, p3, ts, rfl, R⟩ := S'
    have M8 : LinkCut.MARKS = 8 := rfl
    have hlen := R.len
    refine ⟨_, rfl, o, C, dx, _, _, rfl, R.fa.obj, T.cl, T.n_marks, ff_m _ _ _, p3, _, rfl, .inl (SqL.of R.ml), rfl, _, rfl, ite2 (fun q => ?_) (fun q => ?_)⟩
    · refine ⟨line_le (by simp), fun l hl => ?_⟩
      have q' : (((ts.map V.ref).length : Nat) : Int) = 8 := by simpa using q
      rw [List.length_map] at q'
      have e : LinkCut.step (some r) .mark = (some r, says (-5)) := if_pos (by omega)
      rw [e] at k
      exact k.keep S (Same.refl _) hl rfl
    · have q' : ¬ (((ts.map V.ref).length : Nat) : Int) = 8 := fun z => q (by rw [z]; rfl)
      rw [List.length_map] at q'
      have e : LinkCut.step (some r) .mark = (some ⟨r.now, r.marks ++ [r.now]⟩, tells [((r.marks.length : Nat) : Int)]) := if_neg (by omega)
      rw [e] at k
      have h32 := R.fa.good.le
      refine ⟨_, rfl, o, C, dx, _, _, rfl, R.fa.obj, T.cl, T.n_marks, ff_m _ _ _, .inl ⟨rfl, _, SqL.of R.ml⟩, _, rfl, o, C, dx, _, _, rfl, R.fa.obj, T.cl, T.n_parent_of, R.fa.fp, p1, _, rfl, .inl ⟨SqL.of R.fa.pl, fun t1 ht1 => ?_⟩⟩
      have s1 := same_upd (.tup (vp r.now.par)) (Same.refl H) ht1
      refine ⟨_, rfl, o, C, dx, _, _, rfl, s1 _ _ R.fa.obj, T.cl, T.n_value_of, R.fa.fv, p2, _, rfl, .inl ⟨SqL.of (s1 _ _ R.fa.vl), fun t2 ht2 => ?_⟩⟩
      have g2 := s1.free ht2
      have s2 := same_upd (.tup (vi r.now.val)) s1 g2
      refine ⟨line_le (by simp), fun t3 ht3 => ?_⟩
      have g3 := s2.free ht3
      have s3 := same_upd (.tup [.ref t1, .ref t2]) s2 g3
      have n21 : t1 ≠ t2 := ne_of_none upd_same ht2
      have n31 : t1 ≠ t3 := ne_of_none (by rw [upd_ne n21]; exact upd_same) ht3
      have n32 : t2 ≠ t3 := ne_of_none upd_same ht3
      have np3 : p3 ≠ t3 := ne_of_none R.ml g3
      refine ⟨p3, _, _, rfl, rfl, s3 _ _ R.ml, ?_, ?_⟩
      · rw [List.length_map]
        exact line_lt (by omega)
      have fr3 : Frame [p3] H (upd (upd (upd (upd H t1 (.tup (vp r.now.par))) t2 (.tup (vi r.now.val))) t3 (.tup [.ref t1, .ref t2])) p3 (.lst (ts.map V.ref ++ [.ref t3]))) := (frame_same s3).upd_in _ (by simp)
      have no3 : o ∉ [p3] := by simp [ne_of R.fa.obj R.ml (by intro z; cases z)]
      refine ⟨_, rfl, o, C, dx, _, _, rfl, fr3 _ _ R.fa.obj no3, T.cl, T.n_marks, ff_m _ _ _, p3, _, rfl, .inl (SqL.of upd_same), _, _, rfl, rfl, line_le (by simp), fun l hl => ?_⟩
      obtain ⟨gl, nl3⟩ := free_of hl
      have gl0 := s3.free gl
      have fr4 := fr3.upd_new (.lst [V.int 0, V.int ((((ts.map V.ref ++ [V.ref t3]).length : Nat) : Int) - 1)]) gl0
      have key : ∀ b x, upd (upd (upd H t1 (.tup (vp r.now.par))) t2 (.tup (vi r.now.val))) t3 (.tup [.ref t1, .ref t2]) b = some x → b ≠ p3 → upd (upd (upd (upd (upd H t1 (.tup (vp r.now.par))) t2 (.tup (vi r.now.val))) t3 (.tup [.ref t1, .ref t2])) p3 (.lst (ts.map V.ref ++ [.ref t3]))) l (.lst [V.int 0, V.int ((((ts.map V.ref ++ [V.ref t3]).length : Nat) : Int) - 1)]) b = some x := fun b x e hb => by
        rw [upd_ne (ne_of_none e gl), upd_ne hb]
        exact e
      have tn : ∀ b xs, upd (upd (upd H t1 (.tup (vp r.now.par))) t2 (.tup (vi r.now.val))) t3 (.tup [.ref t1, .ref t2]) b = some (.tup xs) → b ≠ p3 := fun b xs e => ne_of e (s3 _ _ R.ml) (by intro z; cases z)
      have h_t3 : upd (upd (upd H t1 (.tup (vp r.now.par))) t2 (.tup (vi r.now.val))) t3 (.tup [.ref t1, .ref t2]) t3 = some (.tup [.ref t1, .ref t2]) := upd_same
      have h_t2 : upd (upd (upd H t1 (.tup (vp r.now.par))) t2 (.tup (vi r.now.val))) t3 (.tup [.ref t1, .ref t2]) t2 = some (.tup (vi r.now.val)) := by rw [upd_ne n32, upd_same]
      have h_t1 : upd (upd (upd H t1 (.tup (vp r.now.par))) t2 (.tup (vi r.now.val))) t3 (.tup [.ref t1, .ref t2]) t1 = some (.tup (vp r.now.par)) := by rw [upd_ne n31, upd_ne n21, upd_same]
      refine k _ l [o, p1, p2, p3] ⟨dx, p1, p2, p3, ts ++ [t3], rfl, ⟨fr4 _ _ R.fa.obj no3, R.fa.fp, R.fa.fv, R.fa.no, fr4 _ _ R.fa.pl (by simp; exact fun z => R.n1 z.symm), fr4 _ _ R.fa.vl (by simp; exact fun z => R.n2 z.symm), R.fa.ne, R.fa.good⟩, ?_, R.n1, R.n2, ?_, fun i t f ht hf => ?_⟩ (fun b x e hb => fr4 b x e (by simp at hb ⊢; exact hb.2.2.2)) (fun z hz => .inl hz) gl0 ?_
      · rw [upd_ne (fun z => nl3 z.symm), upd_same, List.map_append]
        rfl
      · simp [hlen]
      · rcases snoc_get ht with h1 | ⟨h1, h1'⟩
        · rcases snoc_get hf with h2 | ⟨h2, h2'⟩
          · exact (R.ms i t f h1 h2).frame fr4 fun z hz xs e => R.noTup z (by rw [List.mem_singleton.mp hz]; simp) xs e
          · have := (List.getElem?_eq_some_iff.mp h1).1
            omega
        · rcases snoc_get hf with h2 | ⟨h2, h2'⟩
          · have := (List.getElem?_eq_some_iff.mp h2).1
            omega
          · subst h1' h2'
            exact ⟨t1, t2, key _ _ h_t3 (tn _ _ h_t3), key _ _ h_t1 (tn _ _ h_t1), key _ _ h_t2 (tn _ _ h_t2)⟩
      · rw [upd_same, List.length_append, List.length_map]
        have : (((ts.length + [V.ref t3].length : Nat) : Int) - 1) = ((r.marks.length : Nat) : Int) := by
          simp
          omega
        show some (HO.lst [V.int 0, V.int (((ts.length + [V.ref t3].length : Nat) : Int) - 1)]) = _
        rw [this]
        rfl
theorem ok_back {f C : Addr} {fd : FuncData} (F : Fun K "back" "Forest.back" s_back f fd) (T : Txt K mg C) : FnOk P w K mg base CX0 1 f fd ["self", "i"] (spBack C) := by
  refine F.ok sc_back (fun vs H Q E h => ?_) (fun cdv A outer s H vs Q E hr h => ?_)
  · obtain ⟨o, A', r, i, rfl, _⟩ := h
    rfl
  · obtain ⟨o, A', r, i, rfl, S, hg, k⟩ := h
    refine ⟨_, (pss_cons (ps_if (pt_cmpR op_ge (pv 1) (pe_callB call_len_seq (by rfl) T.b_len PySem.boot_len (pa_cons (pe_fld (pv 0) rfl) pa_nil)) (nomark _))
        (pss_one (ps_ret (pe_lst (pa_cons (pe_const rfl T.g_NO_SUCH_MARK) pa_nil))))
        pss_nil)
        (pss_cons (ps_set (i := 2) sc_back.nd rfl (Or.inl rfl) (pe_ix ix_list (pe_fld (pv 0) rfl) (pv 1) (fun _ _ => rfl)))
        (pss_cons (ps_fld (pv 0) (pe_callTy call_list_of (by rfl) T.b_list boot_list5 (pa_cons (pe_ix ix_tup (pv 2) pe_int (fun _ _ => rfl)) pa_nil)) rfl)
        (pss_cons (ps_fld (pv 0) (pe_callTy call_list_of (by rfl) T.b_list boot_list5 (pa_cons (pe_ix ix_tup (pv 2) pe_int (fun _ _ => rfl)) pa_nil)) rfl)
        (pss_cons (ps_fld (pv 0) (pe_slice sl_list (pe_fld (pv 0) rfl) po_none (po_some (pe_op op_add (pv 1) pe_int))) rfl)
        (pss_one (ps_ret (pe_lst (pa_cons pe_int pa_nil))))))))), ?_⟩
    have S' := S
    obtain ⟨dx, p1, p2, p3, ts, rfl, R⟩ := S'
    have hlen := R.len
    have ho := R.fa.obj
    have eb : LinkCut.step (some r) (.back i) = (match r.marks[i]? with
      | none => (some r, says (-6))
      | some f => (some ⟨f, r.marks.take (i + 1)⟩, tells [])) := rfl
    refine ⟨_, rfl, _, rfl, o, C, dx, _, _, rfl, ho, T.cl, T.n_marks, ff_m _ _ _, p3, _, rfl, .inl (SqL.of R.ml), _, _, rfl, rfl, _, rfl, ite2 (fun q => ?_) (fun q => ?_)⟩
    · refine ⟨line_le (by simp), fun l hl => ?_⟩
      have q' := of_decide_eq_true q
      rw [List.length_map] at q'
      rw [List.getElem?_eq_none (by omega)] at eb
      rw [eb] at k
      exact k.keep S (Same.refl _) hl rfl
    · have q' : ¬ (((ts.map V.ref).length : Nat) : Int) ≤ (i : Int) := fun z => q (decide_eq_true z)
      rw [List.length_map] at q'
      obtain ⟨t, ht⟩ : ∃ t, ts[i]? = some t := ⟨_, List.getElem?_eq_getElem (by omega)⟩
      obtain ⟨g, hf⟩ : ∃ g, r.marks[i]? = some g := ⟨_, List.getElem?_eq_getElem (by omega)⟩
      have G := hg g (List.mem_of_getElem? hf)
      rw [hf] at eb
      rw [eb] at k
      obtain ⟨a, b, m1, m2, m3⟩ := R.ms i t g ht hf
      refine ⟨_, rfl, o, C, dx, _, _, rfl, ho, T.cl, T.n_marks, ff_m _ _ _, _, rfl, p3, _, _, _, rfl, rfl, SqL.of R.ml, atI_nat (v := V.ref t) (by rw [List.getElem?_map, ht]; rfl), ?_⟩
      refine ⟨_, rfl, t, _, _, _, rfl, rfl, SqT.of m1, at_of (j := 0) rfl rfl, a, _, rfl, .inr (SqT.of m2), fun l1 hl1 => ?_⟩
      have no1 : l1 ≠ o := fun z => ne_of_none ho hl1 z.symm
      refine ⟨_, rfl, o, C, dx, _, rfl, by rw [upd_ne (fun z => no1 z.symm)]; exact ho, T.cl, T.n_parent_of, (by show 3 < 1000; decide), ?_⟩
      rw [ff_putP]
      have fr2 : Frame [o] H (upd (upd H l1 (.lst (vp g.par))) o (.ins C dx (ff l1 p2 p3))) := ((frame_same (Same.refl _)).upd_new _ hl1).upd_in _ (by simp)
      have nto : t ∉ [o] := by simp [ne_of m1 ho (by intro z; cases z)]
      have nbo : b ∉ [o] := by simp [ne_of m3 ho (by intro z; cases z)]
      have n3o : p3 ∉ [o] := by simp [ne_of R.ml ho (by intro z; cases z)]
      refine ⟨_, rfl, t, _, _, _, rfl, rfl, SqT.of (fr2 _ _ m1 nto), at_of (j := 1) rfl rfl, b, _, rfl, .inr (SqT.of (fr2 _ _ m3 nbo)), fun l2 hl2 => ?_⟩
      obtain ⟨g2, no2⟩ := free_of hl2
      obtain ⟨g2, n21⟩ := free_of g2
      refine ⟨_, rfl, o, C, dx, _, rfl, by rw [upd_ne (fun z => no2 z.symm), upd_same], T.cl, T.n_value_of, (by show 3 < 1000; decide), ?_⟩
      rw [ff_putV]
      have fr4 := (fr2.upd_new (.lst (vi g.val)) g2).upd_in (.ins C dx (ff l1 l2 p3)) (List.mem_singleton.mpr rfl)
      refine ⟨_, rfl, o, C, dx, _, _, rfl, upd_same, T.cl, T.n_marks, ff_m _ _ _, _, rfl, _, _, rfl, rfl, _, rfl, p3, _, rfl, SqL.of (fr4 _ _ R.ml n3o), fun l3 hl3 => ?_⟩
      obtain ⟨g3, no3⟩ := free_of hl3
      obtain ⟨g3, n32⟩ := free_of g3
      obtain ⟨g3, _⟩ := free_of g3
      obtain ⟨g3, n31⟩ := free_of g3
      refine ⟨_, rfl, o, C, dx, _, rfl, by rw [upd_ne (fun z => no3 z.symm), upd_same], T.cl, T.n_marks, (by show 3 < 1000; decide), ?_⟩
      rw [ff_putM]
      have ct : cutV (ts.map V.ref) none (some ((i : Int) + 1)) = (ts.take (i + 1)).map V.ref := by
        have := cut_to (ts.map V.ref) (i + 1) (by rw [List.length_map]; omega)
        rw [List.map_take, ← this]
        rfl
      rw [ct]
      have fr6 := (fr4.upd_new (.lst ((ts.take (i + 1)).map V.ref)) g3).upd_in (.ins C dx (ff l1 l2 l3)) (List.mem_singleton.mpr rfl)
      refine ⟨line_le (by simp), fun l4 hl4 => ?_⟩
      obtain ⟨g4, no4⟩ := free_of hl4
      obtain ⟨g4, n43⟩ := free_of g4
      obtain ⟨g4, _⟩ := free_of g4
      obtain ⟨g4, n42⟩ := free_of g4
      obtain ⟨g4, _⟩ := free_of g4
      obtain ⟨g4, n41⟩ := free_of g4
      have fr7 := fr6.upd_new (.lst [V.int 0]) g4
      refine k _ l4 [o, l1, l2, l3] ⟨dx, l1, l2, l3, ts.take (i + 1), rfl, ⟨?_, ff_p _ _ _, ff_v _ _ _, fun m hm => ff_no _ _ _ hm, ?_, ?_, fun z => n21 z.symm, G⟩, ?_, n31, n32, ?_, fun i' t' f' ht' hf' => ?_⟩ (fun b x e hb => fr7 b x e (by simp at hb ⊢; exact hb.1)) (fun z hz => ?_) g4 upd_same
      · rw [upd_ne (fun z => no4 z.symm), upd_same]
      · rw [upd_ne (fun z => n41 z.symm), upd_ne no1, upd_ne (fun z => n31 z.symm), upd_ne no1, upd_ne (fun z => n21 z.symm), upd_ne no1, upd_same]
      · rw [upd_ne (fun z => n42 z.symm), upd_ne no2, upd_ne (fun z => n32 z.symm), upd_ne no2, upd_same]
      · rw [upd_ne (fun z => n43 z.symm), upd_ne no3, upd_same]
      · simp [hlen]
      · have h1 : ts[i']? = some t' := by
          rw [List.getElem?_take] at ht'
          split at ht'
          · exact ht'
          · cases ht'
        have h2 : r.marks[i']? = some f' := by
          have hf2 : (r.marks.take (i + 1))[i']? = some f' := hf'
          rw [List.getElem?_take] at hf2
          split at hf2
          · exact hf2
          · cases hf2
        exact (R.ms i' t' f' h1 h2).frame fr7 fun z hz xs e => R.noTup z (by rw [List.mem_singleton.mp hz]; simp) xs e
      · simp at hz
        rcases hz with rfl | rfl | rfl | rfl
        · exact .inl (by simp)
        · exact .inr hl1
        · exact .inr g2
        · exact .inr g3
end
end My
end
section
set_option Elab.async false
set_option linter.all false
set_option maxRecDepth 100000
set_option maxHeartbeats 2000000
namespace My
open PySem PySem.Spec PyProof.Rows L2
open PySem.W (Codec)
open LinkCut (Forest fits addTo turnedOn leastOn sumOf Rec State says tells)
section
variable {P : Program} {w : World} {K : PySem.W.Frag} {mg : Str → Option Value} {base : Heap}
def Jn (r : Rec) : LinkCut.Call → Prop
  | .add a b _ => r.now.joined a b = true
  | .path a b => r.now.joined a b = true
  | .place a b _ => r.now.joined a b = true
  | .find a b _ => r.now.joined a b = true
  | .meet a b => r.now.joined a b = true
  | .way a b => r.now.joined a b = true
  | _ => True
def spPart (L : List Int) (C : Addr) : Sp := fun vs H Q _ => ∃ (o g : Addr) (A : List Addr) (r : Rec) (p : Int) (args : List Int) (c : LinkCut.Call), vs = [.ref o, .int p, .ref g] ∧ StAt C H o A (some r) ∧ Fine (some r) ∧ H g = some (.lst (vi args)) ∧ View p args c ∧ p ∈ L ∧ (∀ x ∈ nodesOf c, x < r.now.par.length) ∧ Jn r c ∧ Tells C H o A (LinkCut.step (some r) c) Q
abbrev spChange : Addr → Sp := spPart [2, 3, 5, 6, 7, 13, 14]
abbrev spQuestion : Addr → Sp := spPart [4, 8, 9, 10, 11, 12, 15, 16]
theorem ok_answer_change {f C f1 f2 f3 f4 f5 f6 f7 : Addr} {fd fd1 fd2 fd3 fd4 fd5 fd6 fd7 : FuncData} (F : Fun K "answer_change" "answer_change" s_answer_change f fd) (T : Txt K mg C)
    (G_link : FnOk P w K mg base CX0 4 f1 fd1 ["self", "a", "b"] (sp2 C linkF)) (b_link : Binds K fd1 ["self", "a", "b"] []) (m_link : Meth K C "link" f1)
    (G_cut : FnOk P w K mg base CX0 1 f2 fd2 ["self", "a"] (sp1 C cutF)) (b_cut : Binds K fd2 ["self", "a"] []) (m_cut : Meth K C "cut" f2)
    (G_reroot : FnOk P w K mg base CX0 2 f3 fd3 ["self", "a"] (sp1 C rerootF)) (b_reroot : Binds K fd3 ["self", "a"] []) (m_reroot : Meth K C "reroot" f3)
    (G_put : FnOk P w K mg base CX0 2 f4 fd4 ["self", "a", "v"] (sp1i C putsF)) (b_put : Binds K fd4 ["self", "a", "v"] []) (m_put : Meth K C "put" f4)
    (G_add : FnOk P w K mg base CX0 4 f5 fd5 ["self", "a", "b", "d"] (sp2ij C addF)) (b_add : Binds K fd5 ["self", "a", "b", "d"] []) (m_add : Meth K C "add" f5)
    (G_mark : FnOk P w K mg base CX0 1 f6 fd6 ["self"] (spMark C)) (b_mark : Binds K fd6 ["self"] []) (m_mark : Meth K C "mark" f6)
    (G_back : FnOk P w K mg base CX0 1 f7 fd7 ["self", "i"] (spBack C)) (b_back : Binds K fd7 ["self", "i"] []) (m_back : Meth K C "back" f7)
    : FnOk P w K mg base CX0 5 f fd ["forest", "call", "given"] (spChange C) := by
  refine F.ok sc_answer_change (fun vs H Q E h => ?_) (fun cdv A outer s H vs Q E hr h => ?_)
  · obtain ⟨o, g, A', r, p, args, c, rfl, _⟩ := h
    rfl
  · obtain ⟨o, g, A', r, p, args, c, rfl, S, fine, hg, hv, hp, hn, hj, k⟩ := h
    refine ⟨_, (pss_cons (ps_if (pt_cmpR op_eq (pv 1) (pe_const rfl T.g_CALL_LINK) (nomark _))
        (pss_one (ps_ret (pe_meth (pv 0) T.cl m_link G_link (hr.mono (by decide)) b_link .nil pass0 (pa_cons (pe_ix ix_list (pv 2) pe_int (fun _ _ => rfl)) (pa_cons (pe_ix ix_list (pv 2) pe_int (fun _ _ => rfl)) pa_nil)))))
        pss_nil)
        (pss_cons (ps_if (pt_cmpR op_eq (pv 1) (pe_const rfl T.g_CALL_CUT) (nomark _))
        (pss_one (ps_ret (pe_meth (pv 0) T.cl m_cut G_cut (hr.mono (by decide)) b_cut .nil pass0 (pa_cons (pe_ix ix_list (pv 2) pe_int (fun _ _ => rfl)) pa_nil))))
        pss_nil)
        (pss_cons (ps_if (pt_cmpR op_eq (pv 1) (pe_const rfl T.g_CALL_REROOT) (nomark _))
        (pss_one (ps_ret (pe_meth (pv 0) T.cl m_reroot G_reroot (hr.mono (by decide)) b_reroot .nil pass0 (pa_cons (pe_ix ix_list (pv 2) pe_int (fun _ _ => rfl)) pa_nil))))
        pss_nil)
        (pss_cons (ps_if (pt_cmpR op_eq (pv 1) (pe_const rfl T.g_CALL_PUT) (nomark _))
        (pss_one (ps_ret (pe_meth (pv 0) T.cl m_put G_put (hr.mono (by decide)) b_put .nil pass0 (pa_cons (pe_ix ix_list (pv 2) pe_int (fun _ _ => rfl)) (pa_cons (pe_ix ix_list (pv 2) pe_int (fun _ _ => rfl)) pa_nil)))))
        pss_nil)
        (pss_cons (ps_if (pt_cmpR op_eq (pv 1) (pe_const rfl T.g_CALL_ADD) (nomark _))
        (pss_one (ps_ret (pe_meth (pv 0) T.cl m_add G_add (hr.mono (by decide)) b_add .nil pass0 (pa_cons (pe_ix ix_list (pv 2) pe_int (fun _ _ => rfl)) (pa_cons (pe_ix ix_list (pv 2) pe_int (fun _ _ => rfl)) (pa_cons (pe_ix ix_list (pv 2) pe_int (fun _ _ => rfl)) pa_nil))))))
        pss_nil)
        (pss_cons (ps_if (pt_cmpR op_eq (pv 1) (pe_const rfl T.g_CALL_MARK) (nomark _))
        (pss_one (ps_ret (pe_meth0 (pv 0) T.cl m_mark G_mark (hr.mono (by decide)) b_mark .nil pass0)))
        pss_nil)
        (pss_one (ps_ret (pe_meth (pv 0) T.cl m_back G_back (hr.mono (by decide)) b_back .nil pass0 (pa_cons (pe_ix ix_list (pv 2) pe_int (fun _ _ => rfl)) pa_nil)))))))))), ?_⟩
    have S' := S
    obtain ⟨dx, p1, p2, p3, ts, rfl, R⟩ := S'
    cases hv with
    | open_ n =>
      exact absurd hp (by decide)
    | link a b =>
      refine ⟨_, rfl, rfl, _, rfl, ite2 (fun _ => ?_) (fun q => absurd rfl q)⟩
      have ha := hn a (by simp [nodesOf])
      have hb := hn b (by simp [nodesOf])
      exact ⟨_, rfl, o, dx, _, rfl, R.fa.obj, R.fa.no _ (by decide +kernel), _, rfl, g, _, _, _, rfl, rfl, SqL.of hg, at_of (j := 0) rfl rfl, _, rfl, g, _, _, _, rfl, rfl, SqL.of hg, at_of (j := 1) rfl rfl, o, dx, p1, p2, _, r.now, a, b, rfl, R.fa, ha, hb, Tells.gives R k (told_link ha hb)⟩
    | cut a =>
      refine ⟨_, rfl, rfl, _, rfl, ite2 (fun q => absurd q (by decide)) (fun _ => ?_)⟩
      refine ⟨_, rfl, rfl, _, rfl, ite2 (fun _ => ?_) (fun q => absurd rfl q)⟩
      have ha := hn a (by simp [nodesOf])
      exact ⟨_, rfl, o, dx, _, rfl, R.fa.obj, R.fa.no _ (by decide +kernel), _, rfl, g, _, _, _, rfl, rfl, SqL.of hg, at_of (j := 0) rfl rfl, o, dx, p1, p2, _, r.now, a, rfl, R.fa, ha, Tells.gives R k (told_cut ha)⟩
    | root a =>
      exact absurd hp (by decide)
    | reroot a =>
      refine ⟨_, rfl, rfl, _, rfl, ite2 (fun q => absurd q (by decide)) (fun _ => ?_)⟩
      refine ⟨_, rfl, rfl, _, rfl, ite2 (fun q => absurd q (by decide)) (fun _ => ?_)⟩
      refine ⟨_, rfl, rfl, _, rfl, ite2 (fun _ => ?_) (fun q => absurd rfl q)⟩
      have ha := hn a (by simp [nodesOf])
      exact ⟨_, rfl, o, dx, _, rfl, R.fa.obj, R.fa.no _ (by decide +kernel), _, rfl, g, _, _, _, rfl, rfl, SqL.of hg, at_of (j := 0) rfl rfl, o, dx, p1, p2, _, r.now, a, rfl, R.fa, ha, Tells.gives R k (told_reroot ha)⟩
    | put a v =>
      refine ⟨_, rfl, rfl, _, rfl, ite2 (fun q => absurd q (by decide)) (fun _ => ?_)⟩
      refine ⟨_, rfl, rfl, _, rfl, ite2 (fun q => absurd q (by decide)) (fun _ => ?_)⟩
      refine ⟨_, rfl, rfl, _, rfl, ite2 (fun q => absurd q (by decide)) (fun _ => ?_)⟩
      refine ⟨_, rfl, rfl, _, rfl, ite2 (fun _ => ?_) (fun q => absurd rfl q)⟩
      have ha := hn a (by simp [nodesOf])
      exact ⟨_, rfl, o, dx, _, rfl, R.fa.obj, R.fa.no _ (by decide +kernel), _, rfl, g, _, _, _, rfl, rfl, SqL.of hg, at_of (j := 0) rfl rfl, _, rfl, g, _, _, _, rfl, rfl, SqL.of hg, at_of (j := 1) rfl rfl, o, dx, p1, p2, _, r.now, a, v, rfl, R.fa, ha, Tells.gives R k (told_put ha)⟩
    | add a b d =>
      refine ⟨_, rfl, rfl, _, rfl, ite2 (fun q => absurd q (by decide)) (fun _ => ?_)⟩
      refine ⟨_, rfl, rfl, _, rfl, ite2 (fun q => absurd q (by decide)) (fun _ => ?_)⟩
      refine ⟨_, rfl, rfl, _, rfl, ite2 (fun q => absurd q (by decide)) (fun _ => ?_)⟩
      refine ⟨_, rfl, rfl, _, rfl, ite2 (fun q => absurd q (by decide)) (fun _ => ?_)⟩
      refine ⟨_, rfl, rfl, _, rfl, ite2 (fun _ => ?_) (fun q => absurd rfl q)⟩
      have ha := hn a (by simp [nodesOf])
      have hb := hn b (by simp [nodesOf])
      exact ⟨_, rfl, o, dx, _, rfl, R.fa.obj, R.fa.no _ (by decide +kernel), _, rfl, g, _, _, _, rfl, rfl, SqL.of hg, at_of (j := 0) rfl rfl, _, rfl, g, _, _, _, rfl, rfl, SqL.of hg, at_of (j := 1) rfl rfl, _, rfl, g, _, _, _, rfl, rfl, SqL.of hg, at_of (j := 2) rfl rfl, o, dx, p1, p2, _, r.now, a, b, d, rfl, R.fa, ha, hb, hj, Tells.gives R k (told_add ha hb)⟩
    | path a b =>
      exact absurd hp (by decide)
    | place a b i =>
      exact absurd hp (by decide)
    | find a b v =>
      exact absurd hp (by decide)
    | meet a b =>
      exact absurd hp (by decide)
    | below a =>
      exact absurd hp (by decide)
    | mark =>
      refine ⟨_, rfl, rfl, _, rfl, ite2 (fun q => absurd q (by decide)) (fun _ => ?_)⟩
      refine ⟨_, rfl, rfl, _, rfl, ite2 (fun q => absurd q (by decide)) (fun _ => ?_)⟩
      refine ⟨_, rfl, rfl, _, rfl, ite2 (fun q => absurd q (by decide)) (fun _ => ?_)⟩
      refine ⟨_, rfl, rfl, _, rfl, ite2 (fun q => absurd q (by decide)) (fun _ => ?_)⟩
      refine ⟨_, rfl, rfl, _, rfl, ite2 (fun q => absurd q (by decide)) (fun _ => ?_)⟩
      refine ⟨_, rfl, rfl, _, rfl, ite2 (fun _ => ?_) (fun q => absurd rfl q)⟩
      exact ⟨_, rfl, o, dx, _, rfl, R.fa.obj, R.fa.no _ (by decide +kernel), o, _, r, rfl, S, fine.2.2, k⟩
    | back i =>
      refine ⟨_, rfl, rfl, _, rfl, ite2 (fun q => absurd q (by decide)) (fun _ => ?_)⟩
      refine ⟨_, rfl, rfl, _, rfl, ite2 (fun q => absurd q (by decide)) (fun _ => ?_)⟩
      refine ⟨_, rfl, rfl, _, rfl, ite2 (fun q => absurd q (by decide)) (fun _ => ?_)⟩
      refine ⟨_, rfl, rfl, _, rfl, ite2 (fun q => absurd q (by decide)) (fun _ => ?_)⟩
      refine ⟨_, rfl, rfl, _, rfl, ite2 (fun q => absurd q (by decide)) (fun _ => ?_)⟩
      refine ⟨_, rfl, rfl, _, rfl, ite2 (fun q => absurd q (by decide)) (fun _ => ?_)⟩
      exact ⟨_, rfl, o, dx, _, rfl, R.fa.obj, R.fa.no _ (by decide +kernel), _, rfl, g, _, _, _, rfl, rfl, SqL.of hg, at_of (j := 0) rfl rfl, o, _, r, i, rfl, S, fine.2.1, k⟩
    | way a b =>
      exact absurd hp (by decide)
    | parents =>
      exact absurd hp (by decide)
theorem ok_answer_question {f C f1 f2 f3 f4 f5 f6 f7 f8 : Addr} {fd fd1 fd2 fd3 fd4 fd5 fd6 fd7 fd8 : FuncData} (F : Fun K "answer_question" "answer_question" s_answer_question f fd) (T : Txt K mg C)
    (G_root : FnOk P w K mg base CX0 3 f1 fd1 ["self", "a"] (sp1 C rootF)) (b_root : Binds K fd1 ["self", "a"] []) (m_root : Meth K C "root" f1)
    (G_path : FnOk P w K mg base CX0 4 f2 fd2 ["self", "a", "b"] (sp2j C pathF)) (b_path : Binds K fd2 ["self", "a", "b"] []) (m_path : Meth K C "path" f2)
    (G_place : FnOk P w K mg base CX0 4 f3 fd3 ["self", "a", "b", "i"] (sp2nj C placeF)) (b_place : Binds K fd3 ["self", "a", "b", "i"] []) (m_place : Meth K C "place" f3)
    (G_find : FnOk P w K mg base CX0 4 f4 fd4 ["self", "a", "b", "v"] (sp2ij C findF)) (b_find : Binds K fd4 ["self", "a", "b", "v"] []) (m_find : Meth K C "find" f4)
    (G_meet : FnOk P w K mg base CX0 3 f5 fd5 ["self", "a", "b"] (sp2j C meetF)) (b_meet : Binds K fd5 ["self", "a", "b"] []) (m_meet : Meth K C "meet" f5)
    (G_below : FnOk P w K mg base CX0 3 f6 fd6 ["self", "a"] (sp1 C belowF)) (b_below : Binds K fd6 ["self", "a"] []) (m_below : Meth K C "below" f6)
    (G_way : FnOk P w K mg base CX0 4 f7 fd7 ["self", "a", "b"] (sp2j C wayF)) (b_way : Binds K fd7 ["self", "a", "b"] []) (m_way : Meth K C "way" f7)
    (G_parents : FnOk P w K mg base CX0 1 f8 fd8 ["self"] (sp0 C parentsF)) (b_parents : Binds K fd8 ["self"] []) (m_parents : Meth K C "parents" f8)
    : FnOk P w K mg base CX0 5 f fd ["forest", "call", "given"] (spQuestion C) := by
  refine F.ok sc_answer_question (fun vs H Q E h => ?_) (fun cdv A outer s H vs Q E hr h => ?_)
  · obtain ⟨o, g, A', r, p, args, c, rfl, _⟩ := h
    rfl
  · obtain ⟨o, g, A', r, p, args, c, rfl, S, fine, hg, hv, hp, hn, hj, k⟩ := h
    refine ⟨_, (pss_cons (ps_if (pt_cmpR op_eq (pv 1) (pe_const rfl T.g_CALL_ROOT) (nomark _))
        (pss_one (ps_ret (pe_meth (pv 0) T.cl m_root G_root (hr.mono (by decide)) b_root .nil pass0 (pa_cons (pe_ix ix_list (pv 2) pe_int (fun _ _ => rfl)) pa_nil))))
        pss_nil)
        (pss_cons (ps_if (pt_cmpR op_eq (pv 1) (pe_const rfl T.g_CALL_PATH) (nomark _))
        (pss_one (ps_ret (pe_meth (pv 0) T.cl m_path G_path (hr.mono (by decide)) b_path .nil pass0 (pa_cons (pe_ix ix_list (pv 2) pe_int (fun _ _ => rfl)) (pa_cons (pe_ix ix_list (pv 2) pe_int (fun _ _ => rfl)) pa_nil)))))
        pss_nil)
        (pss_cons (ps_if (pt_cmpR op_eq (pv 1) (pe_const rfl T.g_CALL_PLACE) (nomark _))
        (pss_one (ps_ret (pe_meth (pv 0) T.cl m_place G_place (hr.mono (by decide)) b_place .nil pass0 (pa_cons (pe_ix ix_list (pv 2) pe_int (fun _ _ => rfl)) (pa_cons (pe_ix ix_list (pv 2) pe_int (fun _ _ => rfl)) (pa_cons (pe_ix ix_list (pv 2) pe_int (fun _ _ => rfl)) pa_nil))))))
        pss_nil)
        (pss_cons (ps_if (pt_cmpR op_eq (pv 1) (pe_const rfl T.g_CALL_FIND) (nomark _))
        (pss_one (ps_ret (pe_meth (pv 0) T.cl m_find G_find (hr.mono (by decide)) b_find .nil pass0 (pa_cons (pe_ix ix_list (pv 2) pe_int (fun _ _ => rfl)) (pa_cons (pe_ix ix_list (pv 2) pe_int (fun _ _ => rfl)) (pa_cons (pe_ix ix_list (pv 2) pe_int (fun _ _ => rfl)) pa_nil))))))
        pss_nil)
        (pss_cons (ps_if (pt_cmpR op_eq (pv 1) (pe_const rfl T.g_CALL_MEET) (nomark _))
        (pss_one (ps_ret (pe_meth (pv 0) T.cl m_meet G_meet (hr.mono (by decide)) b_meet .nil pass0 (pa_cons (pe_ix ix_list (pv 2) pe_int (fun _ _ => rfl)) (pa_cons (pe_ix ix_list (pv 2) pe_int (fun _ _ => rfl)) pa_nil)))))
        pss_nil)
        (pss_cons (ps_if (pt_cmpR op_eq (pv 1) (pe_const rfl T.g_CALL_BELOW) (nomark _))
        (pss_one (ps_ret (pe_meth (pv 0) T.cl m_below G_below (hr.mono (by decide)) b_below .nil pass0 (pa_cons (pe_ix ix_list (pv 2) pe_int (fun _ _ => rfl)) pa_nil))))
        pss_nil)
        (pss_cons (ps_if (pt_cmpR op_eq (pv 1) (pe_const rfl T.g_CALL_WAY) (nomark _))
        (pss_one (ps_ret (pe_meth (pv 0) T.cl m_way G_way (hr.mono (by decide)) b_way .nil pass0 (pa_cons (pe_ix ix_list (pv 2) pe_int (fun _ _ => rfl)) (pa_cons (pe_ix ix_list (pv 2) pe_int (fun _ _ => rfl)) pa_nil)))))
        pss_nil)
        (pss_one (ps_ret (pe_meth0 (pv 0) T.cl m_parents G_parents (hr.mono (by decide)) b_parents .nil pass0)))))))))), ?_⟩
    have S' := S
    obtain ⟨dx, p1, p2, p3, ts, rfl, R⟩ := S'
    cases hv with
    | open_ n =>
      exact absurd hp (by decide)
    | link a b =>
      exact absurd hp (by decide)
    | cut a =>
      exact absurd hp (by decide)
    | root a =>
      refine ⟨_, rfl, rfl, _, rfl, ite2 (fun _ => ?_) (fun q => absurd rfl q)⟩
      have ha := hn a (by simp [nodesOf])
      exact ⟨_, rfl, o, dx, _, rfl, R.fa.obj, R.fa.no _ (by decide +kernel), _, rfl, g, _, _, _, rfl, rfl, SqL.of hg, at_of (j := 0) rfl rfl, o, dx, p1, p2, _, r.now, a, rfl, R.fa, ha, Tells.gives R k (told_root ha)⟩
    | reroot a =>
      exact absurd hp (by decide)
    | put a v =>
      exact absurd hp (by decide)
    | add a b d =>
      exact absurd hp (by decide)
    | path a b =>
      refine ⟨_, rfl, rfl, _, rfl, ite2 (fun q => absurd q (by decide)) (fun _ => ?_)⟩
      refine ⟨_, rfl, rfl, _, rfl, ite2 (fun _ => ?_) (fun q => absurd rfl q)⟩
      have ha := hn a (by simp [nodesOf])
      have hb := hn b (by simp [nodesOf])
      exact ⟨_, rfl, o, dx, _, rfl, R.fa.obj, R.fa.no _ (by decide +kernel), _, rfl, g, _, _, _, rfl, rfl, SqL.of hg, at_of (j := 0) rfl rfl, _, rfl, g, _, _, _, rfl, rfl, SqL.of hg, at_of (j := 1) rfl rfl, o, dx, p1, p2, _, r.now, a, b, rfl, R.fa, ha, hb, hj, Tells.gives R k (told_path ha hb)⟩
    | place a b i =>
      refine ⟨_, rfl, rfl, _, rfl, ite2 (fun q => absurd q (by decide)) (fun _ => ?_)⟩
      refine ⟨_, rfl, rfl, _, rfl, ite2 (fun q => absurd q (by decide)) (fun _ => ?_)⟩
      refine ⟨_, rfl, rfl, _, rfl, ite2 (fun _ => ?_) (fun q => absurd rfl q)⟩
      have ha := hn a (by simp [nodesOf])
      have hb := hn b (by simp [nodesOf])
      exact ⟨_, rfl, o, dx, _, rfl, R.fa.obj, R.fa.no _ (by decide +kernel), _, rfl, g, _, _, _, rfl, rfl, SqL.of hg, at_of (j := 0) rfl rfl, _, rfl, g, _, _, _, rfl, rfl, SqL.of hg, at_of (j := 1) rfl rfl, _, rfl, g, _, _, _, rfl, rfl, SqL.of hg, at_of (j := 2) rfl rfl, o, dx, p1, p2, _, r.now, a, b, i, rfl, R.fa, ha, hb, hj, Tells.gives R k (told_place ha hb)⟩
    | find a b v =>
      refine ⟨_, rfl, rfl, _, rfl, ite2 (fun q => absurd q (by decide)) (fun _ => ?_)⟩
      refine ⟨_, rfl, rfl, _, rfl, ite2 (fun q => absurd q (by decide)) (fun _ => ?_)⟩
      refine ⟨_, rfl, rfl, _, rfl, ite2 (fun q => absurd q (by decide)) (fun _ => ?_)⟩
      refine ⟨_, rfl, rfl, _, rfl, ite2 (fun _ => ?_) (fun q => absurd rfl q)⟩
      have ha := hn a (by simp [nodesOf])
      have hb := hn b (by simp [nodesOf])
      exact ⟨_, rfl, o, dx, _, rfl, R.fa.obj, R.fa.no _ (by decide +kernel), _, rfl, g, _, _, _, rfl, rfl, SqL.of hg, at_of (j := 0) rfl rfl, _, rfl, g, _, _, _, rfl, rfl, SqL.of hg, at_of (j := 1) rfl rfl, _, rfl, g, _, _, _, rfl, rfl, SqL.of hg, at_of (j := 2) rfl rfl, o, dx, p1, p2, _, r.now, a, b, v, rfl, R.fa, ha, hb, hj, Tells.gives R k (told_find ha hb)⟩
    | meet a b =>
      refine ⟨_, rfl, rfl, _, rfl, ite2 (fun q => absurd q (by decide)) (fun _ => ?_)⟩
      refine ⟨_, rfl, rfl, _, rfl, ite2 (fun q => absurd q (by decide)) (fun _ => ?_)⟩
      refine ⟨_, rfl, rfl, _, rfl, ite2 (fun q => absurd q (by decide)) (fun _ => ?_)⟩
      refine ⟨_, rfl, rfl, _, rfl, ite2 (fun q => absurd q (by decide)) (fun _ => ?_)⟩
      refine ⟨_, rfl, rfl, _, rfl, ite2 (fun _ => ?_) (fun q => absurd rfl q)⟩
      have ha := hn a (by simp [nodesOf])
      have hb := hn b (by simp [nodesOf])
      exact ⟨_, rfl, o, dx, _, rfl, R.fa.obj, R.fa.no _ (by decide +kernel), _, rfl, g, _, _, _, rfl, rfl, SqL.of hg, at_of (j := 0) rfl rfl, _, rfl, g, _, _, _, rfl, rfl, SqL.of hg, at_of (j := 1) rfl rfl, o, dx, p1, p2, _, r.now, a, b, rfl, R.fa, ha, hb, hj, Tells.gives R k (told_meet ha hb)⟩
    | below a =>
      refine ⟨_, rfl, rfl, _, rfl, ite2 (fun q => absurd q (by decide)) (fun _ => ?_)⟩
      refine ⟨_, rfl, rfl, _, rfl, ite2 (fun q => absurd q (by decide)) (fun _ => ?_)⟩
      refine ⟨_, rfl, rfl, _, rfl, ite2 (fun q => absurd q (by decide)) (fun _ => ?_)⟩
      refine ⟨_, rfl, rfl, _, rfl, ite2 (fun q => absurd q (by decide)) (fun _ => ?_)⟩
      refine ⟨_, rfl, rfl, _, rfl, ite2 (fun q => absurd q (by decide)) (fun _ => ?_)⟩
      refine ⟨_, rfl, rfl, _, rfl, ite2 (fun _ => ?_) (fun q => absurd rfl q)⟩
      have ha := hn a (by simp [nodesOf])
      exact ⟨_, rfl, o, dx, _, rfl, R.fa.obj, R.fa.no _ (by decide +kernel), _, rfl, g, _, _, _, rfl, rfl, SqL.of hg, at_of (j := 0) rfl rfl, o, dx, p1, p2, _, r.now, a, rfl, R.fa, ha, Tells.gives R k (told_below ha)⟩
    | mark =>
      exact absurd hp (by decide)
    | back i =>
      exact absurd hp (by decide)
    | way a b =>
      refine ⟨_, rfl, rfl, _, rfl, ite2 (fun q => absurd q (by decide)) (fun _ => ?_)⟩
      refine ⟨_, rfl, rfl, _, rfl, ite2 (fun q => absurd q (by decide)) (fun _ => ?_)⟩
      refine ⟨_, rfl, rfl, _, rfl, ite2 (fun q => absurd q (by decide)) (fun _ => ?_)⟩
      refine ⟨_, rfl, rfl, _, rfl, ite2 (fun q => absurd q (by decide)) (fun _ => ?_)⟩
      refine ⟨_, rfl, rfl, _, rfl, ite2 (fun q => absurd q (by decide)) (fun _ => ?_)⟩
      refine ⟨_, rfl, rfl, _, rfl, ite2 (fun q => absurd q (by decide)) (fun _ => ?_)⟩
      refine ⟨_, rfl, rfl, _, rfl, ite2 (fun _ => ?_) (fun q => absurd rfl q)⟩
      have ha := hn a (by simp [nodesOf])
      have hb := hn b (by simp [nodesOf])
      exact ⟨_, rfl, o, dx, _, rfl, R.fa.obj, R.fa.no _ (by decide +kernel), _, rfl, g, _, _, _, rfl, rfl, SqL.of hg, at_of (j := 0) rfl rfl, _, rfl, g, _, _, _, rfl, rfl, SqL.of hg, at_of (j := 1) rfl rfl, o, dx, p1, p2, _, r.now, a, b, rfl, R.fa, ha, hb, hj, Tells.gives R k (told_way ha hb)⟩
    | parents =>
      refine ⟨_, rfl, rfl, _, rfl, ite2 (fun q => absurd q (by decide)) (fun _ => ?_)⟩
      refine ⟨_, rfl, rfl, _, rfl, ite2 (fun q => absurd q (by decide)) (fun _ => ?_)⟩
      refine ⟨_, rfl, rfl, _, rfl, ite2 (fun q => absurd q (by decide)) (fun _ => ?_)⟩
      refine ⟨_, rfl, rfl, _, rfl, ite2 (fun q => absurd q (by decide)) (fun _ => ?_)⟩
      refine ⟨_, rfl, rfl, _, rfl, ite2 (fun q => absurd q (by decide)) (fun _ => ?_)⟩
      refine ⟨_, rfl, rfl, _, rfl, ite2 (fun q => absurd q (by decide)) (fun _ => ?_)⟩
      refine ⟨_, rfl, rfl, _, rfl, ite2 (fun q => absurd q (by decide)) (fun _ => ?_)⟩
      exact ⟨_, rfl, o, dx, _, rfl, R.fa.obj, R.fa.no _ (by decide +kernel), o, dx, p1, p2, _, r.now, rfl, R.fa, Tells.gives R k (told_parents)⟩
end
end My
end
section
set_option Elab.async false
set_option linter.all false
set_option maxRecDepth 100000
set_option maxHeartbeats 2000000
namespace My
open PySem PySem.Spec PyProof.Rows L2
open PySem.W (Codec)
open LinkCut (Forest fits addTo turnedOn leastOn sumOf Rec State says tells)
section
variable {P : Program} {w : World} {K : PySem.W.Frag} {mg : Str → Option Value} {base : Heap}
theorem pe_ref {X : Cx} {x : Str} {a : Addr} {pos : Pos} (hg : Gl X x) (hm : X.mg x = some (.ref a)) (hd : (x == ("__debug__" : Str)) = false := by decide) : PE X (.Name x pos) (tC (.ref a)) := pe_glob (v := V.ref a) hg hm rfl hd
def spCall (C : Addr) : Sp := fun vs H Q _ => ∃ (o g : Addr) (A : List Addr) (s : State) (p : Int) (args : List Int) (c : LinkCut.Call), vs = [.ref o, .int p, .ref g] ∧ StAt C H o A s ∧ Fine s ∧ H g = some (.lst (vi args)) ∧ View p args c ∧ Tells C H o A (LinkCut.step s c) Q
theorem Tells.same {C : Addr} {H H2 : Hp} {o : Addr} {A : List Addr} {x : State × LinkCut.Ans} {Q : VK} (k : Tells C H o A x Q) (s : Same H H2) : Tells C H2 o A x Q := fun H' q A' h1 h2 h3 h4 h5 =>
  k H' q A' h1 (fun b z e hb => h2 b z (s b z e) hb) (fun z hz => (h3 z hz).imp id s.free) (s.free h4) h5
theorem in_int (p : Int) (L : List Int) : inV (V.int p) (L.map V.int) = decide (p ∈ L) := by
  unfold inV
  rw [List.any_map]
  induction L with
  | nil => rfl
  | cons a l ih =>
    rw [List.any_cons, ih]
    show (a == p || _) = _
    by_cases e : a = p
    · subst e
      simp
    · have e' : ¬ p = a := fun q => e q.symm
      simp [e, e']
theorem int_flat (L : List Int) : (L.map V.int).all flatV = true := vi_flat L
theorem view_open {p : Int} {args : List Int} {c : LinkCut.Call} (v : View p args c) (h : ¬ p = 1) : isOpen c = false := by
  cases v <;> first | rfl | exact absurd rfl h
abbrev nodeTab : List (Int × Int) := [(2, 2), (3, 1), (4, 1), (5, 1), (6, 1), (7, 2), (8, 2), (9, 2), (10, 2), (11, 2), (12, 1), (13, 0), (14, 0), (15, 2), (16, 0)]
abbrev numTab : List (Int × Int) := [(1, 1), (2, 2), (3, 1), (4, 1), (5, 1), (6, 2), (7, 3), (8, 2), (9, 3), (10, 3), (11, 2), (12, 1), (13, 0), (14, 1), (15, 2), (16, 0)]
theorem view_nodes {p : Int} {args : List Int} {c : LinkCut.Call} (v : View p args c) (h : ¬ p = 1) : ∃ k : Nat, nodeTab.lookup p = some (k : Int) ∧ k ≤ args.length ∧ args.take k = (nodesOf c).map fun (n : Nat) => (n : Int) := by
  cases v with
  | open_ n => exact absurd rfl h
  | link a b => exact ⟨2, by decide, by simp, rfl⟩
  | cut a => exact ⟨1, by decide, by simp, rfl⟩
  | root a => exact ⟨1, by decide, by simp, rfl⟩
  | reroot a => exact ⟨1, by decide, by simp, rfl⟩
  | put a v => exact ⟨1, by decide, by simp, rfl⟩
  | add a b d => exact ⟨2, by decide, by simp, rfl⟩
  | path a b => exact ⟨2, by decide, by simp, rfl⟩
  | place a b i => exact ⟨2, by decide, by simp, rfl⟩
  | find a b v => exact ⟨2, by decide, by simp, rfl⟩
  | meet a b => exact ⟨2, by decide, by simp, rfl⟩
  | below a => exact ⟨1, by decide, by simp, rfl⟩
  | mark => exact ⟨0, by decide, by simp, rfl⟩
  | back i => exact ⟨0, by decide, by simp, rfl⟩
  | way a b => exact ⟨2, by decide, by simp, rfl⟩
  | parents => exact ⟨0, by decide, by simp, rfl⟩
theorem view_nums {p : Int} {args : List Int} {c : LinkCut.Call} (v : View p args c) : numTab.lookup p = some ((args.length : Nat) : Int) := by
  cases v <;> rfl
theorem view_join {p : Int} {args : List Int} {c : LinkCut.Call} (v : View p args c) (h : p ∈ ([7, 8, 9, 10, 11, 15] : List Int)) : ∃ (a b : Nat) (rest : List Int), args = (a : Int) :: (b : Int) :: rest ∧ nodesOf c = [a, b] ∧ (∀ r : Rec, r.now.joined a b = true → Jn r c) ∧
    (∀ r : Rec, a < r.now.par.length → b < r.now.par.length → ¬ r.now.joined a b = true → LinkCut.step (some r) c = (some r, says (-2))) := by
  have key : ∀ (r : Rec) (a b : Nat) (f : Rec → State × LinkCut.Ans), a < r.now.par.length → b < r.now.par.length → ¬ r.now.joined a b = true → LinkCut.ofJoined (some r) a b f = (some r, says (-2)) := by
    intro r a b f ha hb hj
    unfold LinkCut.ofJoined
    rw [two_in _ ha hb]
    exact if_pos (by simpa using hj)
  cases v with
  | open_ n => exact absurd h (by decide)
  | link a b => exact absurd h (by decide)
  | cut a => exact absurd h (by decide)
  | root a => exact absurd h (by decide)
  | reroot a => exact absurd h (by decide)
  | put a v => exact absurd h (by decide)
  | add a b d => exact ⟨a, b, [(d : Int)], rfl, rfl, fun _ h => h, fun r ha hb hj => key r a b _ ha hb hj⟩
  | path a b => exact ⟨a, b, [], rfl, rfl, fun _ h => h, fun r ha hb hj => key r a b _ ha hb hj⟩
  | place a b i => exact ⟨a, b, [(i : Int)], rfl, rfl, fun _ h => h, fun r ha hb hj => key r a b _ ha hb hj⟩
  | find a b v => exact ⟨a, b, [(v : Int)], rfl, rfl, fun _ h => h, fun r ha hb hj => key r a b _ ha hb hj⟩
  | meet a b => exact ⟨a, b, [], rfl, rfl, fun _ h => h, fun r ha hb hj => key r a b _ ha hb hj⟩
  | below a => exact absurd h (by decide)
  | mark => exact absurd h (by decide)
  | back i => exact absurd h (by decide)
  | way a b => exact ⟨a, b, [], rfl, rfl, fun _ h => h, fun r ha hb hj => key r a b _ ha hb hj⟩
  | parents => exact absurd h (by decide)
theorem view_free {p : Int} {args : List Int} {c : LinkCut.Call} (v : View p args c) (h : p ∉ ([7, 8, 9, 10, 11, 15] : List Int)) (r : Rec) : Jn r c := by
  cases v with
  | open_ n => exact trivial
  | link a b => exact trivial
  | cut a => exact trivial
  | root a => exact trivial
  | reroot a => exact trivial
  | put a v => exact trivial
  | add a b d => exact absurd (by decide) h
  | path a b => exact absurd (by decide) h
  | place a b i => exact absurd (by decide) h
  | find a b v => exact absurd (by decide) h
  | meet a b => exact absurd (by decide) h
  | below a => exact trivial
  | mark => exact trivial
  | back i => exact trivial
  | way a b => exact absurd (by decide) h
  | parents => exact trivial
theorem view_rest {p : Int} {args : List Int} {c : LinkCut.Call} (v : View p args c) (h1 : ¬ p = 1) (h : p ∉ ([2, 3, 5, 6, 7, 13, 14] : List Int)) : p ∈ ([4, 8, 9, 10, 11, 12, 15, 16] : List Int) := by
  cases v with
  | open_ n => exact absurd rfl h1
  | link a b => exact absurd (by decide) h
  | cut a => exact absurd (by decide) h
  | root a => exact by decide
  | reroot a => exact absurd (by decide) h
  | put a v => exact absurd (by decide) h
  | add a b d => exact absurd (by decide) h
  | path a b => exact by decide
  | place a b i => exact by decide
  | find a b v => exact by decide
  | meet a b => exact by decide
  | below a => exact by decide
  | mark => exact absurd (by decide) h
  | back i => exact absurd (by decide) h
  | way a b => exact by decide
  | parents => exact by decide
theorem ok_answer_call {f C f1 f2 f3 f4 g1 g2 : Addr} {fd fd1 fd2 fd3 fd4 gd1 gd2 : FuncData} (F : Fun K "answer_call" "answer_call" s_answer_call f fd) (T : Txt K mg C)
    (G_begin : FnOk P w K mg base CX0 1 f1 fd1 ["self", "n"] (spBegin C)) (b_begin : Binds K fd1 ["self", "n"] []) (m_begin : Meth K C "begin" f1)
    (G_is_there : FnOk P w K mg base CX0 1 f2 fd2 ["self"] (spIsThere C)) (b_is_there : Binds K fd2 ["self"] []) (m_is_there : Meth K C "is_there" f2)
    (G_has_node : FnOk P w K mg base CX0 1 f3 fd3 ["self", "node"] (spHasNode C)) (b_has_node : Binds K fd3 ["self", "node"] []) (m_has_node : Meth K C "has_node" f3)
    (G_are_joined : FnOk P w K mg base CX0 3 f4 fd4 ["self", "a", "b"] (spJoined C)) (b_are_joined : Binds K fd4 ["self", "a", "b"] []) (m_are_joined : Meth K C "are_joined" f4)
    (F_answer_change : Fun K "answer_change" "answer_change" s_answer_change g1 gd1) (mg_answer_change : mg "answer_change" = some (.ref g1)) (G_answer_change : FnOk P w K mg base CX0 5 g1 gd1 ["forest", "call", "given"] (spChange C)) (b_answer_change : Binds K gd1 ["forest", "call", "given"] [])
    (F_answer_question : Fun K "answer_question" "answer_question" s_answer_question g2 gd2) (mg_answer_question : mg "answer_question" = some (.ref g2)) (G_answer_question : FnOk P w K mg base CX0 5 g2 gd2 ["forest", "call", "given"] (spQuestion C)) (b_answer_question : Binds K gd2 ["forest", "call", "given"] [])
    : FnOk P w K mg base CX0 6 f fd ["forest", "call", "given"] (spCall C) := by
  refine F.ok sc_answer_call (fun vs H Q E h => ?_) (fun cdv A outer s H vs Q E hr h => ?_)
  · obtain ⟨o, g, A', s', p, args, c, rfl, _⟩ := h
    rfl
  · obtain ⟨o, g, A', s', p, args, c, rfl, S, fine, hg, hv, k⟩ := h
    obtain ⟨aN, h_NODE_COUNTS, mdN⟩ := T.d_NODE_COUNTS
    obtain ⟨aJ, h_JOINED_CALLS, mtJ⟩ := T.d_JOINED_CALLS
    obtain ⟨aC, h_CHANGING_CALLS, mtC⟩ := T.d_CHANGING_CALLS
    refine ⟨_, (pss_cons (ps_if (pt_cmpR op_eq (pv 1) (pe_const rfl T.g_CALL_OPEN) (nomark _))
        (pss_one (ps_ret (pe_meth (pv 0) T.cl m_begin G_begin (hr.mono (by decide)) b_begin .nil pass0 (pa_cons (pe_ix ix_list (pv 2) pe_int (fun _ _ => rfl)) pa_nil))))
        pss_nil)
        (pss_cons (ps_if (pt_not (pt_truth (pe_meth0 (pv 0) T.cl m_is_there G_is_there (hr.mono (by decide)) b_is_there .nil pass0) (fun _ => rfl)))
        (pss_one (ps_ret (pe_lst (pa_cons (pe_const rfl T.g_NO_FOREST) pa_nil))))
        pss_nil)
        (pss_cons (ps_for PassesOwn.never rfl (pi_list (pe_slice sl_list (pv 2) po_none (po_some (pe_mdget (pe_ref rfl h_NODE_COUNTS) (pv 1) (fun _ _ => rfl))))) (pg_name (i := 3) sc_answer_call.nd rfl (Or.inl rfl))
        (pss_one (ps_if (pt_not (pt_truth (pe_meth (pv 0) T.cl m_has_node G_has_node (hr.mono (by decide)) b_has_node .nil pass0 (pa_cons (pv 3) pa_nil)) (fun _ => rfl)))
        (pss_one (ps_ret (pe_lst (pa_cons (pe_const rfl T.g_NO_SUCH_NODE) pa_nil))))
        pss_nil)))
        (pss_cons (ps_if (PW.pt (pw_and (pt_cmpR op_in_seq (pv 1) (pe_ref rfl h_JOINED_CALLS) rfl) (pw_and1 (pt_not (pt_truth (pe_meth (pv 0) T.cl m_are_joined G_are_joined (hr.mono (by decide)) b_are_joined .nil pass0 (pa_cons (pe_ix ix_list (pv 2) pe_int (fun _ _ => rfl)) (pa_cons (pe_ix ix_list (pv 2) pe_int (fun _ _ => rfl)) pa_nil))) (fun _ => rfl))))))
        (pss_one (ps_ret (pe_lst (pa_cons (pe_const rfl T.g_NOT_JOINED) pa_nil))))
        pss_nil)
        (pss_cons (ps_if (pt_cmpR op_in_seq (pv 1) (pe_ref rfl h_CHANGING_CALLS) rfl)
        (pss_one (ps_ret (pe_call G_answer_change (hr.mono (by decide)) rfl mg_answer_change F_answer_change.kp b_answer_change .nil pass0 (pa_cons (pv 0) (pa_cons (pv 1) (pa_cons (pv 2) pa_nil))))))
        pss_nil)
        (pss_one (ps_ret (pe_call G_answer_question (hr.mono (by decide)) rfl mg_answer_question F_answer_question.kp b_answer_question .nil pass0 (pa_cons (pv 0) (pa_cons (pv 1) (pa_cons (pv 2) pa_nil))))))))))), ?_⟩
    refine ⟨_, rfl, rfl, _, rfl, ite2 (fun q => ?_) (fun q => ?_)⟩
    · have hp1 : p = 1 := by simpa using q
      obtain ⟨dx, p1, p2, p3, eA, ho⟩ := S.obj
      cases hv with
      | open_ n => exact ⟨_, rfl, o, dx, _, rfl, ho, ff_no _ _ _ (by decide +kernel), _, rfl, g, _, _, _, rfl, rfl, SqL.of hg, at_of (j := 0) rfl rfl, o, A', s', n, rfl, S, k⟩
      | _ => exact absurd hp1 (by decide)
    have hp1 : ¬ p = 1 := fun z => q (by rw [z]; rfl)
    have hop := view_open hv hp1
    cases s' with
    | none =>
      have S' := S
      obtain ⟨dx, p1, p2, p3, eA, ho, hl⟩ := S'
      refine ⟨_, rfl, o, dx, _, rfl, ho, ff_no _ _ _ (by decide +kernel), o, dx, p1, _, _, rfl, ho, ff_p _ _ _, hl, _, rfl, ite2 (fun q2 => ?_) (fun q2 => absurd rfl q2)⟩
      rw [step_no hop] at k
      exact ⟨line_le (by simp), fun l hl => k.keep S (Same.refl _) hl rfl⟩
    | some r =>
      have S' := S
      obtain ⟨dx, p1, p2, p3, ts, rfl, R⟩ := S'
      have hpos := R.fa.good.pos
      refine ⟨_, rfl, o, dx, _, rfl, R.fa.obj, R.fa.no _ (by decide +kernel), o, dx, p1, _, _, rfl, R.fa.obj, R.fa.fp, R.fa.pl, _, rfl, ite2 (fun q2 => ?_) (fun q2 => ?_)⟩
      · rw [vp_len, decide_eq_true hpos] at q2
        cases q2
      obtain ⟨kn, hk, hkl, htk⟩ := view_nodes hv hp1
      refine ⟨_, rfl, _, rfl, aN, _, p, _, rfl, rfl, mdN, hk, _, rfl, g, _, rfl, SqL.of hg, fun l1 hl1 => ?_⟩
      have ec : cutV (vi args) none (some (kn : Int)) = vn (nodesOf c) := by
        rw [cut_to (vi args) kn (by rw [vi_len]; exact hkl)]
        unfold vi vn
        rw [← List.map_take, htk, List.map_map]
        rfl
      rw [ec]
      have sm := same_upd (.lst (vn (nodesOf c))) (Same.refl H) hl1
      have R1 := R.same sm
      refine ⟨l1, rfl, ⟨_, SqL.of upd_same⟩, for_list (K := K) (a := l1) (xs := vn (nodesOf c)) (fun i σ H' => ∃ v3 : Option V, σ = [some (.ref o), some (.int p), some (.ref g), v3] ∧ H' = upd H l1 (.lst (vn (nodesOf c))) ∧ ∀ (j x : Nat), j < i → (nodesOf c)[j]? = some x → x < r.now.par.length)
        ⟨none, rfl, rfl, fun j x hj => absurd hj (Nat.not_lt_zero j)⟩ (fun i σ H' _ ⟨_, _, e, _⟩ => by subst e; exact SqL.of upd_same) ?_ ?_⟩
      · rintro i x σ H' hx ⟨v3, rfl, rfl, hall⟩
        obtain ⟨n, hn, rfl⟩ := vn_of hx
        refine ⟨_, rfl, o, dx, _, rfl, R1.fa.obj, R1.fa.no _ (by decide +kernel), _, rfl, o, dx, p1, _, _, (n : Int), rfl, R1.fa.obj, R1.fa.fp, R1.fa.pl, _, rfl, ite2 (fun q3 => ?_) (fun q3 => ?_)⟩
        · rw [vp_len] at q3
          have q3' : r.now.par.length ≤ n := by
            have : ¬ (n : Int) < ((r.now.par.length : Nat) : Int) := fun z => by
              rw [decide_eq_true z] at q3
              cases q3
            omega
          rw [step_out (List.mem_of_getElem? hn) q3'] at k
          exact ⟨line_le (by simp), fun l hl => k.keep S sm hl rfl⟩
        · rw [vp_len] at q3
          have q3' : n < r.now.par.length := by
            have : (n : Int) < ((r.now.par.length : Nat) : Int) := Classical.byContradiction fun z => q3 (by rw [decide_eq_false z]; rfl)
            omega
          refine ⟨_, rfl, rfl, fun j x hj hx' => ?_⟩
          by_cases e : j = i
          · subst e
            have : x = n := Option.some.inj (hx'.symm.trans hn)
            subst this
            exact q3'
          · exact hall j x (by omega) hx'
      · rintro σ H' ⟨v3, rfl, rfl, hall0⟩
        rw [vn_len] at hall0
        have hall : ∀ x ∈ nodesOf c, x < r.now.par.length := fun x hx => by
          obtain ⟨j, hj⟩ := List.mem_iff_getElem?.mp hx
          exact hall0 j x (List.getElem?_eq_some_iff.mp hj).1 hj
        refine ⟨_, rfl, aJ, _, rfl, .inr (mtJ.seq _), rfl, int_flat _, _, rfl, ite2 (fun q => ?_) (fun q => ?_)⟩
        · have hm : p ∈ ([7, 8, 9, 10, 11, 15] : List Int) := of_decide_eq_true ((in_int p _).symm.trans q)
          obtain ⟨a, b, rest, ea, en, hj1, hj2⟩ := view_join hv hm
          have ha : a < r.now.par.length := hall a (by rw [en]; simp)
          have hb : b < r.now.par.length := hall b (by rw [en]; simp)
          have hg1 := sm _ _ hg
          have e0 : (vi args)[0]? = some (V.int (a : Int)) := by rw [ea]; rfl
          have e1 : (vi args)[1]? = some (V.int (b : Int)) := by rw [ea]; rfl
          refine ⟨_, rfl, o, dx, _, rfl, R1.fa.obj, R1.fa.no _ (by decide +kernel), _, rfl, g, _, _, _, rfl, rfl, SqL.of hg1, at_of (j := 0) rfl e0, _, rfl, g, _, _, _, rfl, rfl, SqL.of hg1, at_of (j := 1) rfl e1, o, dx, p1, p2, _, r.now, a, b, rfl, R1.fa, ha, hb, fun H2 s2 => ?_⟩
          have sm2 := sm.trans s2
          refine ⟨_, rfl, ite2 (fun q4 => ?_) (fun q4 => ?_)⟩
          · rw [hj2 r ha hb (fun z => by rw [z] at q4; cases q4)] at k
            exact ⟨line_le (by simp), fun l hl => k.keep S sm2 hl rfl⟩
          · have hj : Jn r c := hj1 r (Classical.byContradiction fun z => q4 (by simpa using z))
            refine ⟨_, rfl, aC, _, rfl, .inr (mtC.seq _), rfl, int_flat _, _, rfl, ite2 (fun q => ?_) (fun q => ?_)⟩
            · have hm : p ∈ ([2, 3, 5, 6, 7, 13, 14] : List Int) := of_decide_eq_true ((in_int p _).symm.trans q)
              exact ⟨_, rfl, _, rfl, _, rfl, o, g, _, r, p, args, c, rfl, S.same sm2, fine, sm2 _ _ hg, hv, hm, hall, hj, k.same sm2⟩
            · have hm : p ∉ ([2, 3, 5, 6, 7, 13, 14] : List Int) := fun z => q ((in_int p _).trans (decide_eq_true z))
              exact ⟨_, rfl, _, rfl, _, rfl, o, g, _, r, p, args, c, rfl, S.same sm2, fine, sm2 _ _ hg, hv, view_rest hv hp1 hm, hall, hj, k.same sm2⟩
        · have hm : p ∉ ([7, 8, 9, 10, 11, 15] : List Int) := fun z => q ((in_int p _).trans (decide_eq_true z))
          have hj : Jn r c := view_free hv hm r
          refine iteF ?_
          refine ⟨_, rfl, aC, _, rfl, .inr (mtC.seq _), rfl, int_flat _, _, rfl, ite2 (fun q => ?_) (fun q => ?_)⟩
          · have hm : p ∈ ([2, 3, 5, 6, 7, 13, 14] : List Int) := of_decide_eq_true ((in_int p _).symm.trans q)
            exact ⟨_, rfl, _, rfl, _, rfl, o, g, _, r, p, args, c, rfl, S.same sm, fine, sm _ _ hg, hv, hm, hall, hj, k.same sm⟩
          · have hm : p ∉ ([2, 3, 5, 6, 7, 13, 14] : List Int) := fun z => q ((in_int p _).trans (decide_eq_true z))
            exact ⟨_, rfl, _, rfl, _, rfl, o, g, _, r, p, args, c, rfl, S.same sm, fine, sm _ _ hg, hv, view_rest hv hp1 hm, hall, hj, k.same sm⟩
end
end My
end
section
set_option Elab.async false
set_option linter.all false
set_option maxRecDepth 100000
set_option maxHeartbeats 2000000
namespace My
open PySem PySem.Spec PyProof.Rows L2
open PySem.W (Codec)
open LinkCut (Forest fits addTo turnedOn leastOn sumOf Rec State says tells)
section
variable {P : Program} {w : World} {K : PySem.W.Frag} {mg : Str → Option Value} {base : Heap}
def spAnswers (K : PySem.W.Frag) : Sp := fun vs H Q _ => ∃ (a : Addr) (ns : List Int), vs = [.ref a] ∧ SqL K H a (ns.map V.int) ∧ ns.length ≤ 16000 ∧ PyWqaqah.answers_asked ns = true ∧ ∀ (H' : Hp) (p : Addr), H' p = some (.lst ((PyWqaqah.answers ns).map V.int)) → Q (.ref p) H'
theorem vi_app (l m : List Int) : vi (l ++ m) = vi l ++ vi m := List.map_append
theorem StAt.other {C : Addr} {H : Hp} {o l : Addr} {A : List Addr} {xs : List V} (ys : List V) : ∀ {s : State}, StAt C H o A s → l ∉ A → H l = some (.lst xs) → StAt C (upd H l (.lst ys)) o A s
  | none, ⟨dx, p1, p2, p3, e, h1, h2⟩, nl, hl => by
    subst e
    simp at nl
    exact ⟨dx, p1, p2, p3, rfl, by rw [upd_ne (fun z => nl.1 z.symm)]; exact h1, by rw [upd_ne (fun z => nl.2.1 z.symm)]; exact h2⟩
  | some r, ⟨dx, p1, p2, p3, ts, e, R⟩, nl, hl => by
    subst e
    simp at nl
    obtain ⟨a0, a1, a2, a3⟩ := nl
    have fr : Frame [l] H (upd H l (.lst ys)) := (frame_same (Same.refl _)).upd_in _ (by simp)
    have ni : ∀ b, ¬ l = b → b ∉ [l] := fun b z => by simp; exact fun q => z q.symm
    refine ⟨dx, p1, p2, p3, ts, rfl, ⟨fr _ _ R.fa.obj (ni _ a0), R.fa.fp, R.fa.fv, R.fa.no, fr _ _ R.fa.pl (ni _ a1), fr _ _ R.fa.vl (ni _ a2), R.fa.ne, R.fa.good⟩, fr _ _ R.ml (ni _ a3), R.n1, R.n2, R.len, fun i t f h1 h2 => (R.ms i t f h1 h2).frame fr fun z hz zs e => ?_⟩
    rw [List.mem_singleton.mp hz, hl] at e
    cases e
structure Loop (C : Addr) (H H' : Hp) (ns : List Int) (x l : Addr) (s : State) (A : List Addr) (place : Nat) (told : List Int) : Prop where
  run : Run ns s place told
  st : StAt C H' x A s
  sm : Same H H'
  own : ∀ z ∈ A, H z = none
  fl : H l = none
  nl : l ∉ A
  tl : H' l = some (.lst (vi told))
theorem ok_answers {f C f1 g1 : Addr} {fd fd1 gd1 : FuncData} (F : Fun K "answers" "answers" s_answers f fd) (T : Txt K mg C)
    (M_Forest : Mk K C f1) (G_Forest___init__ : FnOk P w K mg base CX0 1 f1 fd1 ["self"] (spInit C)) (b_Forest___init__ : Binds K fd1 ["self"] [])
    (F_answer_call : Fun K "answer_call" "answer_call" s_answer_call g1 gd1) (mg_answer_call : mg "answer_call" = some (.ref g1)) (G_answer_call : FnOk P w K mg base CX0 6 g1 gd1 ["forest", "call", "given"] (spCall C)) (b_answer_call : Binds K gd1 ["forest", "call", "given"] [])
    : FnOk P w K mg base CX0 7 f fd ["calls"] (spAnswers K) := by
  refine F.ok sc_answers (fun vs H Q E h => ?_) (fun cdv A outer s H vs Q E hr h => ?_)
  · obtain ⟨a, ns, rfl, _⟩ := h
    rfl
  · obtain ⟨a, ns, rfl, hS, hlen, hask, k⟩ := h
    obtain ⟨aM, h_NUMBER_COUNTS, mdM⟩ := T.d_NUMBER_COUNTS
    refine ⟨_, (pss_cons (ps_set (i := 1) sc_answers.nd rfl (Or.inl rfl) (pe_make0 M_Forest G_Forest___init__ (hr.mono (by decide)) rfl T.mg_Forest b_Forest___init__ .nil pass0))
        (pss_cons (ps_set (i := 2) sc_answers.nd rfl (Or.inl rfl) (pe_lst pa_nil))
        (pss_cons (ps_set (i := 3) sc_answers.nd rfl (Or.inl rfl) pe_int)
        (pss_cons (ps_while PassesOwn.never (pt_cmpR op_lt (pv 3) (pe_callB call_len_seq (by rfl) T.b_len PySem.boot_len (pa_cons (pv 0) pa_nil)) (nomark _))
        (pss_cons (ps_set (i := 4) sc_answers.nd rfl (Or.inl rfl) (pe_ix ix_list (pv 0) (pv 3) (fun _ _ => rfl)))
        (pss_cons (ps_set (i := 5) sc_answers.nd rfl (Or.inl rfl) (pe_op op_add (pe_op op_add (pv 3) pe_int) (pe_mdget (pe_ref rfl h_NUMBER_COUNTS) (pv 4) (fun _ _ => rfl))))
        (pss_cons (ps_set (i := 6) sc_answers.nd rfl (Or.inl rfl) (pe_call G_answer_call (hr.mono (by decide)) rfl mg_answer_call F_answer_call.kp b_answer_call .nil pass0 (pa_cons (pv 1) (pa_cons (pv 4) (pa_cons (pe_slice sl_list (pv 0) (po_some (pe_op op_add (pv 3) pe_int)) (po_some (pv 5))) pa_nil)))))
        (pss_cons (ps_expr (pe_bm PySem.F.plainAttrs_list PySem.F.slot_list_append PySem.F.type_list_append mt_append (pv 2) (pa_cons (pe_callB call_len_seq (by rfl) T.b_len PySem.boot_len (pa_cons (pv 6) pa_nil)) pa_nil)))
        (pss_cons (ps_expr (pe_bm PySem.F.plainAttrs_list PySem.F.slot_list_extend PySem.F.type_list_extend mt_extend (pv 2) (pa_cons (pv 6) pa_nil)))
        (pss_one (ps_set (i := 3) sc_answers.nd rfl (Or.inl rfl) (pv 5)))))))))
        (pss_one (ps_ret (pv 2))))))), ?_⟩
    intro x dx nx ndx nex
    refine ⟨x, dx, rfl, upd_same, fun H1 p1 p2 p3 S0 c2 c3 n1 n2 n3 fr0 => ⟨rfl, ?_⟩⟩
    have s1 : Same H H1 := Same.made nx ndx fun b o e hb => fr0 b o e (by simp [hb])
    have g1 := (free_of (free_of n1).1).1
    have g2 := (free_of (free_of n2).1).1
    have g3 := (free_of (free_of n3).1).1
    refine ⟨Nat.zero_le _, fun l hl => ?_⟩
    have gl := s1.free hl
    have nl : l ∉ [x, p1, p2, p3] := by
      have S0' := S0
      obtain ⟨_, q1, q2, q3, e, h1, h2⟩ := S0'
      injection e with _ e
      injection e with e _
      subst e
      intro hm
      simp at hm
      rcases hm with z | z | z | z
      · rw [← z, hl] at h1; cases h1
      · rw [← z, hl] at h2; cases h2
      · rw [← z, hl] at c2; cases c2
      · rw [← z, hl] at c3; cases c3
    refine ⟨fun m σ H' => ∃ (s : State) (A : List Addr) (place : Nat) (told : List Int) (pl : Int) (v4 v5 v6 : Option V), σ = [some (.ref a), some (.ref x), some (.ref l), some (.int pl), v4, v5, v6] ∧ pl = (place : Int) ∧ place + m = ns.length ∧ Loop C H H' ns x l s A place told,
      ⟨ns.length, none, _, 0, [], 0, none, none, none, rfl, rfl, by omega, Run.start hask, S0.same (same_upd _ (Same.refl _) hl), same_upd _ s1 gl, ?_, gl, nl, upd_same⟩, ?_⟩
    · intro z hz
      simp at hz
      rcases hz with rfl | rfl | rfl | rfl
      · exact nx
      · exact g1
      · exact g2
      · exact g3
    rintro m σ H' ⟨s', A', place, told, pl, v4, v5, v6, rfl, rfl, hm, L⟩
    have hS' := L.sm.seq hS
    refine ⟨_, rfl, _, rfl, a, _, rfl, .inl hS', _, _, rfl, rfl, _, rfl, ite2 (fun q => ?_) (fun q => ?_)⟩
    · have q' := of_decide_eq_true q
      rw [List.length_map] at q'
      obtain ⟨p, hp⟩ : ∃ p, ns[place]? = some p := ⟨_, List.getElem?_eq_getElem (by omega)⟩
      obtain ⟨h1, h16, hpl, hak, htl, c, hc, hrun⟩ := L.run.next hp
      have hv := view hc hak
      have hal : ((ns.drop (place + 1)).take (nums p)).length = nums p := by
        rw [List.length_take, List.length_drop]
        omega
      have hnum := view_nums hv
      rw [hal] at hnum
      refine ⟨_, fun _ _ h => h, ?_⟩
      refine ⟨_, rfl, _, rfl, a, _, _, _, rfl, rfl, hS', atI_nat (v := V.int p) (by rw [List.getElem?_map, hp]; rfl), ?_⟩
      refine ⟨_, rfl, _, _, rfl, rfl, _, rfl, aM, _, p, _, rfl, rfl, mdM, hnum, _, _, rfl, rfl, ?_⟩
      refine ⟨_, rfl, _, rfl, _, rfl, _, rfl, _, _, rfl, rfl, _, rfl, _, rfl, _, rfl, a, _, rfl, hS', fun g hg => ?_⟩
      have ec : cutV (ns.map V.int) (some ((place : Int) + 1)) (some ((place : Int) + 1 + ((nums p : Nat) : Int))) = vi ((ns.drop (place + 1)).take (nums p)) := by
        have e1 : (place : Int) + 1 = ((place + 1 : Nat) : Int) := by omega
        have e2 : (place : Int) + 1 + ((nums p : Nat) : Int) = ((place + 1 + nums p : Nat) : Int) := by omega
        rw [e2, e1, cut_mid _ _ _ (by omega) (by rw [List.length_map]; omega), Nat.add_sub_cancel_left]
        unfold vi
        rw [List.map_take, List.map_drop]
      have smg := same_upd (.lst (cutV (ns.map V.int) (some ((place : Int) + 1)) (some ((place : Int) + 1 + ((nums p : Nat) : Int))))) (Same.refl H') hg
      have sfin := step_fine L.run.fine c
      refine ⟨x, g, A', s', p, _, c, rfl, L.st.same smg, L.run.fine, (by rw [← ec]; exact upd_same), hv, fun H2 q2 A2 S2 fr2 hA2 hq hq2 => ?_⟩
      have sg : Same H _ := L.sm.trans smg
      have hl2 : H2 l = some (.lst (vi told)) := fr2 _ _ (smg _ _ L.tl) L.nl
      have nlq : q2 ≠ l := fun z => ne_of_none (smg _ _ L.tl) hq z.symm
      have anslen : (vi ((LinkCut.step s' c).2.code :: (LinkCut.step s' c).2.nums)).length = (LinkCut.step s' c).2.nums.length + 1 := by
        rw [vi_len]
        rfl
      refine ⟨_, rfl, .inl ⟨rfl, _, SqL.of hl2⟩, _, rfl, q2, _, rfl, .inl (SqL.of hq2), l, _, _, rfl, rfl, hl2, (by rw [vi_len]; exact line_lt (by omega)), ?_⟩
      refine ⟨_, rfl, .inl ⟨rfl, _, SqL.of upd_same⟩, _, rfl, l, q2, _, _, rfl, rfl, upd_same, (by rw [upd_ne nlq]; exact hq2), ?_, ?_⟩
      · rw [List.length_append, vi_len, anslen]
        show told.length + 1 + _ ≤ _
        exact line_le (by omega)
      have nl2 : l ∉ A2 := fun z => by
        rcases hA2 l z with h | h
        · exact L.nl h
        · rw [smg _ _ L.tl] at h
          cases h
      refine ⟨_, rfl, m - (1 + nums p), by omega, _, A2, place + 1 + nums p, _, _, _, _, _, rfl, (by omega), (by omega), hrun, ?_, ?_, ?_, L.fl, nl2, ?_⟩
      · rw [upd_upd]
        exact S2.other _ nl2 hl2
      · rw [upd_upd]
        intro b y e
        have nb : b ≠ l := ne_of_none e L.fl
        rw [upd_ne nb]
        refine fr2 _ _ (sg _ _ e) fun hm => ?_
        rw [L.own b hm] at e
        cases e
      · intro z hz
        rcases hA2 z hz with h | h
        · exact L.own z h
        · exact sg.free h
      · rw [upd_same, anslen, vi_app, List.append_assoc]
        rfl
    · have q' : ¬ (place : Int) < (((ns.map V.int).length : Nat) : Int) := fun z => q (decide_eq_true z)
      rw [List.length_map] at q'
      have e := L.run.done (by omega)
      refine ⟨_, rfl, k H' l ?_⟩
      rw [L.tl, e]
      rfl
end
end My
end
set_option Elab.async false
set_option Elab.async false
set_option linter.all false
set_option maxRecDepth 100000
set_option maxHeartbeats 2000000
namespace My
open PySem PySem.Spec PyProof.Rows L2
open PySem.W (Codec)
theorem all_mk {P : Program} {w : World} {K : PySem.W.Frag} {h : Heap} {mg : Str → Option Value} {fa C : Addr} (X : K.In h) (G : h.Ns mainGlobals mg) (hfa : mg "answers" = some (.ref fa))
    {f0 : Addr} {od0 an0 : Option Addr} {sl0 : Array (Option Value)} {oc0 kV0 dc0 pm0 cd0 ct0 : Value}
    {f1 : Addr} {od1 an1 : Option Addr} {sl1 : Array (Option Value)} {oc1 kV1 dc1 pm1 cd1 ct1 : Value}
    {f2 : Addr} {od2 an2 : Option Addr} {sl2 : Array (Option Value)} {oc2 kV2 dc2 pm2 cd2 ct2 : Value}
    {f3 : Addr} {od3 an3 : Option Addr} {sl3 : Array (Option Value)} {oc3 kV3 dc3 pm3 cd3 ct3 : Value}
    {f4 : Addr} {od4 an4 : Option Addr} {sl4 : Array (Option Value)} {oc4 kV4 dc4 pm4 cd4 ct4 : Value}
    {f5 : Addr} {od5 an5 : Option Addr} {sl5 : Array (Option Value)} {oc5 kV5 dc5 pm5 cd5 ct5 : Value}
    {f6 : Addr} {od6 an6 : Option Addr} {sl6 : Array (Option Value)} {oc6 kV6 dc6 pm6 cd6 ct6 : Value}
    {f7 : Addr} {od7 an7 : Option Addr} {sl7 : Array (Option Value)} {oc7 kV7 dc7 pm7 cd7 ct7 : Value}
    {f8 : Addr} {od8 an8 : Option Addr} {sl8 : Array (Option Value)} {oc8 kV8 dc8 pm8 cd8 ct8 : Value}
    {f9 : Addr} {od9 an9 : Option Addr} {sl9 : Array (Option Value)} {oc9 kV9 dc9 pm9 cd9 ct9 : Value}
    {f10 : Addr} {od10 an10 : Option Addr} {sl10 : Array (Option Value)} {oc10 kV10 dc10 pm10 cd10 ct10 : Value}
    {f11 : Addr} {od11 an11 : Option Addr} {sl11 : Array (Option Value)} {oc11 kV11 dc11 pm11 cd11 ct11 : Value}
    {f12 : Addr} {od12 an12 : Option Addr} {sl12 : Array (Option Value)} {oc12 kV12 dc12 pm12 cd12 ct12 : Value}
    {f13 : Addr} {od13 an13 : Option Addr} {sl13 : Array (Option Value)} {oc13 kV13 dc13 pm13 cd13 ct13 : Value}
    {f14 : Addr} {od14 an14 : Option Addr} {sl14 : Array (Option Value)} {oc14 kV14 dc14 pm14 cd14 ct14 : Value}
    {f15 : Addr} {od15 an15 : Option Addr} {sl15 : Array (Option Value)} {oc15 kV15 dc15 pm15 cd15 ct15 : Value}
    {f16 : Addr} {od16 an16 : Option Addr} {sl16 : Array (Option Value)} {oc16 kV16 dc16 pm16 cd16 ct16 : Value}
    {f17 : Addr} {od17 an17 : Option Addr} {sl17 : Array (Option Value)} {oc17 kV17 dc17 pm17 cd17 ct17 : Value}
    {f18 : Addr} {od18 an18 : Option Addr} {sl18 : Array (Option Value)} {oc18 kV18 dc18 pm18 cd18 ct18 : Value}
    {f19 : Addr} {od19 an19 : Option Addr} {sl19 : Array (Option Value)} {oc19 kV19 dc19 pm19 cd19 ct19 : Value}
    {f20 : Addr} {od20 an20 : Option Addr} {sl20 : Array (Option Value)} {oc20 kV20 dc20 pm20 cd20 ct20 : Value}
    {f21 : Addr} {od21 an21 : Option Addr} {sl21 : Array (Option Value)} {oc21 kV21 dc21 pm21 cd21 ct21 : Value}
    {f22 : Addr} {od22 an22 : Option Addr} {sl22 : Array (Option Value)} {oc22 kV22 dc22 pm22 cd22 ct22 : Value}
    {f23 : Addr} {od23 an23 : Option Addr} {sl23 : Array (Option Value)} {oc23 kV23 dc23 pm23 cd23 ct23 : Value}
    {f24 : Addr} {od24 an24 : Option Addr} {sl24 : Array (Option Value)} {oc24 kV24 dc24 pm24 cd24 ct24 : Value}
    {f25 : Addr} {od25 an25 : Option Addr} {sl25 : Array (Option Value)} {oc25 kV25 dc25 pm25 cd25 ct25 : Value}
    {f26 : Addr} {od26 an26 : Option Addr} {sl26 : Array (Option Value)} {oc26 kV26 dc26 pm26 cd26 ct26 : Value}
    {f27 : Addr} {od27 an27 : Option Addr} {sl27 : Array (Option Value)} {oc27 kV27 dc27 pm27 cd27 ct27 : Value}
    {f28 : Addr} {od28 an28 : Option Addr} {sl28 : Array (Option Value)} {oc28 kV28 dc28 pm28 cd28 ct28 : Value}
    {f29 : Addr} {od29 an29 : Option Addr} {sl29 : Array (Option Value)} {oc29 kV29 dc29 pm29 cd29 ct29 : Value}
    {f30 : Addr} {od30 an30 : Option Addr} {sl30 : Array (Option Value)} {oc30 kV30 dc30 pm30 cd30 ct30 : Value}
    {t_MOST_NODES : Tok}
    {t_MOST_MARKS : Tok}
    {t_LIMIT : Tok}
    {t_NO_PARENT : Tok}
    {t_CALL_OPEN : Tok}
    {t_CALL_LINK : Tok}
    {t_CALL_CUT : Tok}
    {t_CALL_ROOT : Tok}
    {t_CALL_REROOT : Tok}
    {t_CALL_PUT : Tok}
    {t_CALL_ADD : Tok}
    {t_CALL_PATH : Tok}
    {t_CALL_PLACE : Tok}
    {t_CALL_FIND : Tok}
    {t_CALL_MEET : Tok}
    {t_CALL_BELOW : Tok}
    {t_CALL_MARK : Tok}
    {t_CALL_WAY : Tok}
    {t_NO_FOREST : Tok}
    {t_WRONG_SIZE : Tok}
    {t_NO_SUCH_NODE : Tok}
    {t_HAS_PARENT : Tok}
    {t_HAS_NO_PARENT : Tok}
    {t_NOT_JOINED : Tok}
    {t_PUT_PAST_LIMITS : Tok}
    {t_ALREADY_JOINED : Tok}
    {t_ADD_PAST_LIMITS : Tok}
    {t_NO_SUCH_PLACE : Tok}
    {t_NONE_FOUND : Tok}
    {t_TOO_MANY_MARKS : Tok}
    {t_NO_SUCH_MARK : Tok}
    {a_NUMBER_COUNTS : Addr} {o_NUMBER_COUNTS : Obj}
    {a_NODE_COUNTS : Addr} {o_NODE_COUNTS : Obj}
    {a_JOINED_CALLS : Addr} {o_JOINED_CALLS : Obj}
    {a_CHANGING_CALLS : Addr} {o_CHANGING_CALLS : Obj}
    (aC : PySem.W.nsIn K mainGlobals "Forest" = some (some (.ref C)))
    (a0 : PySem.W.nsIn K mainGlobals "within_limits" = some (some (.ref f0)))
    (l0 : K.lookup f0 = some ⟨oc0, od0, .func (PySem.W.fnOf "within_limits" "within_limits" (defArgs s_within_limits) (defBody s_within_limits) (defScope s_within_limits) .none kV0 dc0 pm0 an0 cd0 ct0), sl0⟩)
    (c0 : PySem.W.codeIn K cd0 "within_limits" = true)
    (k0 : PySem.W.keepIn K (.ref f0) = true)
    (a1 : PySem.W.findIn K (.ref C) "__init__" = some (some (.ref f1)))
    (i1 : PySem.W.isFn K (.ref f1) = true)
    (l1 : K.lookup f1 = some ⟨oc1, od1, .func (PySem.W.fnOf "__init__" "Forest.__init__" (defArgs s_init) (defBody s_init) (defScope s_init) .none kV1 dc1 pm1 an1 cd1 ct1), sl1⟩)
    (c1 : PySem.W.codeIn K cd1 "Forest.__init__" = true)
    (k1 : PySem.W.keepIn K (.ref f1) = true)
    (a2 : PySem.W.findIn K (.ref C) "is_there" = some (some (.ref f2)))
    (i2 : PySem.W.isFn K (.ref f2) = true)
    (l2 : K.lookup f2 = some ⟨oc2, od2, .func (PySem.W.fnOf "is_there" "Forest.is_there" (defArgs s_is_there) (defBody s_is_there) (defScope s_is_there) .none kV2 dc2 pm2 an2 cd2 ct2), sl2⟩)
    (c2 : PySem.W.codeIn K cd2 "Forest.is_there" = true)
    (k2 : PySem.W.keepIn K (.ref f2) = true)
    (a3 : PySem.W.findIn K (.ref C) "has_node" = some (some (.ref f3)))
    (i3 : PySem.W.isFn K (.ref f3) = true)
    (l3 : K.lookup f3 = some ⟨oc3, od3, .func (PySem.W.fnOf "has_node" "Forest.has_node" (defArgs s_has_node) (defBody s_has_node) (defScope s_has_node) .none kV3 dc3 pm3 an3 cd3 ct3), sl3⟩)
    (c3 : PySem.W.codeIn K cd3 "Forest.has_node" = true)
    (k3 : PySem.W.keepIn K (.ref f3) = true)
    (a4 : PySem.W.findIn K (.ref C) "nodes_above" = some (some (.ref f4)))
    (i4 : PySem.W.isFn K (.ref f4) = true)
    (l4 : K.lookup f4 = some ⟨oc4, od4, .func (PySem.W.fnOf "nodes_above" "Forest.nodes_above" (defArgs s_nodes_above) (defBody s_nodes_above) (defScope s_nodes_above) .none kV4 dc4 pm4 an4 cd4 ct4), sl4⟩)
    (c4 : PySem.W.codeIn K cd4 "Forest.nodes_above" = true)
    (k4 : PySem.W.keepIn K (.ref f4) = true)
    (a5 : PySem.W.findIn K (.ref C) "nodes_below" = some (some (.ref f5)))
    (i5 : PySem.W.isFn K (.ref f5) = true)
    (l5 : K.lookup f5 = some ⟨oc5, od5, .func (PySem.W.fnOf "nodes_below" "Forest.nodes_below" (defArgs s_nodes_below) (defBody s_nodes_below) (defScope s_nodes_below) .none kV5 dc5 pm5 an5 cd5 ct5), sl5⟩)
    (c5 : PySem.W.codeIn K cd5 "Forest.nodes_below" = true)
    (k5 : PySem.W.keepIn K (.ref f5) = true)
    (a6 : PySem.W.findIn K (.ref C) "root_above" = some (some (.ref f6)))
    (i6 : PySem.W.isFn K (.ref f6) = true)
    (l6 : K.lookup f6 = some ⟨oc6, od6, .func (PySem.W.fnOf "root_above" "Forest.root_above" (defArgs s_root_above) (defBody s_root_above) (defScope s_root_above) .none kV6 dc6 pm6 an6 cd6 ct6), sl6⟩)
    (c6 : PySem.W.codeIn K cd6 "Forest.root_above" = true)
    (k6 : PySem.W.keepIn K (.ref f6) = true)
    (a7 : PySem.W.findIn K (.ref C) "are_joined" = some (some (.ref f7)))
    (i7 : PySem.W.isFn K (.ref f7) = true)
    (l7 : K.lookup f7 = some ⟨oc7, od7, .func (PySem.W.fnOf "are_joined" "Forest.are_joined" (defArgs s_are_joined) (defBody s_are_joined) (defScope s_are_joined) .none kV7 dc7 pm7 an7 cd7 ct7), sl7⟩)
    (c7 : PySem.W.codeIn K cd7 "Forest.are_joined" = true)
    (k7 : PySem.W.keepIn K (.ref f7) = true)
    (a8 : PySem.W.findIn K (.ref C) "meeting_node" = some (some (.ref f8)))
    (i8 : PySem.W.isFn K (.ref f8) = true)
    (l8 : K.lookup f8 = some ⟨oc8, od8, .func (PySem.W.fnOf "meeting_node" "Forest.meeting_node" (defArgs s_meeting_node) (defBody s_meeting_node) (defScope s_meeting_node) .none kV8 dc8 pm8 an8 cd8 ct8), sl8⟩)
    (c8 : PySem.W.codeIn K cd8 "Forest.meeting_node" = true)
    (k8 : PySem.W.keepIn K (.ref f8) = true)
    (a9 : PySem.W.findIn K (.ref C) "nodes_between" = some (some (.ref f9)))
    (i9 : PySem.W.isFn K (.ref f9) = true)
    (l9 : K.lookup f9 = some ⟨oc9, od9, .func (PySem.W.fnOf "nodes_between" "Forest.nodes_between" (defArgs s_nodes_between) (defBody s_nodes_between) (defScope s_nodes_between) .none kV9 dc9 pm9 an9 cd9 ct9), sl9⟩)
    (c9 : PySem.W.codeIn K cd9 "Forest.nodes_between" = true)
    (k9 : PySem.W.keepIn K (.ref f9) = true)
    (a10 : PySem.W.findIn K (.ref C) "values_of" = some (some (.ref f10)))
    (i10 : PySem.W.isFn K (.ref f10) = true)
    (l10 : K.lookup f10 = some ⟨oc10, od10, .func (PySem.W.fnOf "values_of" "Forest.values_of" (defArgs s_values_of) (defBody s_values_of) (defScope s_values_of) .none kV10 dc10 pm10 an10 cd10 ct10), sl10⟩)
    (c10 : PySem.W.codeIn K cd10 "Forest.values_of" = true)
    (k10 : PySem.W.keepIn K (.ref f10) = true)
    (a11 : PySem.W.findIn K (.ref C) "begin" = some (some (.ref f11)))
    (i11 : PySem.W.isFn K (.ref f11) = true)
    (l11 : K.lookup f11 = some ⟨oc11, od11, .func (PySem.W.fnOf "begin" "Forest.begin" (defArgs s_begin) (defBody s_begin) (defScope s_begin) .none kV11 dc11 pm11 an11 cd11 ct11), sl11⟩)
    (c11 : PySem.W.codeIn K cd11 "Forest.begin" = true)
    (k11 : PySem.W.keepIn K (.ref f11) = true)
    (a12 : PySem.W.findIn K (.ref C) "link" = some (some (.ref f12)))
    (i12 : PySem.W.isFn K (.ref f12) = true)
    (l12 : K.lookup f12 = some ⟨oc12, od12, .func (PySem.W.fnOf "link" "Forest.link" (defArgs s_link) (defBody s_link) (defScope s_link) .none kV12 dc12 pm12 an12 cd12 ct12), sl12⟩)
    (c12 : PySem.W.codeIn K cd12 "Forest.link" = true)
    (k12 : PySem.W.keepIn K (.ref f12) = true)
    (a13 : PySem.W.findIn K (.ref C) "cut" = some (some (.ref f13)))
    (i13 : PySem.W.isFn K (.ref f13) = true)
    (l13 : K.lookup f13 = some ⟨oc13, od13, .func (PySem.W.fnOf "cut" "Forest.cut" (defArgs s_cut) (defBody s_cut) (defScope s_cut) .none kV13 dc13 pm13 an13 cd13 ct13), sl13⟩)
    (c13 : PySem.W.codeIn K cd13 "Forest.cut" = true)
    (k13 : PySem.W.keepIn K (.ref f13) = true)
    (a14 : PySem.W.findIn K (.ref C) "root" = some (some (.ref f14)))
    (i14 : PySem.W.isFn K (.ref f14) = true)
    (l14 : K.lookup f14 = some ⟨oc14, od14, .func (PySem.W.fnOf "root" "Forest.root" (defArgs s_root) (defBody s_root) (defScope s_root) .none kV14 dc14 pm14 an14 cd14 ct14), sl14⟩)
    (c14 : PySem.W.codeIn K cd14 "Forest.root" = true)
    (k14 : PySem.W.keepIn K (.ref f14) = true)
    (a15 : PySem.W.findIn K (.ref C) "reroot" = some (some (.ref f15)))
    (i15 : PySem.W.isFn K (.ref f15) = true)
    (l15 : K.lookup f15 = some ⟨oc15, od15, .func (PySem.W.fnOf "reroot" "Forest.reroot" (defArgs s_reroot) (defBody s_reroot) (defScope s_reroot) .none kV15 dc15 pm15 an15 cd15 ct15), sl15⟩)
    (c15 : PySem.W.codeIn K cd15 "Forest.reroot" = true)
    (k15 : PySem.W.keepIn K (.ref f15) = true)
    (a16 : PySem.W.findIn K (.ref C) "put" = some (some (.ref f16)))
    (i16 : PySem.W.isFn K (.ref f16) = true)
    (l16 : K.lookup f16 = some ⟨oc16, od16, .func (PySem.W.fnOf "put" "Forest.put" (defArgs s_put) (defBody s_put) (defScope s_put) .none kV16 dc16 pm16 an16 cd16 ct16), sl16⟩)
    (c16 : PySem.W.codeIn K cd16 "Forest.put" = true)
    (k16 : PySem.W.keepIn K (.ref f16) = true)
    (a17 : PySem.W.findIn K (.ref C) "add" = some (some (.ref f17)))
    (i17 : PySem.W.isFn K (.ref f17) = true)
    (l17 : K.lookup f17 = some ⟨oc17, od17, .func (PySem.W.fnOf "add" "Forest.add" (defArgs s_add) (defBody s_add) (defScope s_add) .none kV17 dc17 pm17 an17 cd17 ct17), sl17⟩)
    (c17 : PySem.W.codeIn K cd17 "Forest.add" = true)
    (k17 : PySem.W.keepIn K (.ref f17) = true)
    (a18 : PySem.W.findIn K (.ref C) "path" = some (some (.ref f18)))
    (i18 : PySem.W.isFn K (.ref f18) = true)
    (l18 : K.lookup f18 = some ⟨oc18, od18, .func (PySem.W.fnOf "path" "Forest.path" (defArgs s_path) (defBody s_path) (defScope s_path) .none kV18 dc18 pm18 an18 cd18 ct18), sl18⟩)
    (c18 : PySem.W.codeIn K cd18 "Forest.path" = true)
    (k18 : PySem.W.keepIn K (.ref f18) = true)
    (a19 : PySem.W.findIn K (.ref C) "place" = some (some (.ref f19)))
    (i19 : PySem.W.isFn K (.ref f19) = true)
    (l19 : K.lookup f19 = some ⟨oc19, od19, .func (PySem.W.fnOf "place" "Forest.place" (defArgs s_place) (defBody s_place) (defScope s_place) .none kV19 dc19 pm19 an19 cd19 ct19), sl19⟩)
    (c19 : PySem.W.codeIn K cd19 "Forest.place" = true)
    (k19 : PySem.W.keepIn K (.ref f19) = true)
    (a20 : PySem.W.findIn K (.ref C) "find" = some (some (.ref f20)))
    (i20 : PySem.W.isFn K (.ref f20) = true)
    (l20 : K.lookup f20 = some ⟨oc20, od20, .func (PySem.W.fnOf "find" "Forest.find" (defArgs s_find) (defBody s_find) (defScope s_find) .none kV20 dc20 pm20 an20 cd20 ct20), sl20⟩)
    (c20 : PySem.W.codeIn K cd20 "Forest.find" = true)
    (k20 : PySem.W.keepIn K (.ref f20) = true)
    (a21 : PySem.W.findIn K (.ref C) "meet" = some (some (.ref f21)))
    (i21 : PySem.W.isFn K (.ref f21) = true)
    (l21 : K.lookup f21 = some ⟨oc21, od21, .func (PySem.W.fnOf "meet" "Forest.meet" (defArgs s_meet) (defBody s_meet) (defScope s_meet) .none kV21 dc21 pm21 an21 cd21 ct21), sl21⟩)
    (c21 : PySem.W.codeIn K cd21 "Forest.meet" = true)
    (k21 : PySem.W.keepIn K (.ref f21) = true)
    (a22 : PySem.W.findIn K (.ref C) "below" = some (some (.ref f22)))
    (i22 : PySem.W.isFn K (.ref f22) = true)
    (l22 : K.lookup f22 = some ⟨oc22, od22, .func (PySem.W.fnOf "below" "Forest.below" (defArgs s_below) (defBody s_below) (defScope s_below) .none kV22 dc22 pm22 an22 cd22 ct22), sl22⟩)
    (c22 : PySem.W.codeIn K cd22 "Forest.below" = true)
    (k22 : PySem.W.keepIn K (.ref f22) = true)
    (a23 : PySem.W.findIn K (.ref C) "mark" = some (some (.ref f23)))
    (i23 : PySem.W.isFn K (.ref f23) = true)
    (l23 : K.lookup f23 = some ⟨oc23, od23, .func (PySem.W.fnOf "mark" "Forest.mark" (defArgs s_mark) (defBody s_mark) (defScope s_mark) .none kV23 dc23 pm23 an23 cd23 ct23), sl23⟩)
    (c23 : PySem.W.codeIn K cd23 "Forest.mark" = true)
    (k23 : PySem.W.keepIn K (.ref f23) = true)
    (a24 : PySem.W.findIn K (.ref C) "back" = some (some (.ref f24)))
    (i24 : PySem.W.isFn K (.ref f24) = true)
    (l24 : K.lookup f24 = some ⟨oc24, od24, .func (PySem.W.fnOf "back" "Forest.back" (defArgs s_back) (defBody s_back) (defScope s_back) .none kV24 dc24 pm24 an24 cd24 ct24), sl24⟩)
    (c24 : PySem.W.codeIn K cd24 "Forest.back" = true)
    (k24 : PySem.W.keepIn K (.ref f24) = true)
    (a25 : PySem.W.findIn K (.ref C) "way" = some (some (.ref f25)))
    (i25 : PySem.W.isFn K (.ref f25) = true)
    (l25 : K.lookup f25 = some ⟨oc25, od25, .func (PySem.W.fnOf "way" "Forest.way" (defArgs s_way) (defBody s_way) (defScope s_way) .none kV25 dc25 pm25 an25 cd25 ct25), sl25⟩)
    (c25 : PySem.W.codeIn K cd25 "Forest.way" = true)
    (k25 : PySem.W.keepIn K (.ref f25) = true)
    (a26 : PySem.W.findIn K (.ref C) "parents" = some (some (.ref f26)))
    (i26 : PySem.W.isFn K (.ref f26) = true)
    (l26 : K.lookup f26 = some ⟨oc26, od26, .func (PySem.W.fnOf "parents" "Forest.parents" (defArgs s_parents) (defBody s_parents) (defScope s_parents) .none kV26 dc26 pm26 an26 cd26 ct26), sl26⟩)
    (c26 : PySem.W.codeIn K cd26 "Forest.parents" = true)
    (k26 : PySem.W.keepIn K (.ref f26) = true)
    (a27 : PySem.W.nsIn K mainGlobals "answer_change" = some (some (.ref f27)))
    (l27 : K.lookup f27 = some ⟨oc27, od27, .func (PySem.W.fnOf "answer_change" "answer_change" (defArgs s_answer_change) (defBody s_answer_change) (defScope s_answer_change) .none kV27 dc27 pm27 an27 cd27 ct27), sl27⟩)
    (c27 : PySem.W.codeIn K cd27 "answer_change" = true)
    (k27 : PySem.W.keepIn K (.ref f27) = true)
    (a28 : PySem.W.nsIn K mainGlobals "answer_question" = some (some (.ref f28)))
    (l28 : K.lookup f28 = some ⟨oc28, od28, .func (PySem.W.fnOf "answer_question" "answer_question" (defArgs s_answer_question) (defBody s_answer_question) (defScope s_answer_question) .none kV28 dc28 pm28 an28 cd28 ct28), sl28⟩)
    (c28 : PySem.W.codeIn K cd28 "answer_question" = true)
    (k28 : PySem.W.keepIn K (.ref f28) = true)
    (a29 : PySem.W.nsIn K mainGlobals "answer_call" = some (some (.ref f29)))
    (l29 : K.lookup f29 = some ⟨oc29, od29, .func (PySem.W.fnOf "answer_call" "answer_call" (defArgs s_answer_call) (defBody s_answer_call) (defScope s_answer_call) .none kV29 dc29 pm29 an29 cd29 ct29), sl29⟩)
    (c29 : PySem.W.codeIn K cd29 "answer_call" = true)
    (k29 : PySem.W.keepIn K (.ref f29) = true)
    (a30 : PySem.W.nsIn K mainGlobals "answers" = some (some (.ref f30)))
    (l30 : K.lookup f30 = some ⟨oc30, od30, .func (PySem.W.fnOf "answers" "answers" (defArgs s_answers) (defBody s_answers) (defScope s_answers) .none kV30 dc30 pm30 an30 cd30 ct30), sl30⟩)
    (c30 : PySem.W.codeIn K cd30 "answers" = true)
    (k30 : PySem.W.keepIn K (.ref f30) = true)
    (pg : PySem.W.plainGet K C Str.empty = true)
    (hd : PySem.W.hasDictIn K C = true)
    (po : PySem.W.plainOver K C = true)
    (sa : PySem.W.findIn K (.ref C) "__setattr__" = some (some (.builtin "object.__setattr__")))
    (mk : PySem.W.makesIn K C = true)
    (kc : PySem.W.keepIn K (.ref C) = true)
    (n_parent_of : PySem.W.findIn K (.ref C) "parent_of" = some none)
    (n_value_of : PySem.W.findIn K (.ref C) "value_of" = some none)
    (n_marks : PySem.W.findIn K (.ref C) "marks" = some none)
    (g_MOST_NODES : PySem.W.nsIn K mainGlobals "MOST_NODES" = some (some (.int 32 t_MOST_NODES)))
    (g_MOST_MARKS : PySem.W.nsIn K mainGlobals "MOST_MARKS" = some (some (.int 8 t_MOST_MARKS)))
    (g_LIMIT : PySem.W.nsIn K mainGlobals "LIMIT" = some (some (.int 1000000000 t_LIMIT)))
    (g_NO_PARENT : PySem.W.nsIn K mainGlobals "NO_PARENT" = some (some (.int 99 t_NO_PARENT)))
    (g_CALL_OPEN : PySem.W.nsIn K mainGlobals "CALL_OPEN" = some (some (.int 1 t_CALL_OPEN)))
    (g_CALL_LINK : PySem.W.nsIn K mainGlobals "CALL_LINK" = some (some (.int 2 t_CALL_LINK)))
    (g_CALL_CUT : PySem.W.nsIn K mainGlobals "CALL_CUT" = some (some (.int 3 t_CALL_CUT)))
    (g_CALL_ROOT : PySem.W.nsIn K mainGlobals "CALL_ROOT" = some (some (.int 4 t_CALL_ROOT)))
    (g_CALL_REROOT : PySem.W.nsIn K mainGlobals "CALL_REROOT" = some (some (.int 5 t_CALL_REROOT)))
    (g_CALL_PUT : PySem.W.nsIn K mainGlobals "CALL_PUT" = some (some (.int 6 t_CALL_PUT)))
    (g_CALL_ADD : PySem.W.nsIn K mainGlobals "CALL_ADD" = some (some (.int 7 t_CALL_ADD)))
    (g_CALL_PATH : PySem.W.nsIn K mainGlobals "CALL_PATH" = some (some (.int 8 t_CALL_PATH)))
    (g_CALL_PLACE : PySem.W.nsIn K mainGlobals "CALL_PLACE" = some (some (.int 9 t_CALL_PLACE)))
    (g_CALL_FIND : PySem.W.nsIn K mainGlobals "CALL_FIND" = some (some (.int 10 t_CALL_FIND)))
    (g_CALL_MEET : PySem.W.nsIn K mainGlobals "CALL_MEET" = some (some (.int 11 t_CALL_MEET)))
    (g_CALL_BELOW : PySem.W.nsIn K mainGlobals "CALL_BELOW" = some (some (.int 12 t_CALL_BELOW)))
    (g_CALL_MARK : PySem.W.nsIn K mainGlobals "CALL_MARK" = some (some (.int 13 t_CALL_MARK)))
    (g_CALL_WAY : PySem.W.nsIn K mainGlobals "CALL_WAY" = some (some (.int 15 t_CALL_WAY)))
    (g_NO_FOREST : PySem.W.nsIn K mainGlobals "NO_FOREST" = some (some (.int (-10) t_NO_FOREST)))
    (g_WRONG_SIZE : PySem.W.nsIn K mainGlobals "WRONG_SIZE" = some (some (.int (-1) t_WRONG_SIZE)))
    (g_NO_SUCH_NODE : PySem.W.nsIn K mainGlobals "NO_SUCH_NODE" = some (some (.int (-1) t_NO_SUCH_NODE)))
    (g_HAS_PARENT : PySem.W.nsIn K mainGlobals "HAS_PARENT" = some (some (.int (-2) t_HAS_PARENT)))
    (g_HAS_NO_PARENT : PySem.W.nsIn K mainGlobals "HAS_NO_PARENT" = some (some (.int (-2) t_HAS_NO_PARENT)))
    (g_NOT_JOINED : PySem.W.nsIn K mainGlobals "NOT_JOINED" = some (some (.int (-2) t_NOT_JOINED)))
    (g_PUT_PAST_LIMITS : PySem.W.nsIn K mainGlobals "PUT_PAST_LIMITS" = some (some (.int (-2) t_PUT_PAST_LIMITS)))
    (g_ALREADY_JOINED : PySem.W.nsIn K mainGlobals "ALREADY_JOINED" = some (some (.int (-3) t_ALREADY_JOINED)))
    (g_ADD_PAST_LIMITS : PySem.W.nsIn K mainGlobals "ADD_PAST_LIMITS" = some (some (.int (-3) t_ADD_PAST_LIMITS)))
    (g_NO_SUCH_PLACE : PySem.W.nsIn K mainGlobals "NO_SUCH_PLACE" = some (some (.int (-3) t_NO_SUCH_PLACE)))
    (g_NONE_FOUND : PySem.W.nsIn K mainGlobals "NONE_FOUND" = some (some (.int (-3) t_NONE_FOUND)))
    (g_TOO_MANY_MARKS : PySem.W.nsIn K mainGlobals "TOO_MANY_MARKS" = some (some (.int (-5) t_TOO_MANY_MARKS)))
    (g_NO_SUCH_MARK : PySem.W.nsIn K mainGlobals "NO_SUCH_MARK" = some (some (.int (-6) t_NO_SUCH_MARK)))
    (d_NUMBER_COUNTS : PySem.W.nsIn K mainGlobals "NUMBER_COUNTS" = some (some (.ref a_NUMBER_COUNTS)))
    (e_NUMBER_COUNTS : K.lookup a_NUMBER_COUNTS = some o_NUMBER_COUNTS)
    (m_NUMBER_COUNTS : mdOk o_NUMBER_COUNTS [(1, 1), (2, 2), (3, 1), (4, 1), (5, 1), (6, 2), (7, 3), (8, 2), (9, 3), (10, 3), (11, 2), (12, 1), (13, 0), (14, 1), (15, 2), (16, 0)] = true)
    (y_NUMBER_COUNTS : (a_NUMBER_COUNTS == sysModules) = false)
    (d_NODE_COUNTS : PySem.W.nsIn K mainGlobals "NODE_COUNTS" = some (some (.ref a_NODE_COUNTS)))
    (e_NODE_COUNTS : K.lookup a_NODE_COUNTS = some o_NODE_COUNTS)
    (m_NODE_COUNTS : mdOk o_NODE_COUNTS [(2, 2), (3, 1), (4, 1), (5, 1), (6, 1), (7, 2), (8, 2), (9, 2), (10, 2), (11, 2), (12, 1), (13, 0), (14, 0), (15, 2), (16, 0)] = true)
    (y_NODE_COUNTS : (a_NODE_COUNTS == sysModules) = false)
    (d_JOINED_CALLS : PySem.W.nsIn K mainGlobals "JOINED_CALLS" = some (some (.ref a_JOINED_CALLS)))
    (e_JOINED_CALLS : K.lookup a_JOINED_CALLS = some o_JOINED_CALLS)
    (m_JOINED_CALLS : mtOk o_JOINED_CALLS [7, 8, 9, 10, 11, 15] = true)
    (d_CHANGING_CALLS : PySem.W.nsIn K mainGlobals "CHANGING_CALLS" = some (some (.ref a_CHANGING_CALLS)))
    (e_CHANGING_CALLS : K.lookup a_CHANGING_CALLS = some o_CHANGING_CALLS)
    (m_CHANGING_CALLS : mtOk o_CHANGING_CALLS [2, 3, 5, 6, 7, 13, 14] = true)
    (b_len : PySem.W.nsIn K mainGlobals "len" = some none)
    (b_list : PySem.W.nsIn K mainGlobals "list" = some none)
    (b_min : PySem.W.nsIn K mainGlobals "min" = some none)
    (b_range : PySem.W.nsIn K mainGlobals "range" = some none)
    (b_reversed : PySem.W.nsIn K mainGlobals "reversed" = some none)
    (b_sum : PySem.W.nsIn K mainGlobals "sum" = some none)
    (b_tuple : PySem.W.nsIn K mainGlobals "tuple" = some none)
    : ∃ fd : FuncData, (∀ (s : Shared) (us : List Value), us.length = (["calls"] : List Str).length → BindsTo s fd ⟨us, []⟩ ((["calls"] : List Str).zip us)) ∧ ∀ base : Heap, K.In base → base.Ns mainGlobals mg → FnOk P w K mg base CX0 7 fa fd ["calls"] (spAnswers K) := by
  have e := hfa.symm.trans (PySem.W.mg_of X G a30)
  cases e
  have T : Txt K mg C := ⟨⟨pg, hd, po, sa⟩, n_parent_of, n_value_of, n_marks, PySem.W.mg_of X G aC, ⟨_, PySem.W.mg_of X G g_MOST_NODES⟩, ⟨_, PySem.W.mg_of X G g_MOST_MARKS⟩, ⟨_, PySem.W.mg_of X G g_LIMIT⟩, ⟨_, PySem.W.mg_of X G g_NO_PARENT⟩, ⟨_, PySem.W.mg_of X G g_CALL_OPEN⟩, ⟨_, PySem.W.mg_of X G g_CALL_LINK⟩, ⟨_, PySem.W.mg_of X G g_CALL_CUT⟩, ⟨_, PySem.W.mg_of X G g_CALL_ROOT⟩, ⟨_, PySem.W.mg_of X G g_CALL_REROOT⟩, ⟨_, PySem.W.mg_of X G g_CALL_PUT⟩, ⟨_, PySem.W.mg_of X G g_CALL_ADD⟩, ⟨_, PySem.W.mg_of X G g_CALL_PATH⟩, ⟨_, PySem.W.mg_of X G g_CALL_PLACE⟩, ⟨_, PySem.W.mg_of X G g_CALL_FIND⟩, ⟨_, PySem.W.mg_of X G g_CALL_MEET⟩, ⟨_, PySem.W.mg_of X G g_CALL_BELOW⟩, ⟨_, PySem.W.mg_of X G g_CALL_MARK⟩, ⟨_, PySem.W.mg_of X G g_CALL_WAY⟩, ⟨_, PySem.W.mg_of X G g_NO_FOREST⟩, ⟨_, PySem.W.mg_of X G g_WRONG_SIZE⟩, ⟨_, PySem.W.mg_of X G g_NO_SUCH_NODE⟩, ⟨_, PySem.W.mg_of X G g_HAS_PARENT⟩, ⟨_, PySem.W.mg_of X G g_HAS_NO_PARENT⟩, ⟨_, PySem.W.mg_of X G g_NOT_JOINED⟩, ⟨_, PySem.W.mg_of X G g_PUT_PAST_LIMITS⟩, ⟨_, PySem.W.mg_of X G g_ALREADY_JOINED⟩, ⟨_, PySem.W.mg_of X G g_ADD_PAST_LIMITS⟩, ⟨_, PySem.W.mg_of X G g_NO_SUCH_PLACE⟩, ⟨_, PySem.W.mg_of X G g_NONE_FOUND⟩, ⟨_, PySem.W.mg_of X G g_TOO_MANY_MARKS⟩, ⟨_, PySem.W.mg_of X G g_NO_SUCH_MARK⟩, ⟨_, PySem.W.mg_of X G d_NUMBER_COUNTS, ⟨_, e_NUMBER_COUNTS, m_NUMBER_COUNTS, y_NUMBER_COUNTS⟩⟩, ⟨_, PySem.W.mg_of X G d_NODE_COUNTS, ⟨_, e_NODE_COUNTS, m_NODE_COUNTS, y_NODE_COUNTS⟩⟩, ⟨_, PySem.W.mg_of X G d_JOINED_CALLS, ⟨_, e_JOINED_CALLS, m_JOINED_CALLS⟩⟩, ⟨_, PySem.W.mg_of X G d_CHANGING_CALLS, ⟨_, e_CHANGING_CALLS, m_CHANGING_CALLS⟩⟩, PySem.W.mg_none_of X G b_len, PySem.W.mg_none_of X G b_list, PySem.W.mg_none_of X G b_min, PySem.W.mg_none_of X G b_range, PySem.W.mg_none_of X G b_reversed, PySem.W.mg_none_of X G b_sum, PySem.W.mg_none_of X G b_tuple⟩
  have F_within_limits := fun_mk (st := s_within_limits) l0 c0 k0
  have b_within_limits := F_within_limits.binds (ps := ["value"]) fun _ _ _ _ _ _ us hl => match us, hl with | [_], _ => rfl
  have F_init := fun_mk (st := s_init) l1 c1 k1
  have b_init := F_init.binds (ps := ["self"]) fun _ _ _ _ _ _ us hl => match us, hl with | [_], _ => rfl
  have F_is_there := fun_mk (st := s_is_there) l2 c2 k2
  have b_is_there := F_is_there.binds (ps := ["self"]) fun _ _ _ _ _ _ us hl => match us, hl with | [_], _ => rfl
  have F_has_node := fun_mk (st := s_has_node) l3 c3 k3
  have b_has_node := F_has_node.binds (ps := ["self", "node"]) fun _ _ _ _ _ _ us hl => match us, hl with | [_, _], _ => rfl
  have F_nodes_above := fun_mk (st := s_nodes_above) l4 c4 k4
  have b_nodes_above := F_nodes_above.binds (ps := ["self", "a"]) fun _ _ _ _ _ _ us hl => match us, hl with | [_, _], _ => rfl
  have F_nodes_below := fun_mk (st := s_nodes_below) l5 c5 k5
  have b_nodes_below := F_nodes_below.binds (ps := ["self", "a"]) fun _ _ _ _ _ _ us hl => match us, hl with | [_, _], _ => rfl
  have F_root_above := fun_mk (st := s_root_above) l6 c6 k6
  have b_root_above := F_root_above.binds (ps := ["self", "a"]) fun _ _ _ _ _ _ us hl => match us, hl with | [_, _], _ => rfl
  have F_are_joined := fun_mk (st := s_are_joined) l7 c7 k7
  have b_are_joined := F_are_joined.binds (ps := ["self", "a", "b"]) fun _ _ _ _ _ _ us hl => match us, hl with | [_, _, _], _ => rfl
  have F_meeting_node := fun_mk (st := s_meeting_node) l8 c8 k8
  have b_meeting_node := F_meeting_node.binds (ps := ["self", "a", "b"]) fun _ _ _ _ _ _ us hl => match us, hl with | [_, _, _], _ => rfl
  have F_nodes_between := fun_mk (st := s_nodes_between) l9 c9 k9
  have b_nodes_between := F_nodes_between.binds (ps := ["self", "a", "b"]) fun _ _ _ _ _ _ us hl => match us, hl with | [_, _, _], _ => rfl
  have F_values_of := fun_mk (st := s_values_of) l10 c10 k10
  have b_values_of := F_values_of.binds (ps := ["self", "nodes"]) fun _ _ _ _ _ _ us hl => match us, hl with | [_, _], _ => rfl
  have F_begin := fun_mk (st := s_begin) l11 c11 k11
  have b_begin := F_begin.binds (ps := ["self", "n"]) fun _ _ _ _ _ _ us hl => match us, hl with | [_, _], _ => rfl
  have F_link := fun_mk (st := s_link) l12 c12 k12
  have b_link := F_link.binds (ps := ["self", "a", "b"]) fun _ _ _ _ _ _ us hl => match us, hl with | [_, _, _], _ => rfl
  have F_cut := fun_mk (st := s_cut) l13 c13 k13
  have b_cut := F_cut.binds (ps := ["self", "a"]) fun _ _ _ _ _ _ us hl => match us, hl with | [_, _], _ => rfl
  have F_root := fun_mk (st := s_root) l14 c14 k14
  have b_root := F_root.binds (ps := ["self", "a"]) fun _ _ _ _ _ _ us hl => match us, hl with | [_, _], _ => rfl
  have F_reroot := fun_mk (st := s_reroot) l15 c15 k15
  have b_reroot := F_reroot.binds (ps := ["self", "a"]) fun _ _ _ _ _ _ us hl => match us, hl with | [_, _], _ => rfl
  have F_put := fun_mk (st := s_put) l16 c16 k16
  have b_put := F_put.binds (ps := ["self", "a", "v"]) fun _ _ _ _ _ _ us hl => match us, hl with | [_, _, _], _ => rfl
  have F_add := fun_mk (st := s_add) l17 c17 k17
  have b_add := F_add.binds (ps := ["self", "a", "b", "d"]) fun _ _ _ _ _ _ us hl => match us, hl with | [_, _, _, _], _ => rfl
  have F_path := fun_mk (st := s_path) l18 c18 k18
  have b_path := F_path.binds (ps := ["self", "a", "b"]) fun _ _ _ _ _ _ us hl => match us, hl with | [_, _, _], _ => rfl
  have F_place := fun_mk (st := s_place) l19 c19 k19
  have b_place := F_place.binds (ps := ["self", "a", "b", "i"]) fun _ _ _ _ _ _ us hl => match us, hl with | [_, _, _, _], _ => rfl
  have F_find := fun_mk (st := s_find) l20 c20 k20
  have b_find := F_find.binds (ps := ["self", "a", "b", "v"]) fun _ _ _ _ _ _ us hl => match us, hl with | [_, _, _, _], _ => rfl
  have F_meet := fun_mk (st := s_meet) l21 c21 k21
  have b_meet := F_meet.binds (ps := ["self", "a", "b"]) fun _ _ _ _ _ _ us hl => match us, hl with | [_, _, _], _ => rfl
  have F_below := fun_mk (st := s_below) l22 c22 k22
  have b_below := F_below.binds (ps := ["self", "a"]) fun _ _ _ _ _ _ us hl => match us, hl with | [_, _], _ => rfl
  have F_mark := fun_mk (st := s_mark) l23 c23 k23
  have b_mark := F_mark.binds (ps := ["self"]) fun _ _ _ _ _ _ us hl => match us, hl with | [_], _ => rfl
  have F_back := fun_mk (st := s_back) l24 c24 k24
  have b_back := F_back.binds (ps := ["self", "i"]) fun _ _ _ _ _ _ us hl => match us, hl with | [_, _], _ => rfl
  have F_way := fun_mk (st := s_way) l25 c25 k25
  have b_way := F_way.binds (ps := ["self", "a", "b"]) fun _ _ _ _ _ _ us hl => match us, hl with | [_, _, _], _ => rfl
  have F_parents := fun_mk (st := s_parents) l26 c26 k26
  have b_parents := F_parents.binds (ps := ["self"]) fun _ _ _ _ _ _ us hl => match us, hl with | [_], _ => rfl
  have F_answer_change := fun_mk (st := s_answer_change) l27 c27 k27
  have b_answer_change := F_answer_change.binds (ps := ["forest", "call", "given"]) fun _ _ _ _ _ _ us hl => match us, hl with | [_, _, _], _ => rfl
  have F_answer_question := fun_mk (st := s_answer_question) l28 c28 k28
  have b_answer_question := F_answer_question.binds (ps := ["forest", "call", "given"]) fun _ _ _ _ _ _ us hl => match us, hl with | [_, _, _], _ => rfl
  have F_answer_call := fun_mk (st := s_answer_call) l29 c29 k29
  have b_answer_call := F_answer_call.binds (ps := ["forest", "call", "given"]) fun _ _ _ _ _ _ us hl => match us, hl with | [_, _, _], _ => rfl
  have F_answers := fun_mk (st := s_answers) l30 c30 k30
  have b_answers := F_answers.binds (ps := ["calls"]) fun _ _ _ _ _ _ us hl => match us, hl with | [_], _ => rfl
  have m_is_there : Meth K C "is_there" f2 := ⟨a2, i2, k2⟩
  have m_has_node : Meth K C "has_node" f3 := ⟨a3, i3, k3⟩
  have m_nodes_above : Meth K C "nodes_above" f4 := ⟨a4, i4, k4⟩
  have m_nodes_below : Meth K C "nodes_below" f5 := ⟨a5, i5, k5⟩
  have m_root_above : Meth K C "root_above" f6 := ⟨a6, i6, k6⟩
  have m_are_joined : Meth K C "are_joined" f7 := ⟨a7, i7, k7⟩
  have m_meeting_node : Meth K C "meeting_node" f8 := ⟨a8, i8, k8⟩
  have m_nodes_between : Meth K C "nodes_between" f9 := ⟨a9, i9, k9⟩
  have m_values_of : Meth K C "values_of" f10 := ⟨a10, i10, k10⟩
  have m_begin : Meth K C "begin" f11 := ⟨a11, i11, k11⟩
  have m_link : Meth K C "link" f12 := ⟨a12, i12, k12⟩
  have m_cut : Meth K C "cut" f13 := ⟨a13, i13, k13⟩
  have m_root : Meth K C "root" f14 := ⟨a14, i14, k14⟩
  have m_reroot : Meth K C "reroot" f15 := ⟨a15, i15, k15⟩
  have m_put : Meth K C "put" f16 := ⟨a16, i16, k16⟩
  have m_add : Meth K C "add" f17 := ⟨a17, i17, k17⟩
  have m_path : Meth K C "path" f18 := ⟨a18, i18, k18⟩
  have m_place : Meth K C "place" f19 := ⟨a19, i19, k19⟩
  have m_find : Meth K C "find" f20 := ⟨a20, i20, k20⟩
  have m_meet : Meth K C "meet" f21 := ⟨a21, i21, k21⟩
  have m_below : Meth K C "below" f22 := ⟨a22, i22, k22⟩
  have m_mark : Meth K C "mark" f23 := ⟨a23, i23, k23⟩
  have m_back : Meth K C "back" f24 := ⟨a24, i24, k24⟩
  have m_way : Meth K C "way" f25 := ⟨a25, i25, k25⟩
  have m_parents : Meth K C "parents" f26 := ⟨a26, i26, k26⟩
  have M_Forest : Mk K C f1 := ⟨mk, a1, i1, kc⟩
  have mg_within_limits := PySem.W.mg_of X G a0
  have mg_answer_change := PySem.W.mg_of X G a27
  have mg_answer_question := PySem.W.mg_of X G a28
  have mg_answer_call := PySem.W.mg_of X G a29
  refine ⟨PySem.W.fnOf "answers" "answers" (defArgs s_answers) (defBody s_answers) (defScope s_answers) .none kV30 dc30 pm30 an30 cd30 ct30, fun s us hu => match us, hu with | [_], _ => .of_eq rfl, fun base _ _ => ?_⟩
  have G_within_limits := ok_within_limits (P := P) (w := w) (base := base) F_within_limits T 
  have G_is_there := ok_is_there (P := P) (w := w) (base := base) F_is_there T 
  have G_has_node := ok_has_node (P := P) (w := w) (base := base) F_has_node T 
  have G_nodes_above := ok_nodes_above (P := P) (w := w) (base := base) F_nodes_above T 
  have G_root_above := ok_root_above (P := P) (w := w) (base := base) F_root_above T G_nodes_above b_nodes_above m_nodes_above
  have G_are_joined := ok_are_joined (P := P) (w := w) (base := base) F_are_joined T G_root_above b_root_above m_root_above
  have G_meeting_node := ok_meeting_node (P := P) (w := w) (base := base) F_meeting_node T G_nodes_above b_nodes_above m_nodes_above
  have G_nodes_between := ok_nodes_between (P := P) (w := w) (base := base) F_nodes_between T G_nodes_above b_nodes_above m_nodes_above G_meeting_node b_meeting_node m_meeting_node
  have G_values_of := ok_values_of (P := P) (w := w) (base := base) F_values_of T 
  have G_nodes_below := ok_nodes_below (P := P) (w := w) (base := base) F_nodes_below T G_nodes_above b_nodes_above m_nodes_above
  have G_init := ok_init (P := P) (w := w) (base := base) F_init T 
  have G_begin := ok_begin (P := P) (w := w) (base := base) F_begin T 
  have G_link := ok_link (P := P) (w := w) (base := base) F_link T G_are_joined b_are_joined m_are_joined
  have G_cut := ok_cut (P := P) (w := w) (base := base) F_cut T 
  have G_root := ok_root (P := P) (w := w) (base := base) F_root T G_root_above b_root_above m_root_above
  have G_reroot := ok_reroot (P := P) (w := w) (base := base) F_reroot T G_nodes_above b_nodes_above m_nodes_above
  have G_put := ok_put (P := P) (w := w) (base := base) F_put T F_within_limits mg_within_limits G_within_limits b_within_limits
  have G_add := ok_add (P := P) (w := w) (base := base) F_add T F_within_limits mg_within_limits G_within_limits b_within_limits G_nodes_between b_nodes_between m_nodes_between
  have G_path := ok_path (P := P) (w := w) (base := base) F_path T G_nodes_between b_nodes_between m_nodes_between G_values_of b_values_of m_values_of
  have G_place := ok_place (P := P) (w := w) (base := base) F_place T G_nodes_between b_nodes_between m_nodes_between
  have G_find := ok_find (P := P) (w := w) (base := base) F_find T G_nodes_between b_nodes_between m_nodes_between
  have G_meet := ok_meet (P := P) (w := w) (base := base) F_meet T G_meeting_node b_meeting_node m_meeting_node
  have G_below := ok_below (P := P) (w := w) (base := base) F_below T G_nodes_below b_nodes_below m_nodes_below G_values_of b_values_of m_values_of
  have G_mark := ok_mark (P := P) (w := w) (base := base) F_mark T 
  have G_back := ok_back (P := P) (w := w) (base := base) F_back T 
  have G_way := ok_way (P := P) (w := w) (base := base) F_way T G_nodes_between b_nodes_between m_nodes_between
  have G_parents := ok_parents (P := P) (w := w) (base := base) F_parents T 
  have G_answer_change := ok_answer_change (P := P) (w := w) (base := base) F_answer_change T G_link b_link m_link G_cut b_cut m_cut G_reroot b_reroot m_reroot G_put b_put m_put G_add b_add m_add G_mark b_mark m_mark G_back b_back m_back
  have G_answer_question := ok_answer_question (P := P) (w := w) (base := base) F_answer_question T G_root b_root m_root G_path b_path m_path G_place b_place m_place G_find b_find m_find G_meet b_meet m_meet G_below b_below m_below G_way b_way m_way G_parents b_parents m_parents
  have G_answer_call := ok_answer_call (P := P) (w := w) (base := base) F_answer_call T G_begin b_begin m_begin G_is_there b_is_there m_is_there G_has_node b_has_node m_has_node G_are_joined b_are_joined m_are_joined F_answer_change mg_answer_change G_answer_change b_answer_change F_answer_question mg_answer_question G_answer_question b_answer_question
  exact ok_answers F_answers T M_Forest G_init b_init F_answer_call mg_answer_call G_answer_call b_answer_call
end My
open PySem PySem.W PyProof.Rows
set_option maxRecDepth 100000 in
set_option maxHeartbeats 0 in
theorem PySem.Challenge.cw_treewaysdesk_s01_answers_holds : PySem.Challenge.rw_treewaysdesk_s01_answers.Holds := by
  w_on; k_headS; (case hw => exact ⟨[.list [.int 16]], by decide +kernel, by decide +kernel⟩)
  k_fillS
  refine L2.walk_specK (r := PySem.Challenge.rw_treewaysdesk_s01_answers) (k := 7) (CX := L2.CX0) (ps := ["calls"]) (sp := My.spAnswers) (by decide +kernel) rfl rfl ⟨rfl, by decide, by decide⟩ (fun w h Y => PySem.W.kIn_of Y) ?F ?S (fun _ _ _ _ z => z)
  case F =>
    intro w mg fa h Y KX G hmg
    refine' My.all_mk KX G hmg ?aC ?a0 ?l0 ?c0 ?k0 ?a1 ?i1 ?l1 ?c1 ?k1 ?a2 ?i2 ?l2 ?c2 ?k2 ?a3 ?i3 ?l3 ?c3 ?k3 ?a4 ?i4 ?l4 ?c4 ?k4 ?a5 ?i5 ?l5 ?c5 ?k5 ?a6 ?i6 ?l6 ?c6 ?k6 ?a7 ?i7 ?l7 ?c7 ?k7 ?a8 ?i8 ?l8 ?c8 ?k8 ?a9 ?i9 ?l9 ?c9 ?k9 ?a10 ?i10 ?l10 ?c10 ?k10 ?a11 ?i11 ?l11 ?c11 ?k11 ?a12 ?i12 ?l12 ?c12 ?k12 ?a13 ?i13 ?l13 ?c13 ?k13 ?a14 ?i14 ?l14 ?c14 ?k14 ?a15 ?i15 ?l15 ?c15 ?k15 ?a16 ?i16 ?l16 ?c16 ?k16 ?a17 ?i17 ?l17 ?c17 ?k17 ?a18 ?i18 ?l18 ?c18 ?k18 ?a19 ?i19 ?l19 ?c19 ?k19 ?a20 ?i20 ?l20 ?c20 ?k20 ?a21 ?i21 ?l21 ?c21 ?k21 ?a22 ?i22 ?l22 ?c22 ?k22 ?a23 ?i23 ?l23 ?c23 ?k23 ?a24 ?i24 ?l24 ?c24 ?k24 ?a25 ?i25 ?l25 ?c25 ?k25 ?a26 ?i26 ?l26 ?c26 ?k26 ?a27 ?l27 ?c27 ?k27 ?a28 ?l28 ?c28 ?k28 ?a29 ?l29 ?c29 ?k29 ?a30 ?l30 ?c30 ?k30 ?pg ?hd ?po ?sa ?mk ?kc ?n_parent_of ?n_value_of ?n_marks ?g_MOST_NODES ?g_MOST_MARKS ?g_LIMIT ?g_NO_PARENT ?g_CALL_OPEN ?g_CALL_LINK ?g_CALL_CUT ?g_CALL_ROOT ?g_CALL_REROOT ?g_CALL_PUT ?g_CALL_ADD ?g_CALL_PATH ?g_CALL_PLACE ?g_CALL_FIND ?g_CALL_MEET ?g_CALL_BELOW ?g_CALL_MARK ?g_CALL_WAY ?g_NO_FOREST ?g_WRONG_SIZE ?g_NO_SUCH_NODE ?g_HAS_PARENT ?g_HAS_NO_PARENT ?g_NOT_JOINED ?g_PUT_PAST_LIMITS ?g_ALREADY_JOINED ?g_ADD_PAST_LIMITS ?g_NO_SUCH_PLACE ?g_NONE_FOUND ?g_TOO_MANY_MARKS ?g_NO_SUCH_MARK ?d_NUMBER_COUNTS ?e_NUMBER_COUNTS ?m_NUMBER_COUNTS ?y_NUMBER_COUNTS ?d_NODE_COUNTS ?e_NODE_COUNTS ?m_NODE_COUNTS ?y_NODE_COUNTS ?d_JOINED_CALLS ?e_JOINED_CALLS ?m_JOINED_CALLS ?d_CHANGING_CALLS ?e_CHANGING_CALLS ?m_CHANGING_CALLS ?b_len ?b_list ?b_min ?b_range ?b_reversed ?b_sum ?b_tuple
    (case aC => k_is)
    (case a0 => k_is)
    (case l0 => k_is)
    (case c0 => k_is)
    (case k0 => k_is)
    (case a1 => k_is)
    (case i1 => k_is)
    (case l1 => k_is)
    (case c1 => k_is)
    (case k1 => k_is)
    (case a2 => k_is)
    (case i2 => k_is)
    (case l2 => k_is)
    (case c2 => k_is)
    (case k2 => k_is)
    (case a3 => k_is)
    (case i3 => k_is)
    (case l3 => k_is)
    (case c3 => k_is)
    (case k3 => k_is)
    (case a4 => k_is)
    (case i4 => k_is)
    (case l4 => k_is)
    (case c4 => k_is)
    (case k4 => k_is)
    (case a5 => k_is)
    (case i5 => k_is)
    (case l5 => k_is)
    (case c5 => k_is)
    (case k5 => k_is)
    (case a6 => k_is)
    (case i6 => k_is)
    (case l6 => k_is)
    (case c6 => k_is)
    (case k6 => k_is)
    (case a7 => k_is)
    (case i7 => k_is)
    (case l7 => k_is)
    (case c7 => k_is)
    (case k7 => k_is)
    (case a8 => k_is)
    (case i8 => k_is)
    (case l8 => k_is)
    (case c8 => k_is)
    (case k8 => k_is)
    (case a9 => k_is)
    (case i9 => k_is)
    (case l9 => k_is)
    (case c9 => k_is)
    (case k9 => k_is)
    (case a10 => k_is)
    (case i10 => k_is)
    (case l10 => k_is)
    (case c10 => k_is)
    (case k10 => k_is)
    (case a11 => k_is)
    (case i11 => k_is)
    (case l11 => k_is)
    (case c11 => k_is)
    (case k11 => k_is)
    (case a12 => k_is)
    (case i12 => k_is)
    (case l12 => k_is)
    (case c12 => k_is)
    (case k12 => k_is)
    (case a13 => k_is)
    (case i13 => k_is)
    (case l13 => k_is)
    (case c13 => k_is)
    (case k13 => k_is)
    (case a14 => k_is)
    (case i14 => k_is)
    (case l14 => k_is)
    (case c14 => k_is)
    (case k14 => k_is)
    (case a15 => k_is)
    (case i15 => k_is)
    (case l15 => k_is)
    (case c15 => k_is)
    (case k15 => k_is)
    (case a16 => k_is)
    (case i16 => k_is)
    (case l16 => k_is)
    (case c16 => k_is)
    (case k16 => k_is)
    (case a17 => k_is)
    (case i17 => k_is)
    (case l17 => k_is)
    (case c17 => k_is)
    (case k17 => k_is)
    (case a18 => k_is)
    (case i18 => k_is)
    (case l18 => k_is)
    (case c18 => k_is)
    (case k18 => k_is)
    (case a19 => k_is)
    (case i19 => k_is)
    (case l19 => k_is)
    (case c19 => k_is)
    (case k19 => k_is)
    (case a20 => k_is)
    (case i20 => k_is)
    (case l20 => k_is)
    (case c20 => k_is)
    (case k20 => k_is)
    (case a21 => k_is)
    (case i21 => k_is)
    (case l21 => k_is)
    (case c21 => k_is)
    (case k21 => k_is)
    (case a22 => k_is)
    (case i22 => k_is)
    (case l22 => k_is)
    (case c22 => k_is)
    (case k22 => k_is)
    (case a23 => k_is)
    (case i23 => k_is)
    (case l23 => k_is)
    (case c23 => k_is)
    (case k23 => k_is)
    (case a24 => k_is)
    (case i24 => k_is)
    (case l24 => k_is)
    (case c24 => k_is)
    (case k24 => k_is)
    (case a25 => k_is)
    (case i25 => k_is)
    (case l25 => k_is)
    (case c25 => k_is)
    (case k25 => k_is)
    (case a26 => k_is)
    (case i26 => k_is)
    (case l26 => k_is)
    (case c26 => k_is)
    (case k26 => k_is)
    (case a27 => k_is)
    (case l27 => k_is)
    (case c27 => k_is)
    (case k27 => k_is)
    (case a28 => k_is)
    (case l28 => k_is)
    (case c28 => k_is)
    (case k28 => k_is)
    (case a29 => k_is)
    (case l29 => k_is)
    (case c29 => k_is)
    (case k29 => k_is)
    (case a30 => k_is)
    (case l30 => k_is)
    (case c30 => k_is)
    (case k30 => k_is)
    (case pg => k_is)
    (case hd => k_is)
    (case po => k_is)
    (case sa => k_is)
    (case mk => k_is)
    (case kc => k_is)
    (case n_parent_of => k_is)
    (case n_value_of => k_is)
    (case n_marks => k_is)
    (case g_MOST_NODES => k_is)
    (case g_MOST_MARKS => k_is)
    (case g_LIMIT => k_is)
    (case g_NO_PARENT => k_is)
    (case g_CALL_OPEN => k_is)
    (case g_CALL_LINK => k_is)
    (case g_CALL_CUT => k_is)
    (case g_CALL_ROOT => k_is)
    (case g_CALL_REROOT => k_is)
    (case g_CALL_PUT => k_is)
    (case g_CALL_ADD => k_is)
    (case g_CALL_PATH => k_is)
    (case g_CALL_PLACE => k_is)
    (case g_CALL_FIND => k_is)
    (case g_CALL_MEET => k_is)
    (case g_CALL_BELOW => k_is)
    (case g_CALL_MARK => k_is)
    (case g_CALL_WAY => k_is)
    (case g_NO_FOREST => k_is)
    (case g_WRONG_SIZE => k_is)
    (case g_NO_SUCH_NODE => k_is)
    (case g_HAS_PARENT => k_is)
    (case g_HAS_NO_PARENT => k_is)
    (case g_NOT_JOINED => k_is)
    (case g_PUT_PAST_LIMITS => k_is)
    (case g_ALREADY_JOINED => k_is)
    (case g_ADD_PAST_LIMITS => k_is)
    (case g_NO_SUCH_PLACE => k_is)
    (case g_NONE_FOUND => k_is)
    (case g_TOO_MANY_MARKS => k_is)
    (case g_NO_SUCH_MARK => k_is)
    (case d_NUMBER_COUNTS => k_is)
    (case e_NUMBER_COUNTS => k_is)
    (case m_NUMBER_COUNTS => decide +kernel)
    (case y_NUMBER_COUNTS => decide +kernel)
    (case d_NODE_COUNTS => k_is)
    (case e_NODE_COUNTS => k_is)
    (case m_NODE_COUNTS => decide +kernel)
    (case y_NODE_COUNTS => decide +kernel)
    (case d_JOINED_CALLS => k_is)
    (case e_JOINED_CALLS => k_is)
    (case m_JOINED_CALLS => decide +kernel)
    (case d_CHANGING_CALLS => k_is)
    (case e_CHANGING_CALLS => k_is)
    (case m_CHANGING_CALLS => decide +kernel)
    (case b_len => k_is)
    (case b_list => k_is)
    (case b_min => k_is)
    (case b_range => k_is)
    (case b_reversed => k_is)
    (case b_sum => k_is)
    (case b_tuple => k_is)
  case S =>
    intro K H xs a hO hwi hask hx
    cases hx with
    | cons h1 h2 =>
      cases h2
      cases h1 with
      | lst hs ha =>
        have e := L2.ints_dw a.1 _ ha
        subst e
        have q : ((Codec.inLen 0 16000 a.1 && a.1.all (Codec.inInt (-999999999999999999) 999999999999999999)) && true) = true := hwi
        rw [Bool.and_eq_true, Bool.and_eq_true] at q
        exact ⟨_, a.1, rfl, hs, (Codec.inNat_iff.mp q.1.1).2, hask, fun H' p hp => .lst (L2.SqL.of hp) (L2.dw_ints _)⟩
#print axioms PySem.Challenge.cw_treewaysdesk_s01_answers_holds
