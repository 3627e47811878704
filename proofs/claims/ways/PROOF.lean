import PyProof.Rows.All
import Wide.All
import OpenK.AllK
import Wide.FinOn
import PyProof.EqAt
import PyProof.EqKinds
import PyProof.TupleCall
import KE.BitLaws
import Open.SpecLaws
import KE.OsHead
import KE.OsGo
import KE.IntBitsLaws
import PySem.Challenge.RW_fillboard_s01_ways
set_option Elab.async false
set_option linter.all false
set_option maxRecDepth 100000
namespace L2
open PySem PySem.Spec PyProof.Rows

/-- a key: an int or a str -/
abbrev Key := Sum Int Str
def keyIs : Key → Value → Bool
  | .inl k, v => Value.isInt k v
  | .inr x, v => Value.isStrOf x v
def keyH (w : World) : Key → Int
  | .inl k => hashInt k
  | .inr x => hashStr w x
theorem keyIs_shape : ∀ {k : Key} {v : Value}, keyIs k v = true → (∃ i t, k = Sum.inl i ∧ v = Value.int i t) ∨ (∃ x t, k = Sum.inr x ∧ v = Value.str x t)
  | .inl i, v, h => by
    obtain ⟨t, e⟩ := Value.isInt_shape (k := i) (v := v) h
    exact .inl ⟨i, t, rfl, e⟩
  | .inr x, v, h => by
    obtain ⟨t, e⟩ := Value.isStrOf_shape (x := x) (v := v) h
    exact .inr ⟨x, t, rfl, e⟩
theorem key_ll (a b : Int) : decide ((Sum.inl a : Key) = Sum.inl b) = (a == b) := by
  by_cases e : a = b
  · subst e; simp
  · have h : ¬ (Sum.inl a : Key) = Sum.inl b := fun q => e (Sum.inl.inj q)
    rw [decide_eq_false h]
    exact (beq_eq_false_iff_ne.mpr e).symm
theorem key_rr (a b : Str) : decide ((Sum.inr a : Key) = Sum.inr b) = decide (a = b) := by
  by_cases e : a = b
  · subst e; simp
  · have h : ¬ (Sum.inr a : Key) = Sum.inr b := fun q => e (Sum.inr.inj q)
    rw [decide_eq_false h, decide_eq_false e]
theorem key_lr (a : Int) (b : Str) : decide ((Sum.inl a : Key) = Sum.inr b) = false := decide_eq_false (fun q => nomatch q)
theorem key_rl (a : Str) (b : Int) : decide ((Sum.inr a : Key) = Sum.inl b) = false := decide_eq_false (fun q => nomatch q)

def mixKind (prog : Program) (w : World) : PySem.KeyKind prog w Key where
  is := keyIs
  hash := keyH w
  inj := fun v a b ha hb => by
    rcases keyIs_shape ha with ⟨i, t, rfl, rfl⟩ | ⟨x, t, rfl, rfl⟩
    · rcases keyIs_shape hb with ⟨j, u, rfl, e⟩ | ⟨y, u, rfl, e⟩
      · injection e with e1 _; rw [e1]
      · exact nomatch e
    · rcases keyIs_shape hb with ⟨j, u, rfl, e⟩ | ⟨y, u, rfl, e⟩
      · exact nomatch e
      · injection e with e1 _; rw [e1]
  byValue := fun k v h => by
    rcases keyIs_shape h with ⟨i, t, rfl, rfl⟩ | ⟨x, t, rfl, rfl⟩ <;> rfl
  pyHash := fun hv h => by
    rcases keyIs_shape hv with ⟨i, t, rfl, rfl⟩ | ⟨x, t, rfl, rfl⟩
    · exact wpAny_pyHash_int h
    · exact wpAny_pyHash_str h
  eqBool := fun hu hv h => by
    rcases keyIs_shape hu with ⟨i, t, rfl, rfl⟩ | ⟨x, t, rfl, rfl⟩
    · rcases keyIs_shape hv with ⟨j, u, rfl, rfl⟩ | ⟨y, u, rfl, rfl⟩
      · rw [key_ll] at h; exact wpAny_eqBool_int h
      · rw [key_lr] at h; exact SeqAt.EqAt.int_str i t y u _ _ _ _ h
    · rcases keyIs_shape hv with ⟨j, u, rfl, rfl⟩ | ⟨y, u, rfl, rfl⟩
      · rw [key_rl] at h; exact SeqAt.EqAt.str_int x t j u _ _ _ _ h
      · rw [key_rr] at h; exact wpAny_eqBool_str h
  «strs» := fun k x t v h => by
    rcases keyIs_shape h with ⟨i, u, rfl, e⟩ | ⟨y, u, rfl, e⟩
    · exact nomatch e
    · injection e with e1 _
      subst e1
      cases v <;> rfl

end L2

namespace L2
open PySem PySem.Spec PyProof.Rows

/-- a value, without the heap -/
inductive V where
  | non | bl (b : Bool) | int (i : Int) | str (x : Str) | byt (b : Array UInt8) | flt (b : UInt64) | ref (a : Addr) | ty (n : String)
  deriving DecidableEq

def RelV : V → Value → Prop
  | .non, u => u = Value.none
  | .bl b, u => u = Value.bool b
  | .int i, u => ∃ t, u = Value.int i t
  | .str x, u => ∃ t, u = Value.str x t
  | .byt b, u => ∃ t, u = Value.bytes b t
  | .flt b, u => ∃ t, u = Value.float b t
  | .ref a, u => u = Value.ref a
  | .ty n, u => u = Value.type n

abbrev Vals : List V → List Value → Prop := Paired RelV
theorem Vals.length {xs : List V} {us : List Value} (r : Vals xs us) : xs.length = us.length := Paired.length r
theorem Vals.get : ∀ {xs : List V} {us : List Value} {i : Nat} {x : V}, Vals xs us → xs[i]? = some x → ∃ u, us[i]? = some u ∧ RelV x u
  | _, _, _, _, .nil, e => by simp at e
  | _, _, 0, _, .cons r _, e => by simp at e; subst e; exact ⟨_, rfl, r⟩
  | _, _, i + 1, x, .cons _ t, e => by
    obtain ⟨u, h1, h2⟩ := Vals.get (i := i) (x := x) t (by simpa using e)
    exact ⟨u, by simpa using h1, h2⟩
theorem Vals.set {x : V} {u : Value} (r : RelV x u) : ∀ {xs : List V} {us : List Value} (i : Nat), Vals xs us → Vals (xs.set i x) (us.set i u)
  | _, _, _, .nil => .nil
  | _, _, 0, .cons _ t => .cons r t
  | _, _, i + 1, .cons q t => .cons q (Vals.set r i t)
theorem Vals.append : ∀ {xs ys : List V} {us ws : List Value}, Vals xs us → Vals ys ws → Vals (xs ++ ys) (us ++ ws)
  | _, _, _, _, .nil, s => s
  | _, _, _, _, .cons r t, s => .cons r (Vals.append t s)
theorem Vals.take : ∀ {xs : List V} {us : List Value} (n : Nat), Vals xs us → Vals (xs.take n) (us.take n)
  | _, _, 0, _ => .nil
  | _, _, _ + 1, .nil => .nil
  | _, _, n + 1, .cons r t => .cons r (Vals.take n t)
theorem Vals.drop : ∀ {xs : List V} {us : List Value} (n : Nat), Vals xs us → Vals (xs.drop n) (us.drop n)
  | _, _, 0, r => r
  | _, _, _ + 1, .nil => .nil
  | _, _, n + 1, .cons _ t => Vals.drop n t
def RelO : Option V → Option Value → Prop
  | some v, some u => RelV v u
  | none, none => True
  | _, _ => False
def KV {κ : Type} : List (κ × V) → List (κ × Value) → Prop := Paired fun (p : κ × V) (q : κ × Value) => p.1 = q.1 ∧ RelV p.2 q.2

/-- a key of a dict (00_mix): an int or a text -/
def kV : Key → V
  | .inl i => .int i
  | .inr x => .str x

/-- what stands at a tracked address -/
inductive HO where
  /-- a list -/
  | lst (xs : List V)
  /-- a tuple (never changes) -/
  | tup (xs : List V)
  /-- a dict whose keys are ints and texts; one whose keys are tuples of ints and texts (the empty one is both) -/
  | dK (kvs : List (Key × V)) | dT (kvs : List (List Key × V))
  /-- a set of ints: its members, its size -/
  | set (S : Int → Bool) (n : Nat)
  /-- an instance of the class at C, its dict at dx, its attributes -/
  | ins (C dx : Addr) (fs : List (Str × V))
  /-- the dict of the instance at x -/
  | own (x : Addr)
  /-- the dict of an exception -/
  | xd (fs : List (Str × V))
  /-- a bound method, f of x -/
  | met (f x : Addr)
  /-- a range object lo, lo + 1, .. below hi -/
  | rng (lo hi : Int)
  /-- a thing that is known to the object (the script; a dict while a loop walks it): read, never written while it is so -/
  | frz (o : Obj) (u : HO)
  /-- a code object's table -/
  | tbl (ps : Array Value)
  /-- any other thing, by what is true of its one object (a def of one's own: SetO a S n := HO.ext fun h => ..) -/
  | ext (φ : Heap → Prop)

abbrev Hp := Addr → Option HO
def upd (H : Hp) (a : Addr) (o : HO) : Hp := fun b => if b = a then some o else H b
theorem upd_same {H : Hp} {a : Addr} {o : HO} : upd H a o a = some o := by unfold upd; rw [if_pos rfl]
theorem upd_ne {H : Hp} {a b : Addr} {o : HO} (h : b ≠ a) : upd H a o b = H b := by unfold upd; rw [if_neg h]
/-- two objects of different content stand apart -/
theorem ne_of {H : Hp} {a b : Addr} {o u : HO} (h : H a = some o) (h' : H b = some u) (d : o ≠ u) : a ≠ b := by
  intro e; subst e; rw [h] at h'; exact d (Option.some.inj h')
theorem ne_of_none {H : Hp} {a b : Addr} {o : HO} (h : H a = some o) (h' : H b = none) : a ≠ b := by
  intro e; subst e; rw [h] at h'; cases h'

section
variable (P : Program) (w : World)
def ObjOk (H : Hp) (h : Heap) (a : Addr) : HO → Prop
  | .lst xs => xs.length ≤ sizeLine ∧ ∃ (its : List Value) (n : Nat), Vals xs its ∧ h.get? a = some { cls := .type "list", data := .seq its.toArray n }
  | .tup xs => xs.length ≤ sizeLine ∧ ∃ its : List Value, Vals xs its ∧ IsTup h a its.toArray
  | .dK kvs => kvs.length ≤ sizeLine ∧ (a == sysModules) = false ∧ ∃ vs, KV kvs vs ∧ h.DictOf (mixKind P w) a vs
  | .dT kvs => kvs.length ≤ sizeLine ∧ (a == sysModules) = false ∧ ∃ xs : List (List Key × Addr × Value),
      Paired (fun (p : List Key × V) (q : List Key × Addr × Value) => p.1 = q.1 ∧ H q.2.1 = some (.tup (p.1.map kV)) ∧ RelV p.2 q.2.2) kvs xs ∧
      ∃ o es ep, h.get? a = some o ∧ o.ExactDict ∧ o.data = .dict es ep ∧ es.toList = xs.map (entryOfKey (tupleKind (mixKind P w))) ∧ (xs.map (·.1)).Nodup
  | .set S n => h.SetOf (intKind P w) a S n
  | .ins C dx fs => H dx = some (.own a) ∧ fs.length ≤ 1000 ∧ dx ≠ a ∧ h.get? a = some (PySem.W.instObj C dx) ∧
      ∃ mA, h.Ns1 dx mA ∧ (∀ f, RelO (fs.lookup f) (mA f)) ∧ PySem.Within mA (fs.map (·.1))
  | .own _ => ∃ o, h.get? a = some o
  | .xd fs => ∃ mA, h.Ns1 a mA ∧ ∀ f, RelO (fs.lookup f) (mA f)
  | .rng lo hi => ∃ t u v, h.get? a = some { cls := .type "range", data := .fields #[.int lo t, .int hi u, .int 1 v] }
  | .frz o u => h.get? a = some o ∧ ObjOk H h a u
  | .tbl ps => h.get? a = some { cls := .none, data := .fields ps }
  | .met f x => h.get? a = some (PySem.W.methodObj (.ref f) (.ref x))
  | .ext φ => φ h ∧ (∃ o, h.get? a = some o) ∧ ∀ h1 h2 : Heap, φ h1 → (∀ o, h1.get? a = some o → h2.get? a = some o) → φ h2
/-- the abstract heap is held -/
def HOk (H : Hp) (h : Heap) : Prop := ∀ a o, H a = some o → ObjOk P w H h a o
end

section
variable {P : Program} {w : World} {H H' : Hp} {h h' : Heap} {a : Addr} {o : HO}
theorem ObjOk.lt (x : ObjOk P w H h a o) : a < h.objs.size := by
  cases o with
  | lst xs => obtain ⟨_, _, _, _, e⟩ := x; exact Heap.lt_size e
  | tup xs => obtain ⟨_, _, _, p⟩ := x; exact p.lt
  | dK kvs => obtain ⟨_, _, _, _, o, _, _, e, _⟩ := x; exact Heap.lt_size e
  | dT kvs => obtain ⟨_, _, _, _, o, _, _, e, _⟩ := x; exact Heap.lt_size e
  | set S n => obtain ⟨o, _, _, _, e, _⟩ := x; exact Heap.lt_size e
  | ins C dx fs => obtain ⟨_, _, _, e, _⟩ := x; exact Heap.lt_size e
  | own y => obtain ⟨_, e⟩ := x; exact Heap.lt_size e
  | xd fs => obtain ⟨_, ⟨_, _, _, e, _⟩, _⟩ := x; exact Heap.lt_size e
  | rng lo hi => obtain ⟨_, _, _, e⟩ := x; exact Heap.lt_size e
  | frz ob u => obtain ⟨e, _⟩ := x; exact Heap.lt_size e
  | tbl ps => exact Heap.lt_size (show h.get? a = some _ from x)
  | met f y => exact Heap.lt_size (show h.get? a = some _ from x)
  | ext φ => obtain ⟨_, ⟨_, e⟩, _⟩ := x; exact Heap.lt_size e
theorem Paired.mapP {α β : Type} {F G : α → β → Prop} : ∀ {l₁ : List α} {l₂ : List β}, Paired F l₁ l₂ → (∀ a b, F a b → G a b) → Paired G l₁ l₂
  | _, _, .nil, _ => .nil
  | _, _, .cons r t, f => .cons (f _ _ r) (Paired.mapP t f)
/-- what an object's description leans on: its own object, its own dict, the tuples -/
theorem ObjOk.stay (x : ObjOk P w H h a o) (k : ∀ b u, (b = a ∨ H b = some (.own a)) → h.get? b = some u → h'.get? b = some u)
    (ho : ∀ b, H b = some (.own a) → H' b = some (.own a)) (ht : ∀ b xs, H b = some (.tup xs) → H' b = some (.tup xs)) : ObjOk P w H' h' a o := by
  induction o with
  | lst xs => obtain ⟨z, its, n, r, e⟩ := x; exact ⟨z, its, n, r, k _ _ (.inl rfl) e⟩
  | tup xs => obtain ⟨z, its, r, ob, e, c⟩ := x; exact ⟨z, its, r, ob, k _ _ (.inl rfl) e, c⟩
  | dK kvs => obtain ⟨z, y, vs, r, ob, es, ep, e, c⟩ := x; exact ⟨z, y, vs, r, ob, es, ep, k _ _ (.inl rfl) e, c⟩
  | dT kvs =>
    obtain ⟨z, y, xs, r, ob, es, ep, e, c⟩ := x
    exact ⟨z, y, xs, Paired.mapP r fun p q z => ⟨z.1, ht _ _ z.2.1, z.2.2⟩, ob, es, ep, k _ _ (.inl rfl) e, c⟩
  | set S n => obtain ⟨ob, es, ep, t, e, c⟩ := x; exact ⟨ob, es, ep, t, k _ _ (.inl rfl) e, c⟩
  | ins C dx fs =>
    obtain ⟨d, z, ne, e, mA, ⟨od, es, ep, e2, c⟩, r⟩ := x
    exact ⟨ho _ d, z, ne, k _ _ (.inl rfl) e, mA, ⟨od, es, ep, k _ _ (.inr d) e2, c⟩, r⟩
  | own y => obtain ⟨ob, e⟩ := x; exact ⟨ob, k _ _ (.inl rfl) e⟩
  | xd fs => obtain ⟨mA, ⟨od, es, ep, e, c⟩, r⟩ := x; exact ⟨mA, ⟨od, es, ep, k _ _ (.inl rfl) e, c⟩, r⟩
  | rng lo hi => obtain ⟨t, u, v, e⟩ := x; exact ⟨t, u, v, k _ _ (.inl rfl) e⟩
  | frz ob u ih => obtain ⟨e, q⟩ := x; exact ⟨k _ _ (.inl rfl) e, ih q⟩
  | tbl ps =>
    have e : h.get? a = some { cls := .none, data := .fields ps } := x
    show h'.get? a = some { cls := .none, data := .fields ps }
    exact k a _ (.inl rfl) e
  | met f y =>
    have e : h.get? a = some (PySem.W.methodObj (.ref f) (.ref y)) := x
    show h'.get? a = some (PySem.W.methodObj (.ref f) (.ref y))
    exact k a _ (.inl rfl) e
  | ext φ => obtain ⟨p, ⟨o, e⟩, st⟩ := x; exact ⟨st _ _ p fun o q => k _ _ (.inl rfl) q, ⟨o, k _ _ (.inl rfl) e⟩, st⟩
theorem HOk.lt (x : HOk P w H h) (e : H a = some o) : a < h.objs.size := (x a o e).lt
theorem HOk.fresh (x : HOk P w H h) (e : h.objs.size ≤ a) : H a = none := by
  cases q : H a with
  | none => rfl
  | some u => exact absurd (Nat.lt_of_lt_of_le (x.lt q) e) (Nat.lt_irrefl _)
/-- every object of the heap is kept -/
theorem HOk.kept (x : HOk P w H h) (k : ∀ b u, h.get? b = some u → h'.get? b = some u) : HOk P w H h' := fun a o e =>
  (x a o e).stay (fun b u _ q => k b u q) (fun _ q => q) fun _ _ q => q
/-- a new object is laid and tracked -/
theorem HOk.laid (x : HOk P w H h) (k : ∀ b u, h.get? b = some u → h'.get? b = some u) (hp : h.objs.size ≤ a) (new : ObjOk P w (upd H a o) h' a o) : HOk P w (upd H a o) h' := fun b u e => by
  have hn := x.fresh hp
  by_cases hb : b = a
  · subst hb; rw [upd_same] at e; cases e; exact new
  · rw [upd_ne hb] at e
    exact (x b u e).stay (fun c v _ q => k c v q) (fun c q => by rw [upd_ne (ne_of_none q hn)]; exact q) fun c xs q => by rw [upd_ne (ne_of_none q hn)]; exact q
end

/-- what may be read as u: it is u, or a known u -/
def Rd (H : Hp) (a : Addr) (u : HO) : Prop := H a = some u ∨ ∃ o, H a = some (.frz o u)
theorem Rd.of {H : Hp} {a : Addr} {u : HO} (h : H a = some u) : Rd H a u := .inl h
theorem Rd.ok {P : Program} {w : World} {H : Hp} {h : Heap} {a : Addr} {u : HO} (r : Rd H a u) (x : HOk P w H h) : ObjOk P w H h a u := by
  rcases r with r | ⟨o, r⟩
  · exact x a u r
  · obtain ⟨_, q⟩ := x a _ r
    exact q
/-- what may be written -/
def Mut : Option HO → Prop
  | some (.lst _) => True
  | some (.dK _) => True
  | some (.dT _) => True
  | some (.set _ _) => True
  | some (.ins _ _ _) => True
  | some (.ext _) => True
  | _ => False
section
variable {P : Program} {w : World} {H : Hp} {h h' : Heap} {x e : Addr} {o' : HO}
/-- the object at e is changed: x itself, or the dict of the instance x -/
theorem HOk.write (ok : HOk P w H h) (mu : Mut (H x)) (he : e = x ∨ H e = some (.own x)) (k : ∀ b u, b ≠ e → h.get? b = some u → h'.get? b = some u) (heo : ∃ u, h'.get? e = some u)
    (new : ObjOk P w (upd H x o') h' x o') : HOk P w (upd H x o') h' := fun b u q => by
  have nown : ∀ c y, H c = some (.own y) → c ≠ x := fun c y r z => by subst z; rw [r] at mu; exact mu
  have ntup : ∀ c xs, H c = some (.tup xs) → c ≠ x := fun c xs r z => by subst z; rw [r] at mu; exact mu
  by_cases hb : b = x
  · subst hb; rw [upd_same] at q; cases q; exact new
  · rw [upd_ne hb] at q
    by_cases hbe : b = e
    · have q' : H b = some (.own x) := by
        rcases he with z | z
        · exact absurd (hbe.trans z) hb
        · rw [hbe]; exact z
      rw [q] at q'; cases q'
      obtain ⟨v, hv⟩ := heo
      exact ⟨v, by rw [hbe]; exact hv⟩
    · refine (ok b u q).stay (fun c v hc r => k c v ?_ r) (fun c r => by rw [upd_ne (nown c b r)]; exact r) fun c xs r => by rw [upd_ne (ntup c xs r)]; exact r
      rcases hc with rfl | hc
      · exact hbe
      · rintro rfl
        rcases he with z | z
        · exact nown c b hc z
        · rw [hc] at z; cases z; exact hb rfl
end

structure Un (fs ex : List Addr) (H H' : Hp) (h h' : Heap) : Prop where
  keep : ∀ b o, h.get? b = some o → H b = none → b ∉ fs → b ∉ ex → h'.get? b = some o
  slot : ∀ b o, h.get? b = some o → H b = none → b ∈ fs → b ∉ ex → ∃ sl, h'.get? b = some { o with slots := sl }
  free : ∀ b o, h.get? b = some o → H b = none → b ∉ ex → H' b = none
  there : ∀ b o, h.get? b = some o → b ∉ ex → ∃ o', h'.get? b = some o'
  tups : ∀ b xs, H b = some (.tup xs) → H' b = some (.tup xs)
  frzs : ∀ b o u, H b = some (.frz o u) → H' b = some (.frz o u)
  tbls : ∀ b ps, H b = some (.tbl ps) → ∃ more, H' b = some (.tbl (ps ++ more))
section
variable {fs fs' ex ex' : List Addr} {H H1 H2 : Hp} {h h1 h2 h' : Heap} {a x e : Addr} {o : HO}
theorem Un.any (u : Un fs ex H H1 h h1) {b : Addr} {ob : Obj} (q : h.get? b = some ob) (n : H b = none) (hx : b ∉ ex) : ∃ sl, h1.get? b = some { ob with slots := sl } := by
  by_cases hb : b ∈ fs
  · exact u.slot b ob q n hb hx
  · exact ⟨ob.slots, u.keep b ob q n hb hx⟩
theorem Un.trans (a : Un fs ex H H1 h h1) (b : Un fs ex H1 H2 h1 h2) : Un fs ex H H2 h h2 where
  keep := fun c ob q n hc hx => b.keep c ob (a.keep c ob q n hc hx) (a.free c ob q n hx) hc hx
  slot := fun c ob q n hc hx => by
    obtain ⟨sl, e1⟩ := a.slot c ob q n hc hx
    obtain ⟨sl', e2⟩ := b.slot c _ e1 (a.free c ob q n hx) hc hx
    exact ⟨sl', e2⟩
  free := fun c ob q n hx => by
    obtain ⟨o', e1⟩ := a.there c ob q hx
    exact b.free c o' e1 (a.free c ob q n hx) hx
  there := fun c ob q hx => by
    obtain ⟨o', e1⟩ := a.there c ob q hx
    exact b.there c o' e1 hx
  tups := fun c xs q => b.tups c xs (a.tups c xs q)
  frzs := fun c ob xs q => b.frzs c ob xs (a.frzs c ob xs q)
  tbls := fun c ps q => by
    obtain ⟨m1, e1⟩ := a.tbls c ps q
    obtain ⟨m2, e2⟩ := b.tbls c _ e1
    exact ⟨m1 ++ m2, by rw [e2, Array.append_assoc]⟩
theorem Un.kept (k : ∀ b u, h.get? b = some u → h'.get? b = some u) : Un fs ex H H h h' :=
  ⟨fun b ob q _ _ _ => k b ob q, fun b ob q _ _ _ => ⟨ob.slots, k b ob q⟩, fun _ _ _ n _ => n, fun b ob q _ => ⟨ob, k b ob q⟩, fun _ _ q => q, fun _ _ _ q => q, fun _ ps q => ⟨#[], by rw [q]; simp⟩⟩
theorem Un.refl : Un fs ex H H h h := Un.kept fun _ _ q => q
theorem Un.laid (k : ∀ b u, h.get? b = some u → h'.get? b = some u) (hp : h.objs.size ≤ a) (hn : H a = none) : Un fs ex H (upd H a o) h h' where
  keep := fun b u q _ _ _ => k b u q
  slot := fun b u q _ _ _ => ⟨u.slots, k b u q⟩
  free := fun b u q n _ => by rw [upd_ne (Nat.ne_of_lt (Nat.lt_of_lt_of_le (Heap.lt_size q) hp))]; exact n
  there := fun b u q _ => ⟨u, k b u q⟩
  tups := fun b xs q => by rw [upd_ne (ne_of_none q hn)]; exact q
  frzs := fun b u xs q => by rw [upd_ne (ne_of_none q hn)]; exact q
  tbls := fun b ps q => ⟨#[], by rw [upd_ne (ne_of_none q hn), q]; simp⟩
theorem Un.write (mu : Mut (H x)) (he : e = x ∨ H e = some (.own x)) (k : ∀ b u, b ≠ e → h.get? b = some u → h'.get? b = some u) (heo : ∃ u, h'.get? e = some u) : Un fs ex H (upd H x o) h h' := by
  have hx : ∀ b, H b = none → b ≠ x := fun b n z => by subst z; rw [n] at mu; exact mu
  have hb : ∀ b, H b = none → b ≠ e := fun b n z => by
    subst z
    rcases he with r | r
    · exact hx b n r
    · rw [n] at r; cases r
  have hm : ∀ b u, H b = some u → ¬ Mut (some u) → b ≠ x := fun b u q nm z => by subst z; rw [q] at mu; exact nm mu
  refine ⟨fun b u q n _ _ => k b u (hb b n) q, fun b u q n _ _ => ⟨u.slots, k b u (hb b n) q⟩, fun b u q n _ => by rw [upd_ne (hx b n)]; exact n, fun b u q _ => ?_,
    fun b xs q => by rw [upd_ne (hm b _ q fun z => z)]; exact q, fun b u xs q => by rw [upd_ne (hm b _ q fun z => z)]; exact q, fun b ps q => ⟨#[], by rw [upd_ne (hm b _ q fun z => z), q]; simp⟩⟩
  by_cases hbe : b = e
  · subst hbe; exact heo
  · exact ⟨u, k b u hbe q⟩
theorem Un.mono (u : Un fs ex H H1 h h1) (hs : ∀ b ∈ fs, b ∈ fs') (hx : ∀ b ∈ ex, b ∈ ex') : Un fs' ex' H H1 h h1 :=
  ⟨fun b ob q n hb he => u.keep b ob q n (fun z => hb (hs b z)) fun z => he (hx b z), fun _ _ q n _ he => u.any q n fun z => he (hx _ z), fun b ob q n he => u.free b ob q n fun z => he (hx b z), fun b ob q he => u.there b ob q fun z => he (hx b z), u.tups, u.frzs, u.tbls⟩
end

def trk (h : Heap) (H : Hp) : List Addr := (List.range h.objs.size).filter fun a => (H a).isSome
def hidT (h : Heap) (H : Hp) : Heap := PySem.W.hideAll h (trk h H)
theorem hidT_size (h : Heap) (H : Hp) : (hidT h H).objs.size = h.objs.size := PySem.W.hideAll_size _ _
theorem hidT_get {h : Heap} {H : Hp} {b : Addr} {o : Obj} (e : h.get? b = some o) (n : H b = none) : (hidT h H).get? b = some o :=
  PySem.W.hideAll_get _ e fun hm => by
    have q : (H b).isSome = true := (List.mem_filter.mp hm).2
    rw [n] at q; simp at q
theorem of_hidT {h : Heap} {H : Hp} {b : Addr} {o : Obj} (e : (hidT h H).get? b = some o) : h.get? b = some o ∧ H b = none := by
  have e' : h.get? b = some o := PySem.W.of_hideAll (trk h H) e
  refine ⟨e', ?_⟩
  cases q : H b with
  | none => rfl
  | some x =>
    have hm : b ∈ trk h H := List.mem_filter.mpr ⟨List.mem_range.mpr (Heap.lt_size e'), by simp [q]⟩
    have z : (hidT h H).get? b = none := PySem.W.hideAll_none (trk h H) hm
    rw [z] at e; cases e

def allNews (g h : Heap) (L : Addr) : List (Addr × Obj) := (List.range h.objs.size).filterMap fun a => if a = L ∨ (g.get? a).isSome = true then none else (h.get? a).map fun o => (a, o)
def rest (g h : Heap) (L d : Addr) : List (Addr × Obj) := (allNews g h L).filter fun p => decide (p.1 ≠ d)
end L2

namespace L2
open PySem PySem.Spec PyProof.Rows

/-- the module's facts, over the base: the heap at the law's entry without what is tracked there -/
structure Mod (K : PySem.W.Frag) (mg : Str → Option Value) (base : Heap) : Prop where
  kin : K.In base
  glob : base.Ns mainGlobals mg
  blt : ∃ mb, base.Ns builtinsNs mb ∧ ∀ x : Str, x ≠ "__name__" → mb x = bootBuiltins x
  nolimit : base.NoLimit

/-- the context: a def's body (or a comprehension's block) running. base: fixed through the whole law; s₀, H₀: the entry; outer: the frames whose slots others may change (a def's callers); stack: all frames that run;
   ex: iterators that were made ahead of the entry and are walked here (a comprehension's); fn: the names whose cells were made at the entry (a def: all; a comprehension's block: its own); calm: not within an except suite; pn: pins that every state bears; xe: what is wanted of an exception that leaves the code -/
structure Cx where
  prog : Program
  w : World
  K : PySem.W.Frag
  mg : Str → Option Value
  base : Heap
  A : Around
  N : List Str
  s_0 : Shared
  H_0 : Hp
  env : Env
  outer : List Env
  stack : List Env
  ex : List Addr
  fn : Str → Bool
  calm : Bool
  pn : List (Addr × Obj)
  xe : Value → Shared → Prop
/-- the callers' frames -/
def frs (l : List Env) : List Addr := l.filterMap (·.frame)
abbrev Cx.fs (X : Cx) : List Addr := frs X.outer

def Vis (sc : Scope) (x : Str) : Prop := sc.names.lookup x = some .local ∨ sc.names.lookup x = some .cell ∨ sc.names.lookup x = some .free
def Loc (sc : Scope) (x : Str) : Prop := sc.names.lookup x = some .local ∨ sc.names.lookup x = some .cell
def Look (env : Env) (h : Heap) (m : Str → Option Value) (x : Str) (u : Value) : Prop :=
  (env.kindOf x = some .local ∧ m x = some u) ∨ ((env.kindOf x = some .cell ∨ env.kindOf x = some .free) ∧ ∃ c, env.cells.lookup x = some c ∧ h.IsCell c (some u))

structure Cx.Ok (X : Cx) : Prop where
  mod : Mod X.K X.mg X.base
  kind : X.env.scope.kind = .function
  glob : X.env.globals = mainGlobals
  blt : X.env.builtins = builtinsNs
  above : X.s_0.heap.objs.size ≤ X.env.locals
  inj : ∀ x y c, X.env.cells.lookup x = some c → X.env.cells.lookup y = some c → x = y
  has : ∀ x, (X.env.kindOf x = some .cell ∨ X.env.kindOf x = some .free) → ∃ c, X.env.cells.lookup x = some c
  cab : ∀ x c, X.fn x = true → X.env.cells.lookup x = some c → X.s_0.heap.objs.size ≤ c
  hd : X.calm = true → X.A.handled = none
  frames : X.A.frames = some X.stack
  stk : X.stack = X.outer ∨ (X.stack = X.env :: X.outer ∧ X.env.frame = some X.env.locals)
  exf : ∀ b ∈ X.ex, b ≠ X.env.locals ∧ ∀ x c, X.env.cells.lookup x = some c → c ≠ b
  bs : ∀ b o, X.base.get? b = some o → X.s_0.heap.get? b = some o ∧ X.H_0 b = none
  bsz : X.base.objs.size ≤ X.s_0.heap.objs.size
  noex : ∀ b o, X.base.get? b = some o → b ∉ X.ex
  exfs : ∀ b ∈ X.ex, b ∉ X.fs
  funs : X.s_0.heap.FunFrames X.base X.outer
  frf : ∀ b ∈ X.fs, X.H_0 b = none

structure Inv (X : Cx) (pins : List (Addr × Obj)) (σ : List (Option V)) (H : Hp) (s : Shared) : Prop where
  ok : X.Ok
  os : s.os = X.s_0.os
  bare : AllBare s.gens
  base : Un X.fs X.ex X.H_0 H X.s_0.heap s.heap
  loc : ∃ m, s.heap.Ns X.env.locals m ∧ ∀ (i : Nat) (x : Str) (v : V), X.N[i]? = some x → σ[i]? = some (some v) → Vis X.env.scope x → ∃ u, RelV v u ∧ Look X.env s.heap m x u
  cell : ∀ x c, X.env.cells.lookup x = some c → ∃ v, s.heap.IsCell c v
  free : H X.env.locals = none
  freeC : ∀ x c, X.env.cells.lookup x = some c → H c = none
  pin : ∀ p ∈ X.pn ++ pins, s.heap.get? p.1 = some p.2 ∧ H p.1 = none ∧ p.1 ≠ X.env.locals ∧ p.1 ∉ X.fs ∧ ∀ v, p.2.data ≠ .cell v
  hok : HOk X.prog X.w H s.heap
  len : σ.length = X.N.length

section
variable {X : Cx} {pins : List (Addr × Obj)} {σ : List (Option V)} {H H' : Hp} {s : Shared} {h' : Heap}

theorem Cx.Ok.nofr (ok : X.Ok) {b : Addr} {o : Obj} (e : X.base.get? b = some o) : b ∉ X.fs := fun hb => by
  have := (ok.funs.mem hb).1
  rw [e] at this; cases this
theorem Inv.bs (I : Inv X pins σ H s) : ∀ b o, X.base.get? b = some o → s.heap.get? b = some o ∧ H b = none := fun b o e =>
  ⟨I.base.keep b o (I.ok.bs b o e).1 (I.ok.bs b o e).2 (I.ok.nofr e) (I.ok.noex b o e), I.base.free b o (I.ok.bs b o e).1 (I.ok.bs b o e).2 (I.ok.noex b o e)⟩
theorem Inv.bk (I : Inv X pins σ H s) : ∀ b o, X.base.get? b = some o → s.heap.get? b = some o := fun b o e => (I.bs b o e).1
theorem Inv.mod (I : Inv X pins σ H s) : Mod X.K X.mg X.base := I.ok.mod
theorem Inv.kIn (I : Inv X pins σ H s) : X.K.In s.heap := I.ok.mod.kin.keeps I.bk
theorem Inv.nolimit (I : Inv X pins σ H s) : s.heap.NoLimit := I.ok.mod.nolimit.keeps I.bk
/-- the frame over the base: for OpenK's rules (K.In X.base is I.mod.kin) -/
theorem Inv.fr (I : Inv X pins σ H s) : ∃ m, Fr X.base X.env.locals s.heap m :=
  let ⟨m, hn, _⟩ := I.loc
  ⟨m, hn, I.bk, Nat.le_trans I.ok.bsz I.ok.above⟩
theorem Inv.lt (I : Inv X pins σ H s) : X.env.locals < s.heap.objs.size := let ⟨_, hn, _⟩ := I.loc; hn.lt
theorem Inv.sz (I : Inv X pins σ H s) : X.s_0.heap.objs.size ≤ s.heap.objs.size := Nat.le_trans I.ok.above (Nat.le_of_lt I.lt)
theorem Inv.nofs (I : Inv X pins σ H s) {a : Addr} (h : s.heap.objs.size ≤ a) : a ∉ X.fs := fun hb => by
  obtain ⟨_, o, ho, _⟩ := I.ok.funs.mem hb
  exact absurd (Nat.lt_of_lt_of_le (Heap.lt_size ho) (Nat.le_trans I.sz h)) (Nat.lt_irrefl _)
theorem Inv.cne (I : Inv X pins σ H s) : ∀ x c, X.env.cells.lookup x = some c → c ≠ X.env.locals := fun x c e z => by
  obtain ⟨v, o, ho, hd⟩ := I.cell x c e
  obtain ⟨m, ⟨o', es, ep, ho', hd', _⟩, _⟩ := I.loc
  rw [z, ho'] at ho; cases ho; rw [hd'] at hd; cases hd
theorem Inv.funs (I : Inv X pins σ H s) : s.heap.FunFrames X.base X.outer := by
  have all : ∀ (l : List Env), (∀ b ∈ frs l, b ∈ X.fs) → X.s_0.heap.FunFrames X.base l → s.heap.FunFrames X.base l := by
    intro l
    induction l with
    | nil => intro _ _; trivial
    | cons env r ih =>
      intro hs hl
      obtain ⟨hk, ⟨L, o, hf, hn, ho, hd⟩, hr⟩ := hl
      have hL : L ∈ X.fs := hs L (by unfold frs; rw [List.filterMap_cons, hf]; exact List.mem_cons_self)
      obtain ⟨sl, e⟩ := I.base.slot L o ho (I.ok.frf L hL) hL fun z => I.ok.exfs L z hL
      exact ⟨hk, ⟨L, _, hf, hn, e, hd⟩, ih (fun b hb => hs b (by unfold frs; rw [List.filterMap_cons, hf]; exact List.mem_cons_of_mem _ hb)) hr⟩
  exact all X.outer (fun _ hb => hb) I.ok.funs

/-- the frames that run, for a call -/
theorem Inv.stack (I : Inv X pins σ H s) : s.heap.FunFrames X.base X.stack := by
  rcases I.ok.stk with e | ⟨e, hf⟩
  · rw [e]; exact I.funs
  · rw [e]
    obtain ⟨m, hn, _⟩ := I.loc
    refine .cons (by rw [I.ok.kind]; decide) hf hn ?_ I.funs
    exact Heap.get?_none_of_le (Nat.le_trans I.ok.bsz I.ok.above)
theorem Inv.stkSub (I : Inv X pins σ H s) : ∀ b ∈ frs X.stack, b ∈ X.env.locals :: X.fs := fun b hb => by
  rcases I.ok.stk with e | ⟨e, hf⟩
  · rw [e] at hb; exact List.mem_cons_of_mem _ hb
  · rw [e] at hb
    unfold frs at hb
    rw [List.filterMap_cons, hf] at hb
    exact hb
theorem Inv.stkFree (I : Inv X pins σ H s) : ∀ b ∈ frs X.stack, H b = none := fun b hb => by
  rcases List.mem_cons.mp (I.stkSub b hb) with e | hb
  · rw [e]; exact I.free
  · obtain ⟨_, o, ho, _⟩ := I.ok.funs.mem hb
    exact I.base.free b o ho (I.ok.frf b hb) fun z => I.ok.exfs b z hb

/-- THE STEP: the untracked objects but the frame and the records at ch are kept (the callers' frames up to slots), the frame's map is kept, the new abstract heap is held -/
theorem Inv.step {g' : Array GenState} {t' : Nat} {d' : Drawn} {ch : List Addr} (I : Inv X pins σ H s)
    (hch : ∀ b ∈ ch, (b ∈ X.ex ∨ X.s_0.heap.objs.size ≤ b) ∧ b ≠ X.env.locals ∧ (∀ x c, X.env.cells.lookup x = some c → c ≠ b) ∧ ∀ p ∈ X.pn ++ pins, p.1 ≠ b)
    (keep : ∀ b o, b ≠ X.env.locals → b ∉ X.fs → b ∉ ch → s.heap.get? b = some o → H b = none → h'.get? b = some o)
    (slot : ∀ b o, b ≠ X.env.locals → b ∈ X.fs → b ∉ ch → s.heap.get? b = some o → H b = none → ∃ sl, h'.get? b = some { o with slots := sl }) (free : ∀ b o, b ∉ ch → s.heap.get? b = some o → H b = none → H' b = none)
    (there : ∀ b o, b ∉ ch → s.heap.get? b = some o → ∃ o', h'.get? b = some o')
    (tups : ∀ b xs, H b = some (.tup xs) → H' b = some (.tup xs)) (frzs : ∀ b o u, H b = some (.frz o u) → H' b = some (.frz o u)) (tbls : ∀ b ps, H b = some (.tbl ps) → ∃ more, H' b = some (.tbl (ps ++ more)))
    (ns : ∀ m, s.heap.Ns X.env.locals m → h'.Ns X.env.locals m) (hok : HOk X.prog X.w H' h') (hg : AllBare g') :
    Inv X pins σ H' { s with heap := h', gens := g', drawn := d', toks := t' } := by
  have neL : ∀ b o, X.s_0.heap.get? b = some o → b ≠ X.env.locals := fun b o e => Nat.ne_of_lt (Nat.lt_of_lt_of_le (Heap.lt_size e) I.ok.above)
  have neC : ∀ b o, X.s_0.heap.get? b = some o → b ∉ X.ex → b ∉ ch := fun b o e hx hb => by
    rcases (hch b hb).1 with z | z
    · exact hx z
    · exact absurd (Nat.lt_of_lt_of_le (Heap.lt_size e) z) (Nat.lt_irrefl _)
  have cellK : ∀ x c, X.env.cells.lookup x = some c → ∀ v, s.heap.IsCell c v → h'.IsCell c v := fun x c e v ⟨o, ho, hd⟩ => by
    have nch : c ∉ ch := fun z => (hch c z).2.2.1 x c e rfl
    by_cases hc : c ∈ X.fs
    · obtain ⟨sl, q⟩ := slot c o (I.cne x c e) hc nch ho (I.freeC x c e)
      exact ⟨_, q, hd⟩
    · exact ⟨o, keep c o (I.cne x c e) hc nch ho (I.freeC x c e), hd⟩
  refine ⟨I.ok, I.os, hg, ⟨fun b o e n hb hx => ?_, fun b o e n hb hx => ?_, fun b o e n hx => ?_, fun b o e hx => ?_, fun b xs e => tups b xs (I.base.tups b xs e), fun b o xs e => frzs b o xs (I.base.frzs b o xs e), fun b ps e => ?_⟩, ?_, fun x c e => ?_, ?_, fun x c e => ?_, fun p hp => ?_, hok, I.len⟩
  · exact keep b o (neL b o e) hb (neC b o e hx) (I.base.keep b o e n hb hx) (I.base.free b o e n hx)
  · obtain ⟨sl, e1⟩ := I.base.slot b o e n hb hx
    obtain ⟨sl', e2⟩ := slot b _ (neL b o e) hb (neC b o e hx) e1 (I.base.free b o e n hx)
    exact ⟨sl', e2⟩
  · obtain ⟨o', e1⟩ := I.base.there b o e hx
    exact free b o' (neC b o e hx) e1 (I.base.free b o e n hx)
  · obtain ⟨o', e1⟩ := I.base.there b o e hx
    exact there b o' (neC b o e hx) e1
  · obtain ⟨m1, e1⟩ := I.base.tbls b ps e
    obtain ⟨m2, e2⟩ := tbls b _ e1
    exact ⟨m1 ++ m2, by rw [e2, Array.append_assoc]⟩
  · obtain ⟨m, hn, hl⟩ := I.loc
    refine ⟨m, ns m hn, fun i x v e1 e2 e3 => ?_⟩
    obtain ⟨u, r, l⟩ := hl i x v e1 e2 e3
    refine ⟨u, r, ?_⟩
    rcases l with l | ⟨k, c, e, z⟩
    · exact .inl l
    · exact .inr ⟨k, c, e, cellK x c e _ z⟩
  · obtain ⟨v, z⟩ := I.cell x c e
    exact ⟨v, cellK x c e v z⟩
  · obtain ⟨m, ⟨o, _, _, ho, _⟩, _⟩ := I.loc
    exact free _ o (fun z => (hch _ z).2.1 rfl) ho I.free
  · obtain ⟨v, o, ho, hd⟩ := I.cell x c e
    exact free c o (fun z => (hch c z).2.2.1 x c e rfl) ho (I.freeC x c e)
  · obtain ⟨e, n, ne, nf, d⟩ := I.pin p hp
    have nch : p.1 ∉ ch := fun z => (hch p.1 z).2.2.2 p hp rfl
    exact ⟨keep p.1 p.2 ne nf nch e n, free p.1 p.2 nch e n, ne, nf, d⟩
/-- .. where the frame's own object is kept too -/
theorem Inv.un {t' : Nat} (I : Inv X pins σ H s) (u : Un X.fs [] H H' s.heap h') (hok : HOk X.prog X.w H' h') : Inv X pins σ H' { s with heap := h', toks := t' } := by
  obtain ⟨m, ⟨o, es, ep, ho, r⟩, _⟩ := id I.loc
  obtain ⟨sl, hL⟩ := u.any ho I.free (by simp)
  exact I.step (g' := s.gens) (d' := s.drawn) (ch := []) (fun _ z => nomatch z) (fun b o _ hb _ e n => u.keep b o e n hb (by simp)) (fun b o _ hb _ e n => u.slot b o e n hb (by simp)) (fun b o _ e n => u.free b o e n (by simp)) (fun b o _ e => u.there b o e (by simp)) u.tups u.frzs u.tbls (fun m' hm => by
    obtain ⟨o', es', ep', ho', r'⟩ := hm
    rw [ho] at ho'; cases ho'
    exact ⟨_, es', ep', hL, r'⟩) hok I.bare
/-- behind a call (or a comprehension's block): the slots of this frame may have changed too, the records at ch may have turned -/
theorem Inv.call {g' : Array GenState} {t' : Nat} {d' : Drawn} {ch : List Addr} (I : Inv X pins σ H s) (u : Un (frs X.stack) ch H H' s.heap h') (hok : HOk X.prog X.w H' h') (hg : AllBare g')
    (hch : ∀ b ∈ ch, (b ∈ X.ex ∨ X.s_0.heap.objs.size ≤ b) ∧ b ≠ X.env.locals ∧ (∀ x c, X.env.cells.lookup x = some c → c ≠ b) ∧ ∀ p ∈ X.pn ++ pins, p.1 ≠ b) :
    Inv X pins σ H' { s with heap := h', gens := g', drawn := d', toks := t' } := by
  obtain ⟨m, ⟨o, es, ep, ho, r⟩, _⟩ := id I.loc
  obtain ⟨sl, hL⟩ := u.any ho I.free fun z => (hch _ z).2.1 rfl
  exact I.step (ch := ch) hch (fun b o hL hb hc e n => u.keep b o e n (fun z => (List.mem_cons.mp (I.stkSub b z)).elim hL hb) hc) (fun b o _ _ hc e n => u.any e n hc) (fun b o hc e n => u.free b o e n hc) (fun b o hc e => u.there b o e hc) u.tups u.frzs u.tbls (fun m' hm => by
    obtain ⟨o', es', ep', ho', r'⟩ := hm
    rw [ho] at ho'; cases ho'
    exact ⟨_, es', ep', hL, r'⟩) hok hg
/-- an untracked record of ours (an iterator) has turned -/
theorem Inv.turned {t' : Nat} {it : Addr} (I : Inv X pins σ H s) (k : ∀ b o, b ≠ it → s.heap.get? b = some o → h'.get? b = some o) (hn : H it = none) (hL : it ≠ X.env.locals)
    (h1 : it ∈ X.ex ∨ X.s_0.heap.objs.size ≤ it) (h2 : ∀ x c, X.env.cells.lookup x = some c → c ≠ it) (h3 : ∀ p ∈ X.pn ++ pins, p.1 ≠ it) : Inv X pins σ H { s with heap := h', toks := t' } := by
  have nit : ∀ b u, H b = some u → b ≠ it := fun b u e z => by rw [z, hn] at e; cases e
  refine I.step (g' := s.gens) (d' := s.drawn) (ch := [it]) (fun b hb => ?_) (fun b o _ _ hc e _ => k b o (fun z => hc (by simp [z])) e) (fun b o _ _ hc e _ => ⟨o.slots, k b o (fun z => hc (by simp [z])) e⟩) (fun _ _ _ _ n => n)
    (fun b o hc e => ⟨o, k b o (fun z => hc (by simp [z])) e⟩) (fun _ _ e => e) (fun _ _ _ e => e) (fun b ps e => ⟨#[], by rw [e]; simp⟩) (fun m hm => ?_) (fun b u e => ?_) I.bare
  · have e : b = it := by simpa using hb
    subst e
    exact ⟨h1, hL, h2, h3⟩
  · obtain ⟨o, es, ep, ho, r⟩ := hm
    exact ⟨o, es, ep, k _ o (Ne.symm hL) ho, r⟩
  · refine (I.hok b u e).stay (fun c v hc q => k c v ?_ q) (fun _ q => q) fun _ _ q => q
    rcases hc with z | z
    · rw [z]; exact nit b u e
    · exact nit c _ z
theorem Inv.tok (I : Inv X pins σ H s) (t : Nat) : Inv X pins σ H { s with toks := t } := I.un (h' := s.heap) (t' := t) Un.refl I.hok
/-- all objects kept -/
theorem Inv.kept {t' : Nat} (I : Inv X pins σ H s) (k : ∀ b u, s.heap.get? b = some u → h'.get? b = some u) : Inv X pins σ H { s with heap := h', toks := t' } := I.un (Un.kept k) (I.hok.kept k)
/-- a new object laid and tracked -/
theorem Inv.laid {a : Addr} {o : HO} {t' : Nat} (I : Inv X pins σ H s) (k : ∀ b u, s.heap.get? b = some u → h'.get? b = some u) (hp : s.heap.objs.size ≤ a) (new : ObjOk X.prog X.w (upd H a o) h' a o) :
    Inv X pins σ (upd H a o) { s with heap := h', toks := t' } := I.un (Un.laid k hp (I.hok.fresh hp)) (I.hok.laid k hp new)
/-- an object written -/
theorem Inv.write {x e : Addr} {o : HO} {t' : Nat} (I : Inv X pins σ H s) (mu : Mut (H x)) (he : e = x ∨ H e = some (.own x)) (k : ∀ b u, b ≠ e → s.heap.get? b = some u → h'.get? b = some u) (heo : ∃ u, h'.get? e = some u)
    (new : ObjOk X.prog X.w (upd H x o) h' x o) : Inv X pins σ (upd H x o) { s with heap := h', toks := t' } := I.un (Un.write mu he k heo) (I.hok.write mu he k heo new)
/-- forgetting slots, pins -/
theorem Inv.weak {σ' : List (Option V)} (I : Inv X pins σ H s) (hl : σ'.length = σ.length) (w : ∀ (i : Nat) v, σ'[i]? = some (some v) → σ[i]? = some (some v)) : Inv X pins σ' H s :=
  ⟨I.ok, I.os, I.bare, I.base, let ⟨m, hn, hl'⟩ := I.loc; ⟨m, hn, fun i x v e1 e2 e3 => hl' i x v e1 (w i v e2) e3⟩, I.cell, I.free, I.freeC, I.pin, I.hok, hl.trans I.len⟩
theorem Inv.pins_of {pins' : List (Addr × Obj)} (I : Inv X pins σ H s) (h : ∀ p ∈ pins', s.heap.get? p.1 = some p.2 ∧ H p.1 = none ∧ p.1 ≠ X.env.locals ∧ p.1 ∉ X.fs ∧ ∀ v, p.2.data ≠ .cell v) : Inv X pins' σ H s :=
  ⟨I.ok, I.os, I.bare, I.base, I.loc, I.cell, I.free, I.freeC, fun p hp => (List.mem_append.mp hp).elim (fun z => I.pin p (List.mem_append_left _ z)) (h p), I.hok, I.len⟩

theorem nodup_ix {N : List Str} (hN : N.Nodup) {i j : Nat} {x : Str} (a : N[i]? = some x) (b : N[j]? = some x) : i = j := by
  obtain ⟨h1, e1⟩ := List.getElem?_eq_some_iff.mp a
  obtain ⟨h2, e2⟩ := List.getElem?_eq_some_iff.mp b
  exact (List.getElem_inj hN).mp (e1.trans e2.symm)

/-- a name is stored; what changed -/
theorem store_ok2 {M : Model} {A : Around} {E : Value → Shared → Prop} {i : Nat} {x : Str} {v : V} {u : Value} {Q : Unit → Shared → Prop} (I : Inv X pins σ H s) (hN : X.N.Nodup) (hi : X.N[i]? = some x) (hx : Loc X.env.scope x) (r : RelV v u)
    (h : ∀ s', Inv X pins (σ.set i (some v)) H s' → (∃ a, Heap.SameBut a s.heap s'.heap ∧ (a = X.env.locals ∨ X.env.cells.lookup x = some a)) → Q () s') (hf : X.fn x = true ∨ X.env.scope.names.lookup x = some .local := by first | exact .inl rfl | exact .inr rfl | assumption) : wpAny M A (storeName X.env x u) Q E s := by
  obtain ⟨m, hn, hl⟩ := id I.loc
  have hcls : (X.env.scope.kind == .class || (X.env.scope.kind == .module && X.env.locals != X.env.globals)) = false := by rw [I.ok.kind]; rfl
  have hiσ : i < σ.length := by rw [I.len]; exact (List.getElem?_eq_some_iff.mp hi).1
  have cne := I.cne
  have tracked : ∀ {a : Addr} {h' : Heap}, (∃ o, s.heap.get? a = some o ∧ H a = none) → Heap.SameBut a s.heap h' → HOk X.prog X.w H h' := fun {a h'} ha hs b ob e => by
    obtain ⟨_, _, hfree⟩ := ha
    refine (I.hok b ob e).stay (fun c w' hc q => (hs.2 c ?_).trans q) (fun _ q => q) fun _ _ q => q
    rintro rfl
    rcases hc with rfl | hc
    · rw [hfree] at e; cases e
    · rw [hfree] at hc; cases hc
  rcases hx with hk | hk
  · refine wpAny_storeName_local hk hn (fun h' hn' hs => ?_) hcls
    obtain ⟨oL, _, _, hoL, _⟩ := id hn
    refine h _ ⟨I.ok, I.os, I.bare, ⟨fun b o e n hb hx => ?_, fun b o e n hb hx => ?_, I.base.free, fun b o e hx => ?_, I.base.tups, I.base.frzs, I.base.tbls⟩, ⟨_, hn', fun j y v' e1 e2 e3 => ?_⟩, fun y c e => ?_, I.free, I.freeC, fun p hp => ?_, tracked ⟨oL, hoL, I.free⟩ hs, by simpa using I.len⟩ ⟨_, hs, .inl rfl⟩
    · exact (hs.2 b (Nat.ne_of_lt (Nat.lt_of_lt_of_le (Heap.lt_size e) I.ok.above))).trans (I.base.keep b o e n hb hx)
    · obtain ⟨sl, e1⟩ := I.base.slot b o e n hb hx
      exact ⟨sl, (hs.2 b (Nat.ne_of_lt (Nat.lt_of_lt_of_le (Heap.lt_size e) I.ok.above))).trans e1⟩
    · obtain ⟨o', e1⟩ := I.base.there b o e hx
      exact ⟨o', (hs.2 b (Nat.ne_of_lt (Nat.lt_of_lt_of_le (Heap.lt_size e) I.ok.above))).trans e1⟩
    · by_cases hj : j = i
      · subst hj
        rw [hi] at e1; cases e1
        rw [List.getElem?_set_self hiσ] at e2
        cases e2
        exact ⟨u, r, .inl ⟨hk, by simp⟩⟩
      · rw [List.getElem?_set_ne (Ne.symm hj)] at e2
        obtain ⟨u', r', q⟩ := hl j y v' e1 e2 e3
        refine ⟨u', r', ?_⟩
        rcases q with ⟨k, e⟩ | ⟨k, c, e, z⟩
        · refine .inl ⟨k, ?_⟩
          have : y ≠ x := fun e => hj (nodup_ix hN e1 (e ▸ hi))
          simp [this, e]
        · exact .inr ⟨k, c, e, z.sameBut hs (cne y c e)⟩
    · obtain ⟨w', z⟩ := I.cell y c e
      exact ⟨w', z.sameBut hs (cne y c e)⟩
    · obtain ⟨e, n, ne, nf, d⟩ := I.pin p hp
      exact ⟨(hs.2 p.1 ne).trans e, n, ne, nf, d⟩
  · have hfn : X.fn x = true := by
      rcases hf with z | z
      · exact z
      · rw [z] at hk; cases hk
    obtain ⟨c, hc⟩ := I.ok.has x (.inl hk)
    obtain ⟨w', z⟩ := I.cell x c hc
    refine wpAny_storeName_cell I.ok.kind hk hc z (fun h' hc' hs => ?_)
    obtain ⟨oc, hoc, hocd⟩ := id z
    refine h { s with heap := h' } ⟨I.ok, I.os, I.bare, ⟨fun b o e n hb hx => ?_, fun b o e n hb hx => ?_, I.base.free, fun b o e hx => ?_, I.base.tups, I.base.frzs, I.base.tbls⟩, ⟨m, hn.sameBut hs (Ne.symm (cne x c hc)), fun j y v' e1 e2 e3 => ?_⟩, fun y c' e => ?_, I.free, I.freeC, fun p hp => ?_, tracked ⟨oc, hoc, I.freeC x c hc⟩ hs, by simpa using I.len⟩ ⟨c, hs, .inr hc⟩
    · exact (hs.2 b (Nat.ne_of_lt (Nat.lt_of_lt_of_le (Heap.lt_size e) (I.ok.cab x c hfn hc)))).trans (I.base.keep b o e n hb hx)
    · obtain ⟨sl, e1⟩ := I.base.slot b o e n hb hx
      exact ⟨sl, (hs.2 b (Nat.ne_of_lt (Nat.lt_of_lt_of_le (Heap.lt_size e) (I.ok.cab x c hfn hc)))).trans e1⟩
    · obtain ⟨o', e1⟩ := I.base.there b o e hx
      exact ⟨o', (hs.2 b (Nat.ne_of_lt (Nat.lt_of_lt_of_le (Heap.lt_size e) (I.ok.cab x c hfn hc)))).trans e1⟩
    · by_cases hj : j = i
      · subst hj
        rw [hi] at e1; cases e1
        rw [List.getElem?_set_self hiσ] at e2
        cases e2
        exact ⟨u, r, .inr ⟨.inl hk, c, hc, hc'⟩⟩
      · rw [List.getElem?_set_ne (Ne.symm hj)] at e2
        obtain ⟨u', r', q⟩ := hl j y v' e1 e2 e3
        refine ⟨u', r', ?_⟩
        rcases q with q | ⟨k, c', e, z'⟩
        · exact .inl q
        · refine .inr ⟨k, c', e, z'.sameBut hs ?_⟩
          rintro rfl
          exact hj (nodup_ix hN e1 (I.ok.inj _ _ _ e hc ▸ hi))
    · by_cases hcc : c' = c
      · subst hcc; exact ⟨_, hc'⟩
      · obtain ⟨w2, z2⟩ := I.cell y c' e
        exact ⟨w2, z2.sameBut hs hcc⟩
    · obtain ⟨e, n, ne, nf, d⟩ := I.pin p hp
      refine ⟨(hs.2 p.1 ?_).trans e, n, ne, nf, d⟩
      intro q
      rw [q, hoc] at e
      have q' : oc = p.2 := Option.some.inj e
      exact d w' (by rw [← q']; exact hocd)
theorem store_ok {M : Model} {A : Around} {E : Value → Shared → Prop} {i : Nat} {x : Str} {v : V} {u : Value} {Q : Unit → Shared → Prop} (I : Inv X pins σ H s) (hN : X.N.Nodup) (hi : X.N[i]? = some x) (hx : Loc X.env.scope x) (r : RelV v u)
    (h : ∀ s', Inv X pins (σ.set i (some v)) H s' → Q () s') (hf : X.fn x = true ∨ X.env.scope.names.lookup x = some .local := by first | exact .inl rfl | exact .inr rfl | assumption) : wpAny M A (storeName X.env x u) Q E s :=
  store_ok2 I hN hi hx r (fun s' I' _ => h s' I') hf
/-- behind a call or a block, the state as it is -/
theorem Inv.call' {s' : Shared} {ch : List Addr} (I : Inv X pins σ H s) (ho : s'.os = s.os) (u : Un (frs X.stack) ch H H' s.heap s'.heap) (hok : HOk X.prog X.w H' s'.heap) (hg : AllBare s'.gens)
    (hch : ∀ b ∈ ch, (b ∈ X.ex ∨ X.s_0.heap.objs.size ≤ b) ∧ b ≠ X.env.locals ∧ (∀ x c, X.env.cells.lookup x = some c → c ≠ b) ∧ ∀ p ∈ X.pn ++ pins, p.1 ≠ b) : Inv X pins σ H' s' := by
  obtain ⟨h', g', d', t', o'⟩ := s'
  have e : o' = s.os := ho
  subst e
  exact I.call (g' := g') (t' := t') (d' := d') u hok hg hch
end

/-- an exception: its class, its own dict's address (where it has one), the abstract heap behind it -/
abbrev XK := Value → Option Addr → Hp → Prop
abbrev St := List (Option V)
abbrev VK := V → Hp → Prop
/-- an expression's reading; a test's; an argument list's -/
abbrev TE := St → Hp → VK → Prop
abbrev TT := St → Hp → (Bool → Hp → Prop) → Prop
abbrev TA := St → Hp → (List V → Hp → Prop) → Prop
/-- what is wanted behind a statement -/
structure Ends where
  nx : St → Hp → Prop
  rt : VK
  bk : St → Hp → Prop := fun _ _ => False
  ct : St → Hp → Prop := fun _ _ => False
abbrev TS := Ends → St → Hp → Prop

def EP (X : Cx) (pins : List (Addr × Obj)) (σ : St) (Q : VK) (u : Value) (s' : Shared) : Prop := ∃ v H', Inv X pins σ H' s' ∧ RelV v u ∧ Q v H'
def TP (X : Cx) (pins : List (Addr × Obj)) (σ : St) (Q : Bool → Hp → Prop) (b : Bool) (s' : Shared) : Prop := ∃ H', Inv X pins σ H' s' ∧ Q b H'
def AP (X : Cx) (pins : List (Addr × Obj)) (σ : St) (Q : List V → Hp → Prop) (us : List Value) (s' : Shared) : Prop := ∃ vs H', Inv X pins σ H' s' ∧ Vals vs us ∧ Q vs H'
def SP (X : Cx) (pins : List (Addr × Obj)) (D : Ends) (f : Flow) (s' : Shared) : Prop :=
  match f with
  | .next => ∃ σ' H', Inv X pins σ' H' s' ∧ D.nx σ' H'
  | .brk => ∃ σ' H', Inv X pins σ' H' s' ∧ D.bk σ' H'
  | .cont => ∃ σ' H', Inv X pins σ' H' s' ∧ D.ct σ' H'
  | .ret u => ∃ v σ' H', Inv X pins σ' H' s' ∧ RelV v u ∧ D.rt v H'

def PE (X : Cx) (e : Expr) (t : TE) : Prop :=
  ∀ (pins : List (Addr × Obj)) (s : Shared) (σ : St) (H : Hp) (Q : VK), Inv X pins σ H s → t σ H Q → wpAny (model X.prog X.w) X.A (eval e X.env) (EP X pins σ Q) X.xe s
def PT (X : Cx) (e : Expr) (t : TT) : Prop :=
  ∀ (pins : List (Addr × Obj)) (s : Shared) (σ : St) (H : Hp) (Q : Bool → Hp → Prop), Inv X pins σ H s → t σ H Q → wpAny (model X.prog X.w) X.A (isTrue e X.env (eval e X.env)) (TP X pins σ Q) X.xe s
/-- a test whatever its 'whole' is (and, or) -/
def PW (X : Cx) (e : Expr) (t : TT) : Prop :=
  ∀ (whole : Sem Value) (pins : List (Addr × Obj)) (s : Shared) (σ : St) (H : Hp) (Q : Bool → Hp → Prop), Inv X pins σ H s → t σ H Q → wpAny (model X.prog X.w) X.A (isTrue e X.env whole) (TP X pins σ Q) X.xe s
theorem PW.pt {X : Cx} {e : Expr} {t : TT} (h : PW X e t) : PT X e t := h _
/-- an argument list (no star), from the left -/
def PA (X : Cx) (es : List Expr) (t : TA) : Prop :=
  ∀ (pos : Pos) (pins : List (Addr × Obj)) (s : Shared) (σ : St) (H : Hp) (Q : List V → Hp → Prop), Inv X pins σ H s → t σ H Q → wpAny (model X.prog X.w) X.A (spliced (backTo pos (starEach es X.env))) (AP X pins σ Q) X.xe s
def PS (X : Cx) (st : Stmt) (t : TS) : Prop :=
  ∀ (pins : List (Addr × Obj)) (s : Shared) (σ : St) (H : Hp) (D : Ends), Inv X pins σ H s → t D σ H → wpAny (model X.prog X.w) X.A (exec st X.env) (SP X pins D) X.xe s
def PSs (X : Cx) (st : List Stmt) (t : TS) : Prop :=
  ∀ (pins : List (Addr × Obj)) (s : Shared) (σ : St) (H : Hp) (D : Ends), Inv X pins σ H s → t D σ H → wpAny (model X.prog X.w) X.A (execs st X.env) (SP X pins D) X.xe s
/-- weaken the end -/
theorem thn {α : Type} {t : Sem α} {Q Q' : α → Shared → Prop} {M : Model} {A : Around} {E : Value → Shared → Prop} {s : Shared} (h : wpAny M A t Q E s) (hQ : ∀ a s, Q a s → Q' a s) : wpAny M A t Q' E s := wpAny_mono h hQ fun _ _ x => x
end L2

namespace L2
open PySem PySem.Spec PyProof.Rows
section
variable {X : Cx}

def tVar (i : Nat) : TE := fun σ H Q => ∃ v, σ[i]? = some (some v) ∧ Q v H
def tC (v : V) : TE := fun _ H Q => Q v H
theorem pe_var {i : Nat} {x : Str} {pos : Pos} (hN : X.N[i]? = some x) (hv : Vis X.env.scope x) (hd : (x == ("__debug__" : Str)) = false := by decide) (hcd : (x == ("__classdict__" : Str)) = false := by decide) : PE X (.Name x pos) (tVar i) := by
  intro pins s σ H Q I h
  obtain ⟨v, e, h⟩ := h
  obtain ⟨m, hn, hl⟩ := I.loc
  obtain ⟨u, r, l⟩ := hl i x v hN e hv
  have fin : EP X pins σ Q u s := ⟨v, H, I, r, h⟩
  rcases l with ⟨hk, hm⟩ | ⟨hk, c, hc, hcell⟩
  · exact wpAny_Name (wpAny_loadName_local I.ok.kind hk hn hm fin) hd
  · rcases hk with hk | hk
    · exact wpAny_Name (wpAny_loadName_cell I.ok.kind hk hc hcell fin) hd
    · exact wpAny_Name (wpAny_loadName_free I.ok.kind hk hc hcell fin hcd) hd
theorem pe_int {i j pos} : PE X (.Constant (.int i) j pos) (tC (.int i)) := fun _ _ _ H _ I h => wpAny_Constant_int ⟨.int i, H, I.tok _, ⟨_, rfl⟩, h⟩
/-- a global name of the def -/
def Gl (X : Cx) (x : Str) : Prop := X.env.kindOf x = some .globalImplicit
theorem ld_glob {E : Value → Shared → Prop} {pins : List (Addr × Obj)} {s : Shared} {σ : St} {H : Hp} {x : Str} {u : Value} {pos : Pos} {Q : Value → Shared → Prop} (I : Inv X pins σ H s) (hg : Gl X x) (hm : X.mg x = some u) (h : Q u s)
    (hd : (x == ("__debug__" : Str)) = false := by decide) : wpAny (model X.prog X.w) X.A (eval (.Name x pos) X.env) Q E s :=
  Calls.Name_function_global I.ok.kind hg (Calls.loadGlobal_global (by rw [I.ok.glob]; exact I.mod.glob.keeps I.bk) hm h) hd
theorem ld_blt {E : Value → Shared → Prop} {pins : List (Addr × Obj)} {s : Shared} {σ : St} {H : Hp} {x : Str} {u : Value} {pos : Pos} {Q : Value → Shared → Prop} (I : Inv X pins σ H s) (hg : Gl X x) (hm : X.mg x = none) (hv : bootBuiltins x = some u) (h : Q u s)
    (hn : x ≠ "__name__" := by decide) (hd : (x == ("__debug__" : Str)) = false := by decide) : wpAny (model X.prog X.w) X.A (eval (.Name x pos) X.env) Q E s := by
  obtain ⟨mb, h1, h2⟩ := I.mod.blt
  exact Calls.Name_function_global I.ok.kind hg (Calls.loadGlobal_builtin (by rw [I.ok.glob]; exact I.mod.glob.keeps I.bk) hm (by rw [I.ok.blt]; exact h1.keeps I.bk) ((h2 x hn).trans hv) h) hd
/-- a module's constant, a class, a function, as a value -/
theorem pe_glob {x : Str} {v : V} {u : Value} {pos : Pos} (hg : Gl X x) (hm : X.mg x = some u) (r : RelV v u) (hd : (x == ("__debug__" : Str)) = false := by decide) : PE X (.Name x pos) (tC v) :=
  fun _ _ _ H _ I h => ld_glob I hg hm ⟨v, H, I, r, h⟩ hd
variable {a b : Expr} {ta tb : TE} {pos : Pos}
variable {tA tB' : TT} {rest : List Expr}
def tNot (t : TT) : TT := fun σ H Q => t σ H fun c H1 => Q (!c) H1
theorem pt_not (ha : PT X a tA) : PT X (.UnaryOp .Not a pos) (tNot tA) := by
  intro pins s σ H Q I h
  exact isTrue_not (ha pins s σ H (fun c H1 => Q (!c) H1) I h)
/-- .. as values (bools) -/
def tAndV (ta tb : TE) : TE := fun σ H Q => ta σ H fun x H1 => ∃ c, x = .bl c ∧ if c = true then tb σ H1 Q else Q (.bl false) H1
theorem pe_one {op} {t : TE} (h : PE X a t) : PE X (.BoolOp op [a] pos) t := fun pins s σ H Q I hw => BoolOp_one (h pins s σ H Q I hw)
theorem pe_and (ha : PE X a ta) (hb : PE X (.BoolOp .And (b :: rest) pos) tb) : PE X (.BoolOp .And (a :: b :: rest) pos) (tAndV ta tb) := by
  intro pins s σ H Q I h
  refine BoolOp_and (thn (ha pins s σ H _ I h) fun v s1 ⟨x, H1, I1, r1, q1⟩ => ?_)
  obtain ⟨c, rfl, q1⟩ := q1
  cases r1
  refine wpAny_truthy_bool ?_
  cases c with
  | true => exact hb pins s1 σ H1 Q I1 q1
  | false => exact ⟨.bl false, H1, I1, rfl, q1⟩
end
end L2

namespace L2
open PySem PySem.Spec PyProof.Rows

def SqL (K : PySem.W.Frag) (H : Hp) (a : Addr) (xs : List V) : Prop :=
  Rd H a (.lst xs) ∨
    ∃ (o : Obj) (its : Array Value) (n : Nat), K.lookup a = some o ∧ o.cls = .type "list" ∧ o.dict = none ∧ o.data = .seq its n ∧ its.size ≤ sizeLine ∧ Vals xs its.toList
def SqT (K : PySem.W.Frag) (H : Hp) (a : Addr) (xs : List V) : Prop :=
  Rd H a (.tup xs) ∨
    ∃ (o : Obj) (its : Array Value) (n : Nat), K.lookup a = some o ∧ o.cls = .type "tuple" ∧ o.data = .seq its n ∧ its.size ≤ sizeLine ∧ Vals xs its.toList
def absV : Value → Option V
  | .none => some .non
  | .bool b => some (.bl b)
  | .int i _ => some (.int i)
  | .str x _ => some (.str x)
  | .bytes b _ => some (.byt b)
  | .float b _ => some (.flt b)
  | .ref a => some (.ref a)
  | .type n => some (.ty n)
  | _ => none
theorem RelV.abs {x : V} {u : Value} (r : RelV x u) : absV u = some x := by
  cases x with
  | non => cases r; rfl
  | bl _ => cases r; rfl
  | int _ => obtain ⟨t, rfl⟩ := r; rfl
  | str _ => obtain ⟨t, rfl⟩ := r; rfl
  | byt _ => obtain ⟨t, rfl⟩ := r; rfl
  | flt _ => obtain ⟨t, rfl⟩ := r; rfl
  | ref _ => cases r; rfl
  | ty _ => cases r; rfl
theorem RelV.inj {x y : V} {u : Value} (r : RelV x u) (q : RelV y u) : x = y := Option.some.inj (r.abs.symm.trans q.abs)
theorem Vals.inj : ∀ {xs ys : List V} {us : List Value}, Vals xs us → Vals ys us → xs = ys
  | _, _, _, .nil, .nil => rfl
  | _, _, _, .cons r t, .cons r' t' => by rw [r.inj r', Vals.inj t t']
section
variable {X : Cx} {pins : List (Addr × Obj)} {σ : St} {H : Hp} {s : Shared} {a : Addr} {xs ys : List V}
theorem SqL.of {K : PySem.W.Frag} (h : H a = some (.lst xs)) : SqL K H a xs := .inl (.inl h)
theorem SqT.of {K : PySem.W.Frag} (h : H a = some (.tup xs)) : SqT K H a xs := .inl (.inl h)
theorem Inv.list (I : Inv X pins σ H s) (h : SqL X.K H a xs) : ∃ its : List Value, Vals xs its ∧ PlainL s.heap a its.toArray ∧ xs.length ≤ sizeLine := by
  rcases h with h | ⟨o, its, n, hk, hc, hd, hs, hz, r⟩
  · obtain ⟨z, its, n, r, e⟩ := h.ok I.hok
    exact ⟨its, r, ⟨_, n, e, rfl, rfl, rfl⟩, z⟩
  · refine ⟨its.toList, r, ⟨o, n, I.kIn a o hk, hc, hd, by simpa using hs⟩, ?_⟩
    have e := r.length
    simp only [Array.length_toList] at e
    omega
theorem Inv.tuple (I : Inv X pins σ H s) (h : SqT X.K H a xs) : ∃ its : List Value, Vals xs its ∧ IsTup s.heap a its.toArray ∧ xs.length ≤ sizeLine := by
  rcases h with h | ⟨o, its, n, hk, hc, hs, hz, r⟩
  · obtain ⟨z, its, r, p⟩ := h.ok I.hok
    exact ⟨its, r, p, z⟩
  · refine ⟨its.toList, r, ⟨o, I.kIn a o hk, hc, n, by simpa using hs⟩, ?_⟩
    have e := r.length
    simp only [Array.length_toList] at e
    omega
theorem Inv.list_inj (I : Inv X pins σ H s) (h : SqL X.K H a xs) (h' : SqL X.K H a ys) : xs = ys := by
  obtain ⟨its, r, ⟨o, n, e, _, _, d⟩, _⟩ := I.list h
  obtain ⟨its', r', ⟨o', n', e', _, _, d'⟩, _⟩ := I.list h'
  rw [e] at e'; cases e'
  rw [d] at d'
  injection d' with d1 _
  have : its = its' := by simpa using congrArg Array.toList d1
  subst this
  exact r.inj r'
end

abbrev Cx.wish (X : Cx) (E : Value → Shared → Prop) : Cx := { X with xe := E }
/-- no exception leaves -/
abbrev Cx.nox (X : Cx) : Cx := X.wish fun _ _ => False
theorem Cx.Ok.wish {X : Cx} (ok : X.Ok) (E : Value → Shared → Prop) : (X.wish E).Ok :=
  ⟨ok.mod, ok.kind, ok.glob, ok.blt, ok.above, ok.inj, ok.has, ok.cab, ok.hd, ok.frames, ok.stk, ok.exf, ok.bs, ok.bsz, ok.noex, ok.exfs, ok.funs, ok.frf⟩
theorem Cx.Ok.unwish {X : Cx} {E : Value → Shared → Prop} (ok : (X.wish E).Ok) : X.Ok :=
  ⟨ok.mod, ok.kind, ok.glob, ok.blt, ok.above, ok.inj, ok.has, ok.cab, ok.hd, ok.frames, ok.stk, ok.exf, ok.bs, ok.bsz, ok.noex, ok.exfs, ok.funs, ok.frf⟩
section
variable {X : Cx} {pins : List (Addr × Obj)} {σ : St} {H : Hp} {s : Shared} {E : Value → Shared → Prop}
theorem Inv.wish (I : Inv X pins σ H s) (E : Value → Shared → Prop) : Inv (X.wish E) pins σ H s := ⟨I.ok.wish E, I.os, I.bare, I.base, I.loc, I.cell, I.free, I.freeC, I.pin, I.hok, I.len⟩
theorem Inv.unwish (I : Inv (X.wish E) pins σ H s) : Inv X pins σ H s := ⟨I.ok.unwish, I.os, I.bare, I.base, I.loc, I.cell, I.free, I.freeC, I.pin, I.hok, I.len⟩
theorem SP.unwish {D : Ends} {f : Flow} {s' : Shared} (h : SP (X.wish E) pins D f s') : SP X pins D f s' := by
  cases f with
  | next => obtain ⟨σ', H', I, q⟩ := h; exact ⟨σ', H', I.unwish, q⟩
  | brk => obtain ⟨σ', H', I, q⟩ := h; exact ⟨σ', H', I.unwish, q⟩
  | cont => obtain ⟨σ', H', I, q⟩ := h; exact ⟨σ', H', I.unwish, q⟩
  | ret u => obtain ⟨v, σ', H', I, r, q⟩ := h; exact ⟨v, σ', H', I.unwish, r, q⟩
theorem PE.nox {e : Expr} {t : TE} (h : PE X.nox e t) : PE X e t := fun pins s σ H Q I hw =>
  wpAny_mono (h pins s σ H Q (I.wish _) hw) (fun _ _ ⟨v, H', I', r, q⟩ => ⟨v, H', I'.unwish, r, q⟩) fun _ _ z => False.elim z
theorem PT.nox {e : Expr} {t : TT} (h : PT X.nox e t) : PT X e t := fun pins s σ H Q I hw =>
  wpAny_mono (h pins s σ H Q (I.wish _) hw) (fun _ _ ⟨H', I', q⟩ => ⟨H', I'.unwish, q⟩) fun _ _ z => False.elim z
theorem PSs.nox {st : List Stmt} {t : TS} (h : PSs X.nox st t) : PSs X st t := fun pins s σ H D I hw =>
  wpAny_mono (h pins s σ H D (I.wish _) hw) (fun _ _ q => q.unwish) fun _ _ z => False.elim z
end

section
variable {X : Cx} {st : Stmt} {rest : List Stmt} {t u : TS} {e : Expr} {te : TE} {pos : Pos}
def tNext : TS := fun D σ H => D.nx σ H
def tSeq (t u : TS) : TS := fun D σ H => t { D with nx := u D } σ H
theorem pss_nil : PSs X [] tNext := fun _ _ σ H _ I h => wpAny_execs_nil ⟨σ, H, I, h⟩
theorem pss_cons (h1 : PS X st t) (h2 : PSs X rest u) : PSs X (st :: rest) (tSeq t u) := by
  intro pins s σ H D I h
  refine wpAny_execs_cons (thn (h1 pins s σ H { D with nx := u D } I h) fun f s1 q => ?_)
  cases f with
  | next =>
    obtain ⟨σ', H', I', q⟩ := q
    exact h2 pins s1 σ' H' D I' q
  | ret v => exact q
  | brk => exact q
  | cont => exact q
theorem pss_one (h1 : PS X st t) : PSs X [st] t := by
  intro pins s σ H D I h
  refine wpAny_execs_cons (thn (h1 pins s σ H D I h) fun f s1 q => ?_)
  cases f with
  | next => exact wpAny_execs_nil q
  | ret v => exact q
  | brk => exact q
  | cont => exact q
/-- in a def's body nothing is shown -/
theorem Inv.quiet {pins : List (Addr × Obj)} {σ : St} {H : Hp} {s : Shared} (I : Inv X pins σ H s) : interactive X.env = false := by simp [interactive, I.ok.kind]
/-- an expression whose value is dropped -/
def tDrop (te : TE) : TS := fun D σ H => te σ H fun _ H1 => D.nx σ H1
theorem ps_expr (he : PE X e te) (hs : swapsWith e none pos.line X.env = pure false := by rfl) : PS X (.Expr e pos) (tDrop te) := by
  intro pins s σ H D I h
  exact wpAny_Expr_any (thn (he pins s σ H _ I h) fun v s1 ⟨x, H1, I1, r1, q1⟩ => ⟨σ, H1, I1, q1⟩) I.quiet hs
def tRet (te : TE) : TS := fun D σ H => te σ H D.rt
theorem ps_ret (he : PE X e te) : PS X (.Return (some e) pos) (tRet te) := by
  intro pins s σ H D I h
  exact wpAny_Return_some (thn (he pins s σ H _ I h) fun v s1 ⟨x, H1, I1, r1, q1⟩ => ⟨x, σ, H1, I1, r1, q1⟩)
def tIfS (c : TT) (t u : TS) : TS := fun D σ H => c σ H fun b H1 => if b = true then t D σ H1 else u D σ H1
theorem ps_if {c : Expr} {a b : List Stmt} {tc : TT} (hc : PT X c tc) (ha : PSs X a t) (hb : PSs X b u) : PS X (.If c a b pos) (tIfS tc t u) := by
  intro pins s σ H D I h
  refine wpAny_If (thn (hc pins s σ H _ I h) fun d s1 ⟨H1, I1, q1⟩ => ?_)
  cases d with
  | true => exact ha pins s1 σ H1 D I1 q1
  | false => exact hb pins s1 σ H1 D I1 q1
end

abbrev TG := V → St → Hp → (St → Hp → Prop) → Prop
abbrev TGs := List V → St → Hp → (St → Hp → Prop) → Prop
def PG (X : Cx) (target : Expr) (t : TG) : Prop :=
  ∀ (pins : List (Addr × Obj)) (s : Shared) (σ : St) (H : Hp) (v : V) (u : Value) (Q : St → Hp → Prop), Inv X pins σ H s → RelV v u → t v σ H Q →
    wpAny (model X.prog X.w) X.A (assign target X.env u) (fun _ s' => ∃ σ' H', Inv X pins σ' H' s' ∧ Q σ' H') X.xe s
/-- several targets, one after another -/
def PGs (X : Cx) (ts : List Expr) (t : TGs) : Prop :=
  ∀ (pins : List (Addr × Obj)) (s : Shared) (σ : St) (H : Hp) (vs : List V) (us : List Value) (Q : St → Hp → Prop), Inv X pins σ H s → Vals vs us → t vs σ H Q →
    wpAny (model X.prog X.w) X.A (assignInOrder ((assignEach ts X.env).map (·.2)) us) (fun _ s' => ∃ σ' H', Inv X pins σ' H' s' ∧ Q σ' H') X.xe s
section
variable {X : Cx} {pos : Pos}
def gName (i : Nat) : TG := fun v σ H Q => Q (σ.set i (some v)) H
theorem pg_name {i : Nat} {x : Str} (hN : X.N.Nodup) (hi : X.N[i]? = some x) (hx : Loc X.env.scope x) (hf : X.fn x = true ∨ X.env.scope.names.lookup x = some .local := by first | exact .inl rfl | exact .inr rfl | assumption) : PG X (.Name x pos) (gName i) := by
  intro pins s σ H v u Q I r h
  exact wpAny_assign_Name (store_ok I hN hi hx r (fun s' I' => ⟨_, H, I', h⟩) hf)
def gNil : TGs := fun vs σ H Q => vs = [] ∧ Q σ H
def gCons (t : TG) (u : TGs) : TGs := fun vs σ H Q => ∃ v r, vs = v :: r ∧ t v σ H fun σ' H' => u r σ' H' Q
theorem pgs_nil : PGs X [] gNil := by
  intro pins s σ H vs us Q I r h
  obtain ⟨e, h⟩ := h
  subst e
  cases r
  exact assignInOrder_nil ⟨σ, H, I, h⟩
theorem pgs_cons {e : Expr} {es : List Expr} {t : TG} {u : TGs} (h1 : PG X e t) (h2 : PGs X es u)
    (hs : (assignEach (e :: es) X.env).map (·.2) = assign e X.env :: (assignEach es X.env).map (·.2) := by rfl) : PGs X (e :: es) (gCons t u) := by
  intro pins s σ H vs us Q I r h
  obtain ⟨v, vr, e1, h⟩ := h
  subst e1
  cases r with
  | cons r rr =>
    rw [hs]
    refine assignInOrder_cons (thn (h1 pins s σ H _ _ _ I r h) fun _ s1 ⟨σ1, H1, I1, q1⟩ => ?_)
    exact h2 pins s1 σ1 H1 _ _ Q I1 rr q1
/-- (a, b, ..) = a tuple of that length -/
def gTup (K : PySem.W.Frag) (n : Nat) (t : TGs) : TG := fun v σ H Q => ∃ a xs, v = .ref a ∧ SqT K H a xs ∧ xs.length = n ∧ t xs σ H Q
theorem pg_tup {es : List Expr} {k : Nat} {t : TGs} {n : Nat} (hc : X.calm = true) (h : PGs X es t)
    (hn : (assignEach es X.env).length = n := by rfl) (hst : (assignEach es X.env).findIdx? (·.1) = none := by rfl) : PG X (.Tuple es k pos) (gTup X.K n t) := by
  intro pins s σ H v u Q I r hw
  obtain ⟨a, xs, e1, hq, hl, hw⟩ := hw
  subst e1
  cases r
  obtain ⟨its, rv, ht, hz⟩ := I.tuple hq
  refine assign_Tuple_tuple (I.ok.hd hc) ht (by simp [hn, ← hl, rv.length]) hst fun h' hx => ?_
  have I1 : Inv X pins σ H { s with heap := h' } := I.kept (t' := s.toks) fun b o e => hx b o (Nat.ne_of_lt (Heap.lt_size e)) e
  exact h pins _ σ H xs _ Q I1 (by simpa using rv) hw
/-- target = value -/
def tAsg (te : TE) (g : TG) : TS := fun D σ H => te σ H fun x H1 => g x σ H1 D.nx
/-- name = value -/
theorem ps_set {i : Nat} {x : Str} {e : Expr} {te : TE} {pos' : Pos} (hN : X.N.Nodup) (hi : X.N[i]? = some x) (hx : Loc X.env.scope x) (he : PE X e te) (hs : swapsWith e (some (.Name x pos')) pos.line X.env = pure false := by rfl) (hf : X.fn x = true ∨ X.env.scope.names.lookup x = some .local := by first | exact .inl rfl | exact .inr rfl | assumption) :
    PS X (.Assign [.Name x pos'] e pos) (tAsg te (gName i)) := by
  intro pins s σ H D I h
  refine wpAny_Assign_Name (thn (he pins s σ H _ I h) fun v s1 ⟨y, H1, I1, r1, q1⟩ => ?_) hs
  exact store_ok I1 hN hi hx r1 (fun s2 I2 => ⟨_, H1, I2, q1⟩) hf
end

section
variable {X : Cx} {pos : Pos}
/-- the invariant W with its measure -/
def tWhile (c : TT) (tb : TS) : TS := fun D σ H => ∃ W : Nat → St → Hp → Prop, (∃ m, W m σ H) ∧ ∀ m σ H, W m σ H →
  c σ H fun b H1 => if b = true then ∃ N : St → Hp → Prop, (∀ σ' H', N σ' H' → ∃ m', m' < m ∧ W m' σ' H') ∧ tb { D with nx := N, ct := N, bk := D.nx } σ H1 else D.nx σ H1
theorem ps_while {c : Expr} {body : List Stmt} {tc : TT} {tb : TS} (hp : PassesOwn (model X.prog X.w) X.A X.env X.xe) (hc : PT X c tc) (hb : PSs X body tb) : PS X (.While c body [] pos) (tWhile tc tb) := by
  intro pins s σ H D I h
  obtain ⟨W, ⟨m0, w0⟩, turn⟩ := h
  refine wpAny_While (codeAny_whileLoop (fun n s' => ∃ σ' H', Inv X pins σ' H' s' ∧ W n σ' H') ?_ m0 ⟨σ, H, I, w0⟩)
  rintro n s1 ⟨σ1, H1, I1, w1⟩
  refine wpAny_passesOwn hp (thn (hc pins s1 σ1 H1 _ I1 (turn n σ1 H1 w1)) fun b s2 ⟨H2, I2, q2⟩ => ?_)
  cases b with
  | true =>
    obtain ⟨N, hN, q2⟩ := q2
    rw [if_pos rfl]
    refine wpAny_passesOwn hp (thn (hb pins s2 σ1 H2 _ I2 q2) fun f s3 q3 => ?_)
    cases f with
    | next =>
      obtain ⟨σ3, H3, I3, n3⟩ := q3
      obtain ⟨m', hm, w3⟩ := hN σ3 H3 n3
      exact ⟨m', hm, σ3, H3, I3, w3⟩
    | cont =>
      obtain ⟨σ3, H3, I3, n3⟩ := q3
      obtain ⟨m', hm, w3⟩ := hN σ3 H3 n3
      exact ⟨m', hm, σ3, H3, I3, w3⟩
    | brk => exact q3
    | ret v => exact q3
  | false =>
    rw [if_neg Bool.false_ne_true]
    exact wpAny_execs_nil ⟨σ1, H2, I2, q2⟩
end

/-- at turn i: it yields x (the heap may grow), or it stops -/
structure It where
  go : Nat → Hp → Prop
  yld : Nat → Hp → V → Hp → Prop
  stop : Nat → Hp → Prop
/-- the iterator's own objects may turn: they are not the frame's, not pinned, younger than the entry (or a comprehension's own) -/
def FpOk (X : Cx) (pins : List (Addr × Obj)) (H : Hp) (b : Addr) : Prop :=
  H b = none ∧ b ≠ X.env.locals ∧ b ∉ X.fs ∧ (b ∈ X.ex ∨ X.s_0.heap.objs.size ≤ b) ∧ (∀ x c, X.env.cells.lookup x = some c → c ≠ b) ∧ ∀ p ∈ X.pn ++ pins, p.1 ≠ b
theorem Inv.fpOk {X : Cx} {pins : List (Addr × Obj)} {σ : St} {H H' : Hp} {s : Shared} {b : Addr} (I : Inv X pins σ H s) (hb : s.heap.objs.size ≤ b) (hn : H' b = none) : FpOk X pins H' b := by
  refine ⟨hn, Nat.ne_of_gt (Nat.lt_of_lt_of_le I.lt hb), I.nofs hb, .inr (Nat.le_trans I.sz hb), fun x c e z => ?_, fun p hp z => ?_⟩
  · obtain ⟨v, q⟩ := I.cell x c e
    exact absurd (Nat.lt_of_lt_of_le q.lt (by rw [z]; exact hb)) (Nat.lt_irrefl _)
  · exact absurd (Nat.lt_of_lt_of_le (Heap.lt_size (I.pin p hp).1) (by rw [z]; exact hb)) (Nat.lt_irrefl _)
structure Turn (P : Program) (w : World) (K : PySem.W.Frag) (tg : Expr) (J : It) (fp : List Addr) (it : Addr) (tn : Nat → Heap → Prop) : Prop where
  mem : it ∈ fp
  obj : ∀ i h, tn i h → ∀ b ∈ fp, ∃ o, h.get? b = some o ∧ ∀ v, o.data ≠ .cell v
  keep : ∀ i h h', tn i h → (∀ b ∈ fp, ∀ o, h.get? b = some o → h'.get? b = some o) → tn i h'
  item : ∀ (X : Cx), X.prog = P → X.w = w → X.K = K → X.calm = true → ∀ (i : Nat) (pins : List (Addr × Obj)) (s : Shared) (σ : St) (H : Hp) (E : Value → Shared → Prop), Inv X pins σ H s → (∀ b ∈ fp, FpOk X pins H b) → tn i s.heap → J.go i H →
    wpAny (model P w) X.A (pyNext (.ref it)) (fun r s1 => ∃ u, r = some u ∧
      wpAny (model P w) X.A (letOwnedTupleGo tg (.ref it) u) (fun _ s2 => ∃ x H', Inv X pins σ H' s2 ∧ RelV x u ∧ J.yld i H x H' ∧ tn (i + 1) s2.heap ∧ ∀ b ∈ fp, H' b = none) E s1) E s
  done : ∀ (X : Cx), X.prog = P → X.w = w → X.K = K → X.calm = true → ∀ (i : Nat) (pins : List (Addr × Obj)) (s : Shared) (σ : St) (H : Hp) (E : Value → Shared → Prop), Inv X pins σ H s → (∀ b ∈ fp, FpOk X pins H b) → tn i s.heap → J.stop i H →
    wpAny (model P w) X.A (pyNext (.ref it)) (fun r s1 => r = none ∧ Inv X pins σ H s1) E s
  self : ∀ (A : Around) (i : Nat) (s : Shared) (Q : Value → Shared → Prop) (E : Value → Shared → Prop), tn i s.heap → Q (.ref it) s → wpAny (model P w) A (pyIter (.ref it)) Q E s
abbrev TI := St → Hp → (It → Hp → Prop) → Prop
/-- an iterator has come -/
def PIE (X : Cx) (pins : List (Addr × Obj)) (σ : St) (tg : Expr) (R : It → Hp → Prop) (itv : Value) (s2 : Shared) : Prop :=
  ∃ (it : Addr) (fp : List Addr) (tn : Nat → Heap → Prop) (J : It) (H' : Hp), itv = .ref it ∧ Inv X pins σ H' s2 ∧ Turn X.prog X.w X.K tg J fp it tn ∧ tn 0 s2.heap ∧ (∀ b ∈ fp, FpOk X pins H' b) ∧ R J H'
def PI (X : Cx) (tg iter : Expr) (wi : TI) : Prop :=
  ∀ (pins : List (Addr × Obj)) (s : Shared) (σ : St) (H : Hp) (R : It → Hp → Prop), Inv X pins σ H s → wi σ H R →
    wpAny (model X.prog X.w) X.A (eval iter X.env) (fun v s1 => wpAny (model X.prog X.w) X.A (pyIter v) (PIE X pins σ tg R) X.xe s1) X.xe s

/-- the step ahead of the store is nothing for an iterator that keeps no tuple -/
theorem go_of {M : Model} {A : Around} {E : Value → Shared → Prop} {s : Shared} {tg : Expr} {it : Addr} {u : Value} {o : Obj} {n : String} {vs : Array Value} {Q : Unit → Shared → Prop} (ho : s.heap.get? it = some o) (hc : o.cls = .type n) (hd : o.data = .fields vs)
    (hn : ["enumerate", "zip", "dict_itemiterator", "dict_reverseitemiterator", "odict_iterator", "itertools.zip_longest", "itertools.pairwise"].contains n = false) (hQ : Q () s) : wpAny M A (letOwnedTupleGo tg (.ref it) u) Q E s := by
  unfold letOwnedTupleGo
  cases tg <;> first
    | exact wpAny_pure hQ
    | (cases u <;> first
        | exact wpAny_pure hQ
        | (refine wpAny_bind (wpAny_load ho ?_)
           rw [hc, hd]
           show wpAny M A (if (["enumerate", "zip", "dict_itemiterator", "dict_reverseitemiterator", "odict_iterator", "itertools.zip_longest", "itertools.pairwise"].contains n && vs[0]? == some (rawInt _)) = true then _ else _) Q E s
           rw [if_neg (by intro h; rw [hn, Bool.false_and] at h; cases h)]
           exact wpAny_pure hQ))

/-- the list at a, as it stands at each turn (a loop may append to it) -/
def Itl (K : PySem.W.Frag) (a : Addr) : It :=
  ⟨fun i H => ∃ xs x, SqL K H a xs ∧ xs[i]? = some x, fun i H x H' => H' = H ∧ ∀ xs, SqL K H a xs → xs[i]? = some x, fun i H => ∃ xs, SqL K H a xs ∧ xs.length ≤ i⟩
/-- lo, lo + 1, .. (n of them) -/
def Itr (lo : Int) (n : Nat) : It := ⟨fun i _ => i < n, fun i H x H' => H' = H ∧ x = .int (lo + i), fun i _ => n ≤ i⟩
theorem turn_list {P : Program} {w : World} {K : PySem.W.Frag} {tg : Expr} (a it : Addr) : Turn P w K tg (Itl K a) [it] it (fun i h => h.IsListIter it a i) where
  mem := by simp
  obj := fun i h st b hb => by
    have e : b = it := by simpa using hb
    subst e
    obtain ⟨o, e, c, d⟩ := st
    exact ⟨o, e, fun v z => by rw [d] at z; cases z⟩
  keep := fun i h h' st k => st.at fun o e => k it (by simp) o e
  item := by
    intro X hP hw hK hc i pins s σ H E I hf st hg
    subst hP hw hK
    obtain ⟨xs, x, hq, hx⟩ := hg
    obtain ⟨its, rv, p, hz⟩ := I.list hq
    obtain ⟨u, hu, ru⟩ := rv.get hx
    obtain ⟨f0, f1, f2, f3, f4, f5⟩ := hf it (by simp)
    refine wpAny_pyNext_list_item st p.isList (x := u) (by simpa using hu) fun h' st' sb => ?_
    have I1 : Inv X pins σ H { s with heap := h' } := I.turned (t' := s.toks) (fun b o hb e => (sb.2 b hb).trans e) f0 f1 f3 f4 f5
    obtain ⟨o, e, c, d⟩ := id st'
    exact ⟨u, rfl, go_of (s := { s with heap := h' }) e c d (by decide) ⟨x, H, I1, ru, ⟨rfl, fun ys hy => by rw [I.list_inj hy hq]; exact hx⟩, st', fun b hb => (hf b hb).1⟩⟩
  done := by
    intro X hP hw hK hc i pins s σ H E I hf st hg
    subst hP hw hK
    obtain ⟨xs, hq, hx⟩ := hg
    obtain ⟨its, rv, p, hz⟩ := I.list hq
    obtain ⟨f0, f1, f2, f3, f4, f5⟩ := hf it (by simp)
    have hl := rv.length
    exact wpAny_pyNext_list_end (I.ok.hd hc) st p.isList (by simp; omega) fun h' eb => ⟨rfl, I.turned (t' := s.toks) (fun b o hb e => eb b o hb e) f0 f1 f3 f4 f5⟩
  self := fun _ _ _ _ _ st h => wpAny_pyIter_listiter st h
theorem turn_range {P : Program} {w : World} {K : PySem.W.Frag} {tg : Expr} (it : Addr) (lo : Int) (n : Nat) : Turn P w K tg (Itr lo n) [it] it (fun i h => IsRangeIter h it (lo + (i : Nat) * 1) ((n : Int) - (i : Nat)) 1) where
  mem := by simp
  obj := fun i h st b hb => by
    have e : b = it := by simpa using hb
    subst e
    exact ⟨_, st, fun v z => by
      have z' : Data.fields _ = Data.cell v := z
      cases z'⟩
  keep := fun i h h' st k => k it (by simp) _ st
  item := by
    intro X hP hw hK hc i pins s σ H E I hf st hg
    subst hP hw hK
    obtain ⟨f0, f1, f2, f3, f4, f5⟩ := hf it (by simp)
    have W := Walks.range (prog := X.prog) (w := X.w) (I.ok.hd hc) it lo 1 n
    refine W.item i s _ _ hg st fun v h' tk hv st' kk => ?_
    obtain ⟨t, rfl⟩ := hv
    have I1 : Inv X pins σ H { s with heap := h', toks := tk } := I.turned (fun b o hb e => kk b o (by simpa using hb) e) f0 f1 f3 f4 f5
    refine ⟨_, rfl, go_of (s := { s with heap := h', toks := tk }) (n := "range_iterator") st' rfl rfl (by decide) ⟨.int (lo + i), H, I1, ⟨t, ?_⟩, ⟨rfl, rfl⟩, st', fun b hb => (hf b hb).1⟩⟩
    rw [Int.mul_one]
  done := by
    intro X hP hw hK hc i pins s σ H E I hf st hg
    subst hP hw hK
    obtain ⟨f0, f1, f2, f3, f4, f5⟩ := hf it (by simp)
    exact wpAny_pyNext_range_end (I.ok.hd hc) st (by have : n ≤ i := hg; omega) fun h' eb => ⟨rfl, I.turned (t' := s.toks) (fun b o hb e => eb b o hb e) f0 f1 f3 f4 f5⟩
  self := fun _ _ _ _ _ st h => wpAny_pyIter_rangeiter st h
end L2

namespace L2
open PySem PySem.Spec PyProof.Rows
section
variable {X : Cx} {tg : Expr}
def iList (K : PySem.W.Frag) (tl : TE) : TI := fun σ H R => tl σ H fun x H1 => ∃ a, x = .ref a ∧ (∃ xs, SqL K H1 a xs) ∧ R (Itl K a) H1
theorem pi_list {l : Expr} {tl : TE} (hl : PE X l tl) : PI X tg l (iList X.K tl) := by
  intro pins s σ H R I h
  refine thn (hl pins s σ H _ I h) fun v s1 ⟨x, H1, I1, r1, q1⟩ => ?_
  obtain ⟨a, e, ⟨xs, hq⟩, q⟩ := q1
  subst e
  cases r1
  obtain ⟨its, rv, p, hz⟩ := I1.list hq
  refine wpAny_pyIter_list p.isList ?_
  refine ⟨s1.heap.objs.size, [s1.heap.objs.size], _, _, H1, rfl, I1.kept (t' := s1.toks) fun b o e => Heap.get?_push_of_some _ e, turn_list a _, ⟨_, Heap.get?_push_size _ rfl, rfl, rfl⟩, fun b hb => ?_, q⟩
  have e : b = s1.heap.objs.size := by simpa using hb
  subst e
  exact I1.fpOk (Nat.le_refl _) (I1.hok.fresh (Nat.le_refl _))
/-- a range object just made, walked -/
theorem range_it {pins : List (Addr × Obj)} {σ : St} {H : Hp} {s : Shared} {R : It → Hp → Prop} {E : Value → Shared → Prop} {lo hi : Int} {t u v : Tok} {tk : Nat} (I : Inv X pins σ H s) (h1 : -(2 ^ 62) ≤ lo) (h2 : lo < 2 ^ 62) (h3 : -(2 ^ 62) ≤ hi) (h4 : hi < 2 ^ 62)
    (q : R (Itr lo (hi - lo).toNat) H) : wpAny (model X.prog X.w) X.A (pyIter (.ref s.heap.objs.size)) (PIE X pins σ tg R) E { s with heap := s.heap.push { cls := .type "range", data := .fields #[.int lo t, .int hi u, .int 1 v] }, toks := tk } := by
  refine wpAny_pyIter_range (IsRange.new ..) (small_one h1 h2 h3 h4) ?_
  have I1 : Inv X pins σ H { s with heap := s.heap.push { cls := .type "range", data := .fields #[.int lo t, .int hi u, .int 1 v] }, toks := tk } := I.kept fun b o e => Heap.get?_push_of_some _ e
  refine ⟨(s.heap.push { cls := .type "range", data := .fields #[.int lo t, .int hi u, .int 1 v] }).objs.size, [(s.heap.push { cls := .type "range", data := .fields #[.int lo t, .int hi u, .int 1 v] }).objs.size], _, _, H, rfl,
    I1.kept (t' := tk) fun b o e => Heap.get?_push_of_some _ e, turn_range _ lo (hi - lo).toNat, ?_, fun b hb => ?_, q⟩
  · have e1 : lo + ((0 : Nat) : Int) * 1 = lo := by simp
    have e2 : (((hi - lo).toNat : Nat) : Int) - ((0 : Nat) : Int) = Builtin.Range.rangeSize lo hi 1 := by rw [rangeSize_one]; split <;> omega
    show IsRangeIter _ _ (lo + ((0 : Nat) : Int) * 1) ((((hi - lo).toNat : Nat) : Int) - ((0 : Nat) : Int)) 1
    rw [e1, e2]
    exact Heap.get?_push_size _ rfl
  · have e : b = (s.heap.push { cls := .type "range", data := .fields #[.int lo t, .int hi u, .int 1 v] }).objs.size := by simpa using hb
    subst e
    exact I1.fpOk (Nat.le_refl _) (I1.hok.fresh (Nat.le_refl _))
def iRng1 (ta : TA) : TI := fun σ H R => ta σ H fun vs H1 => ∃ j : Int, vs = [.int j] ∧ -(2 ^ 62) ≤ j ∧ j < 2 ^ 62 ∧ R (Itr 0 j.toNat) H1
theorem pi_range1 {a : Expr} {ta : TA} {p pos : Pos} (hg : Gl X "range") (hm : X.mg "range" = none) (ha : PA X [a] ta) (hs : starEach [a] X.env = [(false, eval a X.env)] := by rfl) : PI X tg (.Call (.Name "range" p) [a] [] pos) (iRng1 ta) := by
  intro pins s σ H R I h
  refine Call_ (ld_blt I hg hm boot_range (PyProof.Rows.callWith_type1 (thn (ha pos pins s σ H _ I h) fun us s1 ⟨vs, H1, I1, r1, q1⟩ => ?_) hs rfl))
  obtain ⟨j, e, q1, q2, q⟩ := q1
  subst e
  cases r1 with
  | cons r rr =>
    cases rr
    obtain ⟨t, rfl⟩ := r
    exact call_range_1 (range_it I1 (by omega) (by omega) q1 q2 (by simpa using q))
/-- W: the invariant by the turn and a measure; N: what the body is to reach -/
def tFor (wi : TI) (g : TG) (tb : TS) : TS := fun D σ H => wi σ H fun J H1 => ∃ W : Nat → Nat → St → Hp → Prop, (∃ m, W 0 m σ H1) ∧ ∀ i m σ H, W i m σ H →
  (J.stop i H ∧ D.nx σ H) ∨ (J.go i H ∧ ∃ N : St → Hp → Prop, (∀ σ' H', N σ' H' → ∃ m', m' < m ∧ W (i + 1) m' σ' H') ∧ ∀ x H', J.yld i H x H' → g x σ H' fun σ2 H2 => tb { D with nx := N, ct := N, bk := D.nx } σ2 H2)
/-- the records at fp as they stand -/
def pinsAt (fp : List Addr) (h : Heap) : List (Addr × Obj) := fp.filterMap fun b => (h.get? b).map fun o => (b, o)
theorem mem_pinsAt {fp : List Addr} {h : Heap} {b : Addr} {o : Obj} (hb : b ∈ fp) (e : h.get? b = some o) : (b, o) ∈ pinsAt fp h := List.mem_filterMap.mpr ⟨b, hb, by rw [e]; rfl⟩
theorem of_pinsAt {fp : List Addr} {h : Heap} {p : Addr × Obj} (hp : p ∈ pinsAt fp h) : p.1 ∈ fp ∧ h.get? p.1 = some p.2 := by
  obtain ⟨b, hb, e⟩ := List.mem_filterMap.mp hp
  cases q : h.get? b with
  | none => rw [q] at e; cases e
  | some o =>
    rw [q] at e
    have e' : (b, o) = p := Option.some.inj e
    subst e'
    exact ⟨hb, q⟩
theorem Inv.pinned {pins : List (Addr × Obj)} {σ : St} {H : Hp} {s : Shared} {fp : List Addr} (I : Inv X pins σ H s) (hf : ∀ b ∈ fp, FpOk X pins H b) (ho : ∀ b ∈ fp, ∃ o, s.heap.get? b = some o ∧ ∀ v, o.data ≠ .cell v) : Inv X (pins ++ pinsAt fp s.heap) σ H s :=
  I.pins_of fun p hp => (List.mem_append.mp hp).elim (fun z => I.pin p (List.mem_append_right _ z)) fun z => by
    obtain ⟨hb, e⟩ := of_pinsAt z
    obtain ⟨f0, f1, f2, _⟩ := hf p.1 hb
    obtain ⟨o, e', d⟩ := ho p.1 hb
    rw [e] at e'; cases e'
    exact ⟨e, f0, f1, f2, d⟩
theorem Inv.unpinned {pins pl : List (Addr × Obj)} {σ : St} {H : Hp} {s : Shared} (I : Inv X (pins ++ pl) σ H s) : Inv X pins σ H s := I.pins_of fun p hp => I.pin p (List.mem_append_right _ (List.mem_append_left _ hp))
theorem ps_for {iter : Expr} {body : List Stmt} {wi : TI} {g : TG} {tb : TS} {pos : Pos} (hp : PassesOwn (model X.prog X.w) X.A X.env X.xe) (hc : X.calm = true) (hi : PI X tg iter wi) (hg : PG X tg g) (hb : PSs X body tb)
    (hs : ∀ x, foldedSetIterable iter X.env x = pure x := by intro _; rfl) : PS X (.For tg iter body [] pos) (tFor wi g tb) := by
  intro pins s σ H D I h
  refine wpAny_For (thn (hi pins s σ H _ I h) fun v s1 h1 => thn h1 fun itv s2 h2 => ?_) hs
  obtain ⟨it, fp, tn, J, H2, e, I2, T, st2, f2, W, ⟨m0, w0⟩, turn⟩ := h2
  subst e
  -- what stays true of the iterator's objects through the loop
  have stat : ∀ {H' : Hp}, (∀ b ∈ fp, H' b = none) → ∀ b ∈ fp, FpOk X pins H' b := fun hn b hb => ⟨hn b hb, (f2 b hb).2⟩
  refine codeAny_forLoop_any (fun n s' => ∃ i σ' H', Inv X pins σ' H' s' ∧ tn i s'.heap ∧ (∀ b ∈ fp, H' b = none) ∧ W i n σ' H') ?_ m0 ⟨0, σ, H2, I2, st2, fun b hb => (f2 b hb).1, w0⟩
  rintro n s3 ⟨i, σ3, H3, I3, st3, fr3, w3⟩
  rcases turn i n σ3 H3 w3 with ⟨stop, qn⟩ | ⟨go, N, hN, step⟩
  · refine wpAny_passesOwn hp (thn (T.done X rfl rfl rfl hc i pins s3 σ3 H3 X.xe I3 (stat fr3) st3 stop) fun r s4 ⟨hr, I4⟩ => ?_)
    subst hr
    exact wpAny_execs_nil ⟨σ3, H3, I4, qn⟩
  · refine wpAny_passesOwn hp (thn (T.item X rfl rfl rfl hc i pins s3 σ3 H3 X.xe I3 (stat fr3) st3 go) fun r s4 ⟨u, hr, h4⟩ => ?_)
    subst hr
    refine wpAny_passesOwn hp (thn h4 fun _ s5 ⟨x, H5, I5, r5, y5, st5, fr5⟩ => ?_)
    have I5' := I5.pinned (stat fr5) (T.obj _ _ st5)
    refine wpAny_passesOwn hp (thn (hg _ s5 σ3 H5 x u _ I5' r5 (step x H5 y5)) fun _ s6 ⟨σ6, H6, I6, q6⟩ => ?_)
    refine wpAny_passesOwn hp (thn (hb _ s6 σ6 H6 _ I6 q6) fun f s7 q7 => ?_)
    have again : ∀ {σ7 : St} {H7 : Hp}, Inv X (pins ++ pinsAt fp s5.heap) σ7 H7 s7 → N σ7 H7 → ∃ m, m < n ∧ ∃ i σ' H', Inv X pins σ' H' s7 ∧ tn i s7.heap ∧ (∀ b ∈ fp, H' b = none) ∧ W i m σ' H' := fun {σ7 H7} I7 n7 => by
      obtain ⟨m', hm, w7⟩ := hN σ7 H7 n7
      refine ⟨m', hm, i + 1, σ7, H7, I7.unpinned, T.keep _ _ _ st5 fun b hb o e => (I7.pin (b, o) (List.mem_append_right _ (List.mem_append_right _ (mem_pinsAt hb e)))).1, fun b hb => ?_, w7⟩
      obtain ⟨o, e, d⟩ := T.obj _ _ st5 b hb
      exact (I7.pin (b, o) (List.mem_append_right _ (List.mem_append_right _ (mem_pinsAt hb e)))).2.1
    cases f with
    | next => obtain ⟨σ7, H7, I7, n7⟩ := q7; exact again I7 n7
    | cont => obtain ⟨σ7, H7, I7, n7⟩ := q7; exact again I7 n7
    | brk => obtain ⟨σ7, H7, I7, q7⟩ := q7; exact ⟨σ7, H7, I7.unpinned, q7⟩
    | ret v => obtain ⟨x7, σ7, H7, I7, r7, q7⟩ := q7; exact ⟨x7, σ7, H7, I7.unpinned, r7, q7⟩
end

/-- over a list that the body leaves as it is -/
theorem for_list {K : PySem.W.Frag} {a : Addr} {xs : List V} {g : TG} {tb : TS} {D : Ends} {σ : St} {H : Hp} (Pv : Nat → St → Hp → Prop) (h0 : Pv 0 σ H) (hl : ∀ i σ H, i ≤ xs.length → Pv i σ H → SqL K H a xs)
    (hs : ∀ i x σ H, xs[i]? = some x → Pv i σ H → g x σ H fun σ2 H2 => tb { D with nx := Pv (i + 1), ct := Pv (i + 1), bk := D.nx } σ2 H2) (hd : ∀ σ H, Pv xs.length σ H → D.nx σ H) :
    ∃ W : Nat → Nat → St → Hp → Prop, (∃ m, W 0 m σ H) ∧ ∀ i m σ H, W i m σ H →
      ((Itl K a).stop i H ∧ D.nx σ H) ∨ ((Itl K a).go i H ∧ ∃ N : St → Hp → Prop, (∀ σ' H', N σ' H' → ∃ m', m' < m ∧ W (i + 1) m' σ' H') ∧ ∀ x H', (Itl K a).yld i H x H' → g x σ H' fun σ2 H2 => tb { D with nx := N, ct := N, bk := D.nx } σ2 H2) := by
  refine ⟨fun i m σ H => m = xs.length - i ∧ i ≤ xs.length ∧ Pv i σ H, ⟨xs.length, by simp, Nat.zero_le _, h0⟩, ?_⟩
  rintro i m σ H ⟨rfl, hi, p⟩
  have q := hl i σ H hi p
  by_cases hlt : i < xs.length
  · refine .inr ⟨⟨xs, xs[i], q, by simp [hlt]⟩, Pv (i + 1), fun σ' H' p' => ⟨xs.length - (i + 1), by omega, rfl, hlt, p'⟩, fun x H' y => ?_⟩
    obtain ⟨e, y⟩ := y
    subst e
    exact hs i x σ _ (y xs q) p
  · have e : i = xs.length := by omega
    subst e
    exact .inl ⟨⟨xs, q, Nat.le_refl _⟩, hd σ H p⟩
theorem for_range {lo : Int} {n : Nat} {g : TG} {tb : TS} {D : Ends} {σ : St} {H : Hp} (Pv : Nat → St → Hp → Prop) (h0 : Pv 0 σ H)
    (hs : ∀ i σ H, i < n → Pv i σ H → g (.int (lo + i)) σ H fun σ2 H2 => tb { D with nx := Pv (i + 1), ct := Pv (i + 1), bk := D.nx } σ2 H2) (hd : ∀ σ H, Pv n σ H → D.nx σ H) :
    ∃ W : Nat → Nat → St → Hp → Prop, (∃ m, W 0 m σ H) ∧ ∀ i m σ H, W i m σ H →
      ((Itr lo n).stop i H ∧ D.nx σ H) ∨ ((Itr lo n).go i H ∧ ∃ N : St → Hp → Prop, (∀ σ' H', N σ' H' → ∃ m', m' < m ∧ W (i + 1) m' σ' H') ∧ ∀ x H', (Itr lo n).yld i H x H' → g x σ H' fun σ2 H2 => tb { D with nx := N, ct := N, bk := D.nx } σ2 H2) := by
  refine ⟨fun i m σ H => m = n - i ∧ i ≤ n ∧ Pv i σ H, ⟨n, by simp, Nat.zero_le _, h0⟩, ?_⟩
  rintro i m σ H ⟨rfl, hi, p⟩
  by_cases hlt : i < n
  · refine .inr ⟨hlt, Pv (i + 1), fun σ' H' p' => ⟨n - (i + 1), by omega, rfl, hlt, p'⟩, fun x H' y => ?_⟩
    obtain ⟨e, y⟩ := y
    subst e y
    exact hs i σ _ hlt p
  · have e : i = n := by omega
    subst e
    exact .inl ⟨Nat.le_refl _, hd σ H p⟩
end L2

namespace L2
open PySem PySem.Spec PyProof.Rows

abbrev R2 := V → V → Hp → VK → Prop
/-- a two-place operation on values: f is binaryOp op, inplaceOp op or compareOp op -/
def OpR (X : Cx) (f : Value → Value → Sem Value) (r : R2) : Prop :=
  ∀ (pins : List (Addr × Obj)) (s : Shared) (σ : St) (H : Hp) (x y : V) (v u : Value) (Q : VK), Inv X pins σ H s → RelV x v → RelV y u → r x y H Q →
    wpAny (model X.prog X.w) X.A (f v u) (EP X pins σ Q) X.xe s
/-- a one-place operation -/
def UnR (X : Cx) (f : Value → Sem Value) (r : V → Hp → VK → Prop) : Prop :=
  ∀ (pins : List (Addr × Obj)) (s : Shared) (σ : St) (H : Hp) (x : V) (v : Value) (Q : VK), Inv X pins σ H s → RelV x v → r x H Q →
    wpAny (model X.prog X.w) X.A (f v) (EP X pins σ Q) X.xe s
/-- a call of a value that is known (a builtin, a type) with values -/
def CallR (X : Cx) (f : Value) (r : List V → Hp → VK → Prop) : Prop :=
  ∀ (pins : List (Addr × Obj)) (s : Shared) (σ : St) (H : Hp) (xs : List V) (us : List Value) (Q : VK), Inv X pins σ H s → Vals xs us → r xs H Q →
    wpAny (model X.prog X.w) X.A (call f us) (EP X pins σ Q) X.xe s
/-- a value's truth -/
def TruR (X : Cx) (r : V → Hp → (Bool → Hp → Prop) → Prop) : Prop :=
  ∀ (pins : List (Addr × Obj)) (s : Shared) (σ : St) (H : Hp) (x : V) (v : Value) (Q : Bool → Hp → Prop), Inv X pins σ H s → RelV x v → r x H Q →
    wpAny (model X.prog X.w) X.A (truthy v) (TP X pins σ Q) X.xe s

def tOp (r : R2) (ta tb : TE) : TE := fun σ H Q => ta σ H fun x H1 => tb σ H1 fun y H2 => r x y H2 Q
def tUn (r : V → Hp → VK → Prop) (ta : TE) : TE := fun σ H Q => ta σ H fun x H1 => r x H1 Q
/-- ints in, under C, and a value out -/
def rI (C : Int → Int → Prop) (g : Int → Int → V) : R2 := fun x y H Q => ∃ i j, x = .int i ∧ y = .int j ∧ C i j ∧ Q (g i j) H
def rI0 (g : Int → Int → V) : R2 := fun x y H Q => ∃ i j, x = .int i ∧ y = .int j ∧ Q (g i j) H
def rU (g : Int → V) : V → Hp → VK → Prop := fun x H Q => ∃ i, x = .int i ∧ Q (g i) H

section
variable {X : Cx} {a b c : Expr} {ta tb tc : TE} {pos : Pos}

theorem binT (ha : PE X a ta) (hb : PE X b tb) {pins : List (Addr × Obj)} {s : Shared} {σ : St} {H : Hp} {R : V → V → Hp → Prop} (I : Inv X pins σ H s)
    (h : ta σ H fun x H1 => tb σ H1 fun y H2 => R x y H2) {Q : Value → Shared → Prop} {f : Value → Value → Sem Value}
    (hf : ∀ v u s2 x y H2, Inv X pins σ H2 s2 → RelV x v → RelV y u → R x y H2 → wpAny (model X.prog X.w) X.A (f v u) Q X.xe s2) :
    wpAny (model X.prog X.w) X.A (eval a X.env) (fun v s₁ => wpAny (model X.prog X.w) X.A (eval b X.env) (fun u s₂ => wpAny (model X.prog X.w) X.A (f v u) Q X.xe s₂) X.xe s₁) X.xe s := by
  refine thn (ha pins s σ H _ I h) fun v s1 ⟨x, H1, I1, r1, q1⟩ => ?_
  refine thn (hb pins s1 σ H1 _ I1 q1) fun u s2 ⟨y, H2, I2, r2, q2⟩ => ?_
  exact hf v u s2 x y H2 I2 r1 r2 q2

theorem pe_op {op : Operator} {r : R2} (ho : OpR X (binaryOp op) r) (ha : PE X a ta) (hb : PE X b tb) : PE X (.BinOp a op b pos) (tOp r ta tb) := by
  intro pins s σ H Q I h
  exact wpAny_BinOp (binT ha hb I h fun v u s2 x y H2 I2 rx ry q => ho pins s2 σ H2 x y v u Q I2 rx ry q)
theorem pe_un {op : UnaryOp} {r : V → Hp → VK → Prop} (ho : UnR X (unaryOp op) r) (ha : PE X a ta) : PE X (.UnaryOp op a pos) (tUn r ta) := by
  intro pins s σ H Q I h
  exact UnaryOp_ (thn (ha pins s σ H _ I h) fun v s1 ⟨x, H1, I1, r1, q1⟩ => ho pins s1 σ H1 x v Q I1 r1 q1)
theorem opI {f : Value → Value → Sem Value} {C : Int → Int → Prop} {g : Int → Int → Int}
    (rule : ∀ (i j : Int) (t u : Tok) (s : Shared) (Q : Value → Shared → Prop) (E : Value → Shared → Prop), C i j → Q (.int (g i j) s.toks) { s with toks := s.toks + 1 } → wpAny (model X.prog X.w) X.A (f (.int i t) (.int j u)) Q E s) :
    OpR X f (rI C fun i j => .int (g i j)) := by
  intro pins s σ H x y v u Q I rx ry h
  obtain ⟨i, j, rfl, rfl, hc, q⟩ := h
  obtain ⟨t, rfl⟩ := rx
  obtain ⟨t', rfl⟩ := ry
  exact rule i j t t' s _ _ hc ⟨.int (g i j), H, I.tok _, ⟨_, rfl⟩, q⟩
theorem opI0 {f : Value → Value → Sem Value} {g : Int → Int → Int}
    (rule : ∀ (i j : Int) (t u : Tok) (s : Shared) (Q : Value → Shared → Prop) (E : Value → Shared → Prop), Q (.int (g i j) s.toks) { s with toks := s.toks + 1 } → wpAny (model X.prog X.w) X.A (f (.int i t) (.int j u)) Q E s) :
    OpR X f (rI0 fun i j => .int (g i j)) := by
  intro pins s σ H x y v u Q I rx ry h
  obtain ⟨i, j, rfl, rfl, q⟩ := h
  obtain ⟨t, rfl⟩ := rx
  obtain ⟨t', rfl⟩ := ry
  exact rule i j t t' s _ _ ⟨.int (g i j), H, I.tok _, ⟨_, rfl⟩, q⟩
theorem opB0 {f : Value → Value → Sem Value} {g : Int → Int → Bool}
    (rule : ∀ (i j : Int) (t u : Tok) (s : Shared) (Q : Value → Shared → Prop) (E : Value → Shared → Prop), Q (.bool (g i j)) s → wpAny (model X.prog X.w) X.A (f (.int i t) (.int j u)) Q E s) :
    OpR X f (rI0 fun i j => .bl (g i j)) := by
  intro pins s σ H x y v u Q I rx ry h
  obtain ⟨i, j, rfl, rfl, q⟩ := h
  obtain ⟨t, rfl⟩ := rx
  obtain ⟨t', rfl⟩ := ry
  exact rule i j t t' s _ _ ⟨.bl (g i j), H, I, rfl, q⟩

def CDiv (i j : Int) : Prop := 0 < j ∧ j < 1073741824
def CPow (i j : Int) : Prop := 0 ≤ j ∧ j ≤ 1000000 ∧ i.natAbs < 2 ^ 64
def CMul (i j : Int) : Prop := (-(2 ^ 64) < i ∧ i < 2 ^ 64) ∨ (-(2 ^ 64) < j ∧ j < 2 ^ 64)
theorem CMul.ok {i j : Int} (h : CMul i j) : IntMulOk i j := by
  rcases h with ⟨h1, h2⟩ | ⟨h1, h2⟩
  · exact .of_left (intBits_le_64 h1 h2)
  · exact .of_right (intBits_le_64 h1 h2)
theorem two_pow_nn (k : Nat) : (0 : Int) ≤ 2 ^ k := by
  rw [two_pow_cast]
  exact Int.natCast_nonneg _

theorem op_add : OpR X (binaryOp .Add) (rI0 fun i j => .int (i + j)) := opI0 fun _ _ _ _ _ _ _ q => add_int q
theorem op_sub : OpR X (binaryOp .Sub) (rI0 fun i j => .int (i - j)) := opI0 fun _ _ _ _ _ _ _ q => sub_int q
theorem op_mul : OpR X (binaryOp .Mult) (rI CMul fun i j => .int (i * j)) := opI fun _ _ _ _ _ _ _ hc q => mul_int q hc.ok
/-- // by a positive divisor -/
theorem op_fdiv : OpR X (binaryOp .FloorDiv) (rI CDiv fun i j => .int (i / j)) := opI fun i j _ _ _ _ _ hc q => by
  have h1 : (0 : Int) < j := hc.1
  have h2 : j < 1073741824 := hc.2
  exact floordiv_int (by omega) (by rw [Int.fdiv_eq_ediv_of_nonneg i (by omega)]; exact q) (.inl (PyProof.noPylong_small (by omega)))
/-- % by a positive divisor of any size -/
theorem op_mod : OpR X (binaryOp .Mod) (rI (fun _ j => 0 < j) fun i j => .int (i % j)) := opI fun i j _ _ _ _ _ hc q => by
  have h1 : (0 : Int) < j := hc
  exact mod_int' (by omega) (by rw [Int.fmod_eq_emod_of_nonneg i (by omega)]; exact q)
theorem op_shl : OpR X (binaryOp .LShift) (rI CPow fun i j => .int (i * 2 ^ j.toNat)) := opI fun _ _ _ _ _ _ _ hc q => lshift_int_small hc.1 hc.2.1 hc.2.2 q
theorem op_shr : OpR X (binaryOp .RShift) (rI (fun _ j => 0 ≤ j) fun i j => .int (i / 2 ^ j.toNat)) := opI fun i j _ _ _ _ _ hc q =>
  rshift_int hc (by rw [Int.fdiv_eq_ediv_of_nonneg i (two_pow_nn _)]; exact q)
theorem op_and : OpR X (binaryOp .BitAnd) (rI0 fun i j => .int (Builtin.bitAnd i j)) := opI0 fun _ _ _ _ _ _ _ q => and_int q
theorem op_or : OpR X (binaryOp .BitOr) (rI0 fun i j => .int (Builtin.bitOr i j)) := opI0 fun _ _ _ _ _ _ _ q => or_int q
theorem unI {f : Value → Sem Value} {g : Int → Int}
    (rule : ∀ (i : Int) (t : Tok) (s : Shared) (Q : Value → Shared → Prop) (E : Value → Shared → Prop), Q (.int (g i) s.toks) { s with toks := s.toks + 1 } → wpAny (model X.prog X.w) X.A (f (.int i t)) Q E s) :
    UnR X f (rU fun i => .int (g i)) := by
  intro pins s σ H x v Q I rx h
  obtain ⟨i, rfl, q⟩ := h
  obtain ⟨t, rfl⟩ := rx
  exact rule i t s _ _ ⟨.int (g i), H, I.tok _, ⟨_, rfl⟩, q⟩
theorem un_neg : UnR X (unaryOp .USub) (rU fun i => .int (-i)) := unI fun _ _ _ _ _ q => neg_int q
end

/-- the scalars that == tells apart as data does -/
def scal : V → V → Bool
  | .non, .non => true | .non, .int _ => true | .int _, .non => true | .non, .bl _ => true | .bl _, .non => true | .non, .str _ => true | .str _, .non => true
  | .int _, .int _ => true | .bl _, .bl _ => true | .str _, .str _ => true | .byt _, .byt _ => true
  | .int _, .str _ => true | .str _, .int _ => true | .bl _, .str _ => true | .str _, .bl _ => true
  | _, _ => false
def rEq : R2 := fun x y H Q => scal x y = true ∧ Q (.bl (decide (x = y))) H
def rNe : R2 := fun x y H Q => scal x y = true ∧ Q (.bl (!decide (x = y))) H

theorem dec_int {i j : Int} : decide (V.int i = V.int j) = (i == j) := by
  rw [Bool.eq_iff_iff]
  simp
theorem dec_bl {i j : Bool} : decide (V.bl i = V.bl j) = (i == j) := by
  rw [Bool.eq_iff_iff]
  simp
theorem dec_str {i j : Str} : decide (V.str i = V.str j) = (i == j) := by
  rw [Bool.eq_iff_iff]
  simp
theorem dec_byt {i j : Array UInt8} : decide (V.byt i = V.byt j) = (i.toList == j.toList) := by
  rw [Bool.eq_iff_iff]
  cases i
  cases j
  simp

section
variable {X : Cx} {a b c : Expr} {ta tb tc : TE} {pos : Pos}
theorem fin_bl {pins : List (Addr × Obj)} {σ : St} {H : Hp} {s : Shared} {Q : VK} {k k' : Bool} (I : Inv X pins σ H s) (q : Q (.bl k) H) (e : k = k') : EP X pins σ Q (.bool k') s := by
  subst e
  exact ⟨.bl k, H, I, rfl, q⟩
theorem op_eq : OpR X (compareOp .Eq) rEq := by
  intro pins s σ H x y v u Q I rx ry h
  obtain ⟨hs, q⟩ := h
  cases x with
  | non =>
    cases rx
    cases y with
    | non => cases ry; exact PySem.EqNone.eq_none_none (fin_bl I q (by simp))
    | bl j => cases ry; exact PySem.EqNone.eq_none_bool (fin_bl I q (by simp))
    | int j => obtain ⟨t', rfl⟩ := ry; exact PySem.EqNone.eq_none_int (fin_bl I q (by simp))
    | str j => obtain ⟨t', rfl⟩ := ry; exact PySem.EqNone.eq_none_str (fin_bl I q (by simp))
    | _ => exact absurd (show false = true from hs) Bool.false_ne_true
  | bl i =>
    cases rx
    cases y with
    | non => cases ry; exact PySem.EqNone.eq_bool_none (fin_bl I q (by simp))
    | bl j => cases ry; exact eq_bool (fin_bl I q dec_bl)
    | str j => obtain ⟨t', rfl⟩ := ry; exact PySem.EqMixed.eq_bool_str (fin_bl I q (by simp))
    | _ => exact absurd (show false = true from hs) Bool.false_ne_true
  | int i =>
    obtain ⟨t, rfl⟩ := rx
    cases y with
    | non => cases ry; exact PySem.EqNone.eq_int_none (fin_bl I q (by simp))
    | int j => obtain ⟨t', rfl⟩ := ry; exact eq_int (fin_bl I q dec_int)
    | str j => obtain ⟨t', rfl⟩ := ry; exact PySem.EqMixed.eq_int_str (fin_bl I q (by simp))
    | _ => exact absurd (show false = true from hs) Bool.false_ne_true
  | str i =>
    obtain ⟨t, rfl⟩ := rx
    cases y with
    | non => cases ry; exact PySem.EqNone.eq_str_none (fin_bl I q (by simp))
    | bl j => cases ry; exact PySem.EqMixed.eq_str_bool (fin_bl I q (by simp))
    | int j => obtain ⟨t', rfl⟩ := ry; exact PySem.EqMixed.eq_str_int (fin_bl I q (by simp))
    | str j => obtain ⟨t', rfl⟩ := ry; exact eq_str (fin_bl I q dec_str)
    | _ => exact absurd (show false = true from hs) Bool.false_ne_true
  | byt i =>
    obtain ⟨t, rfl⟩ := rx
    cases y with
    | byt j => obtain ⟨t', rfl⟩ := ry; exact PySem.W.eq_bytes (fin_bl I q dec_byt)
    | _ => exact absurd (show false = true from hs) Bool.false_ne_true
  | _ => cases y <;> exact absurd (show false = true from hs) Bool.false_ne_true
theorem op_ne : OpR X (compareOp .NotEq) rNe := by
  intro pins s σ H x y v u Q I rx ry h
  obtain ⟨hs, q⟩ := h
  cases x with
  | non =>
    cases rx
    cases y with
    | non => cases ry; exact PySem.EqNone.ne_none_none (fin_bl I q (by simp))
    | bl j => cases ry; exact PySem.EqNone.ne_none_bool (fin_bl I q (by simp))
    | int j => obtain ⟨t', rfl⟩ := ry; exact PySem.EqNone.ne_none_int (fin_bl I q (by simp))
    | str j => obtain ⟨t', rfl⟩ := ry; exact PySem.EqNone.ne_none_str (fin_bl I q (by simp))
    | _ => exact absurd (show false = true from hs) Bool.false_ne_true
  | bl i =>
    cases rx
    cases y with
    | non => cases ry; exact PySem.EqNone.ne_bool_none (fin_bl I q (by simp))
    | bl j => cases ry; exact ne_bool (fin_bl I q (congrArg not dec_bl))
    | str j => obtain ⟨t', rfl⟩ := ry; exact PySem.EqMixed.ne_bool_str (fin_bl I q (by simp))
    | _ => exact absurd (show false = true from hs) Bool.false_ne_true
  | int i =>
    obtain ⟨t, rfl⟩ := rx
    cases y with
    | non => cases ry; exact PySem.EqNone.ne_int_none (fin_bl I q (by simp))
    | int j => obtain ⟨t', rfl⟩ := ry; exact ne_int (fin_bl I q (congrArg not dec_int))
    | str j => obtain ⟨t', rfl⟩ := ry; exact PySem.EqMixed.ne_int_str (fin_bl I q (by simp))
    | _ => exact absurd (show false = true from hs) Bool.false_ne_true
  | str i =>
    obtain ⟨t, rfl⟩ := rx
    cases y with
    | non => cases ry; exact PySem.EqNone.ne_str_none (fin_bl I q (by simp))
    | bl j => cases ry; exact PySem.EqMixed.ne_str_bool (fin_bl I q (by simp))
    | int j => obtain ⟨t', rfl⟩ := ry; exact PySem.EqMixed.ne_str_int (fin_bl I q (by simp))
    | str j => obtain ⟨t', rfl⟩ := ry; exact ne_str (fin_bl I q (congrArg not dec_str))
    | _ => exact absurd (show false = true from hs) Bool.false_ne_true
  | byt i =>
    obtain ⟨t, rfl⟩ := rx
    cases y with
    | byt j => obtain ⟨t', rfl⟩ := ry; exact PySem.W.ne_bytes (fin_bl I q (congrArg not dec_byt))
    | _ => exact absurd (show false = true from hs) Bool.false_ne_true
  | _ => cases y <;> exact absurd (show false = true from hs) Bool.false_ne_true

theorem op_le : OpR X (compareOp .LtE) (rI0 fun i j => .bl (decide (i ≤ j))) := opB0 fun _ _ _ _ _ _ _ q => le_int q
/-- two rules for one operation: by cases -/
theorem OpR.or {f : Value → Value → Sem Value} {r r' : R2} (h : OpR X f r) (h' : OpR X f r') : OpR X f (fun x y H Q => r x y H Q ∨ r' x y H Q) := by
  intro pins s σ H x y v u Q I rx ry q
  rcases q with q | q
  · exact h pins s σ H x y v u Q I rx ry q
  · exact h' pins s σ H x y v u Q I rx ry q

theorem nomark (b : Expr) {op : CmpOp} (h : op ≠ .In := by decide) (h2 : op ≠ .NotIn := by decide) : behindInMarks op b = false := by
  have e1 : (op == CmpOp.In) = false := by cases op <;> first | rfl | exact absurd rfl h
  have e2 : (op == CmpOp.NotIn) = false := by cases op <;> first | rfl | exact absurd rfl h2
  cases b <;> simp [behindInMarks, e1, e2]
/-- a comparison as a value; hm: nomark b, or (for in, not in) by with_unfolding_all rfl -/
theorem pe_cmpR {op : CmpOp} {r : R2} (ho : OpR X (compareOp op) r) (ha : PE X a ta) (hb : PE X b tb) (hm : behindInMarks op b = false) : PE X (.Compare a [op] [b] pos) (tOp r ta tb) := by
  intro pins s σ H Q I h
  exact wpAny_Compare1 (binT ha hb I h fun v u s2 x y H2 I2 rx ry q => ho pins s2 σ H2 x y v u Q I2 rx ry q) hm
/-- a reading of a value as a test -/
def tTest (t : TE) : TT := fun σ H Q => t σ H fun x H' => ∃ k, x = .bl k ∧ Q k H'
theorem pt_cmpR {op : CmpOp} {r : R2} (ho : OpR X (compareOp op) r) (ha : PE X a ta) (hb : PE X b tb) (hm : behindInMarks op b = false) : PT X (.Compare a [op] [b] pos) (tTest (tOp r ta tb)) := by
  intro pins s σ H Q I h
  refine wpAny_isTrue_Compare1 (thn (ha pins s σ H _ I h) fun v s1 ⟨x, H1, I1, r1, q1⟩ => thn (hb pins s1 σ H1 _ I1 q1) fun u s2 ⟨y, H2, I2, r2, q2⟩ =>
    thn (ho pins s2 σ H2 x y v u _ I2 r1 r2 q2) fun c s3 ⟨z, H3, I3, r3, k, e, q3⟩ => ?_) hm
  subst e
  cases r3
  exact wpAny_truthy_bool ⟨H3, I3, q3⟩
/-- a op1 b op2 c -/
def tChain (r r' : R2) (ta tb tc : TE) : TE := fun σ H Q => ta σ H fun x H1 => tb σ H1 fun y H2 => r x y H2 fun z H3 => ∃ k, z = .bl k ∧
  (if k = true then tc σ H3 fun w' H4 => r' y w' H4 Q else Q (.bl false) H3)
theorem pe_chain {op op' : CmpOp} {r r' : R2} (ho : OpR X (compareOp op) r) (ho' : OpR X (compareOp op') r') (ha : PE X a ta) (hb : PE X b tb) (hc : PE X c tc)
    (hm : lastMarks [op, op'] [b, c] = false := by with_unfolding_all rfl) : PE X (.Compare a [op, op'] [b, c] pos) (tChain r r' ta tb tc) := by
  intro pins s σ H Q I h
  refine Compare_chain (thn (ha pins s σ H _ I h) fun v s1 ⟨x, H1, I1, r1, q1⟩ => chain_link (thn (hb pins s1 σ H1 _ I1 q1) fun u s2 ⟨y, H2, I2, r2, q2⟩ =>
    thn (ho pins s2 σ H2 x y v u _ I2 r1 r2 q2) fun d s3 ⟨z, H3, I3, r3, k, e, q3⟩ => ?_)) hm
  subst e
  cases r3
  refine wpAny_truthy_bool ?_
  cases k with
  | false => exact ite_ff ⟨.bl false, H3, I3, rfl, q3⟩
  | true => exact ite_tt (chain_last (thn (hc pins s3 σ H3 _ I3 q3) fun w' s4 ⟨z', H4, I4, r4, q4⟩ => ho' pins s4 σ H4 y z' u w' Q I4 r2 r4 q4))
/-- a value's truth by the abstract heap -/
def TruV (K : PySem.W.Frag) (x : V) (H : Hp) (k : Bool) : Prop :=
  match x with
  | .non => k = false
  | .bl b => k = b
  | .int i => k = (i != 0)
  | .str y => y.length ≤ sizeLine ∧ k = ((y.length : Int) != 0)
  | .byt y => y.size ≤ sizeLine ∧ k = ((y.size : Int) != 0)
  | .ref p => (∃ xs, SqL K H p xs ∧ k = !xs.isEmpty) ∨ (∃ xs, SqT K H p xs ∧ k = !xs.isEmpty) ∨ ∃ kvs, H p = some (.dK kvs) ∧ k = !kvs.isEmpty
  | _ => False
theorem isEmpty_kv {κ : Type} {kvs : List (κ × V)} {vs : List (κ × Value)} (r : KV kvs vs) : (!vs.isEmpty) = !kvs.isEmpty := by
  cases r <;> rfl
theorem isEmpty_of {xs : List V} {its : List Value} (r : Vals xs its) : (!its.toArray.isEmpty) = !xs.isEmpty := by
  cases r <;> simp
theorem line63 : (sizeLine : Nat) < 2 ^ 63 := by rw [sizeLine_eq]; decide
theorem tru_ok : TruR X (fun x H Q => ∃ k, TruV X.K x H k ∧ Q k H) := by
  intro pins s σ H x v Q I rx h
  obtain ⟨k, e, q⟩ := h
  have hl := line63
  have hs : sizeLine = 16777216 := sizeLine_eq
  cases x with
  | non =>
    cases rx
    have e' : k = false := e
    subst e'
    exact truthy_none ⟨H, I, q⟩
  | bl b =>
    cases rx
    have e' : k = b := e
    subst e'
    exact wpAny_truthy_bool ⟨H, I, q⟩
  | int i =>
    obtain ⟨t, rfl⟩ := rx
    have e' : k = (i != 0) := e
    subst e'
    exact PySem.P.truthy_int ⟨H, I, q⟩
  | str y =>
    obtain ⟨t, rfl⟩ := rx
    obtain ⟨hy, e'⟩ : y.length ≤ sizeLine ∧ k = ((y.length : Int) != 0) := e
    subst e'
    exact PySem.P.truthy_str (by omega) ⟨H, I.tok _, q⟩
  | byt y =>
    obtain ⟨t, rfl⟩ := rx
    obtain ⟨hy, e'⟩ : y.size ≤ sizeLine ∧ k = ((y.size : Int) != 0) := e
    subst e'
    exact PySem.W.truthy_bytes (by omega) ⟨H, I.tok _, q⟩
  | ref p =>
    cases rx
    have e' : (∃ xs, SqL X.K H p xs ∧ k = !xs.isEmpty) ∨ (∃ xs, SqT X.K H p xs ∧ k = !xs.isEmpty) ∨ ∃ kvs, H p = some (.dK kvs) ∧ k = !kvs.isEmpty := e
    rcases e' with ⟨xs, hx, e'⟩ | ⟨xs, hx, e'⟩ | ⟨kvs, hx, e'⟩
    · subst e'
      obtain ⟨its, r, pl, hz⟩ := I.list hx
      have hlen := r.length
      exact wpAny_truthy_list pl.isList (by simp only [List.size_toArray]; omega) ⟨H, I.tok _, by rw [isEmpty_of r]; exact q⟩
    · subst e'
      obtain ⟨its, r, pl, hz⟩ := I.tuple hx
      have hlen := r.length
      exact truthy_tuple pl (by simp only [List.size_toArray]; omega) ⟨H, I.tok _, by rw [isEmpty_of r]; exact q⟩
    · subst e'
      obtain ⟨hz, hS, vs, r, m⟩ : kvs.length ≤ sizeLine ∧ (p == sysModules) = false ∧ ∃ vs, KV kvs vs ∧ s.heap.DictOf (mixKind X.prog X.w) p vs := I.hok p _ hx
      have hlen : kvs.length = vs.length := Paired.length r
      exact wpAny_truthy_dict hS m (by omega) ⟨H, I.tok _, by rw [isEmpty_kv r]; exact q⟩
  | _ => exact (show False from e).elim
/-- any expression whose test is its value's truth (a name, a call, a subscript, a field ..: he by fun _ => rfl) -/
theorem pt_truth (ha : PE X a ta) (he : ∀ whole, isTrue a X.env whole = (do let v ← whole; standAt a.pos; holding [v] (truthy v))) :
    PT X a (fun σ H Q => ta σ H fun x H' => ∃ k, TruV X.K x H' k ∧ Q k H') := by
  intro pins s σ H Q I h
  exact isTrue_plain (thn (ha pins s σ H _ I h) fun v s1 ⟨x, H1, I1, r1, q1⟩ => tru_ok pins s1 σ H1 x v Q I1 r1 q1) (he _)

theorem vals1 {x : V} {us : List Value} (r : Vals [x] us) : ∃ u, us = [u] ∧ RelV x u := by
  cases r with
  | cons r1 r2 => cases r2; exact ⟨_, rfl, r1⟩
end
end L2

namespace L2
open PySem PySem.Spec PyProof.Rows

structure ObjM (h : Heap) (x dx C : Addr) (mA : Str → Option Value) : Prop where
  obj : h.get? x = some (PySem.W.instObj C dx)
  ns : h.Ns1 dx mA
  ne : dx ≠ x

theorem lookIn_ns {h : Heap} {dx : Addr} {mA : Str → Option Value} (n : h.Ns1 dx mA) : ∃ od, h.get? dx = some od ∧ ∀ name, PySem.W.lookIn name od = some (mA name) := by
  obtain ⟨o, es, ep, ho, hd, hk, _, hm⟩ := n
  refine ⟨o, ho, fun name => ?_⟩
  have e := hm name
  unfold nsFind findBy at e
  rw [← Array.find?_toList] at e
  unfold PySem.W.lookIn
  rw [hd]
  dsimp only
  split
  · rename_i y q
    rw [q] at e
    exact congrArg some e
  · rename_i q
    rw [q] at e
    have a : es.toList.any (·.refKey) = false := by
      rw [List.any_eq_false]
      intro y hy
      obtain ⟨z, t, hkey⟩ := hk y (Array.mem_toList_iff.mp hy)
      simp [DictEntry.refKey, hkey]
    have a' : ¬ es.toList.any (·.refKey) = true := by rw [a]; exact Bool.false_ne_true
    rw [if_neg a']
    exact congrArg some e

theorem ObjM.look {h : Heap} {x dx C : Addr} {mA : Str → Option Value} (I : ObjM h x dx C mA) : ∃ od, PySem.W.InstAt h x (PySem.W.instObj C dx) C (some od) ∧ ∀ name, PySem.W.lookIn name od = some (mA name) :=
  let ⟨od, ho, hl⟩ := lookIn_ns I.ns
  ⟨od, ⟨I.obj, rfl, rfl, ho⟩, hl⟩

section
variable {prog : Program} {w : World} {A : Around} {E : Value → Shared → Prop} {s : Shared} {K : PySem.W.Frag} {x dx C f : Addr} {mA : Str → Option Value} {name : Str} {v : Value}

end

section
variable {P : Program} {w : World} {H H' : Hp} {h h' : Heap} {a C dx : Addr} {fs fs' : List (Str × V)}
end

structure Cls (K : PySem.W.Frag) (C : Addr) : Prop where
  pg : PySem.W.plainGet K C Str.empty = true
  hd : PySem.W.hasDictIn K C = true
  po : PySem.W.plainOver K C = true
  sa : PySem.W.findIn K (.ref C) "__setattr__" = some (some (.builtin "object.__setattr__"))
theorem Cls.get {K : PySem.W.Frag} {C : Addr} (c : Cls K C) (f : Str) : PySem.W.plainGet K C f = true := c.pg
section
variable {X : Cx} {pins : List (Addr × Obj)} {σ : St} {H : Hp} {s : Shared} {a C dx : Addr} {fs : List (Str × V)} {f : Str} {v : V} {A : Around} {E : Value → Shared → Prop}

/-- a new instance, tracked, without attributes -/
theorem Inv.made (I : Inv X pins σ H s) : Inv X pins σ (upd (upd H s.heap.objs.size (.own (s.heap.objs.size + 1))) (s.heap.objs.size + 1) (.ins C s.heap.objs.size []))
    { s with heap := (s.heap.push PySem.W.emptyDict).push (PySem.W.instObj C s.heap.objs.size) } := by
  have e1 : (s.heap.push PySem.W.emptyDict).get? s.heap.objs.size = some PySem.W.emptyDict := Heap.get?_push_size s.heap rfl
  have e2 : ((s.heap.push PySem.W.emptyDict).push (PySem.W.instObj C s.heap.objs.size)).get? (s.heap.objs.size + 1) = some (PySem.W.instObj C s.heap.objs.size) := by
    have := Heap.get?_push_size (s.heap.push PySem.W.emptyDict) (o := PySem.W.instObj C s.heap.objs.size) rfl
    rwa [Heap.size_push] at this
  have e3 : (s.heap.push PySem.W.emptyDict).Ns s.heap.objs.size (fun _ => none) := ⟨PySem.W.emptyDict, #[], _, e1, rfl, (fun e he => absurd he (by simp)), fun _ => rfl⟩
  have I1 := I.laid (a := s.heap.objs.size) (o := .own (s.heap.objs.size + 1)) (h' := s.heap.push PySem.W.emptyDict) (t' := s.toks) (fun b u q => Heap.get?_push_of_some _ q) (Nat.le_refl _) ⟨_, e1⟩
  refine I1.laid (a := s.heap.objs.size + 1) (o := .ins C s.heap.objs.size []) (t' := s.toks) (fun b u q => Heap.get?_push_of_some _ q) (Nat.le_of_eq (Heap.size_push _ _)) ?_
  have ne : s.heap.objs.size ≠ s.heap.objs.size + 1 := Nat.ne_of_lt (Nat.lt_succ_self _)
  refine ⟨by rw [upd_ne ne, upd_same], Nat.zero_le _, ne, e2, fun _ => none, (Heap.Ns1.of_empty e3).at fun o q => Heap.get?_push_of_some _ q, fun _ => True.intro, fun y hy => absurd rfl hy⟩

end

section
variable {X : Cx} {o e value : Expr} {f : Str} {pos pos' tpos : Pos} {ta tv : TE}
end

section
variable {X : Cx} {pins : List (Addr × Obj)} {σ : St} {H : Hp} {s : Shared} {A : Around} {E : Value → Shared → Prop} {Q : Value → Shared → Prop} {c : Value} {b : Bool}
end
end L2

namespace L2
open PySem PySem.Spec PyProof.Rows

structure Room (k : Nat) (A : Around) : Prop where
  hd : A.handled = none
  dp : A.depth + 3 * k + 5 < recursionLimit
  un : A.units + 16 * k + 200 < cLine
theorem Room.mono {j k : Nat} {A : Around} (r : Room k A) (h : j ≤ k) : Room j A := ⟨r.hd, by have := r.dp; omega, by have := r.un; omega⟩
theorem Room.deeper {k : Nat} {A : Around} (r : Room (k + 1) A) (env : Env) : Room k (A.deeper env) :=
  ⟨r.hd, by have := r.dp; show A.depth + 1 + 3 * k + 5 < _; omega, by have := r.un; show A.units + 3 + 16 * k + 200 < _; omega⟩
theorem Room.depth {k : Nat} {A : Around} (r : Room k A) : A.depth < recursionLimit := by have := r.dp; omega
theorem Room.units {k : Nat} {A : Around} (r : Room k A) : A.units + 64 < cLine := by have := r.un; omega
def tNil : TA := fun _ H Q => Q [] H
def tCons (ta : TE) (tr : TA) : TA := fun σ H Q => ta σ H fun x H1 => tr σ H1 fun xs H2 => Q (x :: xs) H2
section
variable {X : Cx} {e : Expr} {es : List Expr} {te : TE} {t : TA} {pos : Pos}
theorem pa_nil : PA X [] tNil := fun _ _ _ _ H Q I h => Calls.spliced_nil ⟨[], H, I, .nil, h⟩
theorem pa_cons (ha : PE X e te) (hr : PA X es t) (hs : starEach (e :: es) X.env = (false, eval e X.env) :: starEach es X.env := by rfl) : PA X (e :: es) (tCons te t) := by
  intro pos pins s σ H Q I h
  rw [hs]
  show wpAny _ _ (spliced ((false, eval e X.env) :: backTo pos (starEach es X.env))) _ _ s
  refine Calls.spliced_cons (thn (ha pins s σ H _ I h) fun u s1 ⟨x, H1, I1, r1, q1⟩ => ?_)
  exact thn (hr pos pins s1 σ H1 _ I1 q1) fun us s2 ⟨xs, H2, I2, r2, q2⟩ => ⟨x :: xs, H2, I2, .cons r1 r2, q2⟩

/-- a tuple, a list of written items -/
def tTup (t : TA) : TE := fun σ H Q => t σ H fun xs H1 => xs.length ≤ sizeLine ∧ ∀ p, H1 p = none → Q (.ref p) (upd H1 p (.tup xs))
def tLst (t : TA) : TE := fun σ H Q => t σ H fun xs H1 => xs.length ≤ sizeLine ∧ ∀ p, H1 p = none → Q (.ref p) (upd H1 p (.lst xs))
theorem pe_tup {x1} (h : PA X es t) : PE X (.Tuple es x1 pos) (tTup t) := by
  intro pins s σ H Q I hq
  refine wpAny_Tuple_spliced (thn (h pos pins s σ H _ I hq) fun us s1 ⟨xs, H1, I1, r, z, q⟩ => ⟨by rw [← r.length]; exact z, ?_⟩)
  have hf : H1 s1.heap.objs.size = none := I1.hok.fresh (Nat.le_refl _)
  refine ⟨.ref s1.heap.objs.size, upd H1 s1.heap.objs.size (.tup xs), I1.laid (t' := s1.toks) (fun b u e => Heap.get?_push_of_some _ e) (Nat.le_refl _) ?_, rfl, q _ hf⟩
  exact ⟨z, us, r, ⟨_, Heap.get?_push_size _ rfl, rfl, _, rfl⟩⟩
theorem pe_lst (h : PA X es t) : PE X (.List es pos) (tLst t) := by
  intro pins s σ H Q I hq
  refine wpAny_List_spliced (thn (h pos pins s σ H _ I hq) fun us s1 ⟨xs, H1, I1, r, z, q⟩ => ⟨by rw [← r.length]; exact z, ?_⟩)
  have hf : H1 s1.heap.objs.size = none := I1.hok.fresh (Nat.le_refl _)
  refine ⟨.ref s1.heap.objs.size, upd H1 s1.heap.objs.size (.lst xs), I1.laid (t' := s1.toks) (fun b u e => Heap.get?_push_of_some _ e) (Nat.le_refl _) ?_, rfl, q _ hf⟩
  exact ⟨z, us, 0, r, Heap.get?_push_size _ rfl⟩
end

/-- a def's promise: the bound arguments in the parameters' order, the heap, the wanted end, the wanted exception -/
abbrev Sp := List V → Hp → VK → XK → Prop
/-- how an exception lies behind a call (file 08 gives it): the callers' frames, abstract heap and state ahead of the call, the wish, the exception, the state -/
abbrev CXT := List Env → Hp → Shared → XK → Value → Shared → Prop

/-- the state at a call -/
structure Env0 (P : Program) (w : World) (K : PySem.W.Frag) (mg : Str → Option Value) (base : Heap) (A : Around) (outer : List Env) (s : Shared) (H : Hp) : Prop where
  frames : A.frames = some outer
  mod : Mod K mg base
  bs : ∀ b o, base.get? b = some o → s.heap.get? b = some o ∧ H b = none
  bsz : base.objs.size ≤ s.heap.objs.size
  funs : s.heap.FunFrames base outer
  frf : ∀ b ∈ frs outer, H b = none
  hok : HOk P w H s.heap
  bare : AllBare s.gens
/-- a call's end -/
def CE (outer : List Env) (P : Program) (w : World) (H : Hp) (s : Shared) (Q : VK) (u : Value) (s' : Shared) : Prop :=
  ∃ v H', s'.os = s.os ∧ AllBare s'.gens ∧ Un (frs outer) [] H H' s.heap s'.heap ∧ HOk P w H' s'.heap ∧ RelV v u ∧ Q v H'
def CR (CX : CXT) (outer : List Env) (P : Program) (w : World) (H : Hp) (s : Shared) (Q : VK) (E : XK) (r : Result) (s' : Shared) : Prop :=
  match r with
  | .ok (.ret u) => CE outer P w H s Q u s'
  | .ok _ => False
  | .error e => CX outer H s E e s'
structure FnOk (P : Program) (w : World) (K : PySem.W.Frag) (mg : Str → Option Value) (base : Heap) (CX : CXT) (k : Nat) (f : Addr) (fd : FuncData) (ps : List Str) (sp : Sp) : Prop where
  len : ∀ vs H Q E, sp vs H Q E → vs.length = ps.length
  run : ∀ (A : Around) (outer : List Env) (s : Shared) (H : Hp) (args : Args) (us : List Value) (vs : List V) (Q : VK) (E : XK), Room k A → Env0 P w K mg base A outer s H → BindsTo s fd args (ps.zip us) → Vals vs us → sp vs H Q E →
    codeAny (model P w) A (.call (.ref f) args) (CR CX outer P w H s Q E) s
theorem FnOk.mono {P : Program} {w : World} {K : PySem.W.Frag} {mg : Str → Option Value} {base : Heap} {CX : CXT} {j k : Nat} {f : Addr} {fd : FuncData} {ps : List Str} {sp : Sp} (F : FnOk P w K mg base CX j f fd ps sp) (h : j ≤ k) :
    FnOk P w K mg base CX k f fd ps sp := ⟨F.len, fun A outer s H args us vs Q E hr => F.run A outer s H args us vs Q E (hr.mono h)⟩
/-- a weaker promise -/
theorem FnOk.imp {P : Program} {w : World} {K : PySem.W.Frag} {mg : Str → Option Value} {base : Heap} {CX : CXT} {k : Nat} {f : Addr} {fd : FuncData} {ps : List Str} {sp sp' : Sp} (F : FnOk P w K mg base CX k f fd ps sp)
    (h : ∀ vs H Q E, sp' vs H Q E → sp vs H Q E) : FnOk P w K mg base CX k f fd ps sp' :=
  ⟨fun vs H Q E q => F.len vs H Q E (h _ _ _ _ q), fun A outer s H args us vs Q E hr he hb hv hs => F.run A outer s H args us vs Q E hr he hb hv (h _ _ _ _ hs)⟩

section
variable {X : Cx} {pins : List (Addr × Obj)} {σ : St} {H : Hp} {s s' : Shared}
/-- from a body: what a callee wants -/
theorem Inv.env0 (I : Inv X pins σ H s) : Env0 X.prog X.w X.K X.mg X.base X.A X.stack s H :=
  ⟨I.ok.frames, I.ok.mod, I.bs, Nat.le_trans I.ok.bsz I.sz, I.stack, I.stkFree, I.hok, I.bare⟩
/-- behind a call -/
theorem Inv.after {Q : VK} {u : Value} (I : Inv X pins σ H s) (h : CE X.stack X.prog X.w H s Q u s') : EP X pins σ Q u s' := by
  obtain ⟨v, H', os, bare, un, hok, r, q⟩ := h
  obtain ⟨hh, g, d, t, os'⟩ := s'
  obtain rfl : os' = s.os := os
  exact ⟨v, H', I.call (h' := hh) (g' := g) (d' := d) (t' := t) (ch := []) un hok bare (fun b z => absurd z (by simp)), r, q⟩
end

/-- f(..): the written arguments, then the defaults dvs; E: what is wanted of an exception -/
def tCall (sp : Sp) (dvs : List V) (E : XK) (t : TA) : TE := fun σ H Q => t σ H fun vs H1 => sp (vs ++ dvs) H1 Q E
/-- how the parameters are bound: us the positional arguments, kw the keywords' values by name, ds the defaults that fill up -/
def Binds (K : PySem.W.Frag) (fd : FuncData) (ps : List Str) (ds : List Value) : Prop :=
  ∀ (s : Shared) (us : List Value), K.In s.heap → (us ++ ds).length = ps.length → BindsTo s fd ⟨us, []⟩ (ps.zip (us ++ ds))
/-- every parameter is given -/
theorem Binds.all {K : PySem.W.Frag} {fd : FuncData} {ps : List Str} (h : ∀ us : List Value, us.length = ps.length → bindArgs fd ⟨us, []⟩ = pure (ps.zip us)) : Binds K fd ps [] := fun s us _ hl => by
  rw [List.append_nil] at hl ⊢
  exact .of_eq (h us hl)

/-- an exception of a callee reaches what this body wants of exceptions -/
def Passes (CX : CXT) (X : Cx) (E : XK) : Prop := ∀ (pins : List (Addr × Obj)) (σ : St) (H : Hp) (s : Shared) (e : Value) (s' : Shared), Inv X pins σ H s → CX X.stack H s E e s' → X.xe e s'

section
variable {X : Cx} {CX : CXT} {k : Nat} {f C : Addr} {fd : FuncData} {ps : List Str} {sp : Sp} {dvs : List V} {ds : List Value} {E : XK} {x m : Str} {p pos apos : Pos} {e o : Expr} {es : List Expr} {ta : TE} {t : TA}

/-- the callee runs -/
theorem run_fn {pins : List (Addr × Obj)} {σ : St} {H : Hp} {s : Shared} {Q : VK} {us : List Value} {vs : List V} (F : FnOk X.prog X.w X.K X.mg X.base CX k f fd ps sp) (hr : Room k X.A) (hb : Binds X.K fd ps ds) (hd : Vals dvs ds) (hx : Passes CX X E)
    (I : Inv X pins σ H s) (r : Vals vs us) (h : sp (vs ++ dvs) H Q E) : wpAny (model X.prog X.w) X.A (call (.ref f) us) (EP X pins σ Q) X.xe s := by
  have r2 : Vals (vs ++ dvs) (us ++ ds) := r.append hd
  have hl : (us ++ ds).length = ps.length := by rw [← r2.length]; exact F.len _ _ _ _ h
  refine wpAny_call (codeAny_mono (F.run X.A X.stack s H ⟨us, []⟩ (us ++ ds) (vs ++ dvs) Q E hr I.env0 (hb s us I.kIn hl) r2 h) fun r s' hq => ?_)
  cases r with
  | error e => exact hx pins σ H s e s' I hq
  | ok fl =>
    cases fl with
    | ret u => exact I.after hq
    | next => exact False.elim hq
    | brk => exact False.elim hq
    | cont => exact False.elim hq

theorem pe_call (F : FnOk X.prog X.w X.K X.mg X.base CX k f fd ps sp) (hr : Room k X.A) (hg : Gl X x) (hm : X.mg x = some (.ref f)) (hk : PySem.W.keepIn X.K (.ref f) = true) (hb : Binds X.K fd ps ds) (hd : Vals dvs ds) (hx : Passes CX X E)
    (ha : PA X (e :: es) t) (hdb : (x == ("__debug__" : Str)) = false := by decide) (he : starEach (e :: es) X.env = (false, eval e X.env) :: starEach es X.env := by rfl) (hpl : (backTo pos (starEach es X.env)).any (·.1) = false := by rfl) :
    PE X (.Call (.Name x p) (e :: es) [] pos) (tCall sp dvs E t) := by
  intro pins s σ H Q I h
  refine wpAny_Call_Name_kw (ld_glob I hg hm ?_ hdb)
  refine PySem.W.callWith_K (h₀ := X.base) I.ok.mod.kin hk (thn (ha pos pins s σ H _ I h) fun us s1 ⟨vs, H1, I1, r, q⟩ => ⟨I1.kIn, ?_⟩) he hpl
  exact run_fn F hr hb hd hx I1 r q
end

section
variable {X : Cx} {CX : CXT} {k : Nat} {f C : Addr} {fd : FuncData} {ps ks : List Str} {sp : Sp} {E : XK} {x m : Str} {p pos apos kpos : Pos} {e o : Expr} {es : List Expr} {kws : List Keyword} {te ta : TE} {t tk : TA} {nm : Option Str}
variable {g : List Value → List Value → List Value} {gV : List V → List V → List V}
end

/-- names: the parameters first -/
structure FnScope (N P : List Str) (sc : Scope) : Prop where
  kind : sc.kind = .function
  co : sc.isCoroutine = false
  gen : sc.isGenerator = false
  nd : N.Nodup
  pre : N.take P.length = P
  par : ∀ x ∈ P, sc.names.lookup x = some .local ∨ sc.names.lookup x = some .cell
  nofree : ∀ y ∈ sc.names, y.2 ≠ .free

theorem bindL_out {kindOf : Str → Option NameKind} {x : Str} : ∀ {binds : List (Str × Value)} {m : Str → Option Value}, (∀ v, (x, v) ∉ binds) → bindL kindOf binds m x = m x
  | [], _, _ => rfl
  | (n, v) :: r, m, h => by
    unfold bindL
    rw [bindL_out fun w hw => h w (List.mem_cons_of_mem _ hw)]
    split
    · have : x ≠ n := by rintro rfl; exact h v List.mem_cons_self
      simp [this]
    · rfl
theorem bindC_out {kindOf : Str → Option NameKind} {x : Str} : ∀ {binds : List (Str × Value)} {m : Str → Option Value}, (∀ v, (x, v) ∉ binds) → bindC kindOf binds m x = m x
  | [], _, _ => rfl
  | (n, v) :: r, m, h => by
    unfold bindC
    rw [bindC_out fun w hw => h w (List.mem_cons_of_mem _ hw)]
    split
    · rfl
    · have : x ≠ n := by rintro rfl; exact h v List.mem_cons_self
      simp [this]
theorem bindL_get {kindOf : Str → Option NameKind} {x : Str} {v : Value} : ∀ {P : List Str} {vs : List Value} {i : Nat} {m : Str → Option Value}, P.Nodup → P[i]? = some x → vs[i]? = some v → kindOf x = some .local →
    bindL kindOf (P.zip vs) m x = some v
  | [], _, _, _, _, h, _, _ => by simp at h
  | _ :: _, [], _, _, _, _, h, _ => by simp at h
  | p :: P, w :: vs, 0, m, nd, h1, h2, hk => by
    simp at h1 h2; subst h1; subst h2
    show bindL kindOf ((p, w) :: P.zip vs) m p = _
    unfold bindL
    rw [bindL_out fun v hv => (List.nodup_cons.mp nd).1 (List.of_mem_zip hv).1, if_pos hk]
    simp
  | p :: P, w :: vs, i + 1, m, nd, h1, h2, hk => by
    show bindL kindOf ((p, w) :: P.zip vs) m x = _
    unfold bindL
    exact bindL_get (i := i) (List.nodup_cons.mp nd).2 (by simpa using h1) (by simpa using h2) hk
theorem bindC_get {kindOf : Str → Option NameKind} {x : Str} {v : Value} : ∀ {P : List Str} {vs : List Value} {i : Nat} {m : Str → Option Value}, P.Nodup → P[i]? = some x → vs[i]? = some v → kindOf x ≠ some .local →
    bindC kindOf (P.zip vs) m x = some v
  | [], _, _, _, _, h, _, _ => by simp at h
  | _ :: _, [], _, _, _, _, h, _ => by simp at h
  | p :: P, w :: vs, 0, m, nd, h1, h2, hk => by
    simp at h1 h2; subst h1; subst h2
    show bindC kindOf ((p, w) :: P.zip vs) m p = _
    unfold bindC
    rw [bindC_out fun v hv => (List.nodup_cons.mp nd).1 (List.of_mem_zip hv).1, if_neg hk]
    simp
  | p :: P, w :: vs, i + 1, m, nd, h1, h2, hk => by
    show bindC kindOf ((p, w) :: P.zip vs) m x = _
    unfold bindC
    exact bindC_get (i := i) (List.nodup_cons.mp nd).2 (by simpa using h1) (by simpa using h2) hk

/-- the names' values at the entry -/
def start (N : List Str) (vs : List V) : St := vs.map some ++ List.replicate (N.length - vs.length) none

/-- the context of a def's body, at its entry; an exception leaves the frame, then lies as CX says -/
def cxOf (CX : CXT) (P : Program) (w : World) (K : PySem.W.Frag) (mg : Str → Option Value) (base : Heap) (N : List Str) (qual : Str) (scope : Scope) (f : Addr) (cd : Value) (A : Around) (outer : List Env) (s : Shared) (H : Hp) (E : XK) : Cx where
  prog := P
  w := w
  K := K
  mg := mg
  base := base
  A := A.deeper (envOfC qual scope s.heap.objs.size f cd)
  N := N
  s_0 := s
  H_0 := H
  env := envOfC qual scope s.heap.objs.size f cd
  outer := outer
  stack := envOfC qual scope s.heap.objs.size f cd :: outer
  ex := []
  calm := true
  fn := fun _ => true
  pn := []
  xe := fun e s' => wpAny (model P w) (A.deeper (envOfC qual scope s.heap.objs.size f cd)) (leaving (envOfC qual scope s.heap.objs.size f cd) e) (fun _ s'' => CX outer H s E e s'') (fun e' s'' => CX outer H s E e' s'') s'

theorem cell_has {sc : Scope} {n : Nat} {x : Str} (h : sc.names.lookup x = some .cell) : ∃ c, (cellsFrom n sc.names []).lookup x = some c := by
  have q := PySem.W.cellsFrom_some sc.names n [] (.inl h)
  exact Option.isSome_iff_exists.mp q

theorem inv_start {CX : CXT} {P : Program} {w : World} {K : PySem.W.Frag} {mg : Str → Option Value} {base : Heap} {N ps : List Str} {qual : Str} {scope : Scope} {f : Addr} {cd : Value} {A : Around} {outer : List Env} {s s1 : Shared} {H : Hp} {E : XK} {us : List Value} {vs : List V}
    (S : FnScope N ps scope) (hd : A.handled = none) (e0 : Env0 P w K mg base A outer s H) (hl : vs.length = ps.length) (r : Vals vs us)
    (x : InCallC s s.heap.objs.size (bindL (envOfC qual scope s.heap.objs.size f cd).kindOf (ps.zip us) fun _ => none) (cellsFrom (s.heap.objs.size + 1) scope.names []) (bindC (envOfC qual scope s.heap.objs.size f cd).kindOf (ps.zip us) fun _ => none) s1) :
    Inv (cxOf CX P w K mg base N qual scope f cd A outer s H E) [] (start N vs) H s1 := by
  have hpl : ps.length ≤ N.length := by have := congrArg List.length S.pre; rw [List.length_take] at this; omega
  obtain ⟨h1, tk, rfl, hk⟩ := x.done
  have noA : ∀ b : Addr, b ∉ (cxOf CX P w K mg base N qual scope f cd A outer s H E).ex := fun b z => absurd (show b ∈ ([] : List Addr) from z) (by simp)
  refine ⟨⟨e0.mod, S.kind, rfl, rfl, Nat.le_refl _, fun y z c h1 h2 => ?_, fun y hy => ?_, fun y c _ h => ?_, fun _ => hd, Around.frames_deeper e0.frames, .inr ⟨rfl, rfl⟩, fun b z => absurd z (noA b), e0.bs, e0.bsz, fun b _ _ => noA b, fun b z => absurd z (noA b), e0.funs, e0.frf⟩,
    rfl, e0.bare, Un.kept hk, ⟨_, x.toInCall.ns, fun i y v h1 h2 h3 => ?_⟩, fun y c h => ⟨_, x.cell y c h⟩, e0.hok.fresh (Nat.le_refl _), fun y c h => ?_, fun p hp => absurd (show p ∈ ([] : List (Addr × Obj)) from hp) (by simp), e0.hok.kept hk, ?_⟩
  · exact name_of_addr x.apart (PySem.mem_of_lookup h1) (PySem.mem_of_lookup h2)
  · have hy : scope.names.lookup y = some .cell ∨ scope.names.lookup y = some .free := hy
    rcases hy with hy | hy
    · exact cell_has hy
    · exact absurd rfl (S.nofree _ (PySem.mem_of_lookup hy))
  · exact Nat.le_of_lt (x.above y c (PySem.mem_of_lookup h))
  · have hi : i < vs.length := by
      unfold start at h2
      by_cases hi : i < vs.length
      · exact hi
      · rw [List.getElem?_append_right (by simpa using hi)] at h2
        rw [List.getElem?_replicate] at h2
        split at h2 <;> cases h2
    have ha : vs[i]? = some v := by
      unfold start at h2
      rw [List.getElem?_append_left (by simpa using hi), List.getElem?_map] at h2
      cases e : vs[i]? with
      | none => rw [e] at h2; cases h2
      | some a => rw [e] at h2; cases h2; rfl
    obtain ⟨u, hu, rv⟩ := r.get ha
    have hp : ps[i]? = some y := by
      rw [← S.pre, List.getElem?_take_of_lt (by omega)]; exact h1
    have ndP : ps.Nodup := by rw [← S.pre]; exact S.nd.sublist (List.take_sublist _ _)
    refine ⟨u, rv, ?_⟩
    rcases S.par y (List.mem_of_getElem? hp) with k | k
    · exact .inl ⟨k, bindL_get ndP hp hu k⟩
    · obtain ⟨c, e⟩ := cell_has (n := s.heap.objs.size + 1) k
      refine .inr ⟨.inl k, c, e, ?_⟩
      have q := x.cell y c e
      rw [bindC_get ndP hp hu (by show scope.names.lookup y ≠ _; rw [k]; decide)] at q
      exact q
  · exact e0.hok.fresh (Nat.le_of_lt (x.above y c (PySem.mem_of_lookup h)))
  · unfold start
    show _ = N.length
    rw [List.length_append, List.length_map, List.length_replicate]
    omega

/-- THE RULE: a def (or a method) of the text, by its body. The body's reading t is chosen for each entry; it is run at the parameters' values -/
theorem fn_of {CX : CXT} {P : Program} {w : World} {K : PySem.W.Frag} {mg : Str → Option Value} {base : Heap} {k : Nat} {f : Addr} {name qual : Str} {params : Arguments} {body : List Stmt} {scope : Scope} {dV kV doc pm cdv ct oc : Value} {an od : Option Addr}
    {osl : Array (Option Value)} {N ps : List Str} {sp : Sp} (lk : K.lookup f = some ⟨oc, od, .func (PySem.W.fnOf name qual params body scope dV kV doc pm an cdv ct), osl⟩) (hcd : PySem.W.codeIn K cdv qual = true) (S : FnScope N ps scope)
    (len : ∀ vs H Q E, sp vs H Q E → vs.length = ps.length)
    (hbody : ∀ (A : Around) (outer : List Env) (s : Shared) (H : Hp) (vs : List V) (Q : VK) (E : XK), Room k (A.deeper (envOfC qual scope s.heap.objs.size f cdv)) → sp vs H Q E →
      ∃ t, PSs (cxOf CX P w K mg base N qual scope f cdv A outer s H E) body t ∧ t { nx := fun _ H' => Q .non H', rt := Q } (start N vs) H) :
    FnOk P w K mg base CX (k + 1) f (PySem.W.fnOf name qual params body scope dV kV doc pm an cdv ct) ps sp := by
  refine ⟨len, fun A outer s H args us vs Q E hr e0 hb r hsp => ?_⟩
  have hl := len _ _ _ _ hsp
  have KX : K.In s.heap := e0.mod.kin.keeps fun b o e => (e0.bs b o e).1
  have lim : s.heap.NoLimit := e0.mod.nolimit.keeps fun b o e => (e0.bs b o e).1
  have hkind : ∀ y ∈ ps.zip us, scope.names.lookup y.1 = some .local ∨ (scope.names.lookup y.1 = some .cell ∧ ((cellsFrom (s.heap.objs.size + 1) scope.names []).lookup y.1).isSome = true) := fun ⟨n, v⟩ hy => by
    rcases S.par n (List.of_mem_zip hy).1 with q | q
    · exact .inl q
    · exact .inr ⟨q, PySem.W.cellsFrom_some _ _ _ (.inl q)⟩
  refine codeAny_call_function hr.depth (KX _ _ lk) rfl S.co S.gen rfl (PySem.W.codeRec_of KX hcd) (hb _ _ _ _ ?_)
  refine wpAny_newFunctionEnv_cells S.kind hkind fun env he s1 x => ?_
  subst he
  refine ⟨lim.keeps x.toInCall.keep, codeAny_func ?_⟩
  obtain ⟨t, ht, hq⟩ := hbody A outer s H vs Q E (hr.deeper _) hsp
  have I : Inv (cxOf CX P w K mg base N qual scope f cdv A outer s H E) [] (start N vs) H s1 := inv_start S hr.hd e0 hl r x
  refine wpAny_mono (ht [] s1 (start N vs) H _ I hq) (fun fl s' hs => ?_) fun e s' hs => hs
  have fin : ∀ {σ' : St} {H' : Hp} {v : V} {u : Value}, Inv (cxOf CX P w K mg base N qual scope f cdv A outer s H E) [] σ' H' s' → RelV v u → Q v H' → CE outer P w H s Q u s' :=
    fun {σ' H' v u} J rv q => ⟨v, H', J.os, J.bare, J.base, J.hok, rv, q⟩
  cases fl with
  | ret u =>
    obtain ⟨v, σ', H', J, rv, q⟩ := hs
    exact fin J rv q
  | next =>
    obtain ⟨σ', H', J, q⟩ := hs
    exact fin (v := V.non) (u := Value.none) J rfl q
  | brk =>
    obtain ⟨_, _, _, q⟩ := hs
    exact False.elim q
  | cont =>
    obtain ⟨_, _, _, q⟩ := hs
    exact False.elim q
end L2

namespace L2
open PySem PySem.Spec PyProof.Rows
section
variable {X : Cx} {x : Str} {p pos : Pos} {e : Expr} {es : List Expr} {t : TA} {id T : String} {r : List V → Hp → VK → Prop}

def tCB (r : List V → Hp → VK → Prop) (t : TA) : TE := fun σ H Q => t σ H fun vs H1 => r vs H1 Q
/-- f(e, ..), f a built-in function -/
theorem pe_callB (hc : CallR X (.builtin id) r) (hg : Gl X x) (hm : X.mg x = none) (hv : bootBuiltins x = some (.builtin id)) (ha : PA X (e :: es) t) (hn : x ≠ "__name__" := by decide) (hdb : (x == ("__debug__" : Str)) = false := by decide)
    (he : starEach (e :: es) X.env = (false, eval e X.env) :: starEach es X.env := by rfl) (hpl : (backTo pos (starEach es X.env)).any (·.1) = false := by rfl) : PE X (.Call (.Name x p) (e :: es) [] pos) (tCB r t) := by
  intro pins s σ H Q I h
  refine wpAny_Call_Name_kw (ld_blt I hg hm hv ?_ hn hdb)
  exact PyProof.Rows.callWith_builtin1 (thn (ha pos pins s σ H _ I h) fun us s1 ⟨vs, H1, I1, r1, q1⟩ => hc pins s1 σ H1 vs us Q I1 r1 q1) he hpl
end
end L2

namespace HT
open PySem PyProof.Rows

section
open PySem.SeqAt
open PySem.AutoSeq1 (wpAny_loadPart')
open PySem.MeetsSeq PySem.MeetsSeq2 PySem.MeetsSeq3

end

section
variable {prog : Program} {w : World} {A : Around} {E : Value → Shared → Prop} {s : Shared}

end
end HT

namespace L2
open PySem PySem.Spec PyProof.Rows

abbrev TO := St → Hp → (Option Int → Hp → Prop) → Prop
section
variable {X : Cx} {e : Expr} {te : TE} {lo hi : Option Expr} {tl th : TO} {pos p2 : Pos}

/-- what a slice of a value is, by values: the slice object stands at sl -/
def SlR (X : Cx) (r : V → Option Int → Option Int → Hp → VK → Prop) : Prop :=
  ∀ (pins : List (Addr × Obj)) (s : Shared) (σ : St) (H : Hp) (x : V) (v vl vu : Value) (lo hi : Option Int) (sl : Addr) (Q : VK), Inv X pins σ H s → RelV x v → s.heap.IsSliceOf sl vl vu .none → IsPart vl lo → IsPart vu hi → r x lo hi H Q →
    ∃ T id, typeLookup (.type T) "__getitem__" = pure (some (.builtin id)) ∧ s.TypeIs v T ∧ wpAny (model X.prog X.w) X.A (getItem v (.ref sl)) (EP X pins σ Q) X.xe s
theorem SlR.or {r r' : V → Option Int → Option Int → Hp → VK → Prop} (h : SlR X r) (h' : SlR X r') : SlR X (fun x lo hi H Q => r x lo hi H Q ∨ r' x lo hi H Q) := by
  intro pins s σ H x v vl vu lo hi sl Q I rx hs pl pu q
  rcases q with q | q
  · exact h pins s σ H x v vl vu lo hi sl Q I rx hs pl pu q
  · exact h' pins s σ H x v vl vu lo hi sl Q I rx hs pl pu q
end
end L2

namespace L2
open PySem PySem.Spec PyProof.Rows

/-- the place that an index of any sign means -/
def ixN (n : Nat) (i : Int) : Option Nat := if 0 ≤ i then (if i < n then some i.toNat else none) else if -(n : Int) ≤ i then some (i + n).toNat else none
def atI {α : Type} (xs : List α) (i : Int) : Option α := (ixN xs.length i).bind fun j => xs[j]?
theorem ixN_seq {n : Nat} {i : Int} {j : Nat} (h : ixN n i = some j) : seqIndex? i n = some j ∧ j < n ∧ -(n : Int) ≤ i ∧ i < n := by
  unfold ixN at h
  by_cases h0 : 0 ≤ i
  · rw [if_pos h0] at h
    by_cases h1 : i < n
    · rw [if_pos h1] at h
      have e : i.toNat = j := Option.some.inj h
      exact ⟨by rw [seqIndex_of h0 h1, e], by omega, by omega, h1⟩
    · rw [if_neg h1] at h; cases h
  · rw [if_neg h0] at h
    by_cases h1 : -(n : Int) ≤ i
    · rw [if_pos h1] at h
      have e : (i + n).toNat = j := Option.some.inj h
      exact ⟨by rw [seqIndex_neg (by omega) h1, e], by omega, h1, by omega⟩
    · rw [if_neg h1] at h; cases h
theorem atI_get {α : Type} {xs : List α} {i : Int} {v : α} (h : atI xs i = some v) : ∃ j, seqIndex? i xs.length = some j ∧ xs[j]? = some v ∧ j < xs.length ∧ -(xs.length : Int) ≤ i ∧ i < xs.length := by
  unfold atI at h
  cases e : ixN xs.length i with
  | none => rw [e] at h; cases h
  | some j =>
    rw [e] at h
    obtain ⟨h1, h2, h3, h4⟩ := ixN_seq e
    exact ⟨j, h1, h, h2, h3, h4⟩
theorem atI_nat {α : Type} {xs : List α} {j : Nat} {v : α} (h : xs[j]? = some v) : atI xs (j : Int) = some v := by
  have hj : j < xs.length := (List.getElem?_eq_some_iff.mp h).1
  have e : ixN xs.length (j : Int) = some j := by
    unfold ixN
    rw [if_pos (by omega), if_pos (by omega)]; simp
  unfold atI; rw [e]; exact h
/-- what stands as an index of a plain subscript -/
def PlainIx (b : Expr) : Prop := ∀ o i, subscripted b false o i = operate [o, i] (getItem o i)
/-- a subscript by values -/
def IxR (X : Cx) (r : R2) : Prop :=
  ∀ (value slice : Expr) (pins : List (Addr × Obj)) (s : Shared) (σ : St) (H : Hp) (x y : V) (v u : Value) (Q : VK), Inv X pins σ H s → RelV x v → RelV y u → r x y H Q →
    subscripted slice false v u = operate [v, u] (getItem v u) → wpAny (model X.prog X.w) X.A (subscriptTail value slice v u) (EP X pins σ Q) X.xe s
/-- a call of a builtin's method by values: the receiver, the arguments -/
def MtR (X : Cx) (id : String) (r : V → List V → Hp → VK → Prop) : Prop :=
  ∀ (pins : List (Addr × Obj)) (s : Shared) (σ : St) (H : Hp) (x : V) (xs : List V) (v : Value) (us : List Value) (Q : VK), Inv X pins σ H s → RelV x v → Vals xs us → r x xs H Q →
    wpAny (model X.prog X.w) X.A (call (.builtin id) (v :: us)) (EP X pins σ Q) X.xe s
section
variable {X : Cx} {a b : Expr} {ta tb : TE} {pos : Pos}
theorem IxR.or {r r' : R2} (h : IxR X r) (h' : IxR X r') : IxR X (fun x y H Q => r x y H Q ∨ r' x y H Q) := by
  intro value slice pins s σ H x y v u Q I rx ry q hs
  rcases q with q | q
  · exact h value slice pins s σ H x y v u Q I rx ry q hs
  · exact h' value slice pins s σ H x y v u Q I rx ry q hs
theorem MtR.or {id : String} {r r' : V → List V → Hp → VK → Prop} (h : MtR X id r) (h' : MtR X id r') : MtR X id (fun x xs H Q => r x xs H Q ∨ r' x xs H Q) := by
  intro pins s σ H x xs v us Q I rx rs q
  rcases q with q | q
  · exact h pins s σ H x xs v us Q I rx rs q
  · exact h' pins s σ H x xs v us Q I rx rs q
/-- a[b] -/
theorem pe_ix {r : R2} (hr : IxR X r) (ha : PE X a ta) (hb : PE X b tb) (hs : PlainIx b) : PE X (.Subscript a b pos) (tOp r ta tb) := by
  intro pins s σ H Q I h
  exact Subscript_ (binT ha hb I h fun v u s2 x y H2 I2 rx ry q => hr a b pins s2 σ H2 x y v u Q I2 rx ry q (hs _ _))

def rIxT (K : PySem.W.Frag) : R2 := fun x y H Q => ∃ p xs i v, x = .ref p ∧ y = .int i ∧ SqT K H p xs ∧ atI xs i = some v ∧ Q v H
theorem ix_tup : IxR X (rIxT X.K) := by
  intro value slice pins s σ H x y v u Q I rx ry h hs
  obtain ⟨p, xs, i, z, rfl, rfl, hq, he, q⟩ := h
  cases rx
  obtain ⟨t, rfl⟩ := ry
  obtain ⟨its, r, pl, hz⟩ := I.tuple hq
  obtain ⟨j, h1, h2, h3, h4, h5⟩ := atI_get he
  obtain ⟨w, ew, rw'⟩ := r.get h2
  have hl := r.length
  have hn := line63
  have fin : EP X pins σ Q w s := ⟨z, H, I, rw', q⟩
  exact subscriptTail_builtinR (x := w) pl.typeIs slot_tuple_getitem.lookup
    (getItem_tuple (j := j) (Q := fun r s' => r = w ∧ EP X pins σ Q r s') pl (by omega) (by omega) (by rw [List.size_toArray, ← hl]; exact h1) (by simpa using ew) ⟨rfl, fin⟩) hs
theorem Inv.lst {pins : List (Addr × Obj)} {σ : St} {H : Hp} {s : Shared} {p : Addr} {xs : List V} (I : Inv X pins σ H s) (h : H p = some (.lst xs)) :
    ∃ (its : List Value) (n : Nat), Vals xs its ∧ s.heap.get? p = some { cls := .type "list", data := .seq its.toArray n } ∧ xs.length ≤ sizeLine := by
  obtain ⟨z, its, n, r, e⟩ := I.hok p _ h
  exact ⟨its, n, r, e, z⟩
def flatV : V → Bool
  | .non => true
  | .bl _ => true
  | .int _ => true
  | .str _ => true
  | _ => false
/-- == of flat values -/
def eqV : V → V → Bool
  | .non, .non => true
  | .bl a, .bl b => a == b
  | .bl a, .int b => (if a then 1 else 0) == b
  | .int a, .bl b => a == (if b then 1 else 0)
  | .int a, .int b => a == b
  | .str a, .str b => a == b
  | _, _ => false
theorem eqAt_V {A : Around} {s : Shared} {y x : V} {u v : Value} (ry : RelV y u) (rx : RelV x v) (fy : flatV y = true) (fx : flatV x = true) : SeqAt.EqAt A s u v (eqV y x) := by
  cases y with
  | non =>
    cases ry
    cases x with
    | non => cases rx; exact SeqAt.EqAt.same _
    | bl b => cases rx; exact SeqAt.EqAt.none_bool b
    | int b => obtain ⟨t, rfl⟩ := rx; exact SeqAt.EqAt.none_int b t
    | str b => obtain ⟨t, rfl⟩ := rx; exact SeqAt.EqAt.none_str b t
    | _ => exact absurd (show false = true from fx) Bool.false_ne_true
  | bl a =>
    cases ry
    cases x with
    | non => cases rx; exact SeqAt.EqAt.bool_none a
    | bl b => cases rx; exact SeqAt.EqAt.bool_bool a b
    | int b => obtain ⟨t, rfl⟩ := rx; exact SeqAt.EqAt.bool_int a b t
    | str b => obtain ⟨t, rfl⟩ := rx; exact SeqAt.EqAt.bool_str a b t
    | _ => exact absurd (show false = true from fx) Bool.false_ne_true
  | int a =>
    obtain ⟨t', rfl⟩ := ry
    cases x with
    | non => cases rx; exact SeqAt.EqAt.int_none a t'
    | bl b => cases rx; exact SeqAt.EqAt.int_bool a t' b
    | int b => obtain ⟨t, rfl⟩ := rx; exact SeqAt.EqAt.int_int a t' b t
    | str b => obtain ⟨t, rfl⟩ := rx; exact SeqAt.EqAt.int_str a t' b t
    | _ => exact absurd (show false = true from fx) Bool.false_ne_true
  | str a =>
    obtain ⟨t', rfl⟩ := ry
    cases x with
    | non => cases rx; exact SeqAt.EqAt.str_none a t'
    | bl b => cases rx; exact SeqAt.EqAt.str_bool a t' b
    | int b => obtain ⟨t, rfl⟩ := rx; exact SeqAt.EqAt.str_int a t' b t
    | str b => obtain ⟨t, rfl⟩ := rx; exact SeqAt.EqAt.str_str a t' b t
    | _ => exact absurd (show false = true from fx) Bool.false_ne_true
  | _ => exact absurd (show false = true from fy) Bool.false_ne_true
/-- the items' answers, read off the values (a value's own answer does not lean on its token) -/
def eqU (x : V) (u : Value) : Bool := match u with
  | .none => eqV .non x
  | .bool b => eqV (.bl b) x
  | .int i _ => eqV (.int i) x
  | .str z _ => eqV (.str z) x
  | _ => false
theorem eqU_of {x y : V} {u : Value} (r : RelV y u) (f : flatV y = true) : eqU x u = eqV y x := by
  cases y with
  | non => cases r; rfl
  | bl b => cases r; rfl
  | int i => obtain ⟨t, rfl⟩ := r; rfl
  | str z => obtain ⟨t, rfl⟩ := r; rfl
  | _ => exact absurd (show false = true from f) Bool.false_ne_true
theorem any_eqU {x : V} : ∀ {xs : List V} {us : List Value}, Vals xs us → xs.all flatV = true → us.any (eqU x) = xs.any fun y => eqV y x
  | _, _, .nil, _ => rfl
  | y :: xs, u :: us, .cons r t, f => by
    rw [List.all_cons, Bool.and_eq_true] at f
    rw [List.any_cons, List.any_cons, eqU_of r f.1, any_eqU t f.2]
theorem mem_eqAt {A : Around} {s : Shared} {x : V} {v : Value} (rx : RelV x v) (fx : flatV x = true) : ∀ {xs : List V} {us : List Value}, Vals xs us → xs.all flatV = true → ∀ u ∈ us, SeqAt.EqAt A s u v (eqU x u)
  | _, _, .nil, _ => fun u hu => by cases hu
  | y :: xs, u :: us, .cons r t, f => fun u' hu => by
    rw [List.all_cons, Bool.and_eq_true] at f
    rcases List.mem_cons.mp hu with rfl | hu
    · rw [eqU_of r f.1]; exact eqAt_V r rx f.1 fx
    · exact mem_eqAt rx fx t f.2 u' hu
def inV (x : V) (xs : List V) : Bool := xs.any fun y => eqV y x
/-- x in a list or tuple of flat items -/
def rIn (K : PySem.W.Frag) (neg : Bool) : R2 := fun x y H Q => ∃ p xs, y = .ref p ∧ (SqL K H p xs ∨ SqT K H p xs) ∧ flatV x = true ∧ xs.all flatV = true ∧ Q (.bl (if neg then !inV x xs else inV x xs)) H
theorem op_notIn_seq : OpR X (compareOp .NotIn) (rIn X.K true) := by
  intro pins s σ H x y v u Q I rx ry h
  obtain ⟨p, xs, rfl, hq, fx, fs, q⟩ := h
  cases ry
  rcases hq with hq | hq
  · obtain ⟨its, r, pl, hz⟩ := I.list hq
    refine SeqAt.notIn_listAt (eqU x) pl.isList (fun w hw => mem_eqAt rx fx r fs w (by simpa using hw)) ⟨.bl _, H, I, rfl, ?_⟩
    rw [show its.toArray.any (eqU x) = its.any (eqU x) by simp, any_eqU r fs]
    exact q
  · obtain ⟨its, r, pl, hz⟩ := I.tuple hq
    refine SeqAt.notIn_tupleAt (eqU x) pl (fun w hw => mem_eqAt rx fx r fs w (by simpa using hw)) ⟨.bl _, H, I, rfl, ?_⟩
    rw [show its.toArray.any (eqU x) = its.any (eqU x) by simp, any_eqU r fs]
    exact q
theorem call_len_seq : CallR X (.builtin "len") (fun xs H Q => ∃ p ys, xs = [.ref p] ∧ (SqL X.K H p ys ∨ SqT X.K H p ys) ∧ Q (.int ys.length) H) := by
  intro pins s σ H xs us Q I r h
  obtain ⟨p, ys, rfl, hq, q⟩ := h
  obtain ⟨u, rfl, rx⟩ := vals1 r
  cases rx
  have hn := line63
  rcases hq with hq | hq
  · obtain ⟨its, r', pl, hz⟩ := I.list hq
    have hlen := r'.length
    exact Calls.call_len_list pl.isList (by simp only [List.size_toArray] <;> omega) ⟨.int ys.length, H, I.tok _, ⟨s.toks + 1, by rw [List.size_toArray, hlen]⟩, q⟩
  · obtain ⟨its, r', pl, hz⟩ := I.tuple hq
    have hlen := r'.length
    exact len_tuple pl (by simp only [List.size_toArray] <;> omega) ⟨.int ys.length, H, I.tok _, ⟨s.toks + 1, by rw [List.size_toArray, hlen]⟩, q⟩
theorem CallR.or {f : Value} {r r' : List V → Hp → VK → Prop} (h : CallR X f r) (h' : CallR X f r') : CallR X f (fun xs H Q => r xs H Q ∨ r' xs H Q) := by
  intro pins s σ H xs us Q I rs q
  rcases q with q | q
  · exact h pins s σ H xs us Q I rs q
  · exact h' pins s σ H xs us Q I rs q
/-- the value is of that builtin type -/
def tyV (K : PySem.W.Frag) (T : String) (x : V) (H : Hp) : Prop := match x with
  | .str _ => T = "str"
  | .int _ => T = "int"
  | .ref p => (T = "list" ∧ ∃ xs, SqL K H p xs) ∨ (T = "tuple" ∧ ∃ o, K.lookup p = some o ∧ o.cls = .type "tuple" ∧ o.dict = none) ∨
      (T = "dict" ∧ ((∃ kvs, H p = some (.dK kvs)) ∨ ∃ kvs, H p = some (.dT kvs))) ∨ (T = "set" ∧ ∃ S n, H p = some (.set S n))
  | _ => False
theorem tyV_is {pins : List (Addr × Obj)} {σ : St} {H : Hp} {s : Shared} {T : String} {x : V} {v : Value} (I : Inv X pins σ H s) (r : RelV x v) (ty : tyV X.K T x H) :
    s.TypeIs v T ∧ ∀ a, v = .ref a → ∃ ob, s.heap.get? a = some ob ∧ ob.dict = none := by
  cases x with
  | str z =>
    obtain ⟨t, rfl⟩ := r
    cases (show T = "str" from ty)
    exact ⟨typeIs_str s z t, fun _ e => nomatch e⟩
  | int i =>
    obtain ⟨t, rfl⟩ := r
    cases (show T = "int" from ty)
    exact ⟨typeIs_int s i t, fun _ e => nomatch e⟩
  | ref p =>
    cases r
    rcases ty with ⟨rfl, xs, hq⟩ | ⟨rfl, o, hk, hc, hd⟩ | ⟨rfl, hk⟩ | ⟨rfl, S, n, hk⟩
    · obtain ⟨its, _, pl, _⟩ := I.list hq
      refine ⟨pl.isList.typeIs, fun a e => ?_⟩
      cases e
      obtain ⟨o, n, e, c, hd, _⟩ := pl
      exact ⟨o, e, hd⟩
    · refine ⟨⟨o, I.kIn p o hk, hc⟩, fun a e => ?_⟩
      cases e
      exact ⟨o, I.kIn _ o hk, hd⟩
    · have z : ∃ o, s.heap.get? p = some o ∧ o.ExactDict := by
        rcases hk with ⟨kvs, hk⟩ | ⟨kvs, hk⟩
        · obtain ⟨_, _, _, _, o, _, _, e, ex, _⟩ := I.hok p _ hk
          exact ⟨o, e, ex⟩
        · obtain ⟨_, _, _, _, o, _, _, e, ex, _⟩ := I.hok p _ hk
          exact ⟨o, e, ex⟩
      obtain ⟨o, e, ex⟩ := z
      refine ⟨⟨o, e, ex.1⟩, fun a e2 => ?_⟩
      cases e2
      exact ⟨o, e, ex.2.1⟩
    · obtain ⟨o, _, _, _, e, ex, _⟩ := I.hok p _ hk
      refine ⟨⟨o, e, ex.1⟩, fun a e2 => ?_⟩
      cases e2
      exact ⟨o, e, ex.2.1⟩
  | _ => exact False.elim ty
def tBM (K : PySem.W.Frag) (T : String) (r : V → List V → Hp → VK → Prop) (to : TE) (t : TA) : TE := fun σ H Q => to σ H fun x H1 => tyV K T x H1 ∧ t σ H1 fun xs H2 => r x xs H2 Q
variable {o e : Expr} {es : List Expr} {to : TE} {t : TA} {name : Str} {apos cpos : Pos} {T id : String} {r : V → List V → Hp → VK → Prop}
theorem pe_bm (pa : PlainAttrs T) (slot : Slot T name id) (hty : typeOf (.builtin id) = pure (.type "method_descriptor")) (hm : MtR X id r) (ho : PE X o to) (ha : PA X (e :: es) t)
    (hbase : attributeBase o name X.env (eval o X.env) = eval o X.env := by rfl)
    (hfew : ((backTo cpos (starEach (e :: es) X.env)).all (fun x => !x.1) && (backToKw cpos (keywordEach [] X.env)).all (fun x => x.1.isSome)
      && decide ((e :: es).length + ([] : List Keyword).length + (if ([] : List Keyword).isEmpty then 0 else 1) < 30)) = true := by rfl)
    (hline : (apos.endLine == cpos.line) = true := by rfl) (hs : starEach (e :: es) X.env = (false, eval e X.env) :: starEach es X.env := by rfl) (hplain : (backTo cpos (starEach es X.env)).any (·.1) = false := by rfl) :
    PE X (.Call (.Attribute o name apos) (e :: es) [] cpos) (tBM X.K T r to t) := by
  intro pins s σ H Q I h
  refine wpAny_Call_method_late hbase hfew hline rfl (thn (ho pins s σ H _ I h) fun v s1 ⟨x, H1, I1, r1, ty, q1⟩ => ?_)
  obtain ⟨h1, h2⟩ := tyV_is I1 r1 ty
  refine ⟨T, id, pa, slot, hty, h1, h2, ?_⟩
  have hA := ha cpos pins s1 σ H1 _ I1 q1
  rw [hs] at hA ⊢
  refine Calls.callWith_builtin (by show (false || (backTo cpos (starEach es X.env)).any (·.1)) = false; rw [hplain] <;> rfl) (Calls.evalArgs_plain ?_)
  exact thn hA fun us s2 ⟨vs, H2, I2, r2, q2⟩ => hm pins s2 σ H2 x vs v us Q I2 r1 r2 q2
/- xs.append(e), list.index on a module's tuple .. are MtR facts of 06m -/
end
end L2

namespace L2
open PySem PySem.Spec PyProof.Rows

def MtM (X : Cx) (id : String) (r : V → List V → Hp → VK → Prop) : Prop :=
  ∀ (pins : List (Addr × Obj)) (s : Shared) (σ : St) (H : Hp) (x : V) (xs : List V) (v : Value) (us : List Value) (Q : VK), Inv X pins σ H s → RelV x v → Vals xs us → r x xs H Q →
    wpAny (model X.prog X.w) X.A (call (.builtin id) (v :: us)) (EP X pins σ Q) X.xe s

theorem Vals.one : ∀ {x : V} {us : List Value}, Vals [x] us → ∃ u, us = [u] ∧ RelV x u
  | _, _, .cons r .nil => ⟨_, rfl, r⟩
theorem Vals.two : ∀ {x y : V} {us : List Value}, Vals [x, y] us → ∃ u v, us = [u, v] ∧ RelV x u ∧ RelV y v
  | _, _, _, .cons r (.cons q .nil) => ⟨_, _, rfl, r, q⟩
theorem Vals.zero : ∀ {us : List Value}, Vals [] us → us = []
  | _, .nil => rfl
theorem Vals.rep {xs : List V} {us : List Value} (h : Vals xs us) : ∀ k : Nat, Vals (List.replicate k xs).flatten (List.replicate k us).flatten
  | 0 => .nil
  | k + 1 => by
    rw [List.replicate_succ, List.replicate_succ, List.flatten_cons, List.flatten_cons]
    exact Vals.append h (Vals.rep h k)
section
variable {X : Cx} {pins : List (Addr × Obj)} {σ : St} {H : Hp} {s : Shared} {l b : Addr} {xs ys zs : List V}

theorem Inv.lset {its its' : List Value} {n : Nat} {f : Array Value → Array Value} {t' : Nat} (I : Inv X pins σ H s) (hH : H l = some (.lst xs))
    (e : s.heap.get? l = some { cls := .type "list", data := .seq its.toArray n }) (hf : f its.toArray = its'.toArray) (hv : Vals ys its') (hz : ys.length ≤ sizeLine) :
    Inv X pins σ (upd H l (.lst ys)) { s with heap := s.heap.update l (Obj.mapSeq f), toks := t' } := by
  have q := PySem.IsL.update e f
  rw [hf] at q
  refine I.write (x := l) (e := l) (by rw [hH]; exact trivial) (.inl rfl) (fun b' u hb hu => (Heap.get?_update_other s.heap (Obj.mapSeq f) (Ne.symm hb)).trans hu) ⟨_, q⟩ ?_
  exact ⟨hz, its', _, hv, q⟩
theorem Inv.lnew {its : List Value} {t' : Nat} (I : Inv X pins σ H s) (hv : Vals ys its) (hz : ys.length ≤ sizeLine) :
    Inv X pins σ (upd H s.heap.objs.size (.lst ys)) { s with heap := s.heap.push { cls := .type "list", data := .seq its.toArray }, toks := t' } :=
  I.laid (fun _ _ q => Heap.get?_push_of_some _ q) (Nat.le_refl _) ⟨hz, its, 0, hv, Heap.get?_push_size _ rfl⟩
theorem Inv.fresh (I : Inv X pins σ H s) : H s.heap.objs.size = none := I.hok.fresh (Nat.le_refl _)
theorem Inv.lstM (I : Inv X pins σ H s) (hH : H l = some (.lst xs)) : xs.length ≤ sizeLine ∧ ∃ (its : List Value) (n : Nat), Vals xs its ∧ xs.length = its.length ∧ s.heap.get? l = some { cls := .type "list", data := .seq its.toArray n } := by
  obtain ⟨z, its, n, r, e⟩ := I.hok l _ hH
  exact ⟨z, its, n, r, r.length, e⟩

end

section
variable {X : Cx}

def rAppend : V → List V → Hp → VK → Prop := fun x vs H Q => ∃ l xs y, x = .ref l ∧ vs = [y] ∧ H l = some (.lst xs) ∧ xs.length < sizeLine ∧ Q .non (upd H l (.lst (xs ++ [y])))
theorem mt_append : MtM X "list.append" rAppend := by
  intro pins s σ H x vs v us Q I rx rv h
  obtain ⟨l, xs, y, rfl, rfl, hH, hz, q⟩ := h
  cases rx
  obtain ⟨u, rfl, ru⟩ := rv.one
  obtain ⟨z, its, n, r, hl, e⟩ := I.lstM hH
  refine call_meets F.slot_list_append ⟨_, e, rfl⟩ F.entry_list_append (F.args_list_append_2 _ _) (PySem.list_append l its.toArray n u (by rw [List.size_toArray]; omega)) ⟨e, ?_⟩
  refine ⟨.non, _, I.lset (its' := its ++ [u]) hH e (by simp) (r.append (.cons ru .nil)) ?_, rfl, q⟩
  rw [List.length_append, List.length_singleton]
  omega

def rCat : R2 := fun x y H Q => ∃ l b xs zs, x = .ref l ∧ y = .ref b ∧ H l = some (.lst xs) ∧ H b = some (.lst zs) ∧ xs.length + zs.length ≤ sizeLine ∧ ∀ p, H p = none → Q (.ref p) (upd H p (.lst (xs ++ zs)))
theorem op_cat : OpR X (binaryOp .Add) rCat := by
  intro pins s σ H x y v u Q I rx ry h
  obtain ⟨l, b, xs, zs, rfl, rfl, hH, hB, hz, q⟩ := h
  cases rx
  cases ry
  obtain ⟨z, its, n, r, hl, e⟩ := I.lstM hH
  obtain ⟨z2, its2, n2, r2, hl2, e2⟩ := I.lstM hB
  refine PySem.P.add_list e e2 ?_ (by rw [List.size_toArray, List.size_toArray]; omega)
  have ea : its.toArray ++ its2.toArray = (its ++ its2).toArray := by simp
  rw [ea]
  exact ⟨.ref _, _, I.lnew (t' := s.toks) (r.append r2) (by rw [List.length_append]; omega), rfl, q _ I.fresh⟩
end

section
variable {prog : Program} {w : World} {A : Around} {E : Value → Shared → Prop} {s : Shared}
set_option maxRecDepth 100000 in
end

section
variable {X : Cx}
end
end L2

namespace L2
open PySem PySem.Spec PyProof.Rows

theorem Vals.ints : ∀ {ns : List Int} {us : List Value}, Vals (ns.map V.int) us → IntsAre us ns
  | [], us, h => by
    rw [List.map_nil] at h
    cases h
    exact IntsAre.nil
  | n :: ns, us, h => by
    rw [List.map_cons] at h
    cases h with
    | cons r t =>
      obtain ⟨k, rfl⟩ := r
      exact IntsAre.cons n k (Vals.ints t)
theorem Vals.strs : ∀ {xs : List Str} {us : List Value}, Vals (xs.map V.str) us → StrsAre us xs
  | [], us, h => by
    rw [List.map_nil] at h
    cases h
    exact StrsAre.nil
  | x :: xs, us, h => by
    rw [List.map_cons] at h
    cases h with
    | cons r t =>
      obtain ⟨k, rfl⟩ := r
      exact StrsAre.cons x k (Vals.strs t)
theorem Vals.ref1 {a : Addr} {us : List Value} (r : Vals [V.ref a] us) : us = [Value.ref a] := by
  cases r with
  | cons r t =>
    cases t
    cases r
    rfl
section
variable {prog : Program} {w : World} {A : Around} {E : Value → Shared → Prop} {s : Shared} {l : Addr} {its : List Value} {ns : List Int} {Q : Value → Shared → Prop}
theorem min_raw (hh : A.handled = none) (hl : s.heap.IsList l its.toArray) (hi : IntsAre its ns) (hne : 0 < ns.length)
    (h : ∀ h' tk M t', (∀ b o, s.heap.get? b = some o → h'.get? b = some o) → M ∈ ns → (∀ a, a ∈ ns → M ≤ a) → Q (.int M t') { s with heap := h', toks := tk }) : wpAny (model prog w) A (call (.builtin "min") [.ref l]) Q E s := by
  obtain ⟨xs, e⟩ := hi.allInts.items
  have hn : numsOf (intItems xs).toList = ns := by rw [← e]; exact hi.numsOf
  rw [nums_intItems] at hn
  subst hn
  rw [e] at hl
  have hsz : 0 < xs.size := by simpa using hne
  refine PySem.min_intList hh hl hsz fun v h' tk hv hk => ?_
  obtain ⟨t, rfl⟩ := intItems_at hv
  obtain ⟨h1, h2⟩ := argBest_lt (numAt xs) (xs.size - 1)
  refine h h' tk _ t hk ?_ fun a ha => ?_
  · rw [numAt_eq]; exact PySem.getD_mem (by rw [List.length_map, Array.length_toList]; omega)
  · obtain ⟨j, hj, rfl⟩ := mem_getD ha
    rw [List.length_map, Array.length_toList] at hj
    rw [← numAt_eq]; exact h2 j (by omega)
end

section
variable {X : Cx}
def rMin (K : PySem.W.Frag) : List V → Hp → VK → Prop := fun vs H Q => ∃ (a : Addr) (ns : List Int), vs = [V.ref a] ∧ SqL K H a (ns.map V.int) ∧ 0 < ns.length ∧ ∀ m, m ∈ ns → (∀ y, y ∈ ns → m ≤ y) → Q (.int m) H
theorem cr_min (hc : X.calm = true) : CallR X (.builtin "min") (rMin X.K) := by
  intro pins s σ H vs us Q I r h
  obtain ⟨a, ns, rfl, hs, hne, q⟩ := h
  obtain ⟨its, rv, hl, _⟩ := I.list hs
  rw [Vals.ref1 r]
  exact min_raw (I.ok.hd hc) hl.isList rv.ints hne fun h' tk m t' hk h1 h2 => ⟨.int _, H, I.kept hk, ⟨_, rfl⟩, q m h1 h2⟩

end

section
variable {X : Cx}
end

section
variable {X : Cx}
end

section
variable {X : Cx}
end

mutual
inductive Dp (K : PySem.W.Frag) (H : Hp) : V → PyData → Prop
  | non : Dp K H .non .none
  | bl (b : Bool) : Dp K H (.bl b) (.bool b)
  | int (i : Int) : Dp K H (.int i) (.int i)
  | str (x : Str) : Dp K H (.str x) (.str x)
  | lst {a : Addr} {xs : List V} {ds : List PyData} : SqL K H a xs → DpAll K H xs ds → Dp K H (.ref a) (.list ds)
  | tup {a : Addr} {xs : List V} {ds : List PyData} : SqT K H a xs → DpAll K H xs ds → Dp K H (.ref a) (.tuple ds)
inductive DpAll (K : PySem.W.Frag) (H : Hp) : List V → List PyData → Prop
  | nil : DpAll K H [] []
  | cons {v : V} {vs : List V} {d : PyData} {ds : List PyData} : Dp K H v d → DpAll K H vs ds → DpAll K H (v :: vs) (d :: ds)
end
section
variable {X : Cx} {pins : List (Addr × Obj)} {σ : St} {H : Hp} {s : Shared}
mutual
theorem Dp.reads (I : Inv X pins σ H s) : ∀ (d : PyData) (v : V) (u : Value), Dp X.K H v d → RelV v u → ∃ as, Reads s.heap u d as
  | .none, _, _, h, r => by
    cases h
    cases r
    exact ⟨_, Reads.none⟩
  | .bool b, _, _, h, r => by
    cases h
    cases r
    exact ⟨_, Reads.bool b⟩
  | .int i, _, _, h, r => by
    cases h
    obtain ⟨t, rfl⟩ := r
    exact ⟨_, Reads.int i t⟩
  | .str x, _, _, h, r => by
    cases h
    obtain ⟨t, rfl⟩ := r
    exact ⟨_, Reads.str x t⟩
  | .list ds, _, _, h, r => by
    cases h with
    | lst hs ha =>
      cases r
      obtain ⟨its, rv, ⟨o, n, ho, hc, _, hd⟩, _⟩ := I.list hs
      obtain ⟨as, hr⟩ := Dp.readsAll I ds _ its ha rv
      exact ⟨_, Reads.list ho hc hd hr⟩
  | .tuple ds, _, _, h, r => by
    cases h with
    | tup hs ha =>
      cases r
      obtain ⟨its, rv, ⟨o, ho, hc, n, hd⟩, _⟩ := I.tuple hs
      obtain ⟨as, hr⟩ := Dp.readsAll I ds _ its ha rv
      exact ⟨_, Reads.tuple ho hc hd hr⟩
  | .dict _, _, _, h, _ => by cases h
theorem Dp.readsAll (I : Inv X pins σ H s) : ∀ (ds : List PyData) (vs : List V) (us : List Value), DpAll X.K H vs ds → Vals vs us → ∃ as, ReadsAll s.heap us ds as
  | [], _, _, h, r => by
    cases h
    cases r
    exact ⟨_, ReadsAll.nil⟩
  | d :: ds, _, _, h, r => by
    cases h with
    | cons h1 h2 =>
      cases r with
      | cons r1 r2 =>
        obtain ⟨as, q1⟩ := Dp.reads I d _ _ h1 r1
        obtain ⟨bs, q2⟩ := Dp.readsAll I ds _ _ h2 r2
        exact ⟨_, ReadsAll.cons q1 q2⟩
end
end
section
variable {X : Cx}
end
end L2

namespace L2
open PySem PySem.Spec PyProof.Rows
abbrev CellAt (h : Heap) (c : Addr) (v : Option Value) : Prop := h.IsCell c v
def relS (scope sc : Scope) : Scope :=
  { scope with names := scope.names.map fun (n, k) => if (k == .free && sc.kind == .function && sc.names.lookup n == some .cell) then (n, .cell) else (n, k) }

def cloFrom (cells : List (Str × Addr)) : List (Str × NameKind) → List (Str × Addr) → List (Str × Addr)
  | [], acc => acc
  | (n, k) :: r, acc => if k == .free then cloFrom cells r ((n, (cells.lookup n).getD 0) :: acc) else cloFrom cells r acc

theorem closure_loop (env : Env) (f : Str × NameKind → List (Str × Addr) → Sem (ForInStep (List (Str × Addr))))
    (hf : ∀ n k c, f (n, k) c = if k == .free then (do let a ← cellOf env n; pure (.yield ((n, a) :: c))) else pure (.yield c)) :
    ∀ (names : List (Str × NameKind)) (acc : List (Str × Addr)), (∀ y ∈ names, y.2 = .free → ∃ c, env.cells.lookup y.1 = some c) → forIn names acc f = pure (cloFrom env.cells names acc)
  | [], acc, _ => by rw [List.forIn_nil]; rfl
  | (n, k) :: r, acc, h => by
    rw [List.forIn_cons, hf]
    have ih := fun acc => closure_loop env f hf r acc fun y hy => h y (List.mem_cons_of_mem _ hy)
    unfold cloFrom
    by_cases hk : (k == NameKind.free) = true
    · rw [if_pos hk, if_pos hk]
      obtain ⟨c, hc⟩ := h (n, k) List.mem_cons_self (by simpa using hk)
      have e : cellOf env n = pure c := by unfold cellOf; rw [hc]
      rw [e]
      have e2 : (env.cells.lookup n).getD 0 = c := by rw [hc]; rfl
      rw [e2]
      exact ih _
    · rw [if_neg hk, if_neg hk]
      exact ih _
theorem closure_ok {scope : Scope} {env : Env} (h : ∀ y ∈ scope.names, y.2 = .free → ∃ c, env.cells.lookup y.1 = some c) : closureFor scope env = pure (cloFrom env.cells scope.names []) := by
  simp only [closureFor]
  rw [closure_loop env _ (fun n k c => rfl) scope.names [] h]
  rfl

theorem mem_lookup {α : Type} : ∀ {l : List (Str × α)} {n : Str} {c : α}, (n, c) ∈ l → ∃ c', l.lookup n = some c'
  | (k, v) :: r, n, c, h => by
    rw [List.lookup_cons]
    cases hb : n == k with
    | true => exact ⟨_, rfl⟩
    | false =>
      rcases List.mem_cons.mp h with e | h
      · cases e; simp at hb
      · exact mem_lookup h

theorem cloFrom_mem {cells : List (Str × Addr)} : ∀ {names : List (Str × NameKind)} {acc : List (Str × Addr)} {n : Str} {c : Addr}, (n, c) ∈ cloFrom cells names acc → (n, c) ∈ acc ∨ ((n, .free) ∈ names ∧ c = (cells.lookup n).getD 0)
  | [], _, _, _, h => .inl h
  | (m, k) :: r, acc, n, c, h => by
    unfold cloFrom at h
    split at h
    · rename_i hk
      have hk : k = .free := by simpa using hk
      rcases cloFrom_mem h with h | ⟨h1, h2⟩
      · rcases List.mem_cons.mp h with e | h
        · cases e; exact .inr ⟨hk ▸ List.mem_cons_self, rfl⟩
        · exact .inl h
      · exact .inr ⟨List.mem_cons_of_mem _ h1, h2⟩
    · rcases cloFrom_mem h with h | ⟨h1, h2⟩
      · exact .inl h
      · exact .inr ⟨List.mem_cons_of_mem _ h1, h2⟩
theorem cloFrom_acc {cells : List (Str × Addr)} : ∀ {names : List (Str × NameKind)} {acc : List (Str × Addr)} {p : Str × Addr}, p ∈ acc → p ∈ cloFrom cells names acc
  | [], _, _, h => h
  | (m, k) :: r, acc, p, h => by
    unfold cloFrom
    split
    · exact cloFrom_acc (List.mem_cons_of_mem _ h)
    · exact cloFrom_acc h
theorem cloFrom_has {cells : List (Str × Addr)} : ∀ {names : List (Str × NameKind)} {acc : List (Str × Addr)} {n : Str}, (n, .free) ∈ names → (n, (cells.lookup n).getD 0) ∈ cloFrom cells names acc
  | (m, k) :: r, acc, n, h => by
    unfold cloFrom
    rcases List.mem_cons.mp h with e | h
    · cases e
      exact cloFrom_acc List.mem_cons_self
    · split
      · exact cloFrom_has h
      · exact cloFrom_has h

theorem cells_mem : ∀ {names : List (Str × NameKind)} {h : Heap} {acc : List (Str × Addr)} {x : Str} {c : Addr}, (x, c) ∈ cellsFrom h.objs.size names acc →
    (x, c) ∈ acc ∨ ((x, .cell) ∈ names ∧ h.objs.size ≤ c ∧ CellAt (pushCells h names) c none)
  | [], _, _, _, _, h => .inl h
  | (n, k) :: r, h, acc, x, c, hm => by
    unfold cellsFrom at hm
    unfold pushCells
    split at hm
    · rename_i hk
      rw [if_pos hk]
      have hk : k = .cell := by simpa using hk
      rw [← Heap.size_push h { cls := .type "cell", data := .cell none }] at hm
      rcases cells_mem hm with hm | ⟨h1, h2, h3⟩
      · rcases List.mem_cons.mp hm with e | hm
        · cases e
          exact .inr ⟨hk ▸ List.mem_cons_self, Nat.le_refl _, _, pushCells_keeps r _ _ _ (Heap.get?_push_size _ rfl), rfl⟩
        · exact .inl hm
      · rw [Heap.size_push] at h2
        exact .inr ⟨List.mem_cons_of_mem _ h1, Nat.le_of_succ_le h2, h3⟩
    · rename_i hk
      rw [if_neg hk]
      rcases cells_mem hm with hm | ⟨h1, h2, h3⟩
      · exact .inl hm
      · exact .inr ⟨List.mem_cons_of_mem _ h1, h2, h3⟩
theorem cells_acc : ∀ {names : List (Str × NameKind)} {n : Nat} {acc : List (Str × Addr)} {p : Str × Addr}, p ∈ acc → p ∈ cellsFrom n names acc
  | [], _, _, _, h => h
  | (m, k) :: r, n, acc, p, h => by
    unfold cellsFrom
    split
    · exact cells_acc (List.mem_cons_of_mem _ h)
    · exact cells_acc h
theorem cells_has : ∀ {names : List (Str × NameKind)} {n : Nat} {acc : List (Str × Addr)} {x : Str}, (x, .cell) ∈ names → ∃ c, (x, c) ∈ cellsFrom n names acc
  | (m, k) :: r, n, acc, x, h => by
    unfold cellsFrom
    rcases List.mem_cons.mp h with e | h
    · cases e
      exact ⟨n, cells_acc List.mem_cons_self⟩
    · split
      · exact cells_has h
      · exact cells_has h
theorem cells_inj : ∀ {names : List (Str × NameKind)} {h : Heap} {acc : List (Str × Addr)} {x y : Str} {c : Addr}, (∀ p ∈ acc, p.2 < h.objs.size) → (∀ x y c, (x, c) ∈ acc → (y, c) ∈ acc → x = y) →
    (x, c) ∈ cellsFrom h.objs.size names acc → (y, c) ∈ cellsFrom h.objs.size names acc → x = y
  | [], _, _, _, _, _, _, hi, h1, h2 => hi _ _ _ h1 h2
  | (n, k) :: r, h, acc, x, y, c, hl, hi, h1, h2 => by
    unfold cellsFrom at h1 h2
    split at h1
    · rename_i hk
      rw [if_pos hk] at h2
      rw [← Heap.size_push h { cls := .type "cell", data := .cell none }] at h1 h2
      refine cells_inj (h := h.push _) (fun p hp => ?_) (fun x y c a b => ?_) h1 h2
      · rw [Heap.size_push]
        rcases List.mem_cons.mp hp with rfl | hp
        · exact Nat.lt_succ_self _
        · exact Nat.lt_succ_of_lt (hl p hp)
      · rcases List.mem_cons.mp a with e | a <;> rcases List.mem_cons.mp b with e' | b
        · cases e; cases e'; rfl
        · cases e; exact absurd (hl _ b) (Nat.lt_irrefl _)
        · cases e'; exact absurd (hl _ a) (Nat.lt_irrefl _)
        · exact hi _ _ _ a b
    · rename_i hk
      rw [if_neg hk] at h2
      exact cells_inj hl hi h1 h2

theorem newEnv_comp {M : Model} {A : Around} {E : Value → Shared → Prop} {s : Shared} {scope : Scope} {globals : Addr} {closure : List (Str × Addr)} {qual : Str} {func : Option Addr} {code : Value} {around : Env} {builtins : Addr} {Q : Env → Shared → Prop}
    (h : Q (newEnv scope s.heap.objs.size globals (cellsFrom (s.heap.objs.size + 1) scope.names closure) qual func code (some around) builtins)
      { s with heap := pushCells (s.heap.push { cls := .type "dict", data := .dict #[] }) scope.names }) :
    wpAny M A (newFunctionEnv scope globals closure [] qual func code (some around) builtins) Q E s := by
  simp only [newFunctionEnv, Option.isSome_some, if_true]
  refine wpAny_bind (wpAny_alloc ?_)
  refine wpAny_bind (wpAny_layCells _ (fun n k c => rfl) scope.names closure _ _ ?_)
  rw [show ({ s with heap := s.heap.push { cls := .type "dict", data := .dict #[] } } : Shared).heap.objs.size = s.heap.objs.size + 1 from Heap.size_push ..]
  rw [List.forIn_nil]
  exact wpAny_bind (wpAny_pure (wpAny_pure h))

/-- every name of the written scope, in the scope that runs -/
theorem lookup_relS {sc : Scope} : ∀ {names : List (Str × NameKind)} {x : Str} {k : NameKind},
    (names.map fun (n, k) => if (k == NameKind.free && sc.kind == .function && sc.names.lookup n == some .cell) then (n, NameKind.cell) else (n, k)).lookup x = some k →
    ∃ k', names.lookup x = some k' ∧ (k = k' ∨ (k' = .free ∧ k = .cell))
  | [], _, _, h => by simp at h
  | (n, k₀) :: r, x, k, h => by
    have ih := @lookup_relS sc r x k
    have h' : List.lookup x ((if (k₀ == NameKind.free && sc.kind == .function && sc.names.lookup n == some .cell) = true then (n, NameKind.cell) else (n, k₀)) :: (r.map _)) = some k := h
    cases hx : x == n with
    | true =>
      simp only [List.lookup_cons, hx]
      by_cases hc : (k₀ == NameKind.free && sc.kind == .function && sc.names.lookup n == some .cell) = true
      · rw [if_pos hc] at h'
        simp only [List.lookup_cons, hx] at h'
        cases h'
        simp only [Bool.and_eq_true, beq_iff_eq] at hc
        exact ⟨k₀, rfl, .inr ⟨hc.1.1, rfl⟩⟩
      · rw [if_neg hc] at h'
        simp only [List.lookup_cons, hx] at h'
        cases h'
        exact ⟨_, rfl, .inl rfl⟩
    | false =>
      simp only [List.lookup_cons, hx]
      by_cases hc : (k₀ == NameKind.free && sc.kind == .function && sc.names.lookup n == some .cell) = true
      · rw [if_pos hc] at h'
        simp only [List.lookup_cons, hx] at h'
        exact ih h'
      · rw [if_neg hc] at h'
        simp only [List.lookup_cons, hx] at h'
        exact ih h'
/-- the names of a comprehension's block: its own (with their places in N), or captured -/
structure BlkOk (N : List Str) (sc scope : Scope) (own : List (Str × Nat)) : Prop where
  kind : scope.kind = .function
  uniq : ∀ y ∈ scope.names, scope.names.lookup y.1 = some y.2
  ix : ∀ p ∈ own, N[p.2]? = some p.1
  free : ∀ y ∈ scope.names, y.2 = .free → sc.names.lookup y.1 = some .cell ∨ sc.names.lookup y.1 = some .free
  own : ∀ y ∈ scope.names, y.2 = .local ∨ y.2 = .cell → y.1 ∈ own.map (·.1) ∨ y.1 ∉ N
/-- the slots of the block's own names forgotten -/
def wipe (σ : St) : List Nat → St
  | [] => σ
  | v :: vs => (wipe σ vs).set v none
theorem wipe_length (σ : St) : ∀ vs : List Nat, (wipe σ vs).length = σ.length
  | [] => rfl
  | v :: vs => by unfold wipe; rw [List.length_set, wipe_length σ vs]
theorem wipe_some {σ : St} {i : Nat} {x : V} : ∀ {vs : List Nat}, (wipe σ vs)[i]? = some (some x) → σ[i]? = some (some x) ∧ i ∉ vs
  | [], h => ⟨h, by simp⟩
  | v :: vs, h => by
    unfold wipe at h
    by_cases hi : v = i
    · subst hi
      by_cases hv : v < (wipe σ vs).length
      · rw [List.getElem?_set_self hv] at h; cases h
      · rw [List.getElem?_eq_none (by simpa using hv)] at h; cases h
    · rw [List.getElem?_set_ne hi] at h
      obtain ⟨h1, h2⟩ := wipe_some h
      exact ⟨h1, by simp only [List.mem_cons, not_or]; exact ⟨fun e => hi e.symm, h2⟩⟩

/-- the context of a block that starts at s, its iterator's objects at fp -/
abbrev Cx.blk (X : Cx) (s : Shared) (H : Hp) (scope : Scope) (cenv : Env) (fp : List Addr) : Cx := { X with s_0 := s, H_0 := H, env := cenv, outer := X.stack, ex := fp, fn := fun x => scope.names.lookup x == some .cell, pn := [], xe := fun _ _ => False }
section
variable {X : Cx} {pins : List (Addr × Obj)} {σ : St} {H : Hp} {s : Shared}
theorem block_start {scope : Scope} {own : List (Str × Nat)} {fp : List Addr} (I : Inv X pins σ H s) (ok : BlkOk X.N X.env.scope scope own) (hN : X.N.Nodup) (hfp : ∀ b ∈ fp, FpOk X pins H b ∧ b < s.heap.objs.size) :
    Inv (X.blk s H scope (compEnvC scope (cellsFrom (s.heap.objs.size + 1) scope.names (cloFrom X.env.cells scope.names [])) s.heap.objs.size X.env) fp) [] (wipe σ (own.map (·.2))) H { s with heap := pushCells (s.heap.push { cls := .type "dict", data := .dict #[] }) scope.names } := by
  have hfree : ∀ y ∈ scope.names, y.2 = .free → ∃ c, X.env.cells.lookup y.1 = some c := fun y hy e => by
    rcases ok.free y hy e with k | k
    · exact I.ok.has _ (.inl k)
    · exact I.ok.has _ (.inr k)
  generalize hcenv : compEnvC scope (cellsFrom (s.heap.objs.size + 1) scope.names (cloFrom X.env.cells scope.names [])) s.heap.objs.size X.env = cenv
  have kp : ∀ b o, s.heap.get? b = some o → (pushCells (s.heap.push { cls := .type "dict", data := .dict #[] }) scope.names).get? b = some o := fun b o e => pushCells_keeps _ _ _ _ (Heap.get?_push_of_some _ e)
  have hL : cenv.locals = s.heap.objs.size := by rw [← hcenv]; rfl
  have hcl : cenv.cells = cellsFrom (s.heap.objs.size + 1) scope.names (cloFrom X.env.cells scope.names []) := by rw [← hcenv]; rfl
  have hsc : cenv.scope = relS scope X.env.scope := by rw [← hcenv]; rfl
  rw [← Heap.size_push s.heap { cls := .type "dict", data := .dict #[] }] at hcl
  have cm : ∀ {y c}, (y, c) ∈ cloFrom X.env.cells scope.names [] → X.env.cells.lookup y = some c ∧ c < s.heap.objs.size := fun {y c} hm => by
    rcases cloFrom_mem hm with hm | ⟨h1, rfl⟩
    · cases hm
    · obtain ⟨c, hc⟩ := hfree _ h1 rfl
      rw [hc]
      obtain ⟨w, z⟩ := I.cell _ _ hc
      exact ⟨rfl, z.lt⟩
  have mem : ∀ {y c}, cenv.cells.lookup y = some c → (X.env.cells.lookup y = some c ∧ c < s.heap.objs.size) ∨ (s.heap.objs.size + 1 ≤ c ∧ CellAt (pushCells (s.heap.push { cls := .type "dict", data := .dict #[] }) scope.names) c none) := fun {y c} e => by
    rw [hcl] at e
    rcases cells_mem (PySem.mem_of_lookup e) with hm | ⟨_, h2, h3⟩
    · exact .inl (cm hm)
    · rw [Heap.size_push] at h2; exact .inr ⟨h2, h3⟩
  have look : ∀ {y}, scope.names.lookup y = some .free → ∃ c, cenv.cells.lookup y = some c ∧ X.env.cells.lookup y = some c := fun {y} hl => by
    have hy : (y, NameKind.free) ∈ scope.names := PySem.mem_of_lookup hl
    obtain ⟨c', e'⟩ := mem_lookup (cells_acc (names := scope.names) (n := (s.heap.push { cls := .type "dict", data := .dict #[] }).objs.size) (cloFrom_has (cells := X.env.cells) (acc := []) hy))
    rw [← hcl] at e'
    refine ⟨c', e', ?_⟩
    rw [hcl] at e'
    rcases cells_mem (PySem.mem_of_lookup e') with hm | ⟨h1, _, _⟩
    · exact (cm hm).1
    · have := ok.uniq _ h1
      rw [hl] at this; cases this
  have okB : (X.blk s H scope cenv fp).Ok := by
    refine ⟨I.ok.mod, by show cenv.scope.kind = _; rw [hsc]; exact ok.kind, by show cenv.globals = _; rw [← hcenv]; exact I.ok.glob, by show cenv.builtins = _; rw [← hcenv]; exact I.ok.blt, by show s.heap.objs.size ≤ cenv.locals; rw [hL]; exact Nat.le_refl _,
      fun y z c e1 e2 => ?_, fun y hy => ?_, fun y c z e => ?_, I.ok.hd, I.ok.frames, .inl rfl, fun b hb => ⟨?_, fun y c e z => ?_⟩, I.bs, Nat.le_trans I.ok.bsz I.sz, fun b o e hb => ?_, fun b hb z => ?_, I.stack, I.stkFree⟩
    · have e1 : cenv.cells.lookup y = some c := e1
      have e2 : cenv.cells.lookup z = some c := e2
      rw [hcl] at e1 e2
      refine cells_inj (fun p hp => ?_) (fun y z c a b => I.ok.inj y z c (cm a).1 (cm b).1) (PySem.mem_of_lookup e1) (PySem.mem_of_lookup e2)
      rw [Heap.size_push]
      exact Nat.lt_succ_of_lt (cm (y := p.1) (c := p.2) hp).2
    · show ∃ c, cenv.cells.lookup y = some c
      have key : ∀ k, cenv.kindOf y = some k → (k = .cell ∨ k = .free) → ∃ c, cenv.cells.lookup y = some c := fun k hk hk' => by
        unfold Env.kindOf at hk
        rw [hsc] at hk
        obtain ⟨k', e, r⟩ := lookup_relS hk
        have : k' = .cell ∨ k' = .free := by
          rcases r with rfl | ⟨rfl, _⟩
          · exact hk'
          · exact .inr rfl
        rcases this with rfl | rfl
        · obtain ⟨c, hm⟩ := cells_has (n := (s.heap.push { cls := .type "dict", data := .dict #[] }).objs.size) (acc := cloFrom X.env.cells scope.names []) (PySem.mem_of_lookup e)
          obtain ⟨c', e'⟩ := mem_lookup hm
          exact ⟨c', by rw [hcl]; exact e'⟩
        · obtain ⟨c, h1, _⟩ := look e
          exact ⟨c, h1⟩
      rcases hy with hy | hy
      · exact key _ hy (.inl rfl)
      · exact key _ hy (.inr rfl)
    · have z : (scope.names.lookup y == some NameKind.cell) = true := z
      have z : scope.names.lookup y = some .cell := by simpa using z
      have e : cenv.cells.lookup y = some c := e
      rw [hcl] at e
      rcases cells_mem (PySem.mem_of_lookup e) with hm | ⟨_, h2, _⟩
      · rcases cloFrom_mem hm with hm | ⟨h1, _⟩
        · cases hm
        · have q := ok.uniq _ h1
          rw [z] at q; cases q
      · rw [Heap.size_push] at h2
        exact Nat.le_of_succ_le h2
    · show b ≠ cenv.locals
      rw [hL]; exact Nat.ne_of_lt (hfp b hb).2
    · have e : cenv.cells.lookup y = some c := e
      rcases mem e with ⟨h1, _⟩ | ⟨h1, _⟩
      · exact (hfp b hb).1.2.2.2.2.1 y c h1 z
      · have h2 : s.heap.objs.size + 1 ≤ b := by rw [← z]; exact h1
        exact absurd (Nat.lt_of_lt_of_le (hfp b hb).2 (Nat.le_of_succ_le h2)) (Nat.lt_irrefl _)
    · rcases (hfp b hb).1.2.2.2.1 with z | z
      · exact I.ok.noex b o e z
      · exact absurd (Nat.lt_of_lt_of_le (Heap.lt_size e) (Nat.le_trans I.ok.bsz z)) (Nat.lt_irrefl _)
    · rcases List.mem_cons.mp (I.stkSub b z) with z | z
      · exact (hfp b hb).1.2.1 z
      · exact (hfp b hb).1.2.2.1 z
  refine ⟨okB, rfl, I.bare, Un.kept kp, ⟨fun _ => none, ?_, fun i y av e1 e2 e3 => ?_⟩, fun y c e => ?_, ?_, fun y c e => ?_, fun p hp => ?_, I.hok.kept kp, by rw [wipe_length]; exact I.len⟩
  · show Heap.Ns _ cenv.locals _
    rw [hL]
    exact Heap.Ns.keeps (Heap.Ns.new ..) fun b o e => pushCells_keeps _ _ _ _ e
  · obtain ⟨e2, hne⟩ := wipe_some e2
    have hfr : scope.names.lookup y = some .free ∧ (cenv.kindOf y = some .cell ∨ cenv.kindOf y = some .free) := by
      have key : ∀ k, cenv.scope.names.lookup y = some k → k = .local ∨ k = .cell ∨ k = .free → scope.names.lookup y = some .free ∧ (cenv.kindOf y = some .cell ∨ cenv.kindOf y = some .free) := fun k hk hk' => by
        have hk0 := hk
        rw [hsc] at hk
        obtain ⟨k', e, r⟩ := lookup_relS hk
        have no : ¬ (k' = .local ∨ k' = .cell) := fun hh => by
          rcases ok.own _ (PySem.mem_of_lookup e) hh with e' | e'
          · obtain ⟨p, hp, hpy⟩ := List.mem_map.mp e'
            have e3 := ok.ix p hp
            have : p.1 = y := hpy
            rw [this] at e3
            exact hne (List.mem_map.mpr ⟨p, hp, nodup_ix hN e3 e1⟩)
          · exact e' (List.mem_of_getElem? e1)
        rcases r with rfl | ⟨rfl, rfl⟩
        · rcases hk' with rfl | rfl | rfl
          · exact absurd (.inl rfl) no
          · exact absurd (.inr rfl) no
          · exact ⟨e, .inr hk0⟩
        · exact ⟨e, .inl hk0⟩
      have e3 : Vis cenv.scope y := e3
      rcases e3 with e3 | e3 | e3
      · exact key _ e3 (.inl rfl)
      · exact key _ e3 (.inr (.inl rfl))
      · exact key _ e3 (.inr (.inr rfl))
    obtain ⟨m, hn, hl⟩ := I.loc
    have hvis : Vis X.env.scope y := (ok.free _ (PySem.mem_of_lookup hfr.1) rfl).elim (fun k => .inr (.inl k)) (fun k => .inr (.inr k))
    obtain ⟨w, r, q⟩ := hl i y av e1 e2 hvis
    refine ⟨w, r, .inr ⟨hfr.2, ?_⟩⟩
    obtain ⟨c, h1, h2⟩ := look hfr.1
    rcases q with ⟨k, _⟩ | ⟨_, c', e', z⟩
    · have k : X.env.scope.names.lookup y = some .local := k
      rcases ok.free _ (PySem.mem_of_lookup hfr.1) rfl with k' | k' <;> rw [show X.env.scope.names.lookup y = _ from k'] at k <;> cases k
    · rw [h2] at e'; cases e'
      exact ⟨c, h1, z.keeps kp⟩
  · have e : cenv.cells.lookup y = some c := e
    rcases mem e with ⟨h1, _⟩ | ⟨_, z⟩
    · obtain ⟨w, z⟩ := I.cell y c h1
      exact ⟨w, z.keeps kp⟩
    · exact ⟨_, z⟩
  · show H cenv.locals = none
    rw [hL]; exact I.hok.fresh (Nat.le_refl _)
  · have e : cenv.cells.lookup y = some c := e
    rcases mem e with ⟨h1, _⟩ | ⟨h1, _⟩
    · exact I.freeC y c h1
    · exact I.hok.fresh (Nat.le_of_succ_le h1)
  · exact absurd (show p ∈ ([] : List (Addr × Obj)) ++ [] from hp) (by simp)

/-- an item appended to a tracked list -/
theorem app_ok {E : Value → Shared → Prop} {D : Addr} {xs : List V} {y : V} {v : Value} {Q : Value → Shared → Prop} (I : Inv X pins σ H s) (hD : H D = some (.lst xs)) (hz : xs.length < sizeLine) (r : RelV y v)
    (h : ∀ s', Inv X pins σ (upd H D (.lst (xs ++ [y]))) s' → Q .none s') : wpAny (model X.prog X.w) X.A (call (.builtin "list.append") [.ref D, v]) Q E s := by
  obtain ⟨hz', its, n, ri, e⟩ := I.hok D _ hD
  have hl := ri.length
  refine append_at (hsz := by rw [List.size_toArray]; omega) e fun h' sb ho' => ?_
  refine h { s with heap := h' } (I.write (t' := s.toks) (by rw [hD]; trivial) (.inl rfl) (fun b u hb q => (sb.2 b hb).trans q) ⟨_, ho'⟩ ⟨by rw [List.length_append]; exact hz, its ++ [v], n + 1, ri.append (.cons r .nil), ?_⟩)
  rw [ho']
  simp

/-- a clause's tests -/
def PTs (X : Cx) (ifs : List Expr) (t : TT) : Prop :=
  ∀ (pins : List (Addr × Obj)) (s : Shared) (σ : St) (H : Hp) (Q : Bool → Hp → Prop), Inv X pins σ H s → t σ H Q →
    wpAny (model X.prog X.w) X.A (forIn ifs true fun c r => if r = true then do let ok ← isTrue c X.env (eval c X.env); pure (ForInStep.yield ok) else pure (ForInStep.yield r)) (TP X pins σ Q) X.xe s
def tYes : TT := fun _ H Q => Q true H
theorem pts_nil : PTs X [] tYes := fun _ _ _ H _ I h => wpAny_tests_nil ⟨H, I, h⟩
theorem pts_one {c : Expr} {t : TT} (h : PT X c t) : PTs X [c] t := fun pins s σ H Q I hw => wpAny_tests_one (h pins s σ H Q I hw)
end

theorem thnF {α : Type} {t : Sem α} {Q Q' : α → Shared → Prop} {M : Model} {A : Around} {E : Value → Shared → Prop} {s : Shared} (h : wpAny M A t Q (fun _ _ => False) s) (hQ : ∀ a s, Q a s → Q' a s) : wpAny M A t Q' E s := wpAny_mono h hQ fun _ _ z => False.elim z

/-- the loop of a list comprehension's block, the target of any form (codeAny_compLoop_tests asks a target that no tuple goes to; statement and proof follow it, PyProof/CompMap.lean:41-61, with the step letOwnedTupleGo kept) -/
theorem compLoop_any {prog : Program} {w : World} {A : Around} {R : Result → Shared → Prop} {s : Shared} {elt target iter : Expr} {ifs : List Expr} {scope : Scope} {pos : Pos} {it acc : Value} {env : Env} (I : Nat → Shared → Prop)
    (turn : ∀ n s, I n s → wpAny (model prog w) A (pyNext it) (fun r s₁ => match r with
      | none => R (.ok .next) s₁
      | some v => wpAny (model prog w) A (letOwnedTupleGo target it v) (fun _ s₁' => wpAny (model prog w) A (assign target env v) (fun _ s₂ =>
          wpAny (model prog w) A (forIn ifs true fun c r => if r = true then do let ok ← isTrue c env (eval c env); pure (ForInStep.yield ok) else pure (ForInStep.yield r)) (fun ok s₃ =>
            if ok = true then wpAny (model prog w) A (eval elt env) (fun x s₄ =>
              wpAny (model prog w) A (call (.builtin "list.append") [acc, x]) (fun _ s₅ => ∃ m, m < n ∧ I m s₅) (notedBy (model prog w) A env fun e s' => R (.error e) s') s₄) (notedBy (model prog w) A env fun e s' => R (.error e) s') s₃
            else ∃ m, m < n ∧ I m s₃) (notedBy (model prog w) A env fun e s' => R (.error e) s') s₂) (notedBy (model prog w) A env fun e s' => R (.error e) s') s₁') (notedBy (model prog w) A env fun e s' => R (.error e) s') s₁) (notedBy (model prog w) A env fun e s' => R (.error e) s') s)
    (n : Nat) (h : I n s) :
    codeAny (model prog w) A (.compLoop (.ListComp elt [⟨target, iter, ifs, 0⟩] scope pos) 0 it acc env) R s := by
  refine codeAny_loop rfl I (fun n s hI => ?_) n h
  show wpAny _ A ((compTurn (.ListComp elt [⟨target, iter, ifs, 0⟩] scope pos) 0 it acc env).onRaise (fun x => do noteFrame x env; theTreesLotGoes x)) _ _ s
  refine wpAny_noted ?_
  rw [compTurn_list]
  refine wpAny_bind (wpAny_standAt (wpAny_bind (wpAny_mono (turn n s hI) (fun r s₁ h₁ => ?_) fun _ _ h' => h')))
  cases r with
  | none => exact wpAny_pure h₁
  | some v =>
    refine wpAny_bind (wpAny_mono h₁ (fun _ s₁' h₁' => ?_) fun _ _ h' => h')
    refine wpAny_bind (wpAny_mono h₁' (fun _ s₂ h₂ => wpAny_bind (wpAny_mono h₂ (fun ok s₃ h₃ => ?_) fun _ _ h' => h')) fun _ _ h' => h')
    cases ok with
    | false => exact wpAny_pure ⟨rfl, h₃⟩
    | true =>
      exact wpAny_bind (wpAny_bind (wpAny_mono h₃ (fun x s₄ h₄ => wpAny_bind (wpAny_mono h₄ (fun _ s₅ h₅ => wpAny_pure (wpAny_pure ⟨rfl, h₅⟩)) fun _ _ h' => h')) fun _ _ h' => h'))

section
variable {X : Cx}
/-- [elt for target in iter if ..]: D the new list; W by the turn and a measure, Nx what a turn is to reach -/
def tLc (wi : TI) (g : TG) (tt : TT) (te : TE) (vs : List Nat) : TE := fun σ H Q => wi σ H fun J H1 => ∀ D, H1 D = none → ∃ W : Nat → Nat → Hp → Prop, (∃ m, W 0 m (upd H1 D (.lst []))) ∧ ∀ i m H, W i m H →
  (J.stop i H ∧ Q (.ref D) H) ∨ (J.go i H ∧ ∃ Nx : Hp → Prop, (∀ H', Nx H' → ∃ m', m' < m ∧ W (i + 1) m' H') ∧ ∀ x H', J.yld i H x H' → g x (wipe σ vs) H' fun σ2 H2 => wipe σ2 vs = wipe σ vs ∧ tt σ2 H2 fun b H3 =>
    if b = true then te σ2 H3 fun y H4 => ∃ acc, H4 D = some (.lst acc) ∧ acc.length < sizeLine ∧ Nx (upd H4 D (.lst (acc ++ [y]))) else Nx H3)
theorem lc_core {pins : List (Addr × Obj)} {s : Shared} {σ : St} {H : Hp} {Q : VK} {elt tg iter : Expr} {ifs : List Expr} {scope : Scope} {own : List (Str × Nat)} {pos pos' : Pos} {wi : TI} {g : TG} {tt : TT} {te : TE} {use : Option (Value → Sem Unit)} {Qf : Value → Shared → Prop}
    (hc : X.calm = true) (hN : X.N.Nodup) (I : Inv X pins σ H s) (hi : PI X tg iter wi) (ok : BlkOk X.N X.env.scope scope own)
    (hg : ∀ (s : Shared) (H : Hp) (C : Addr) (cl : List (Str × Addr)) (fp : List Addr), PG (X.blk s H scope (compEnvC scope cl C X.env) fp) tg g) (ht : ∀ (s : Shared) (H : Hp) (C : Addr) (cl : List (Str × Addr)) (fp : List Addr), PTs (X.blk s H scope (compEnvC scope cl C X.env) fp) ifs tt)
    (he : ∀ (s : Shared) (H : Hp) (C : Addr) (cl : List (Str × Addr)) (fp : List Addr), PE (X.blk s H scope (compEnvC scope cl C X.env) fp) elt te) (hs : ∀ x, foldedSetIterable iter X.env x = pure x)
    (h : tLc wi g tt te (own.map (·.2)) σ H Q)
    (hRR : ∀ D C s' m H', Inv X pins σ H' s' → Q (.ref D) H' → s'.heap.Ns C m → FpOk X pins H' C → compPost (model X.prog X.w) X.A X.xe use Qf (.ref D) C (.ok .next) s') :
    wpAny (model X.prog X.w) X.A (comprehension (.ListComp elt [⟨tg, iter, ifs, 0⟩] scope pos) scope X.env pos' (newList []) false (eval iter X.env) use) Qf X.xe s := by
  have hfree : ∀ y ∈ scope.names, y.2 = .free → ∃ c, X.env.cells.lookup y.1 = some c := fun y hy e => by
    rcases ok.free y hy e with k | k
    · exact I.ok.has _ (.inl k)
    · exact I.ok.has _ (.inr k)
  refine wpAny_comprehension_free (use := use) rfl hs (closure_ok hfree) ok.kind (fun y hy e => by rw [ok.uniq y hy, e])
    (thn (hi pins s σ H _ I h) fun xv s1 hx => thn hx fun itv s2 h2 => ?_)
  obtain ⟨it, fp, tn, J, H2, e, I2, T, st2, f2, q⟩ := h2
  subst e
  refine wpAny_newObj_type (newEnv_comp ?_) (by show 0 ≤ sizeLine; decide)
  generalize hD : s2.heap.objs.size = D
  have hDn : H2 D = none := I2.hok.fresh (Nat.le_of_eq hD)
  obtain ⟨W, ⟨m0, w0⟩, turn⟩ := q D hDn
  -- the new list
  generalize hs3 : ({ s2 with heap := s2.heap.push { cls := .type "list", data := .seq ([] : List Value).toArray } } : Shared) = s3
  have I3 : Inv X pins σ (upd H2 D (.lst [])) s3 := by
    rw [← hs3]
    refine I2.laid (t' := s2.toks) (fun b o e => Heap.get?_push_of_some _ e) (Nat.le_of_eq hD) ⟨Nat.zero_le _, [], 0, .nil, ?_⟩
    rw [← hD]
    exact Heap.get?_push_size _ rfl
  have h3 : s3.heap = s2.heap.push { cls := .type "list", data := .seq ([] : List Value).toArray } := by rw [← hs3]
  have sz : ∀ b ∈ fp, b < s2.heap.objs.size := fun b hb => by
    obtain ⟨o, e, _⟩ := T.obj _ _ st2 b hb
    exact Heap.lt_size e
  have f3 : ∀ b ∈ fp, FpOk X pins (upd H2 D (.lst [])) b ∧ b < s3.heap.objs.size := fun b hb => by
    have hlt := sz b hb
    refine ⟨⟨?_, (f2 b hb).2⟩, by rw [h3, Heap.size_push]; exact Nat.lt_succ_of_lt hlt⟩
    rw [upd_ne (by rw [← hD]; exact Nat.ne_of_lt hlt)]
    exact (f2 b hb).1
  have st3 : tn 0 s3.heap := T.keep _ _ _ st2 fun b _ o e => by rw [h3]; exact Heap.get?_push_of_some _ e
  have I4 := block_start I3 ok hN f3
  have pg := hg s3 (upd H2 D (.lst [])) s3.heap.objs.size (cellsFrom (s3.heap.objs.size + 1) scope.names (cloFrom X.env.cells scope.names [])) fp
  have pt := ht s3 (upd H2 D (.lst [])) s3.heap.objs.size (cellsFrom (s3.heap.objs.size + 1) scope.names (cloFrom X.env.cells scope.names [])) fp
  have pe := he s3 (upd H2 D (.lst [])) s3.heap.objs.size (cellsFrom (s3.heap.objs.size + 1) scope.names (cloFrom X.env.cells scope.names [])) fp
  show codeAny _ _ (.compStart (.ListComp elt [⟨tg, iter, ifs, 0⟩] scope pos) 0 (.ref it) (.ref D) (compEnvC scope (cellsFrom (s3.heap.objs.size + 1) scope.names (cloFrom X.env.cells scope.names [])) s3.heap.objs.size X.env)) (compPost (model X.prog X.w) X.A X.xe use Qf (.ref D) s3.heap.objs.size) { s3 with heap := pushCells (s3.heap.push { cls := .type "dict", data := .dict #[] }) scope.names }
  have nfp : ∀ b ∈ fp, (upd H2 D (.lst [])) b = none := fun b hb => (f3 b hb).1.1
  generalize hce : compEnvC scope (cellsFrom (s3.heap.objs.size + 1) scope.names (cloFrom X.env.cells scope.names [])) s3.heap.objs.size X.env = ce at I4 pg pt pe ⊢
  have cL : ce.locals = s3.heap.objs.size := by subst hce; rfl
  generalize hH3 : upd H2 D (.lst []) = H3 at I3 I4 pg pt pe w0 nfp f3
  generalize hs4 : ({ s3 with heap := pushCells (s3.heap.push { cls := .type "dict", data := .dict #[] }) scope.names } : Shared) = s4 at I4 ⊢
  have st4 : tn 0 s4.heap := T.keep _ _ _ st3 fun b _ o e => by rw [← hs4]; exact pushCells_keeps _ _ _ _ (Heap.get?_push_of_some _ e)
  have stat : ∀ {σ' : St} {H' : Hp} {s' : Shared}, Inv (X.blk s3 H3 scope ce fp) [] σ' H' s' → (∀ b ∈ fp, H' b = none) → ∀ b ∈ fp, FpOk (X.blk s3 H3 scope ce fp) [] H' b := fun {σ' H' s'} I' hn b hb =>
    ⟨hn b hb, (I'.ok.exf b hb).1, I'.ok.exfs b hb, .inl hb, fun x c e => (I'.ok.exf b hb).2 x c e, fun p hp => absurd (show p ∈ ([] : List (Addr × Obj)) ++ [] from hp) (by simp)⟩
  have loop : codeAny (model X.prog X.w) X.A (.compLoop (.ListComp elt [⟨tg, iter, ifs, 0⟩] scope pos) 0 (.ref it) (.ref D) ce) (compPost (model X.prog X.w) X.A X.xe use Qf (.ref D) s3.heap.objs.size) s4 := by
    refine compLoop_any (fun n s' => ∃ i H', Inv (X.blk s3 H3 scope ce fp) [] (wipe σ (own.map (·.2))) H' s' ∧ tn i s'.heap ∧ (∀ b ∈ fp, H' b = none) ∧ W i n H') ?_ m0 ⟨0, H3, I4, st4, nfp, w0⟩
    rintro n s5 ⟨i, H5, I5, st5, n5, w5⟩
    rcases turn i n H5 w5 with ⟨stop, qq⟩ | ⟨go, Nx, hNx, step⟩
    · have td := T.done (X.blk s3 H3 scope ce fp) rfl rfl rfl hc i [] s5 _ H5 (fun _ _ => False) I5 (stat I5 n5) st5 stop
      refine thnF td fun r s6 ⟨hr, I6⟩ => ?_
      subst hr
      -- back in the def's context
      have I7 : Inv X pins σ H5 s6 := I3.call' (ch := fp) I6.os I6.base I6.hok I6.bare fun b hb => ⟨(f3 b hb).1.2.2.2.1, (f3 b hb).1.2.1, (f3 b hb).1.2.2.2.2.1, (f3 b hb).1.2.2.2.2.2⟩
      have nC : H5 s3.heap.objs.size = none := by
        have z : H5 ce.locals = none := I6.free
        rw [cL] at z
        exact z
      obtain ⟨m, hn, _⟩ := I6.loc
      have hn : s6.heap.Ns ce.locals m := hn
      rw [cL] at hn
      exact hRR D s3.heap.objs.size s6 m H5 I7 qq hn (I3.fpOk (Nat.le_refl _) nC)
    · have ti := T.item (X.blk s3 H3 scope ce fp) rfl rfl rfl hc i [] s5 _ H5 (fun _ _ => False) I5 (stat I5 n5) st5 go
      refine thnF ti fun r s6 ⟨u, hr, h6⟩ => ?_
      subst hr
      refine thnF h6 fun _ s7 ⟨x, H7, I7, r7, y7, st7, n7⟩ => ?_
      have I7' := I7.pinned (stat I7 n7) (T.obj _ _ st7)
      refine thnF (pg _ s7 _ H7 x u _ I7' r7 (step x H7 y7)) fun _ s8 ⟨σ8, H8, I8, hw8, q8⟩ => ?_
      refine thnF (pt _ s8 σ8 H8 _ I8 q8) fun b s9 ⟨H9, I9, q9⟩ => ?_
      -- the turn's end
      have fin : ∀ {s' : Shared} {H' : Hp}, Inv (X.blk s3 H3 scope ce fp) ([] ++ pinsAt fp s7.heap) σ8 H' s' → Nx H' → ∃ m, m < n ∧ ∃ i H', Inv (X.blk s3 H3 scope ce fp) [] (wipe σ (own.map (·.2))) H' s' ∧ tn i s'.heap ∧ (∀ b ∈ fp, H' b = none) ∧ W i m H' := fun {s' H'} I' nx => by
        obtain ⟨m', hm, w'⟩ := hNx H' nx
        have pin' : ∀ b ∈ fp, ∀ o, s7.heap.get? b = some o → s'.heap.get? b = some o ∧ H' b = none := fun b hb o e =>
          let z := I'.pin (b, o) (List.mem_append_right _ (List.mem_append_right _ (mem_pinsAt hb e)))
          ⟨z.1, z.2.1⟩
        have hl : (wipe σ (own.map (·.2))).length = σ8.length := by rw [← hw8, wipe_length]
        refine ⟨m', hm, i + 1, H', (I'.unpinned (pins := [])).weak hl (fun j v e => ?_), T.keep _ _ _ st7 fun b hb o e => (pin' b hb o e).1, fun b hb => ?_, w'⟩
        · rw [← hw8] at e
          exact (wipe_some e).1
        · obtain ⟨o, e, _⟩ := T.obj _ _ st7 b hb
          exact (pin' b hb o e).2
      cases b with
      | false =>
        simp only [Bool.false_eq_true, if_false] at q9 ⊢
        exact fin I9 q9
      | true =>
        simp only [if_true] at q9 ⊢
        refine thnF (pe _ s9 σ8 H9 _ I9 q9) fun z s10 ⟨yv, H10, I10, r10, acc, hD10, hz10, nx⟩ => ?_
        exact app_ok (X := X.blk s3 H3 scope ce fp) I10 hD10 hz10 r10 fun s11 I11 => fin I11 nx
  exact codeAny_compStart_list loop (T.self X.A 0 _ _ _ st4 loop)
/-- as a value -/
theorem pe_lc {elt tg iter : Expr} {ifs : List Expr} {scope : Scope} {own : List (Str × Nat)} {pos : Pos} {wi : TI} {g : TG} {tt : TT} {te : TE} (hc : X.calm = true) (hN : X.N.Nodup) (hi : PI X tg iter wi) (ok : BlkOk X.N X.env.scope scope own)
    (hg : ∀ (s : Shared) (H : Hp) (C : Addr) (cl : List (Str × Addr)) (fp : List Addr), PG (X.blk s H scope (compEnvC scope cl C X.env) fp) tg g) (ht : ∀ (s : Shared) (H : Hp) (C : Addr) (cl : List (Str × Addr)) (fp : List Addr), PTs (X.blk s H scope (compEnvC scope cl C X.env) fp) ifs tt)
    (he : ∀ (s : Shared) (H : Hp) (C : Addr) (cl : List (Str × Addr)) (fp : List Addr), PE (X.blk s H scope (compEnvC scope cl C X.env) fp) elt te) (hs : ∀ x, foldedSetIterable iter X.env x = pure x := by intro _; rfl) :
    PE X (.ListComp elt [⟨tg, iter, ifs, 0⟩] scope pos) (tLc wi g tt te (own.map (·.2))) := by
  intro pins s σ H Q I h
  rw [eval_ListComp]
  refine lc_core hc hN I hi ok hg ht he hs h fun D C s' m H' I' q hn f => ⟨m, hn, fun h'' sb => ?_⟩
  obtain ⟨f0, f1, f2, f3, f4, f5⟩ := f
  exact ⟨.ref D, H', I'.turned (t' := s'.toks) (fun b o hb e => (sb.2 b hb).trans e) f0 f1 f3 f4 f5, rfl, q⟩
end

end L2

namespace L2
open PySem PySem.Spec PyProof.Rows

section
variable {prog : Program} {w : World} {A : Around} {R : Result → Shared → Prop} {s : Shared} {elt t0 i0 t1 i1 : Expr} {ifs0 ifs1 : List Expr} {scope : Scope} {pos : Pos} {it acc : Value} {env : Env}
end

section
variable {X : Cx}
end
end L2

namespace L2
open PySem PySem.Spec PyProof.Rows

section
variable {κ : Type} [DecidableEq κ]
def valV (kvs : List (κ × V)) (k : κ) : Option V := (kvs.find? fun kv => decide (kv.1 = k)).map (·.2)
/-- in its place, or at the end -/
def putK (kvs : List (κ × V)) (k : κ) (v : V) : List (κ × V) :=
  if (kvs.any fun kv => decide (kv.1 = k)) = true then kvs.map (fun kv => if kv.1 = k then (kv.1, v) else kv) else kvs ++ [(k, v)]
def dropK (kvs : List (κ × V)) (k : κ) : List (κ × V) := kvs.filter fun kv => decide (kv.1 ≠ k)

theorem RelO.getD {o : Option V} {u : Option Value} {d : V} {d' : Value} (r : RelO o u) (rd : RelV d d') : RelV (o.getD d) (u.getD d') := by
  cases o with
  | none => cases u with
    | none => exact rd
    | some _ => exact (show False from r).elim
  | some _ => cases u with
    | none => exact (show False from r).elim
    | some _ => exact r

theorem KV.any {kvs : List (κ × V)} {vs : List (κ × Value)} (r : KV kvs vs) (k : κ) : (kvs.any fun kv => decide (kv.1 = k)) = vs.any fun kv => decide (kv.1 = k) := by
  unfold KV at r
  induction r with
  | nil => rfl
  | cons h t ih => rw [List.any_cons, List.any_cons, ih, h.1]
theorem KV.drop {kvs : List (κ × V)} {vs : List (κ × Value)} (r : KV kvs vs) (k : κ) : KV (dropK kvs k) (without vs k) := by
  unfold KV at r ⊢
  unfold dropK without
  induction r with
  | nil => exact .nil
  | @cons p q ps qs h t ih =>
    obtain ⟨h1, h2⟩ := h
    rw [List.filter_cons, List.filter_cons]
    by_cases e : p.1 = k
    · have a : ¬ decide (p.1 ≠ k) = true := by simp [e]
      have b : ¬ decide (q.1 ≠ k) = true := by simp [h1.symm.trans e]
      rw [if_neg a, if_neg b]; exact ih
    · have e' : ¬ q.1 = k := fun z => e (h1.trans z)
      have a : decide (p.1 ≠ k) = true := by simp [e]
      have b : decide (q.1 ≠ k) = true := by simp [e']
      rw [if_pos a, if_pos b]; exact .cons ⟨h1, h2⟩ ih
theorem KV.length {kvs : List (κ × V)} {vs : List (κ × Value)} (r : KV kvs vs) : kvs.length = vs.length := Paired.length r
end


/-- raw entries of a dict with tuple keys -/
abbrev KT (H : Hp) : List (List Key × V) → List (List Key × Addr × Value) → Prop := Paired fun p q => p.1 = q.1 ∧ H q.2.1 = some (.tup (p.1.map kV)) ∧ RelV p.2 q.2.2
theorem KT.keeps {H H' : Hp} {kvs : List (List Key × V)} {xs : List (List Key × Addr × Value)} (r : KT H kvs xs) (ht : ∀ b ys, H b = some (.tup ys) → H' b = some (.tup ys)) : KT H' kvs xs :=
  Paired.mapP r fun _ _ z => ⟨z.1, ht _ _ z.2.1, z.2.2⟩

section
variable {P : Program} {w : World} {H : Hp} {h : Heap} {a : Addr}
end

/-- what the dict at a holds at the key y -/
def DGet (H : Hp) (a : Addr) (y : V) (r : Option V) : Prop :=
  (∃ kvs k, Rd H a (.dK kvs) ∧ y = kV k ∧ r = valV kvs k) ∨ ∃ kvs k b, Rd H a (.dT kvs) ∧ y = .ref b ∧ H b = some (.tup (k.map kV)) ∧ r = valV kvs k
/-- the heap behind a[y] = v -/
def DPut (H : Hp) (a : Addr) (y v : V) (H' : Hp) : Prop :=
  (∃ kvs k, H a = some (.dK kvs) ∧ y = kV k ∧ kvs.length < sizeLine ∧ H' = upd H a (.dK (putK kvs k v))) ∨
  ∃ kvs k b, H a = some (.dT kvs) ∧ y = .ref b ∧ H b = some (.tup (k.map kV)) ∧ kvs.length < sizeLine ∧ H' = upd H a (.dT (putK kvs k v))
theorem DGet.k {H : Hp} {a : Addr} {kvs : List (Key × V)} {k : Key} (e : H a = some (.dK kvs)) : DGet H a (kV k) (valV kvs k) := .inl ⟨kvs, k, .inl e, rfl, rfl⟩
theorem DGet.t {H : Hp} {a b : Addr} {kvs : List (List Key × V)} {k : List Key} (e : H a = some (.dT kvs)) (eb : H b = some (.tup (k.map kV))) : DGet H a (.ref b) (valV kvs k) := .inr ⟨kvs, k, b, .inl e, rfl, eb, rfl⟩
theorem DPut.k {H : Hp} {a : Addr} {kvs : List (Key × V)} {k : Key} {v : V} (e : H a = some (.dK kvs)) (hl : kvs.length < sizeLine) : DPut H a (kV k) v (upd H a (.dK (putK kvs k v))) := .inl ⟨kvs, k, e, rfl, hl, rfl⟩
theorem DPut.t {H : Hp} {a b : Addr} {kvs : List (List Key × V)} {k : List Key} {v : V} (e : H a = some (.dT kvs)) (eb : H b = some (.tup (k.map kV))) (hl : kvs.length < sizeLine) :
    DPut H a (.ref b) v (upd H a (.dT (putK kvs k v))) := .inr ⟨kvs, k, b, e, rfl, eb, hl, rfl⟩


section
variable {X : Cx} {pins : List (Addr × Obj)} {σ : St} {H : Hp} {s : Shared} {a : Addr} {y v : V} {u r : Value} {o : Option V} {A : Around} {E : Value → Shared → Prop}

end

section
variable {X : Cx} {pins : List (Addr × Obj)} {σ : St} {H : Hp} {s : Shared} {a : Addr} {kvs : List (Key × V)} {k : Key} {u : Value} {A : Around} {E : Value → Shared → Prop}
end


section
variable {X : Cx} {o i e value : Expr} {pos pos' tpos : Pos} {td ty tv : TE}
end


section
variable {X : Cx} {pos : Pos}
end

section
variable {X : Cx} {pins : List (Addr × Obj)} {σ : St} {H : Hp} {s : Shared} {a : Addr} {y d : V} {u r : Value} {o : Option V} {A : Around} {E : Value → Shared → Prop}
end

section
variable {X : Cx} {o e f : Expr} {apos cpos : Pos} {td ty tx : TE}
end

section
variable {X : Cx} {pins : List (Addr × Obj)} {σ : St} {H : Hp} {s : Shared} {a : Addr} {kvs : List (Key × V)} {A : Around} {E : Value → Shared → Prop}
end


section
variable {X : Cx} {pins : List (Addr × Obj)} {σ : St} {H : Hp} {s : Shared} {a : Addr} {y : V} {u : Value} {A : Around} {E : Value → Shared → Prop}
end
end L2

namespace L2
open PySem PySem.Spec PyProof.Rows

section
variable {prog : Program} {w : World} {A : Around} {E : Value → Shared → Prop}
end

section
variable {X : Cx}
end
end L2

namespace L2
open PySem PySem.Spec PyProof.Rows

section
variable {X : Cx} {pins : List (Addr × Obj)} {σ : St} {H : Hp} {s : Shared} {h' : Heap}
end
section
variable {X : Cx}
end

/-- range(i, j, c): small bounds, n items -/
def RgC (i j c : Int) (n : Nat) : Prop := c ≠ 0 ∧ c.natAbs < 1073741824 ∧ Builtin.Range.small i j c = true ∧ Builtin.Range.rangeSize i j c = n
theorem RgC.neg {i j : Int} (ha : -(2 ^ 62) ≤ i) (ha' : i < 2 ^ 62) (hb : -(2 ^ 62) ≤ j) (hb' : j < 2 ^ 62) : RgC i j (-1) (i - j).toNat :=
  ⟨by decide, by decide, PySem.W.small_down ha ha' hb hb', PySem.W.rangeSize_downNat i j⟩
section
variable {X : Cx} {tg : Expr}
end
section
variable {X : Cx} {tg : Expr}
end

section
variable {prog : Program} {w : World} {A : Around} {E : Value → Shared → Prop} {s : Shared}
end

section
variable {X : Cx} {pins : List (Addr × Obj)} {σ : St} {H : Hp} {s : Shared} {d : Addr} {o : Obj}
end

section
variable {P : Program} {w : World} {K : PySem.W.Frag} {tg : Expr} {d : Addr} {o : Obj} {es : Array DictEntry} {ep : Nat}
end

section
variable {X : Cx} {tg e : Expr} {td : TE} {apos cpos : Pos}
end

end L2

section 
namespace Bits
open PySem PyProof.Rows

end Bits
end 

section 
namespace TL
open PySem PySem.Builtin PySem.Builtin.Str PySem.StrLaws

abbrev tl (x : Str) : List Nat := x.cps.toList
/-- S stands at the head of l -/
def pre (S l : List Nat) : Bool := l.take S.length == S
/-- what stands before the first S, and behind it -/
def par (S : List Nat) : List Nat → List Nat → Option (List Nat × List Nat)
  | _, [] => none
  | acc, c :: r => if pre S (c :: r) = true then some (acc, (c :: r).drop S.length) else par S (acc ++ [c]) r

end TL
end 

namespace L2
open PySem PySem.Spec PyProof.Rows

section
variable {X : Cx} {pins : List (Addr × Obj)} {σ : St} {H : Hp} {s : Shared} {Q : VK}
end

section
variable {X : Cx}

end

section
variable {X : Cx} {o e : Expr} {to te : TE}
end
end L2

namespace L2
open PySem PySem.Spec PyProof.Rows

section
variable {X : Cx}
end

end L2

namespace Att
open PySem PySem.W PySem.Calls PyProof.Rows

theorem ints_of_wellAll {P : Params} {h : Heap} : ∀ (ns : List Int) (vs : List Value), WellAll P h vs (ns.map WData.int) → IntsAre vs ns := by
  intro ns
  induction ns with
  | nil =>
    intro vs w
    rw [List.map_nil] at w
    cases w
    exact .nil
  | cons n ns ih =>
    intro vs w
    rw [List.map_cons] at w
    cases w with
    | cons a b =>
      cases a
      exact .cons _ _ (ih _ b)

theorem script_of {l : OpenLaw} {n : Nat} (hn : l.most = some n) {P : Params} {h : Heap} {args : List WData} {vals : List Value}
    (hpre : l.row.toRowW.claim.pre args = true) (hwl : WellAll P h vals args) :
    ∃ a vs ns, vals = [Value.ref a] ∧ args = [WData.list (ns.map WData.int)] ∧ h.get? a = some { cls := .type "list", data := .seq vs.toArray } ∧ IntsAre vs ns ∧ ns.length ≤ n := by
  have hsh : WShape.hasAll [] args [.list .int] = true := (pre_splitW hpre).1
  have hc : l.pre.holds [] { args := args } = true := (pre_splitW hpre).2
  obtain ⟨d, r, rfl, h1, h2⟩ := hasAllW_cons hsh
  obtain rfl := hasAllW_nil h2
  obtain ⟨xs, rfl, h3⟩ := hasW_list h1
  obtain ⟨ns, rfl⟩ := items_int h3
  have hlen : ns.length ≤ n := by
    unfold OpenLaw.pre at hc
    have h4 : (WTm.not (.lt (.lit (.int (n : Int))) (.len (.arg 0)))).holds [] { args := [.list (ns.map .int)] } = true := by
      have h4 := (holds_andW hc).1
      rw [hn] at h4
      exact h4
    have h5 := condW_of h4 (w_not (w_lt w_lit (w_len_list (w_arg rfl))))
    rw [List.length_map] at h5
    refine Nat.le_of_not_lt fun q => ?_
    have q' : (n : Int) < ((ns.length : Nat) : Int) := by omega
    first
      | (rw [decide_eq_true q'] at h5; exact absurd h5 (by decide))
      | (simp at h5; omega)
  cases hwl with
  | cons w1 w2 =>
    cases w2
    cases w1 with
    | list ho hall => exact ⟨_, _, ns, rfl, rfl, ho, ints_of_wellAll ns _ hall, hlen⟩

theorem post_true (l : OpenLaw) (args : List WData) : l.row.toRowW.claim.post args (.bool true) args = true :=
  postW_of (r := l.row.toRowW) (X := (true == true))
    (show WShape.has [] (.bool true) .bool = true by first | rfl | decide | simp [WShape.has, WShape.arms, WShape.armsAll])
    (show (WTm.eq .res (.lit (.bool true))).value [] { args := args, res := some (.bool true), after := args } = some (.bool (true == true)) from w_eq_bool (w_res rfl) w_lit) rfl

/-- the same from a codeAny of the CALL (for a layer whose function contracts speak of calls) -/
theorem attach_call {l : OpenLaw} {n : Nat} {q : Program} {loose : List Str} {XP : (Str → Option Value) → Heap → Prop} {YP : World → Heap → Prop} {d : DefRec}
    (hn : l.most = some n) (hdf : d.params.defaults = [])
    (call : ∀ (w : World) (s₀ s₁ : Shared) (mg mb : Str → Option Value) (fa : Addr) (o : Obj) (pm cd doc : Value) (a : Addr) (vs : List Value) (ns : List Int),
      Ground q loose [] XP w s₀ mg mb s₁.heap → YP w s₁.heap →
      s₁.heap.get? fa = some o → o.data = .func (docDef d.name d.params d.body d.scope pm cd doc) → s₁.heap.CodeRec cd d.name → mg d.name = some (.ref fa) →
      s₁.heap.get? a = some { cls := .type "list", data := .seq vs.toArray } → IntsAre vs ns → ns.length ≤ n → s₁.gens = #[] →
      codeAny (model l.prog w) callerA (.call (.ref fa) ⟨[.ref a], []⟩) (fun r s' => r = .ok (.ret (.bool true)) ∧ OldK s₁.heap s'.heap ∧ s'.os = s₁.os ∧ AllBare s'.gens) s₁) :
    WalkO q loose XP YP l.row.toRowW d [] (fun f vs => PySem.call f vs) := by
  intro w s₀ s₁ mg mb G Y fa o pm cd doc dV kV ho hd hcd hD hmg hg args vals as hpre hlay hrd hwl hlo
  obtain rfl : dV = .none := Dflts.none hD hdf
  obtain rfl : kV = .none := Dflts.noKw hD
  obtain ⟨a, vs, ns, rfl, rfl, hobj, hints, hlen⟩ := script_of hn hpre hwl
  refine enter_call (codeAny_mono (call w s₀ s₁ mg mb fa o pm cd doc a vs ns G Y ho (fd_plain hd) hcd hmg hobj hints hlen hg) fun r s' hq => ?_)
  obtain ⟨rfl, h2, h3, h4⟩ := hq
  exact ⟨.inl ⟨.bool true, .bool true, [], rfl, fun _ => rfl, .bool true, post_true l _, fun _ => ⟨List.Pairwise.nil, fun _ hm => (nomatch hm)⟩⟩, h2, h3, h4⟩

section
variable {prog : Program} {w : World} {A : Around} {E : Value → Shared → Prop} {s : Shared} {K : Frag}

end
end Att

namespace L2
open PySem PySem.Spec PyProof.Rows

theorem vals_ints : ∀ {vs : List Value} {ns : List Int}, IntsAre vs ns → Vals (ns.map V.int) vs
  | _, _, .nil => .nil
  | _, _, .cons n t h => .cons ⟨t, rfl⟩ (vals_ints h)

/-- nothing is tracked but the script, known to the object (or it is an object of the module) -/
def Only (H : Hp) : Prop := ∀ b, H b = none ∨ ∃ o xs, H b = some (.frz o (.lst xs))

/-- THE HEAD: the law's promise, at the heap behind the top. F, the promise of the law's def, may use that base is part of the heap (so K.In base, base.Ns mainGlobals mg stand in Mod) -/
theorem law_call {P : Program} {w : World} {K : PySem.W.Frag} {mg mb : Str → Option Value} {CX : CXT} {k : Nat} {fa a : Addr} {fd : FuncData} {x : Str} {sp : Sp} {s₁ : Shared} {vs : List Value} {ns : List Int}
    (KX : K.In s₁.heap) (hns : s₁.heap.Ns mainGlobals mg) (hb : s₁.heap.Ns builtinsNs mb) (hbb : ∀ x : Str, x ≠ "__name__" → mb x = bootBuiltins x) (hlim : s₁.heap.NoLimit) (hg : s₁.gens = #[])
    (ha : s₁.heap.get? a = some { cls := .type "list", data := .seq vs.toArray }) (hi : IntsAre vs ns) (hl : ns.length ≤ sizeLine) (hr : Room k callerA)
    (F : ∀ base : Heap, K.In base → base.Ns mainGlobals mg → FnOk P w K mg base CX k fa fd [x] sp) (hbind : ∀ (s : Shared) (u : Value), BindsTo s fd ⟨[u], []⟩ [(x, u)])
    (hsp : ∀ H : Hp, Only H → SqL K H a (ns.map V.int) → sp [.ref a] H (fun v _ => v = .bl true) fun _ _ _ => False)
    (hCX : ∀ H e s', CX [] H s₁ (fun _ _ _ => False) e s' → False) :
    codeAny (model P w) callerA (.call (.ref fa) ⟨[.ref a], []⟩) (fun r s' => r = .ok (.ret (.bool true)) ∧ OldK s₁.heap s'.heap ∧ s'.os = s₁.os ∧ AllBare s'.gens) s₁ := by
  have rv := vals_ints hi
  have lenV := hi.length
  -- from an abstract heap in which nothing but the script may be tracked
  have core : ∀ H : Hp, Only H → SqL K H a (ns.map V.int) → HOk P w H s₁.heap → (∀ b, H b ≠ none → b = a) → (H a ≠ none → K.lookup a = none) →
      codeAny (model P w) callerA (.call (.ref fa) ⟨[.ref a], []⟩) (fun r s' => r = .ok (.ret (.bool true)) ∧ OldK s₁.heap s'.heap ∧ s'.os = s₁.os ∧ AllBare s'.gens) s₁ := by
    intro H hO hS hok hA hK
    have base_of : ∀ {b : Addr} {o : Obj}, s₁.heap.get? b = some o → H b = none → (hidT s₁.heap H).get? b = some o := fun e n => hidT_get e n
    have noA : ∀ {b : Addr} {o : Obj} {es : Array DictEntry} {ep : Nat}, s₁.heap.get? b = some o → o.data = .dict es ep → H b = none := fun {b o es ep} e d => by
      cases q : H b with
      | none => rfl
      | some u =>
        have e' : b = a := hA b (by rw [q]; simp)
        subst e'
        rw [ha] at e; cases e
        have d' : Data.seq vs.toArray _ = Data.dict es ep := d
        cases d'
    have nsK : ∀ {b : Addr} {m : Str → Option Value}, s₁.heap.Ns b m → (hidT s₁.heap H).Ns b m := fun {b m} ⟨o, es, ep, e, d, r⟩ => ⟨o, es, ep, base_of e (noA e d), d, r⟩
    have hKb : K.In (hidT s₁.heap H) := fun b o e => base_of (KX b o e) (by
      cases q : H b with
      | none => rfl
      | some u =>
        have e' : b = a := hA b (by rw [q]; simp)
        subst e'
        rw [hK (by rw [q]; simp)] at e; cases e)
    have hM : Mod K mg (hidT s₁.heap H) := ⟨hKb, nsK hns, ⟨mb, nsK hb, hbb⟩, let ⟨mc, h1, h2⟩ := hlim; ⟨mc, nsK h1, h2⟩⟩
    have e0 : Env0 P w K mg (hidT s₁.heap H) callerA [] s₁ H := ⟨rfl, hM, fun b o e => of_hidT e, Nat.le_of_eq (hidT_size _ _), trivial, fun b hb => absurd (show b ∈ ([] : List Addr) from hb) (by simp), hok, .of_eq hg⟩
    refine codeAny_mono ((F _ hKb (nsK hns)).run callerA [] s₁ H ⟨[.ref a], []⟩ [.ref a] [.ref a] _ _ hr e0 (hbind s₁ (.ref a)) (.cons rfl .nil) (hsp H hO hS)) fun r s' h => ?_
    cases r with
    | error e => exact (hCX H e s' h).elim
    | ok fl =>
      cases fl with
      | next => exact False.elim h
      | brk => exact False.elim h
      | cont => exact False.elim h
      | ret u =>
        obtain ⟨v, H', os, bare, un, hok', r', q⟩ := h
        have q' : v = .bl true := q
        subst q'
        obtain rfl : u = Value.bool true := r'
        refine ⟨rfl, OldK.of_keep fun b o e => ?_, os, bare⟩
        cases q : H b with
        | none => exact un.keep b o e q (by intro z; exact absurd (show b ∈ ([] : List Addr) from z) (by simp)) (by simp)
        | some u =>
          rcases hO b with z | ⟨ob, xs, z⟩
          · rw [q] at z; cases z
          · have z2 := un.frzs b ob _ z
            obtain ⟨e1, _⟩ := hok b _ z
            obtain ⟨e2, _⟩ := hok' b _ z2
            rw [e] at e1; cases e1
            exact e2
  cases hk : K.lookup a with
  | some o =>
    -- the script is one of the module's own objects
    have e := KX a o hk
    rw [ha] at e
    cases e
    refine core (fun _ => none) (fun _ => .inl rfl) (.inr ⟨_, vs.toArray, _, hk, rfl, rfl, rfl, by rw [List.size_toArray, lenV]; exact hl, by simpa using rv⟩) (fun b u z => by have z' : (none : Option HO) = some u := z; cases z') (fun b z => absurd rfl z) fun z => absurd rfl z
  | none =>
    refine core (fun b => if b = a then some (.frz { cls := .type "list", data := .seq vs.toArray } (.lst (ns.map V.int))) else none) (fun b => ?_) (.inl (.inr ⟨{ cls := .type "list", data := .seq vs.toArray }, if_pos rfl⟩)) (fun b u z => ?_) (fun b z => ?_) fun _ => hk
    · by_cases hb : b = a
      · exact .inr ⟨_, _, if_pos hb⟩
      · exact .inl (if_neg hb)
    · by_cases hb : b = a
      · have z' := (if_pos hb).symm.trans z
        cases z'
        subst hb
        exact ⟨ha, by rw [List.length_map]; exact hl, vs, _, rv, ha⟩
      · have z' := (if_neg hb).symm.trans z
        cases z'
    · by_cases hb : b = a
      · exact hb
      · exact absurd (if_neg hb) z
end L2

namespace L2
open PySem PySem.Spec PyProof.Rows

abbrev KOf {K : PySem.W.Frag} {h : Heap} (_ : K.In h) : PySem.W.Frag := K

/-- the goal that k_head leaves (case hc), from the law's promise. F gives the function object fd (K's own) once, then the promise over every base -/
theorem walk_of {l : PySem.W.OpenLaw} {n k : Nat} {q : Program} {loose : List Str} {XP : (Str → Option Value) → Heap → Prop} {YP : World → Heap → Prop} {d : DefRec} {K : Params → PySem.W.Frag} {CX : World → CXT} {sp : World → Sp} {x : Str}
    (hn : l.most = some n) (hn2 : n ≤ sizeLine) (hdf : d.params.defaults = []) (hr : Room k callerA)
    (hY : ∀ (w : World) (h : Heap), YP w h → (K w.params).In h)
    (F : ∀ (w : World) (mg : Str → Option Value) (fa : Addr) (h : Heap), (K w.params).In h → h.Ns mainGlobals mg → mg d.name = some (.ref fa) →
      ∃ fd : FuncData, (∀ (s : Shared) (u : Value), BindsTo s fd ⟨[u], []⟩ [(x, u)]) ∧
        ∀ base : Heap, (K w.params).In base → base.Ns mainGlobals mg → FnOk l.prog w (K w.params) mg base (CX w) k fa fd [x] (sp w))
    (hsp : ∀ (w : World) (H : Hp) (a : Addr) (ns : List Int), ns.length ≤ n → Only H → SqL (K w.params) H a (ns.map V.int) → sp w [.ref a] H (fun v _ => v = .bl true) fun _ _ _ => False)
    (hCX : ∀ (w : World) (H : Hp) (s : Shared) (e : Value) (s' : Shared), CX w [] H s (fun _ _ _ => False) e s' → False) :
    PySem.W.WalkO q loose XP YP l.row.toRowW d [] (fun f vs => PySem.call f vs) := by
  refine Att.attach_call hn hdf fun w s₀ s₁ mg mb fa o pm cd doc a vs ns G Y ho hd hcd hmg hobj hints hlen hg => ?_
  have KX := hY w _ Y
  obtain ⟨fd, hb, hF⟩ := F w mg fa _ KX G.T.g hmg
  exact law_call KX G.T.g G.T.b G.T.builtins G.T.nolimit hg hobj hints (Nat.le_trans hlen hn2) hr hF hb (fun H hO hS => hsp w H a ns hlen hO hS) fun H e s' => hCX w H s₁ e s'
end L2

/- THE LAST THEOREM (shape; LID, My.* are yours):
   My.Adr: a structure of the addresses that your layer names (classes, functions); My.Txt K t: a structure (Prop) of the equations over K;
   My.txt_mk : {K} {implicit addresses ..} (e1 : nsIn K mainGlobals "law" = some (some (.ref f))) (e2 : K.lookup f = some ⟨oc, od, .func (fnOf "law" "law" params body scope dV kV doc pm an cdv ct), sl⟩) (e3 : codeIn K cdv "law" = true) .. : ∃ t, My.Txt K t

set_option maxRecDepth 100000 in
set_option maxHeartbeats 0 in
theorem PySem.Challenge.cw_LID_holds : PySem.Challenge.rw_LID.Holds := by
  w_on; o_law; k_head; (case hw => w_witness2)
  k_fill
  refine L2.walk_of (l := PySem.Challenge.rw_LID) (n := 63) (k := 40) (x := "script") (CX := fun w => ..) (sp := fun _ => My.sp_law) rfl (by decide) rfl ⟨rfl, by decide, by decide⟩ (fun w h Y => PySem.W.kIn_of Y) ?F ?S ?C
  case F =>
    intro w mg fa h KX G hmg
    have T : ∃ t, My.Txt (L2.KOf KX) t := by
      dsimp only [L2.KOf]                          -- K must stand as «<heap const> w.params» for k_is
      refine' My.txt_mk ?e1 ?e2 ?e3 ..
      (case e1 => PySem.W.k_is)                    -- in the order: a name -> its address -> its object -> its parts
      (case e2 => PySem.W.k_is)
      ..
    obtain ⟨t, T⟩ := T
    have e0 := hmg.symm.trans (PySem.W.mg_of KX G T.law)
    cases e0                                       -- fa is the law's own address
    exact ⟨_, fun s u => .of_eq rfl, fun base kb nb => My.law_fn T kb nb⟩     -- if «.of_eq rfl» comes too early: refine' ⟨_, ?b, fun base kb nb => My.law_fn T kb nb⟩; exact fun s u => .of_eq rfl
  case S => exact fun w H a ns hl hO hS => ..
  case C => exact ..
(the tactic k_is has no namespace: write k_is) -/

namespace L2
open PySem PySem.Spec PyProof.Rows

def defArgs (s : Stmt) : Arguments := match s with
  | .FunctionDef _ a _ _ _ _ _ _ _ _ => a
  | _ => { posonlyargs := [], args := [], vararg := none, kwonlyargs := [], kw_defaults := [], kwarg := none, defaults := [] }
def defBody (s : Stmt) : List Stmt := match s with
  | .FunctionDef _ _ b _ _ _ _ _ _ _ => b
  | _ => []
def defScope (s : Stmt) : Scope := match s with
  | .FunctionDef _ _ _ _ _ _ sc _ _ _ => sc
  | _ => { kind := .function, names := [], isGenerator := false, isCoroutine := false }

abbrev CX0 : CXT := fun _ _ _ _ _ _ => False
abbrev E0 : XK := fun _ _ _ => False
theorem pass0 {X : Cx} : Passes CX0 X E0 := fun _ _ _ _ _ _ _ h => h.elim

structure Fun (K : PySem.W.Frag) (x qual : Str) (st : Stmt) (f : Addr) (fd : FuncData) : Prop where
  ex : ∃ (oc : Value) (od : Option Addr) (kV doc pm : Value) (an : Option Addr) (cdv ct : Value) (osl : Array (Option Value)),
    fd = PySem.W.fnOf x qual (defArgs st) (defBody st) (defScope st) .none kV doc pm an cdv ct ∧ K.lookup f = some ⟨oc, od, .func fd, osl⟩ ∧ PySem.W.codeIn K cdv qual = true
  kp : PySem.W.keepIn K (.ref f) = true
section
variable {P : Program} {w : World} {K : PySem.W.Frag} {mg : Str → Option Value} {base : Heap}
/-- THE RULE for a def: its body as a term of rules, and the reading of that term -/
theorem Fun.ok {x qual : Str} {st : Stmt} {f : Addr} {fd : FuncData} {N ps : List Str} {k : Nat} {sp : Sp} (F : Fun K x qual st f fd) (S : FnScope N ps (defScope st)) (len : ∀ vs H Q E, sp vs H Q E → vs.length = ps.length)
    (hbody : ∀ (cdv : Value) (A : Around) (outer : List Env) (s : Shared) (H : Hp) (vs : List V) (Q : VK) (E : XK), Room k (A.deeper (envOfC qual (defScope st) s.heap.objs.size f cdv)) → sp vs H Q E →
      ∃ t, PSs (cxOf CX0 P w K mg base N qual (defScope st) f cdv A outer s H E).nox (defBody st) t ∧ t { nx := fun _ H' => Q .non H', rt := Q } (start N vs) H) : FnOk P w K mg base CX0 (k + 1) f fd ps sp := by
  obtain ⟨oc, od, kV, doc, pm, an, cdv, ct, osl, rfl, lk, hcd⟩ := F.ex
  refine fn_of lk hcd S len fun A outer s H vs Q E hr hsp => ?_
  obtain ⟨t, h, q⟩ := hbody cdv A outer s H vs Q E hr hsp
  exact ⟨t, h.nox, q⟩
/-- how its arguments bind (no defaults): h is «fun _ _ _ _ _ _ us hl => match us, hl with | [_, _], _ => rfl», one _ a parameter -/
theorem Fun.binds {x qual : Str} {st : Stmt} {f : Addr} {fd : FuncData} {ps : List Str} (F : Fun K x qual st f fd)
    (h : ∀ (kV doc pm : Value) (an : Option Addr) (cdv ct : Value) (us : List Value), us.length = ps.length → bindArgs (PySem.W.fnOf x qual (defArgs st) (defBody st) (defScope st) .none kV doc pm an cdv ct) ⟨us, []⟩ = pure (ps.zip us)) : Binds K fd ps [] := by
  obtain ⟨oc, od, kV, doc, pm, an, cdv, ct, osl, rfl, lk, hcd⟩ := F.ex
  exact .all (h kV doc pm an cdv ct)
theorem fun_mk {x qual : Str} {st : Stmt} {f : Addr} {oc : Value} {od an : Option Addr} {osl : Array (Option Value)} {kV doc pm cdv ct : Value} (l : K.lookup f = some ⟨oc, od, .func (PySem.W.fnOf x qual (defArgs st) (defBody st) (defScope st) .none kV doc pm an cdv ct), osl⟩)
    (c : PySem.W.codeIn K cdv qual = true) (k : PySem.W.keepIn K (.ref f) = true) : Fun K x qual st f (PySem.W.fnOf x qual (defArgs st) (defBody st) (defScope st) .none kV doc pm an cdv ct) := ⟨⟨oc, od, kV, doc, pm, an, cdv, ct, osl, rfl, l, c⟩, k⟩
end
theorem hu_of {A : Around} {k : Nat} (hr : Room k A) : A.units + 1 < cLine := Nat.lt_of_le_of_lt (Nat.add_le_add_left (by decide : 1 ≤ 64) _) hr.units
section
variable {X : Cx}
theorem pv (i : Nat) {x : Str} {pos : Pos} (hN : X.N[i]? = some x := by rfl) (hv : Vis X.env.scope x := by first | exact Or.inl rfl | exact Or.inr (Or.inl rfl) | exact Or.inr (Or.inr rfl)) (hd : (x == ("__debug__" : Str)) = false := by decide)
    (hcd : (x == ("__classdict__" : Str)) = false := by decide) : PE X (.Name x pos) (tVar i) := pe_var hN hv hd hcd
end

/-- all that was tracked is as it was -/
def Same (H H' : Hp) : Prop := ∀ b o, H b = some o → H' b = some o
theorem Same.refl (H : Hp) : Same H H := fun _ _ h => h
theorem Same.trans {H H1 H2 : Hp} (a : Same H H1) (b : Same H1 H2) : Same H H2 := fun c o h => b c o (a c o h)
theorem Same.free {H H' : Hp} (e : Same H H') {l : Addr} (h : H' l = Option.none) : H l = Option.none := by
  cases q : H l with
  | none => rfl
  | some o =>
    rw [e l o q] at h
    cases h
theorem Same.seq {K : PySem.W.Frag} {H H' : Hp} {a : Addr} {xs : List V} (e : Same H H') (h : SqL K H a xs) : SqL K H' a xs := by
  rcases h with (h | ⟨o, h⟩) | h
  · exact .inl (.inl (e _ _ h))
  · exact .inl (.inr ⟨o, e _ _ h⟩)
  · exact .inr h

section
variable {κ : Type} [DecidableEq κ]
end
theorem at_of {xs : List V} {z : Int} {j : Nat} {v : V} (e : z = (j : Int)) (h : xs[j]? = some v) : atI xs z = some v := by
  rw [e]
  exact atI_nat h
/-- a new instance and its __init__ leave all that was tracked as it was -/
theorem Same.made {H H1 : Hp} {x dx C : Addr} (nx : H x = Option.none) (nd : H dx = Option.none) (k : ∀ b o, (upd (upd H dx (.own x)) x (.ins C dx [])) b = some o → b ≠ x → H1 b = some o) : Same H H1 := fun b o e =>
  k b o (by rw [upd_ne (ne_of_none e nx), upd_ne (ne_of_none e nd)]; exact e) (ne_of_none e nx)
end L2
section
set_option maxHeartbeats 2000000
namespace L2
open PySem PySem.Spec PyProof.Rows
open PySem.W (WData Codec OpenSpec Well WellAll ReadsW ReadsAllW)
mutual
/-- x stands for the datum d, lists and tuples all the way -/
inductive Dw (K : PySem.W.Frag) (H : Hp) : V → WData → Prop
  | non : Dw K H .non .none
  | bl (b : Bool) : Dw K H (.bl b) (.bool b)
  | int (i : Int) : Dw K H (.int i) (.int i)
  | str (x : Str) : Dw K H (.str x) (.str x)
  | byt (b : Array UInt8) : Dw K H (.byt b) (.bytes b.toList)
  | lst {a : Addr} {xs : List V} {ds : List WData} : SqL K H a xs → DwAll K H xs ds → Dw K H (.ref a) (.list ds)
  | tup {a : Addr} {xs : List V} {ds : List WData} : SqT K H a xs → DwAll K H xs ds → Dw K H (.ref a) (.tuple ds)
inductive DwAll (K : PySem.W.Frag) (H : Hp) : List V → List WData → Prop
  | nil : DwAll K H [] []
  | cons {v : V} {vs : List V} {d : WData} {ds : List WData} : Dw K H v d → DwAll K H vs ds → DwAll K H (v :: vs) (d :: ds)
end
theorem dw_ints {K : PySem.W.Frag} {H : Hp} : ∀ ns : List Int, DwAll K H (ns.map V.int) (ns.map WData.int)
  | [] => .nil
  | n :: r => .cons (.int n) (dw_ints r)
section
variable {P : Program} {w : World} {K : PySem.W.Frag} {H : Hp} {h : Heap} {R : PySem.W.WRecords} {cl : Str → Option Addr}
theorem sqL_at {a : Addr} {xs : List V} (hok : HOk P w H h) (KX : K.In h) (q : SqL K H a xs) : ∃ (its : List Value) (o : Obj) (n : Nat), Vals xs its ∧ h.get? a = some o ∧ o.cls = .type "list" ∧ o.data = .seq its.toArray n := by
  rcases q with q | ⟨o, its, n, e, hc, _, hd, _, hv⟩
  · obtain ⟨_, its, n, hv, e⟩ := (show ObjOk P w H h a (.lst xs) from q.ok hok)
    exact ⟨its, _, n, hv, e, rfl, rfl⟩
  · exact ⟨its.toList, o, n, hv, KX _ _ e, hc, by simp [hd]⟩
theorem sqT_at {a : Addr} {xs : List V} (hok : HOk P w H h) (KX : K.In h) (q : SqT K H a xs) : ∃ (its : List Value) (o : Obj) (n : Nat), Vals xs its ∧ h.get? a = some o ∧ o.cls = .type "tuple" ∧ o.data = .seq its.toArray n := by
  rcases q with q | ⟨o, its, n, e, hc, hd, _, hv⟩
  · obtain ⟨_, its, hv, o, e, hc, n, hd⟩ := (show ObjOk P w H h a (.tup xs) from q.ok hok)
    exact ⟨its, o, n, hv, e, hc, hd⟩
  · exact ⟨its.toList, o, n, hv, KX _ _ e, hc, by simp [hd]⟩
mutual
theorem Dw.reads (hok : HOk P w H h) (KX : K.In h) : ∀ (d : WData) (v : V) (u : Value), Dw K H v d → RelV v u → ∃ as, ReadsW R cl h u d as
  | .none, _, _, x, r => by
    cases x
    cases r
    exact ⟨_, ReadsW.none⟩
  | .bool b, _, _, x, r => by
    cases x
    cases r
    exact ⟨_, ReadsW.bool b⟩
  | .int i, _, _, x, r => by
    cases x
    obtain ⟨t, rfl⟩ := r
    exact ⟨_, ReadsW.int i t⟩
  | .str s, _, _, x, r => by
    cases x
    obtain ⟨t, rfl⟩ := r
    exact ⟨_, ReadsW.str s t⟩
  | .bytes b, _, _, x, r => by
    cases x
    obtain ⟨t, rfl⟩ := r
    exact ⟨_, ReadsW.bytes _ t⟩
  | .list ds, _, _, x, r => by
    cases x with
    | lst hs ha =>
      cases r
      obtain ⟨its, o, n, rv, ho, hc, hd⟩ := sqL_at hok KX hs
      obtain ⟨as, hr⟩ := Dw.readsAll hok KX ds _ its ha rv
      exact ⟨_, ReadsW.list ho hc hd hr⟩
  | .tuple ds, _, _, x, r => by
    cases x with
    | tup hs ha =>
      cases r
      obtain ⟨its, o, n, rv, ho, hc, hd⟩ := sqT_at hok KX hs
      obtain ⟨as, hr⟩ := Dw.readsAll hok KX ds _ its ha rv
      exact ⟨_, ReadsW.tuple ho hc hd hr⟩
  | .float _, _, _, x, _ => by cases x
  | .dict _, _, _, x, _ => by cases x
  | .bytearray _, _, _, x, _ => by cases x
  | .set _, _, _, x, _ => by cases x
  | .frozenset _, _, _, x, _ => by cases x
  | .obj _ _, _, _, x, _ => by cases x
theorem Dw.readsAll (hok : HOk P w H h) (KX : K.In h) : ∀ (ds : List WData) (vs : List V) (us : List Value), DwAll K H vs ds → Vals vs us → ∃ as, ReadsAllW R cl h us ds as
  | [], _, _, x, r => by
    cases x
    cases r
    exact ⟨_, ReadsAllW.nil⟩
  | d :: ds, _, _, x, r => by
    cases x with
    | cons h1 h2 =>
      cases r with
      | cons r1 r2 =>
        obtain ⟨as, q1⟩ := Dw.reads hok KX d _ _ h1 r1
        obtain ⟨bs, q2⟩ := Dw.readsAll hok KX ds _ _ h2 r2
        exact ⟨_, ReadsAllW.cons q1 q2⟩
end
end
mutual
/-- data that a codec tells -/
def plW : WData → Bool
  | .none => true
  | .bool _ => true
  | .int _ => true
  | .str _ => true
  | .bytes _ => true
  | .list xs => plWs xs
  | .tuple xs => plWs xs
  | _ => false
def plWs : List WData → Bool
  | [] => true
  | x :: r => plW x && plWs r
end
theorem plWs_map {α : Type} {f : α → WData} (h : ∀ a, plW (f a) = true) : ∀ l : List α, plWs (l.map f) = true
  | [] => rfl
  | x :: r => by
    show (plW (f x) && plWs (r.map f)) = true
    rw [h x, plWs_map h r] <;> rfl
theorem pl_enc : ∀ (c : Codec) (a : c.denote), plW (c.enc a) = true
  | .unit, _ => rfl
  | .bool, _ => rfl
  | .int _ _, _ => rfl
  | .nat _ _, _ => rfl
  | .u8, _ => rfl
  | .bytes _ _, _ => rfl
  | .text _ _ _ _, _ => rfl
  | .list _ _ c, a => plWs_map (fun x => pl_enc c x) a
  | .pair c d, a => by
    show (plW (c.enc a.1) && (plW (d.enc a.2) && true)) = true
    rw [pl_enc c a.1, pl_enc d a.2] <;> rfl
  | .triple c d e, a => by
    show (plW (c.enc a.1) && (plW (d.enc a.2.1) && (plW (e.enc a.2.2) && true))) = true
    rw [pl_enc c a.1, pl_enc d a.2.1, pl_enc e a.2.2] <;> rfl
  | .option c, none => rfl
  | .option c, some x => pl_enc c x
theorem pl_encAll : ∀ (cs : List Codec) (a : Codec.denoteAll cs), plWs (Codec.encAll cs a) = true
  | [], _ => rfl
  | c :: cs, a => by
    show (plW (c.enc a.1) && plWs (Codec.encAll cs a.2)) = true
    rw [pl_enc c a.1, pl_encAll cs a.2] <;> rfl
theorem weight_mem : ∀ {xs : List WData} {d : WData}, d ∈ xs → d.weight ≤ WData.weightAll xs
  | [], d, h => absurd h (by simp)
  | x :: r, d, h => by
    show d.weight ≤ x.weight + 1 + WData.weightAll r
    rcases List.mem_cons.mp h with e | m
    · rw [e]
      omega
    · have z := weight_mem m
      omega
def toV : Value → V
  | .none => .non
  | .bool b => .bl b
  | .int i _ => .int i
  | .str x _ => .str x
  | .bytes b _ => .byt b
  | .ref a => .ref a
  | _ => .non
/-- a value of the arguments, its objects among A -/
def OkU (A : List Addr) : Value → Prop
  | .none => True
  | .bool _ => True
  | .int _ _ => True
  | .str _ _ => True
  | .bytes _ _ => True
  | .ref a => a ∈ A
  | _ => False
theorem OkU.mono {A B : List Addr} (h : ∀ a ∈ A, a ∈ B) : ∀ {u : Value}, OkU A u → OkU B u := fun {u} x => by
  cases u with
  | ref a => exact h a x
  | none => trivial
  | bool b => trivial
  | int i t => trivial
  | str s t => trivial
  | bytes b t => trivial
  | _ => exact False.elim x
theorem relV_toV {A : List Addr} {u : Value} (x : OkU A u) : RelV (toV u) u := by
  cases u with
  | ref a => rfl
  | none => rfl
  | bool b => rfl
  | int i t => exact ⟨t, rfl⟩
  | str s t => exact ⟨t, rfl⟩
  | bytes b t => exact ⟨t, rfl⟩
  | _ => exact False.elim x
theorem vals_toV {A : List Addr} : ∀ {vs : List Value}, (∀ u ∈ vs, OkU A u) → Vals (vs.map toV) vs
  | [], _ => .nil
  | u :: r, h => .cons (relV_toV (h u (List.mem_cons_self ..))) (vals_toV fun x hx => h x (List.mem_cons_of_mem _ hx))
/-- an object of the arguments -/
def ArgOb (h : Heap) (A : List Addr) (a : Addr) : Prop := ∃ vs : List Value, vs.length ≤ sizeLine ∧ (∀ u ∈ vs, OkU A u) ∧
  (h.get? a = some { cls := .type "list", data := .seq vs.toArray } ∨ h.get? a = some { cls := .type "tuple", data := .seq vs.toArray })
theorem ArgOb.mono {h : Heap} {A B : List Addr} {a : Addr} (k : ∀ a ∈ A, a ∈ B) (x : ArgOb h A a) : ArgOb h B a := by
  obtain ⟨vs, h1, h2, h3⟩ := x
  exact ⟨vs, h1, fun u hu => (h2 u hu).mono k, h3⟩
theorem wellAll_len {P : Params} {h : Heap} : ∀ {vs : List Value} {ds : List WData}, WellAll P h vs ds → vs.length = ds.length
  | _, _, .nil => rfl
  | _, _, .cons _ b => by
    show _ + 1 = _ + 1
    rw [wellAll_len b]
theorem well_list {P : Params} {h : Heap} {v : Value} {ds : List WData} (x : Well P h v (.list ds)) : ∃ (a : Addr) (vs : List Value), v = .ref a ∧ h.get? a = some { cls := .type "list", data := .seq vs.toArray } ∧ WellAll P h vs ds := by
  cases x with
  | list ho hall => exact ⟨_, _, rfl, ho, hall⟩
theorem well_tuple {P : Params} {h : Heap} {v : Value} {ds : List WData} (x : Well P h v (.tuple ds)) : ∃ (a : Addr) (vs : List Value), v = .ref a ∧ h.get? a = some { cls := .type "tuple", data := .seq vs.toArray } ∧ WellAll P h vs ds := by
  cases x with
  | tuple ho hall => exact ⟨_, _, rfl, ho, hall⟩
theorem well_cons {P : Params} {h : Heap} {us : List Value} {d : WData} {ds : List WData} (x : WellAll P h us (d :: ds)) : ∃ (v : Value) (vs : List Value), us = v :: vs ∧ Well P h v d ∧ WellAll P h vs ds := by
  cases x with
  | cons a b => exact ⟨_, _, rfl, a, b⟩
theorem line_of {n : Nat} (h : n ≤ 1048576) : n ≤ sizeLine := Nat.le_trans h (by decide)
section
variable {P : Params} {h : Heap}
mutual
theorem area_one : ∀ (d : WData) (v : Value), Well P h v d → plW d = true → d.weight ≤ 1048576 → ∃ A : List Addr, OkU A v ∧ ∀ a ∈ A, ArgOb h A a
  | .none, _, x, _, _ => by
    cases x
    exact ⟨[], trivial, fun a m => absurd m (by simp)⟩
  | .bool b, _, x, _, _ => by
    cases x
    exact ⟨[], trivial, fun a m => absurd m (by simp)⟩
  | .int i, _, x, _, _ => by
    cases x
    exact ⟨[], trivial, fun a m => absurd m (by simp)⟩
  | .str s, _, x, _, _ => by
    cases x
    exact ⟨[], trivial, fun a m => absurd m (by simp)⟩
  | .bytes b, _, x, _, _ => by
    cases x
    exact ⟨[], trivial, fun a m => absurd m (by simp)⟩
  | .list ds, _, x, p, z => by
    obtain ⟨a, vs, rfl, ho, hall⟩ := well_list x
    have z2 : WData.weightAll ds ≤ 1048576 := z
    obtain ⟨A, h1, h2⟩ := area_all ds _ hall p fun d hd => Nat.le_trans (weight_mem hd) z2
    have k : ∀ b ∈ A, b ∈ a :: A := fun b hb => List.mem_cons_of_mem _ hb
    refine ⟨a :: A, List.mem_cons_self .., fun b hb => ?_⟩
    rcases List.mem_cons.mp hb with e | m
    · rw [e]
      exact ⟨vs, line_of (by rw [wellAll_len hall]; exact Nat.le_trans (PySem.W.length_le_weightAllW ds) z2), fun u hu => (h1 u hu).mono k, .inl ho⟩
    · exact (h2 b m).mono k
  | .tuple ds, _, x, p, z => by
    obtain ⟨a, vs, rfl, ho, hall⟩ := well_tuple x
    have z2 : WData.weightAll ds ≤ 1048576 := z
    obtain ⟨A, h1, h2⟩ := area_all ds _ hall p fun d hd => Nat.le_trans (weight_mem hd) z2
    have k : ∀ b ∈ A, b ∈ a :: A := fun b hb => List.mem_cons_of_mem _ hb
    refine ⟨a :: A, List.mem_cons_self .., fun b hb => ?_⟩
    rcases List.mem_cons.mp hb with e | m
    · rw [e]
      exact ⟨vs, line_of (by rw [wellAll_len hall]; exact Nat.le_trans (PySem.W.length_le_weightAllW ds) z2), fun u hu => (h1 u hu).mono k, .inr ho⟩
    · exact (h2 b m).mono k
  | .float _, _, _, p, _ => Bool.noConfusion (show false = true from p)
  | .dict _, _, _, p, _ => Bool.noConfusion (show false = true from p)
  | .bytearray _, _, _, p, _ => Bool.noConfusion (show false = true from p)
  | .set _, _, _, p, _ => Bool.noConfusion (show false = true from p)
  | .frozenset _, _, _, p, _ => Bool.noConfusion (show false = true from p)
  | .obj _ _, _, _, p, _ => Bool.noConfusion (show false = true from p)
theorem area_all : ∀ (ds : List WData) (vs : List Value), WellAll P h vs ds → plWs ds = true → (∀ d ∈ ds, d.weight ≤ 1048576) → ∃ A : List Addr, (∀ u ∈ vs, OkU A u) ∧ ∀ a ∈ A, ArgOb h A a
  | [], _, x, _, _ => by
    cases x
    exact ⟨[], fun u m => absurd m (by simp), fun a m => absurd m (by simp)⟩
  | d :: ds, _, x, p, z => by
    obtain ⟨v, vs, rfl, x1, x2⟩ := well_cons x
    have q : plW d = true ∧ plWs ds = true := Bool.and_eq_true_iff.mp p
    obtain ⟨A, a1, a2⟩ := area_one d v x1 q.1 (z d (List.mem_cons_self ..))
    obtain ⟨B, b1, b2⟩ := area_all ds vs x2 q.2 fun e he => z e (List.mem_cons_of_mem _ he)
    have kA : ∀ b ∈ A, b ∈ A ++ B := fun b hb => List.mem_append.mpr (.inl hb)
    have kB : ∀ b ∈ B, b ∈ A ++ B := fun b hb => List.mem_append.mpr (.inr hb)
    refine ⟨A ++ B, fun u hu => ?_, fun b hb => ?_⟩
    · rcases List.mem_cons.mp hu with e | m
      · rw [e]
        exact a1.mono kA
      · exact (b1 u m).mono kB
    · rcases List.mem_append.mp hb with m | m
      · exact (a2 b m).mono kA
      · exact (b2 b m).mono kB
end
end
/-- what is tracked of an argument's object -/
def hoOf (o : Obj) : Option HO := match o.data with
  | .seq vs _ => if (o.cls == Value.type "list") = true then some (.frz o (.lst (vs.toList.map toV))) else some (.frz o (.tup (vs.toList.map toV)))
  | _ => none
def argH (K : PySem.W.Frag) (h : Heap) (A : List Addr) : Hp := fun b => if b ∈ A then (if (K.lookup b).isNone = true then (h.get? b).bind hoOf else none) else none
/-- nothing is tracked but what is known to the object -/
def OnlyF (H : Hp) : Prop := ∀ b, H b = none ∨ ∃ o u, H b = some (.frz o u)
theorem hoOf_lst (vs : List Value) : hoOf { cls := .type "list", data := .seq vs.toArray } = some (.frz { cls := .type "list", data := .seq vs.toArray } (.lst (vs.map toV))) := by
  show (if (Value.type "list" == Value.type "list") = true then some (HO.frz { cls := .type "list", data := .seq vs.toArray } (.lst (vs.toArray.toList.map toV))) else some (HO.frz { cls := .type "list", data := .seq vs.toArray } (.tup (vs.toArray.toList.map toV)))) = _
  rw [if_pos (beq_self_eq_true _)]
theorem hoOf_tup (vs : List Value) : hoOf { cls := .type "tuple", data := .seq vs.toArray } = some (.frz { cls := .type "tuple", data := .seq vs.toArray } (.tup (vs.map toV))) := by
  show (if (Value.type "tuple" == Value.type "list") = true then some (HO.frz { cls := .type "tuple", data := .seq vs.toArray } (.lst (vs.toArray.toList.map toV))) else some (HO.frz { cls := .type "tuple", data := .seq vs.toArray } (.tup (vs.toArray.toList.map toV)))) = _
  rw [if_neg (by decide)]
section
variable {P : Program} {w : World} {K : PySem.W.Frag} {h : Heap} {A : List Addr}
theorem argH_at {b : Addr} {o : Obj} (hb : b ∈ A) (hk : K.lookup b = none) (e : h.get? b = some o) : argH K h A b = hoOf o := by
  unfold argH
  rw [if_pos hb, hk, if_pos (show (none : Option Obj).isNone = true from rfl), e] <;> rfl
theorem of_argH {b : Addr} {u : HO} (q : argH K h A b = some u) : b ∈ A ∧ K.lookup b = none := by
  unfold argH at q
  by_cases hb : b ∈ A
  · rw [if_pos hb] at q
    cases hk : K.lookup b with
    | none => exact ⟨hb, rfl⟩
    | some o =>
      rw [hk, if_neg (by simp)] at q
      cases q
  · rw [if_neg hb] at q
    cases q
/-- what stands tracked -/
theorem argH_is (ar : ∀ a ∈ A, ArgOb h A a) {b : Addr} {u : HO} (q : argH K h A b = some u) : K.lookup b = none ∧ ∃ vs : List Value, vs.length ≤ sizeLine ∧ (∀ u ∈ vs, OkU A u) ∧
    ((h.get? b = some { cls := .type "list", data := .seq vs.toArray } ∧ u = .frz { cls := .type "list", data := .seq vs.toArray } (.lst (vs.map toV))) ∨
     (h.get? b = some { cls := .type "tuple", data := .seq vs.toArray } ∧ u = .frz { cls := .type "tuple", data := .seq vs.toArray } (.tup (vs.map toV)))) := by
  obtain ⟨hb, hk⟩ := of_argH q
  obtain ⟨vs, h1, h2, h3⟩ := ar b hb
  refine ⟨hk, vs, h1, h2, ?_⟩
  rcases h3 with e | e
  · rw [argH_at hb hk e, hoOf_lst] at q
    exact .inl ⟨e, (Option.some.inj q).symm⟩
  · rw [argH_at hb hk e, hoOf_tup] at q
    exact .inr ⟨e, (Option.some.inj q).symm⟩
theorem argH_only (ar : ∀ a ∈ A, ArgOb h A a) : OnlyF (argH K h A) := fun b => by
  cases q : argH K h A b with
  | none => exact .inl rfl
  | some u =>
    obtain ⟨_, vs, _, _, ⟨_, e⟩ | ⟨_, e⟩⟩ := argH_is ar q
    · exact .inr ⟨_, _, by rw [e]⟩
    · exact .inr ⟨_, _, by rw [e]⟩
theorem argH_ok (ar : ∀ a ∈ A, ArgOb h A a) : HOk P w (argH K h A) h := fun b u q => by
  obtain ⟨_, vs, h1, h2, ⟨e, rfl⟩ | ⟨e, rfl⟩⟩ := argH_is ar q
  · exact ⟨e, by rw [List.length_map]; exact h1, vs, _, vals_toV h2, e⟩
  · exact ⟨e, by rw [List.length_map]; exact h1, vs, vals_toV h2, _, e, rfl, _, rfl⟩
theorem seq_inj {c c' : Value} {vs us : List Value} (e : (some { cls := c, data := .seq vs.toArray } : Option Obj) = some { cls := c', data := .seq us.toArray }) : c = c' ∧ vs = us := by
  have e1 := Option.some.inj e
  have e2 : c = c' := congrArg Obj.cls e1
  have e3 : Data.seq vs.toArray = Data.seq us.toArray := congrArg Obj.data e1
  injection e3 with e4
  refine ⟨e2, ?_⟩
  have e5 := congrArg Array.toList e4
  simpa using e5
/-- a list argument -/
theorem argL (KX : K.In h) (ar : ∀ a ∈ A, ArgOb h A a) {a : Addr} {vs : List Value} (ha : a ∈ A) (e : h.get? a = some { cls := .type "list", data := .seq vs.toArray }) : (∀ u ∈ vs, OkU A u) ∧ SqL K (argH K h A) a (vs.map toV) := by
  obtain ⟨us, h1, h2, h3⟩ := ar a ha
  have hu : us = vs := by
    rcases h3 with q | q
    · rw [e] at q
      exact (seq_inj q).2.symm
    · rw [e] at q
      exact absurd (Value.type.inj (seq_inj q).1) (by decide)
  subst hu
  refine ⟨h2, ?_⟩
  cases hk : K.lookup a with
  | none => exact .inl (.inr ⟨_, by rw [argH_at ha hk e, hoOf_lst]⟩)
  | some o =>
    have e2 := KX a o hk
    rw [e] at e2
    obtain rfl := Option.some.inj e2
    exact .inr ⟨_, us.toArray, _, hk, rfl, rfl, rfl, by rw [List.size_toArray]; exact h1, by simpa using vals_toV h2⟩
theorem argT (KX : K.In h) (ar : ∀ a ∈ A, ArgOb h A a) {a : Addr} {vs : List Value} (ha : a ∈ A) (e : h.get? a = some { cls := .type "tuple", data := .seq vs.toArray }) : (∀ u ∈ vs, OkU A u) ∧ SqT K (argH K h A) a (vs.map toV) := by
  obtain ⟨us, h1, h2, h3⟩ := ar a ha
  have hu : us = vs := by
    rcases h3 with q | q
    · rw [e] at q
      exact absurd (Value.type.inj (seq_inj q).1) (by decide)
    · rw [e] at q
      exact (seq_inj q).2.symm
  subst hu
  refine ⟨h2, ?_⟩
  cases hk : K.lookup a with
  | none => exact .inl (.inr ⟨_, by rw [argH_at ha hk e, hoOf_tup]⟩)
  | some o =>
    have e2 := KX a o hk
    rw [e] at e2
    obtain rfl := Option.some.inj e2
    exact .inr ⟨_, us.toArray, _, hk, rfl, rfl, by rw [List.size_toArray]; exact h1, by simpa using vals_toV h2⟩
mutual
theorem dw_one {Pm : Params} (KX : K.In h) (ar : ∀ a ∈ A, ArgOb h A a) : ∀ (d : WData) (v : Value), Well Pm h v d → plW d = true → OkU A v → Dw K (argH K h A) (toV v) d
  | .none, _, x, _, _ => by
    cases x
    exact .non
  | .bool b, _, x, _, _ => by
    cases x
    exact .bl b
  | .int i, _, x, _, _ => by
    cases x
    exact .int i
  | .str s, _, x, _, _ => by
    cases x
    exact .str s
  | .bytes b, _, x, _, _ => by
    cases x
    have z := Dw.byt (K := K) (H := argH K h A) b.toArray
    exact z
  | .list ds, _, x, p, hu => by
    obtain ⟨a, vs, rfl, ho, hall⟩ := well_list x
    obtain ⟨h2, hs⟩ := argL KX ar hu ho
    exact .lst hs (dw_all KX ar ds _ hall p h2)
  | .tuple ds, _, x, p, hu => by
    obtain ⟨a, vs, rfl, ho, hall⟩ := well_tuple x
    obtain ⟨h2, hs⟩ := argT KX ar hu ho
    exact .tup hs (dw_all KX ar ds _ hall p h2)
  | .float _, _, _, p, _ => Bool.noConfusion (show false = true from p)
  | .dict _, _, _, p, _ => Bool.noConfusion (show false = true from p)
  | .bytearray _, _, _, p, _ => Bool.noConfusion (show false = true from p)
  | .set _, _, _, p, _ => Bool.noConfusion (show false = true from p)
  | .frozenset _, _, _, p, _ => Bool.noConfusion (show false = true from p)
  | .obj _ _, _, _, p, _ => Bool.noConfusion (show false = true from p)
theorem dw_all {Pm : Params} (KX : K.In h) (ar : ∀ a ∈ A, ArgOb h A a) : ∀ (ds : List WData) (vs : List Value), WellAll Pm h vs ds → plWs ds = true → (∀ u ∈ vs, OkU A u) → DwAll K (argH K h A) (vs.map toV) ds
  | [], _, x, _, _ => by
    cases x
    exact .nil
  | d :: ds, _, x, p, hu => by
    obtain ⟨v, vs, rfl, x1, x2⟩ := well_cons x
    have q : plW d = true ∧ plWs ds = true := Bool.and_eq_true_iff.mp p
    exact .cons (dw_one KX ar d v x1 q.1 (hu _ (List.mem_cons_self ..))) (dw_all KX ar ds vs x2 q.2 fun u m => hu u (List.mem_cons_of_mem _ m))
end
end
theorem spec_call {P : Program} {w : World} {K : PySem.W.Frag} {mg mb : Str → Option Value} {CX : CXT} {k : Nat} {fa : Addr} {fd : FuncData} {ps : List Str} {sp : Sp} {s₁ : Shared} {vals : List Value} {ds : List WData} {R : PySem.W.WRecords} {cl : Str → Option Addr} {d0 : WData}
    (KX : K.In s₁.heap) (hns : s₁.heap.Ns mainGlobals mg) (hb : s₁.heap.Ns builtinsNs mb) (hbb : ∀ x : Str, x ≠ "__name__" → mb x = bootBuiltins x) (hlim : s₁.heap.NoLimit) (hg : s₁.gens = #[])
    (hwl : WellAll w.params s₁.heap vals ds) (hpl : plWs ds = true) (hwt : ∀ d ∈ ds, d.weight ≤ 1048576) (hr : Room k callerA)
    (F : ∀ base : Heap, K.In base → base.Ns mainGlobals mg → FnOk P w K mg base CX k fa fd ps sp) (hbind : ∀ (s : Shared) (us : List Value), us.length = ps.length → BindsTo s fd ⟨us, []⟩ (ps.zip us)) (hlen : ds.length = ps.length)
    (hsp : ∀ (H : Hp) (xs : List V), OnlyF H → DwAll K H xs ds → sp xs H (fun v H' => Dw K H' v d0) fun _ _ _ => False)
    (hCX : ∀ H e s', CX [] H s₁ (fun _ _ _ => False) e s' → False) :
    codeAny (model P w) callerA (.call (.ref fa) ⟨vals, []⟩) (fun r s' => ∃ u as, r = .ok (.ret u) ∧ ReadsW R cl s'.heap u d0 as ∧ OldK s₁.heap s'.heap ∧ s'.os = s₁.os ∧ AllBare s'.gens) s₁ := by
  obtain ⟨A, ho, ar⟩ := area_all ds vals hwl hpl hwt
  have hO : OnlyF (argH K s₁.heap A) := argH_only ar
  have hok : HOk P w (argH K s₁.heap A) s₁.heap := argH_ok ar
  have hS := dw_all KX ar ds vals hwl hpl ho
  have hV := vals_toV ho
  have hK : ∀ b u, argH K s₁.heap A b = some u → K.lookup b = none := fun b u q => (argH_is ar q).1
  have noA : ∀ {b : Addr} {o : Obj} {es : Array DictEntry} {ep : Nat}, s₁.heap.get? b = some o → o.data = .dict es ep → argH K s₁.heap A b = none := fun {b o es ep} e d => by
    cases q : argH K s₁.heap A b with
    | none => rfl
    | some u =>
      obtain ⟨_, vs, _, _, ⟨e2, _⟩ | ⟨e2, _⟩⟩ := argH_is ar q
      · rw [e2] at e
        cases e
        have d' : Data.seq vs.toArray _ = Data.dict es ep := d
        cases d'
      · rw [e2] at e
        cases e
        have d' : Data.seq vs.toArray _ = Data.dict es ep := d
        cases d'
  generalize argH K s₁.heap A = H at hO hok hS hK noA
  have base_of : ∀ {b : Addr} {o : Obj}, s₁.heap.get? b = some o → H b = none → (hidT s₁.heap H).get? b = some o := fun e n => hidT_get e n
  have nsK : ∀ {b : Addr} {m : Str → Option Value}, s₁.heap.Ns b m → (hidT s₁.heap H).Ns b m := fun {b m} ⟨o, es, ep, e, d, r⟩ => ⟨o, es, ep, base_of e (noA e d), d, r⟩
  have nK : ∀ b o, K.lookup b = some o → H b = none := fun b o e => by
    cases q : H b with
    | none => rfl
    | some u =>
      rw [hK b u q] at e
      cases e
  have hKb : K.In (hidT s₁.heap H) := fun b o e => base_of (KX b o e) (nK b o e)
  have hM : Mod K mg (hidT s₁.heap H) := ⟨hKb, nsK hns, ⟨mb, nsK hb, hbb⟩, let ⟨mc, h1, h2⟩ := hlim; ⟨mc, nsK h1, h2⟩⟩
  have e0 : Env0 P w K mg (hidT s₁.heap H) callerA [] s₁ H := ⟨rfl, hM, fun b o e => of_hidT e, Nat.le_of_eq (hidT_size _ _), trivial, fun b hb => absurd (show b ∈ ([] : List Addr) from hb) (by simp), hok, .of_eq hg⟩
  have hl : vals.length = ps.length := by rw [wellAll_len hwl]; exact hlen
  refine codeAny_mono ((F _ hKb (nsK hns)).run callerA [] s₁ H ⟨vals, []⟩ vals (vals.map toV) _ _ hr e0 (hbind s₁ vals hl) hV (hsp H _ hO hS)) fun r s' x => ?_
  cases r with
  | error e => exact (hCX H e s' x).elim
  | ok fl =>
    cases fl with
    | next => exact False.elim x
    | brk => exact False.elim x
    | cont => exact False.elim x
    | ret u =>
      obtain ⟨v, H', os, bare, un, hok', r', q⟩ := x
      have kept : ∀ b o, s₁.heap.get? b = some o → s'.heap.get? b = some o := fun b o e => by
        cases q2 : H b with
        | none => exact un.keep b o e q2 (by intro z; exact absurd (show b ∈ ([] : List Addr) from z) (by simp)) (by simp)
        | some u2 =>
          rcases hO b with z | ⟨ob, u3, z⟩
          · rw [q2] at z
            cases z
          · have z2 := un.frzs b ob _ z
            obtain ⟨e1, _⟩ := hok b _ z
            obtain ⟨e2, _⟩ := hok' b _ z2
            rw [e] at e1
            cases e1
            exact e2
      have KX' : K.In s'.heap := fun b o e => kept b o (KX b o e)
      obtain ⟨as, hrd⟩ := Dw.reads (R := R) (cl := cl) hok' KX' d0 v u q r'
      exact ⟨u, as, rfl, hrd, OldK.of_keep kept, os, bare⟩
theorem layable_weight {ds : List WData} (h : WData.layableAll ds = true) : ∀ d ∈ ds, d.weight ≤ 1048576 := fun d hd =>
  (PySem.W.layableW_iff.mp (List.all_eq_true.mp h d hd)).2.2
theorem encAll_len : ∀ (cs : List Codec) (a : Codec.denoteAll cs), (Codec.encAll cs a).length = cs.length
  | [], _ => rfl
  | c :: cs, a => by
    show (Codec.encAll cs a.2).length + 1 = cs.length + 1
    rw [encAll_len cs a.2]
/-- the goal that k_headS leaves (case hc), from the promise of the row's def: whatever the arguments that the codecs let and the row asks for, the def gives what stands for enc (f ..) -/
theorem walk_spec {r : OpenSpec} {k : Nat} {q : Program} {loose : List Str} {XP : (Str → Option Value) → Heap → Prop} {YP : World → Heap → Prop} {d : DefRec} {K : Params → PySem.W.Frag} {CX : World → CXT} {ps : List Str} {sp : World → Sp}
    (hwell : r.wellSaid = true) (hdf : d.params.defaults = []) (hlen : r.args.length = ps.length) (hr : Room k callerA)
    (hY : ∀ (w : World) (h : Heap), YP w h → (K w.params).In h)
    (F : ∀ (w : World) (mg : Str → Option Value) (fa : Addr) (h : Heap), YP w h → (K w.params).In h → h.Ns mainGlobals mg → mg d.name = some (.ref fa) →
      ∃ fd : FuncData, (∀ (s : Shared) (us : List Value), us.length = ps.length → BindsTo s fd ⟨us, []⟩ (ps.zip us)) ∧
        ∀ base : Heap, (K w.params).In base → base.Ns mainGlobals mg → FnOk r.prog w (K w.params) mg base (CX w) k fa fd ps (sp w))
    (hsp : ∀ (w : World) (H : Hp) (xs : List V) (a : Codec.denoteAll r.args), OnlyF H → Codec.withinAll r.args a = true → Codec.app r.args r.asked a = true → DwAll (K w.params) H xs (Codec.encAll r.args a) →
      sp w xs H (fun v H' => Dw (K w.params) H' v (r.ret.enc (Codec.app r.args r.f a))) fun _ _ _ => False)
    (hCX : ∀ (w : World) (H : Hp) (s : Shared) (e : Value) (s' : Shared), CX w [] H s (fun _ _ _ => False) e s' → False) :
    PySem.W.WalkOS q loose XP YP r d [] (fun f vs => PySem.call f vs) := by
  intro w s_0 s₁ mg mb G Y fa o pm cd doc dV kV ho hd hcd hD hmg hg args vals as hpre hlay hrd hwl hlo
  obtain ⟨a, e1, e2⟩ := PySem.W.os_pre_some hpre
  obtain ⟨e3, hwi⟩ := Codec.encAll_of_decAll r.args args a e1
  subst e3
  have KX := hY w _ Y
  obtain ⟨fd, hb, hF⟩ := F w mg fa _ Y KX G.T.g hmg
  refine PySem.W.enter_call (codeAny_mono (spec_call (R := []) (cl := classAt s_0.heap) (d0 := r.ret.enc (Codec.app r.args r.f a)) KX G.T.g G.T.b G.T.builtins G.T.nolimit hg hwl (pl_encAll _ _) (layable_weight hlay) hr hF hb (by rw [encAll_len]; exact hlen)
    (fun H xs hO hS => hsp w H xs a hO hwi e2 hS) fun H e s' => hCX w H s₁ e s') fun r' s' hq => ?_)
  obtain ⟨u, as', rfl, h1, h2, h3, h4⟩ := hq
  exact ⟨.inl ⟨u, _, as', rfl, fun _ => rfl, h1, (OpenSpec.post_iff hwell hwi _ _).mpr rfl, fun z => Bool.noConfusion (show false = true from z)⟩, h2, h3, h4⟩
/-- the same where the promise hangs on the written part alone -/
theorem walk_specK {r : OpenSpec} {k : Nat} {q : Program} {loose : List Str} {XP : (Str → Option Value) → Heap → Prop} {YP : World → Heap → Prop} {d : DefRec} {K : Params → PySem.W.Frag} {CX : CXT} {ps : List Str} {sp : PySem.W.Frag → Sp}
    (hwell : r.wellSaid = true) (hdf : d.params.defaults = []) (hlen : r.args.length = ps.length) (hr : Room k callerA)
    (hY : ∀ (w : World) (h : Heap), YP w h → (K w.params).In h)
    (F : ∀ (w : World) (mg : Str → Option Value) (fa : Addr) (h : Heap), YP w h → (K w.params).In h → h.Ns mainGlobals mg → mg d.name = some (.ref fa) →
      ∃ fd : FuncData, (∀ (s : Shared) (us : List Value), us.length = ps.length → BindsTo s fd ⟨us, []⟩ (ps.zip us)) ∧
        ∀ base : Heap, (K w.params).In base → base.Ns mainGlobals mg → FnOk r.prog w (K w.params) mg base CX k fa fd ps (sp (K w.params)))
    (hsp : ∀ (K : PySem.W.Frag) (H : Hp) (xs : List V) (a : Codec.denoteAll r.args), OnlyF H → Codec.withinAll r.args a = true → Codec.app r.args r.asked a = true → DwAll K H xs (Codec.encAll r.args a) →
      sp K xs H (fun v H' => Dw K H' v (r.ret.enc (Codec.app r.args r.f a))) fun _ _ _ => False)
    (hCX : ∀ (H : Hp) (s : Shared) (e : Value) (s' : Shared), CX [] H s (fun _ _ _ => False) e s' → False) :
    PySem.W.WalkOS q loose XP YP r d [] (fun f vs => PySem.call f vs) :=
  walk_spec (K := K) (CX := fun _ => CX) (sp := fun w => sp (K w.params)) hwell hdf hlen hr hY F (fun w H xs a h1 h2 h3 h4 => hsp (K w.params) H xs a h1 h2 h3 h4) fun _ H s e s' => hCX H s e s'
end L2
end

namespace Fb
open Kg37

theorem add_two_pow {s c : Nat} (h : s.testBit c = false) : s + 2 ^ c = s ||| 2 ^ c := by
  have e : s = 2 ^ (c + 1) * (s / 2 ^ (c + 1)) + s % 2 ^ (c + 1) := (Nat.div_add_mod _ _).symm
  have hb : s % 2 ^ (c + 1) < 2 ^ c := by
    have h1 : s % 2 ^ (c + 1) < 2 ^ (c + 1) := Nat.mod_lt _ (Nat.two_pow_pos _)
    have h2 : (s % 2 ^ (c + 1)).testBit c = false := by rw [Nat.testBit_mod_two_pow]; simp [h]
    refine Nat.lt_of_not_le fun q => ?_
    have h3 := Nat.testBit_of_two_pow_le_and_two_pow_add_one_gt q h1
    rw [h2] at h3; cases h3
  have h2 : s % 2 ^ (c + 1) + 2 ^ c < 2 ^ (c + 1) := by
    refine Nat.lt_of_lt_of_eq (Nat.add_lt_add_right hb _) ?_
    rw [Nat.pow_succ, Nat.mul_two]
  calc s + 2 ^ c = 2 ^ (c + 1) * (s / 2 ^ (c + 1)) + (s % 2 ^ (c + 1) + 2 ^ c) := by omega
    _ = 2 ^ (c + 1) * (s / 2 ^ (c + 1)) ||| (s % 2 ^ (c + 1) + 2 ^ c) := Nat.two_pow_add_eq_or_of_lt h2 _
    _ = 2 ^ (c + 1) * (s / 2 ^ (c + 1)) ||| (s % 2 ^ (c + 1) ||| 2 ^ c) := by rw [Nat.or_two_pow_eq_add_of_lt hb]
    _ = (2 ^ (c + 1) * (s / 2 ^ (c + 1)) ||| s % 2 ^ (c + 1)) ||| 2 ^ c := (Nat.or_assoc _ _ _).symm
    _ = s ||| 2 ^ c := by rw [← Nat.two_pow_add_eq_or_of_lt (Nat.mod_lt _ (Nat.two_pow_pos _)), ← e]
theorem put_or (s c : Nat) : (if has s c = true then s else s + 2 ^ c) = s ||| 2 ^ c := by
  by_cases h : s.testBit c = true
  · rw [if_pos (show has s c = true from h)]
    refine Nat.eq_of_testBit_eq fun i => ?_
    rw [Nat.testBit_or, Nat.testBit_two_pow]
    by_cases e : c = i
    · subst e; simp [h]
    · simp [e]
  · rw [if_neg (show ¬ has s c = true from h), add_two_pow (by simpa using h)]
theorem setOf_or_aux : ∀ (l : List Nat) (s : Nat), l.foldl (fun s c => if has s c = true then s else s + 2 ^ c) s = l.foldl (fun s c => s ||| 2 ^ c) s
  | [], s => rfl
  | c :: l, s => by rw [List.foldl_cons, List.foldl_cons, put_or, setOf_or_aux l]
theorem setOf_or (l : List Nat) : setOf l = l.foldl (fun s c => s ||| 2 ^ c) 0 := setOf_or_aux l 0
theorem testBit_orAll : ∀ (l : List Nat) (s i : Nat), (l.foldl (fun s c => s ||| 2 ^ c) s).testBit i = (s.testBit i || decide (i ∈ l))
  | [], s, i => by simp
  | c :: l, s, i => by
    rw [List.foldl_cons, testBit_orAll l, Nat.testBit_or, Nat.testBit_two_pow]
    by_cases e : c = i
    · subst e; simp
    · have : ¬ i = c := fun h => e h.symm
      simp [e, this]
theorem testBit_setOf (l : List Nat) (i : Nat) : (setOf l).testBit i = decide (i ∈ l) := by
  rw [setOf_or, testBit_orAll]; simp
theorem mem_squares {s c : Nat} : c ∈ squares s ↔ c < 64 ∧ s.testBit c = true := by
  unfold squares has
  simp [List.mem_filter]

theorem foldl_min : ∀ (l : List Int) (a : Int), (l.foldl min a = a ∨ l.foldl min a ∈ l) ∧ l.foldl min a ≤ a ∧ ∀ x ∈ l, l.foldl min a ≤ x
  | [], a => by simp
  | b :: l, a => by
    obtain ⟨h1, h2, h3⟩ := foldl_min l (min a b)
    rw [List.foldl_cons]
    refine ⟨?_, by omega, fun x hx => ?_⟩
    · rcases h1 with h | h
      · rw [h]
        rcases (by omega : min a b = a ∨ min a b = b) with e | e
        · exact .inl e
        · exact .inr (by rw [e]; exact List.mem_cons_self)
      · exact .inr (List.mem_cons_of_mem _ h)
    · rcases List.mem_cons.mp hx with rfl | hx
      · omega
      · exact h3 x hx

abbrev Pt := Int × Int
def x0 (l : List Pt) : Int := (l.map fun p => p.1).foldl min ((l.headD (0, 0)).1)
def y0 (l : List Pt) : Int := (l.map fun p => p.2).foldl min ((l.headD (0, 0)).2)
theorem x0_mem {l : List Pt} (h : l ≠ []) : ∃ p ∈ l, p.1 = x0 l := by
  cases l with
  | nil => exact absurd rfl h
  | cons a l =>
    obtain ⟨h1, _, _⟩ := foldl_min ((a :: l).map fun p => p.1) a.1
    rcases h1 with h1 | h1
    · exact ⟨a, List.mem_cons_self, h1.symm⟩
    · obtain ⟨p, hp, e⟩ := List.mem_map.mp h1
      exact ⟨p, hp, e⟩
theorem x0_le {l : List Pt} {p : Pt} (h : p ∈ l) : x0 l ≤ p.1 := (foldl_min (l.map fun p => p.1) _).2.2 _ (List.mem_map.mpr ⟨p, h, rfl⟩)
theorem y0_mem {l : List Pt} (h : l ≠ []) : ∃ p ∈ l, p.2 = y0 l := by
  cases l with
  | nil => exact absurd rfl h
  | cons a l =>
    obtain ⟨h1, _, _⟩ := foldl_min ((a :: l).map fun p => p.2) a.2
    rcases h1 with h1 | h1
    · exact ⟨a, List.mem_cons_self, h1.symm⟩
    · obtain ⟨p, hp, e⟩ := List.mem_map.mp h1
      exact ⟨p, hp, e⟩
theorem y0_le {l : List Pt} {p : Pt} (h : p ∈ l) : y0 l ≤ p.2 := (foldl_min (l.map fun p => p.2) _).2.2 _ (List.mem_map.mpr ⟨p, h, rfl⟩)
theorem x0_eq {l : List Pt} {m : Int} (h1 : ∃ p ∈ l, p.1 = m) (h2 : ∀ p ∈ l, m ≤ p.1) : x0 l = m := by
  obtain ⟨p, hp, e⟩ := h1
  obtain ⟨q, hq, e'⟩ := x0_mem (l := l) (by intro z; rw [z] at hp; cases hp)
  have := x0_le hp
  have := h2 q hq
  omega
theorem y0_eq {l : List Pt} {m : Int} (h1 : ∃ p ∈ l, p.2 = m) (h2 : ∀ p ∈ l, m ≤ p.2) : y0 l = m := by
  obtain ⟨p, hp, e⟩ := h1
  obtain ⟨q, hq, e'⟩ := y0_mem (l := l) (by intro z; rw [z] at hp; cases hp)
  have := y0_le hp
  have := h2 q hq
  omega

def grid : List (Nat × Nat) := (List.range 8).flatMap fun (y : Nat) => (List.range 8).map fun (x : Nat) => (x, y)
theorem mem_grid {q : Nat × Nat} : q ∈ grid ↔ q.1 < 8 ∧ q.2 < 8 := by
  unfold grid
  rw [List.mem_flatMap]
  constructor
  · rintro ⟨y, hy, h⟩
    obtain ⟨x, hx, e⟩ := List.mem_map.mp h
    subst e
    exact ⟨List.mem_range.mp hx, List.mem_range.mp hy⟩
  · rintro ⟨h1, h2⟩
    exact ⟨q.2, List.mem_range.mpr h2, List.mem_map.mpr ⟨q.1, List.mem_range.mpr h1, rfl⟩⟩
theorem placed_eq (l : List Pt) : placed l = grid.filter fun q => l.contains ((q.1 : Int) + x0 l, (q.2 : Int) + y0 l) := rfl
theorem mem_placed {l : List Pt} {q : Nat × Nat} : q ∈ placed l ↔ (q.1 < 8 ∧ q.2 < 8) ∧ ((q.1 : Int) + x0 l, (q.2 : Int) + y0 l) ∈ l := by
  rw [placed_eq, List.mem_filter, mem_grid]
  simp [List.contains_iff_mem]
theorem placed_congr {l l' : List Pt} {dx dy : Int} (hne : l ≠ []) (h : ∀ p : Pt, p ∈ l' ↔ (p.1 + dx, p.2 + dy) ∈ l) : placed l' = placed l := by
  have e1 : x0 l' = x0 l - dx := by
    refine x0_eq ?_ fun p hp => ?_
    · obtain ⟨p, hp, e⟩ := x0_mem hne
      exact ⟨(p.1 - dx, p.2 - dy), (h _).mpr (by simpa using hp), by show p.1 - dx = _; omega⟩
    · have := x0_le ((h p).mp hp)
      have : x0 l ≤ p.1 + dx := this
      omega
  have e2 : y0 l' = y0 l - dy := by
    refine y0_eq ?_ fun p hp => ?_
    · obtain ⟨p, hp, e⟩ := y0_mem hne
      exact ⟨(p.1 - dx, p.2 - dy), (h _).mpr (by simpa using hp), by show p.2 - dy = _; omega⟩
    · have := y0_le ((h p).mp hp)
      have : y0 l ≤ p.2 + dy := this
      omega
  rw [placed_eq, placed_eq]
  refine List.filter_congr fun q _ => ?_
  rw [Bool.eq_iff_iff, List.contains_iff_mem, List.contains_iff_mem, h, e1, e2]
  have a1 : (q.1 : Int) + (x0 l - dx) + dx = q.1 + x0 l := by omega
  have a2 : (q.2 : Int) + (y0 l - dy) + dy = q.2 + y0 l := by omega
  show ((q.1 : Int) + (x0 l - dx) + dx, (q.2 : Int) + (y0 l - dy) + dy) ∈ l ↔ _
  rw [a1, a2]
/-- no wider and no higher than eight -/
def Fits (l : List Pt) : Prop := ∀ p ∈ l, p.1 - x0 l < 8 ∧ p.2 - y0 l < 8
theorem mem_placed_int {l : List Pt} (hf : Fits l) {a b : Int} : (∃ q ∈ placed l, (q.1 : Int) = a ∧ (q.2 : Int) = b) ↔ (a + x0 l, b + y0 l) ∈ l := by
  constructor
  · rintro ⟨q, hq, rfl, rfl⟩
    exact (mem_placed.mp hq).2
  · intro h
    have h1 := hf _ h
    have h2 := x0_le h
    have h3 := y0_le h
    simp only at h1 h2 h3
    refine ⟨(a.toNat, b.toNat), mem_placed.mpr ⟨⟨by show a.toNat < 8; omega, by show b.toNat < 8; omega⟩, ?_⟩, by show ((a.toNat : Nat) : Int) = a; omega, by show ((b.toNat : Nat) : Int) = b; omega⟩
    show (((a.toNat : Nat) : Int) + x0 l, ((b.toNat : Nat) : Int) + y0 l) ∈ l
    rw [show ((a.toNat : Nat) : Int) = a by omega, show ((b.toNat : Nat) : Int) = b by omega]
    exact h
def rot (l : List Pt) : List Pt := l.map fun p => (-p.2, p.1)
def mir (l : List Pt) : List Pt := l.map fun p => (-p.1, p.2)
theorem mem_rot {l : List Pt} {p : Pt} : p ∈ rot l ↔ (p.2, -p.1) ∈ l := by
  unfold rot
  rw [List.mem_map]
  constructor
  · rintro ⟨a, h, rfl⟩
    have e : ((-a.2, a.1) : Pt).2 = a.1 := rfl
    show (a.1, - -a.2) ∈ l
    rw [Int.neg_neg]; exact h
  · intro h
    exact ⟨_, h, by show (- -p.1, p.2) = p; rw [Int.neg_neg]⟩
theorem mem_mir {l : List Pt} {p : Pt} : p ∈ mir l ↔ (-p.1, p.2) ∈ l := by
  unfold mir
  rw [List.mem_map]
  constructor
  · rintro ⟨a, h, rfl⟩
    show (- -a.1, a.2) ∈ l
    rw [Int.neg_neg]; exact h
  · intro h
    exact ⟨_, h, by show (- -p.1, p.2) = p; rw [Int.neg_neg]⟩
theorem turned_placed {l : List Pt} (hne : l ≠ []) (hf : Fits l) : turned (placed l) = placed (rot l) := by
  refine placed_congr (dx := -y0 l) (dy := x0 l) (by simpa [rot] using hne) fun p => ?_
  rw [mem_rot]
  have h := mem_placed_int hf (a := p.2) (b := -p.1)
  show p ∈ (placed l).map _ ↔ (p.2 + x0 l, -(p.1 + -y0 l)) ∈ l
  rw [show -(p.1 + -y0 l) = -p.1 + y0 l by omega, ← h, List.mem_map]
  constructor
  · rintro ⟨q, hq, rfl⟩
    exact ⟨q, hq, rfl, (Int.neg_neg _).symm⟩
  · rintro ⟨q, hq, e1, e2⟩
    exact ⟨q, hq, Prod.ext (by show -(q.2 : Int) = p.1; omega) (by show (q.1 : Int) = p.2; omega)⟩
theorem mirrored_placed {l : List Pt} (hne : l ≠ []) (hf : Fits l) : mirrored (placed l) = placed (mir l) := by
  refine placed_congr (dx := -x0 l) (dy := y0 l) (by simpa [mir] using hne) fun p => ?_
  rw [mem_mir]
  have h := mem_placed_int hf (a := -p.1) (b := p.2)
  show p ∈ (placed l).map _ ↔ (-(p.1 + -x0 l), p.2 + y0 l) ∈ l
  rw [show -(p.1 + -x0 l) = -p.1 + x0 l by omega, ← h, List.mem_map]
  constructor
  · rintro ⟨q, hq, rfl⟩
    exact ⟨q, hq, (Int.neg_neg _).symm, rfl⟩
  · rintro ⟨q, hq, e1, e2⟩
    exact ⟨q, hq, Prod.ext (by show -(q.1 : Int) = p.1; omega) (by show (q.2 : Int) = p.2; omega)⟩
/-- all within eight of another, each way -/
def Near (l : List Pt) : Prop := ∀ p ∈ l, ∀ q ∈ l, p.1 - q.1 < 8 ∧ p.2 - q.2 < 8
theorem Near.fits {l : List Pt} (h : Near l) : Fits l := fun p hp => by
  have hne : l ≠ [] := by intro z; rw [z] at hp; cases hp
  obtain ⟨a, ha, e⟩ := x0_mem hne
  obtain ⟨b, hb, e'⟩ := y0_mem hne
  have := (h p hp a ha).1
  have := (h p hp b hb).2
  omega
theorem Near.rot {l : List Pt} (h : Near l) : Near (rot l) := fun p hp q hq => by
  have := h _ (mem_rot.mp hp) _ (mem_rot.mp hq)
  have := h _ (mem_rot.mp hq) _ (mem_rot.mp hp)
  simp only at *
  omega
theorem Near.mir {l : List Pt} (h : Near l) : Near (mir l) := fun p hp q hq => by
  have := h _ (mem_mir.mp hp) _ (mem_mir.mp hq)
  have := h _ (mem_mir.mp hq) _ (mem_mir.mp hp)
  simp only at *
  omega

def num (w : Shape) : Nat := setOf (w.map fun q => q.1 + 8 * q.2)
theorem num_inv (l : List Pt) : placed l = grid.filter fun q => (num (placed l)).testBit (q.1 + 8 * q.2) := by
  conv => lhs; rw [placed_eq]
  refine List.filter_congr fun q hq => ?_
  have hq := mem_grid.mp hq
  unfold num
  rw [testBit_setOf, Bool.eq_iff_iff, List.contains_iff_mem, decide_eq_true_iff, List.mem_map]
  constructor
  · intro h
    exact ⟨q, mem_placed.mpr ⟨hq, h⟩, rfl⟩
  · rintro ⟨r, hr, e⟩
    have h := mem_placed.mp hr
    have : r = q := Prod.ext (by omega) (by omega)
    subst this
    exact h.2
theorem num_inj {l l' : List Pt} (h : num (placed l) = num (placed l')) : placed l = placed l' := by
  rw [num_inv l, num_inv l', h]
/-- as far to 0, 0 as it goes -/
def moved (l : List Pt) : List Pt := l.map fun p => (p.1 - x0 l, p.2 - y0 l)
def numOf (l : List Pt) : Nat := l.foldl (fun n p => n ||| 2 ^ (p.1 + 8 * p.2).toNat) 0
theorem numOf_eq (l : List Pt) : numOf l = (l.map fun p => (p.1 + 8 * p.2).toNat).foldl (fun s c => s ||| 2 ^ c) 0 := by
  unfold numOf
  rw [List.foldl_map]
theorem testBit_numOf (l : List Pt) (i : Nat) : (numOf l).testBit i = true ↔ ∃ p ∈ l, (p.1 + 8 * p.2).toNat = i := by
  rw [numOf_eq, testBit_orAll]
  simp
theorem numOf_moved {l : List Pt} (hf : Fits l) : numOf (moved l) = num (placed l) := by
  refine Nat.eq_of_testBit_eq fun i => ?_
  rw [Bool.eq_iff_iff, testBit_numOf]
  unfold num
  rw [testBit_setOf, decide_eq_true_iff, List.mem_map]
  constructor
  · rintro ⟨p, hp, e⟩
    obtain ⟨r, hr, rfl⟩ := List.mem_map.mp hp
    have h := (mem_placed_int hf (a := r.1 - x0 l) (b := r.2 - y0 l)).mpr (by rw [show r.1 - x0 l + x0 l = r.1 by omega, show r.2 - y0 l + y0 l = r.2 by omega]; exact hr)
    obtain ⟨q, hq, e1, e2⟩ := h
    refine ⟨q, hq, ?_⟩
    simp only at e
    omega
  · rintro ⟨q, hq, e⟩
    have h := (mem_placed_int hf).mp ⟨q, hq, rfl, rfl⟩
    refine ⟨_, List.mem_map.mpr ⟨_, h, rfl⟩, ?_⟩
    simp only
    omega

def dd {α : Type} [BEq α] (acc L : List α) : List α := L.foldl (fun l w => if l.contains w = true then l else l ++ [w]) acc
theorem dd_map {α β : Type} [BEq α] [LawfulBEq α] [BEq β] [LawfulBEq β] (f : α → β) : ∀ (L acc : List α), (∀ a ∈ acc ++ L, ∀ b ∈ acc ++ L, f a = f b → a = b) → (dd acc L).map f = dd (acc.map f) (L.map f)
  | [], acc, _ => rfl
  | w :: L, acc, h => by
    unfold dd
    rw [List.foldl_cons, List.map_cons, List.foldl_cons]
    have e : (acc.map f).contains (f w) = acc.contains w := by
      rw [Bool.eq_iff_iff, List.contains_iff_mem, List.contains_iff_mem, List.mem_map]
      constructor
      · rintro ⟨a, ha, e⟩
        have := h a (by simp [ha]) w (by simp) e
        subst this; exact ha
      · intro hw
        exact ⟨w, hw, rfl⟩
    rw [e]
    by_cases c : acc.contains w = true
    · rw [if_pos c, if_pos c]
      exact dd_map f L acc fun a ha b hb => h a (by simp at ha ⊢; rcases ha with q | q <;> simp [q]) b (by simp at hb ⊢; rcases hb with q | q <;> simp [q])
    · rw [if_neg c, if_neg c, show acc.map f ++ [f w] = (acc ++ [w]).map f by simp]
      exact dd_map f L (acc ++ [w]) fun a ha b hb => h a (by simp at ha ⊢; rcases ha with q | q | q <;> simp [q]) b (by simp at hb ⊢; rcases hb with q | q | q <;> simp [q])

/-- the eight turns of a list of points -/
def eight (l : List Pt) : List (List Pt) := [l, rot l, rot (rot l), rot (rot (rot l)), mir l, rot (mir l), rot (rot (mir l)), rot (rot (rot (mir l)))]
def lies (l : List Pt) : List Nat := dd [] ((eight l).map fun t => numOf (moved t))
theorem eight_near {l : List Pt} (h : Near l) : ∀ t ∈ eight l, Near t := by
  intro t ht
  simp only [eight, List.mem_cons, List.not_mem_nil, or_false] at ht
  rcases ht with rfl | rfl | rfl | rfl | rfl | rfl | rfl | rfl
  · exact h
  · exact h.rot
  · exact h.rot.rot
  · exact h.rot.rot.rot
  · exact h.mir
  · exact h.mir.rot
  · exact h.mir.rot.rot
  · exact h.mir.rot.rot.rot
theorem ways_placed {l : List Pt} (hne : l ≠ []) (h : Near l) : ways (placed l) = dd [] ((eight l).map placed) := by
  have r1 := turned_placed hne h.fits
  have n1 : rot l ≠ [] := by simpa [rot] using hne
  have r2 := turned_placed n1 h.rot.fits
  have n2 : rot (rot l) ≠ [] := by simpa [rot] using n1
  have r3 := turned_placed n2 h.rot.rot.fits
  have m0 := mirrored_placed hne h.fits
  have k0 : mir l ≠ [] := by simpa [mir] using hne
  have m1 := turned_placed k0 h.mir.fits
  have k1 : rot (mir l) ≠ [] := by simpa [rot] using k0
  have m2 := turned_placed k1 h.mir.rot.fits
  have k2 : rot (rot (mir l)) ≠ [] := by simpa [rot] using k1
  have m3 := turned_placed k2 h.mir.rot.rot.fits
  unfold ways dd eight
  simp only [r1, r2, r3, m0, m1, m2, m3, List.map_cons, List.map_nil, List.cons_append, List.nil_append]
theorem ways_num {l : List Pt} (hne : l ≠ []) (h : Near l) : (ways (placed l)).map num = lies l := by
  rw [ways_placed hne h, dd_map]
  · unfold lies
    rw [List.map_nil, List.map_map]
    congr 1
    refine List.map_congr_left fun t ht => ?_
    exact (numOf_moved (eight_near h t ht).fits).symm
  · intro a ha b hb e
    rw [List.nil_append] at ha hb
    obtain ⟨t, _, rfl⟩ := List.mem_map.mp ha
    obtain ⟨u, _, rfl⟩ := List.mem_map.mp hb
    exact num_inj e

def pt (c : Nat) : Pt := (((c % 8 : Nat) : Int), ((c / 8 : Nat) : Int))
def pts (s : Nat) : List Pt := (squares s).map pt
theorem shapeOf_eq (s : Nat) : shapeOf s = placed (pts s) := rfl
theorem pts_in {s : Nat} {p : Pt} (h : p ∈ pts s) : 0 ≤ p.1 ∧ p.1 < 8 ∧ 0 ≤ p.2 ∧ p.2 < 8 := by
  obtain ⟨c, hc, rfl⟩ := List.mem_map.mp h
  have := (mem_squares.mp hc).1
  simp only [pt]
  omega
theorem pts_near (s : Nat) : Near (pts s) := fun p hp q hq => by
  have := pts_in hp
  have := pts_in hq
  omega
end Fb

namespace Fb
open Kg37

def adj (c d : Nat) : Bool := (c / 8 == d / 8 && (c + 1 == d || d + 1 == c)) || c + 8 == d || d + 8 == c
def spread (s : Nat) (l : List Nat) : List Nat := (squares s).filter fun c => l.contains c || l.any fun d => adj c d
theorem joined_succ (k s : Nat) (l : List Nat) : joined (k + 1) s l = joined k s (spread s l) := rfl
theorem joined_add : ∀ (k s : Nat) (l : List Nat), joined (k + 1) s l = spread s (joined k s l)
  | 0, s, l => rfl
  | k + 1, s, l => by rw [joined_succ, joined_add k s (spread s l), ← joined_succ]
theorem mem_spread {s c : Nat} {l : List Nat} : c ∈ spread s l ↔ c ∈ squares s ∧ (c ∈ l ∨ ∃ d ∈ l, adj c d = true) := by
  unfold spread
  rw [List.mem_filter, Bool.or_eq_true, List.contains_iff_mem, List.any_eq_true]
theorem squares_nodup (s : Nat) : (squares s).Nodup := List.Nodup.sublist List.filter_sublist List.nodup_range
theorem spread_nodup (s : Nat) (l : List Nat) : (spread s l).Nodup := List.Nodup.sublist List.filter_sublist (squares_nodup s)
def start1 (s : Nat) : List Nat := (squares s).take 1
theorem joined_sub (s : Nat) : ∀ (k : Nat) (c : Nat), c ∈ joined k s (start1 s) → c ∈ squares s
  | 0, c, h => List.mem_of_mem_take h
  | k + 1, c, h => by
    rw [joined_add] at h
    exact (mem_spread.mp h).1
theorem joined_nodup (s : Nat) : ∀ k : Nat, (joined k s (start1 s)).Nodup
  | 0 => List.Nodup.sublist (List.take_sublist _ _) (squares_nodup s)
  | k + 1 => by rw [joined_add]; exact spread_nodup _ _
theorem joined_le (s k : Nat) : (joined k s (start1 s)).length ≤ (squares s).length := List.Nodup.length_le_of_subset (joined_nodup s k) (joined_sub s k)
theorem joined_grow (s k c : Nat) (h : c ∈ joined k s (start1 s)) : c ∈ joined (k + 1) s (start1 s) := by
  rw [joined_add]
  exact mem_spread.mpr ⟨joined_sub s k c h, .inl h⟩
def Shut (s : Nat) (l : List Nat) : Prop := ∀ d ∈ l, ∀ c ∈ squares s, adj c d = true → c ∈ l
theorem shut_or (s : Nat) (hne : squares s ≠ []) : ∀ k : Nat, Shut s (joined k s (start1 s)) ∨ k + 1 ≤ (joined k s (start1 s)).length
  | 0 => by
    refine .inr ?_
    show 1 ≤ (start1 s).length
    unfold start1
    cases e : squares s with
    | nil => exact absurd e hne
    | cons a l => simp
  | k + 1 => by
    rcases Classical.em (Shut s (joined k s (start1 s))) with h | h
    · refine .inl fun d hd c hc ha => ?_
      rw [joined_add] at hd
      rcases (mem_spread.mp hd).2 with hd | ⟨e, he, hde⟩
      · exact joined_grow s k c (h d hd c hc ha)
      · exact joined_grow s k c (h d (h e he d (mem_spread.mp hd).1 hde) c hc ha)
    · rcases shut_or s hne k with h' | h'
      · exact absurd h' h
      · refine .inr ?_
        have : ∃ c, c ∈ joined (k + 1) s (start1 s) ∧ ¬ c ∈ joined k s (start1 s) := by
          refine Classical.byContradiction fun hn => h fun d hd c hc ha => Classical.byContradiction fun hcn => hn ⟨c, ?_, hcn⟩
          rw [joined_add]
          exact mem_spread.mpr ⟨hc, .inr ⟨d, hd, ha⟩⟩
        obtain ⟨c, h1, h2⟩ := this
        have hnd : (c :: joined k s (start1 s)).Nodup := List.nodup_cons.mpr ⟨h2, joined_nodup s k⟩
        have hle := List.Nodup.length_le_of_subset (l₂ := joined (k + 1) s (start1 s)) hnd fun x hx => by
          rcases List.mem_cons.mp hx with rfl | hx
          · exact h1
          · exact joined_grow s k x hx
        rw [List.length_cons] at hle
        omega
def nb (p : Pt) : List Pt := [(p.1 + 1, p.2), (p.1 - 1, p.2), (p.1, p.2 + 1), (p.1, p.2 - 1)]
theorem pt_inj {c d : Nat} (h : pt c = pt d) : c = d := by
  unfold pt at h
  have h1 := congrArg Prod.fst h
  have h2 := congrArg Prod.snd h
  simp only at h1 h2
  omega
theorem nb_adj {c d : Nat} : pt c ∈ nb (pt d) ↔ adj c d = true := by
  unfold nb adj pt
  simp only [List.mem_cons, List.not_mem_nil, or_false, Prod.mk.injEq, Bool.or_eq_true, Bool.and_eq_true, beq_iff_eq]
  omega
theorem mem_pts {s : Nat} {p : Pt} : p ∈ pts s ↔ ∃ c ∈ squares s, pt c = p := List.mem_map
theorem nodup_map_pt {l : List Nat} (h : l.Nodup) : (l.map pt).Nodup := List.Pairwise.map pt (fun a b hab e => hab (pt_inj e)) h
theorem pts_nodup (s : Nat) : (pts s).Nodup := nodup_map_pt (squares_nodup s)
/-- all that hangs together with the first -/
def jp (s : Nat) : List Pt := (joined 8 s (start1 s)).map pt
/-- the search's state: walked places have all their neighbours among the reached -/
structure Bfs (L JP : List Pt) (first : Pt) (reached : List Pt) (walked : Nat) : Prop where
  nd : reached.Nodup
  sub : ∀ p ∈ reached, p ∈ L
  inJ : ∀ p ∈ reached, p ∈ JP
  hd : first ∈ reached
  cl : ∀ i, i < walked → ∀ p, reached[i]? = some p → ∀ q ∈ nb p, q ∈ L → q ∈ reached
  le : walked ≤ reached.length
theorem Bfs.start {L JP : List Pt} {first : Pt} (h : first ∈ L) (hj : first ∈ JP) : Bfs L JP first [first] 0 :=
  ⟨by simp, fun p hp => by rw [List.mem_singleton.mp hp]; exact h, fun p hp => by rw [List.mem_singleton.mp hp]; exact hj, by simp, fun i hi => absurd hi (Nat.not_lt_zero _), Nat.zero_le _⟩
theorem Bfs.push {L JP : List Pt} {first : Pt} {reached : List Pt} {walked : Nat} (b : Bfs L JP first reached walked) {q : Pt} (h1 : q ∈ L) (h2 : q ∈ JP) (h3 : ¬ q ∈ reached) : Bfs L JP first (reached ++ [q]) walked := by
  refine ⟨?_, fun p hp => ?_, fun p hp => ?_, List.mem_append_left _ b.hd, fun i hi p hp r hr hrL => ?_, by rw [List.length_append]; exact Nat.le_trans b.le (Nat.le_add_right _ _)⟩
  · rw [List.nodup_append]
    refine ⟨b.nd, by simp, fun x hx y hy e => ?_⟩
    rw [List.mem_singleton.mp hy] at e
    subst e
    exact h3 hx
  · rcases List.mem_append.mp hp with hp | hp
    · exact b.sub p hp
    · rw [List.mem_singleton.mp hp]; exact h1
  · rcases List.mem_append.mp hp with hp | hp
    · exact b.inJ p hp
    · rw [List.mem_singleton.mp hp]; exact h2
  · rw [List.getElem?_append_left (Nat.lt_of_lt_of_le hi b.le)] at hp
    exact List.mem_append_left _ (b.cl i hi p hp r hr hrL)
theorem Bfs.small {L JP : List Pt} {first : Pt} {reached : List Pt} {walked : Nat} (b : Bfs L JP first reached walked) : reached.length ≤ L.length := List.Nodup.length_le_of_subset b.nd b.sub
theorem Bfs.done {s : Nat} {first : Pt} {reached : List Pt} {walked : Nat} (b : Bfs (pts s) (jp s) first reached walked) (hf : (pts s)[0]? = some first) (hw : ¬ walked < reached.length) : reached.length = (joined 8 s (start1 s)).length := by
  have cl : ∀ p ∈ reached, ∀ q ∈ nb p, q ∈ pts s → q ∈ reached := fun p hp q hq hqs => by
    obtain ⟨i, hi⟩ := List.getElem?_of_mem hp
    have hlt : i < reached.length := (List.getElem?_eq_some_iff.mp hi).1
    exact b.cl i (by omega) p hi q hq hqs
  have all : ∀ k, ∀ c ∈ joined k s (start1 s), pt c ∈ reached := by
    intro k
    induction k with
    | zero =>
      intro c hc
      have hc : c ∈ (squares s).take 1 := hc
      unfold pts at hf
      rw [List.getElem?_map] at hf
      cases e : squares s with
      | nil => rw [e] at hc; cases hc
      | cons a l =>
        rw [e] at hc hf
        simp at hc hf
        subst hc
        rw [hf]
        exact b.hd
    | succ k ih =>
      intro c hc
      rw [joined_add] at hc
      obtain ⟨h1, h2 | ⟨d, hd, ha⟩⟩ := mem_spread.mp hc
      · exact ih c h2
      · exact cl _ (ih d hd) _ (nb_adj.mpr ha) (mem_pts.mpr ⟨c, h1, rfl⟩)
  refine Nat.le_antisymm ?_ ?_
  · have h := List.Nodup.length_le_of_subset (l₂ := jp s) b.nd b.inJ
    rw [jp, List.length_map] at h
    exact h
  · have h := List.Nodup.length_le_of_subset (l₁ := (joined 8 s (start1 s)).map pt) (l₂ := reached) (nodup_map_pt (joined_nodup s 8)) fun x hx => by
      obtain ⟨c, hc, rfl⟩ := List.mem_map.mp hx
      exact all 8 c hc
    rw [List.length_map] at h
    exact h
/-- what the program asks of a piece -/
theorem piece_eq (s : Nat) : piece s = (decide (1 ≤ (pts s).length) && (decide ((pts s).length ≤ 8) && ((joined 8 s (start1 s)).length == (pts s).length))) := by
  unfold piece pts start1
  rw [List.length_map]

theorem ways_due (n : Nat) (h : n < 2 ^ 64) : PyKg37.ways (n : Int) = if piece n = false then [-2] else ((lies (pts n)).length : Int) :: (lies (pts n)).map fun (c : Nat) => (c : Int) := by
  have e : PyKg37.ways (n : Int) = Kg37Neutral.f [[0, (n : Int)]] := rfl
  have e2 : Kg37Neutral.callOf (Kg37Neutral.numbers [[0, (n : Int)]]) = Kg37.Call.ways n := by
    show Kg37Neutral.callOf [0, (n : Int).toNat] = _
    rw [Int.toNat_natCast]
    rfl
  rw [e]
  unfold Kg37Neutral.f
  simp only [e2]
  unfold Kg37.does
  by_cases hp : piece n = false
  · simp only [hp, if_true]
    rfl
  · simp only [if_neg hp]
    have hp' : piece n = true := by simpa using hp
    rw [piece_eq, Bool.and_eq_true] at hp'
    have hne : pts n ≠ [] := by
      intro z
      have := of_decide_eq_true hp'.1
      rw [z] at this
      simp at this
    have hw := ways_num hne (pts_near n)
    rw [shapeOf_eq]
    have hl : (Kg37.ways (placed (pts n))).length = (lies (pts n)).length := by rw [← hw, List.length_map]
    rw [hl]
    show _ :: Kg37Neutral.ofNats (List.map num (Kg37.ways (placed (pts n)))) = _
    rw [hw]
    rfl
end Fb

namespace Fb
open Kg37

theorem testBit_without (b a c : Nat) : (without b a).testBit c = (decide (c < 64) && (b.testBit c && !a.testBit c)) := by
  unfold without
  rw [testBit_setOf, Bool.eq_iff_iff, decide_eq_true_iff, List.mem_filter, mem_squares]
  simp [has, and_assoc]
theorem within_iff {a b : Nat} : within a b = true ↔ ∀ c, c < 64 → a.testBit c = true → b.testBit c = true := by
  unfold within
  rw [List.all_eq_true]
  constructor
  · intro h c h1 h2
    exact h c (mem_squares.mpr ⟨h1, h2⟩)
  · intro h c hc
    have := mem_squares.mp hc
    exact h c this.1 this.2
theorem lt64 {s : Nat} (h : ∀ c, 64 ≤ c → s.testBit c = false) : s < 2 ^ 64 := Nat.lt_pow_two_of_testBit s h
theorem without_lt (b a : Nat) : without b a < 2 ^ 64 := lt64 fun c hc => by
  rw [testBit_without, decide_eq_false (by omega), Bool.false_and]
theorem high {s c : Nat} (h : s < 2 ^ 64) (hc : 64 ≤ c) : s.testBit c = false := Nat.testBit_lt_two_pow (Nat.lt_of_lt_of_le h (Nat.pow_le_pow_right (by decide) hc))
theorem squares_without (b a : Nat) : squares (without b a) = (squares b).filter fun c => !has a c := by
  unfold squares
  rw [List.filter_filter]
  refine List.filter_congr fun c hc => ?_
  have hc := List.mem_range.mp hc
  show (without b a).testBit c = _
  rw [testBit_without, decide_eq_true hc, Bool.true_and]
  show (b.testBit c && !a.testBit c) = (!a.testBit c && b.testBit c)
  rw [Bool.and_comm]
theorem eq_zero_iff {s : Nat} (h : s < 2 ^ 64) : s = 0 ↔ squares s = [] := by
  constructor
  · intro e
    subst e
    rfl
  · intro e
    refine Nat.eq_of_testBit_eq fun i => ?_
    rw [Nat.zero_testBit]
    by_cases hi : i < 64
    · cases q : s.testBit i with
      | false => rfl
      | true =>
        have := mem_squares.mpr ⟨hi, q⟩
        rw [e] at this
        cases this
    · exact high h (by omega)
def pop (s : Nat) : Nat := (squares s).length
theorem pop_le (s : Nat) : pop s ≤ 64 := by
  have := List.length_filter_le (has s) (List.range 64)
  rw [List.length_range] at this
  exact this
theorem pop_without {b a c : Nat} (h1 : c ∈ squares b) (h2 : a.testBit c = true) : pop (without b a) < pop b := by
  unfold pop
  rw [squares_without]
  refine Nat.lt_of_le_of_ne (List.length_filter_le _ _) fun e => ?_
  have := List.length_filter_eq_length_iff.mp e c h1
  rw [show has a c = a.testBit c from rfl, h2] at this
  cases this

theorem laid_has {w : Shape} {c s : Nat} (h : laid w c = some s) : s.testBit c = true := by
  unfold laid at h
  cases w with
  | nil => cases h
  | cons q r =>
    obtain ⟨x, y⟩ := q
    simp only at h
    split at h
    · have h := Option.some.inj h
      rw [← h, testBit_setOf, decide_eq_true_iff, List.mem_map]
      refine ⟨(x, y), List.mem_cons_self, ?_⟩
      simp only
      omega
    · cases h
theorem next_first {p : Puzzle} {left : Nat} {counts : List Nat} {l : Laid} (h : l ∈ next p left counts) : ∃ c, (squares left).head? = some c ∧ l.2.testBit c = true ∧ within l.2 left = true ∧ l.1 < p.pieces.length ∧ counts.getD l.1 0 ≠ 0 := by
  unfold next at h
  cases e : (squares left).head? with
  | none => rw [e] at h; cases h
  | some c =>
    rw [e] at h
    obtain ⟨i, hi, h⟩ := List.mem_flatMap.mp h
    by_cases hz : counts.getD i 0 = 0
    · rw [if_pos hz] at h; cases h
    · rw [if_neg hz] at h
      obtain ⟨w, hw, h⟩ := List.mem_filterMap.mp h
      cases q : laid w c with
      | none => rw [q] at h; cases h
      | some s =>
        rw [q] at h
        simp only [Option.bind_some] at h
        split at h
        · rename_i hwi
          have h := Option.some.inj h
          subst h
          exact ⟨c, rfl, laid_has q, hwi, List.mem_range.mp hi, hz⟩
        · cases h

theorem flatMap_congr {α β : Type} {f g : α → List β} : ∀ {l : List α}, (∀ x ∈ l, f x = g x) → l.flatMap f = l.flatMap g
  | [], _ => rfl
  | a :: l, h => by
    rw [List.flatMap_cons, List.flatMap_cons, h a List.mem_cons_self, flatMap_congr fun x hx => h x (List.mem_cons_of_mem _ hx)]
theorem fill_more (p : Puzzle) : ∀ (k : Nat) (left : Nat) (counts : List Nat), pop left ≤ k → fill p (k + 1) left counts = fill p k left counts
  | 0, left, counts, h => by
    have e : squares left = [] := List.length_eq_zero_iff.mp (Nat.le_zero.mp h)
    have n : next p left counts = [] := by unfold next; rw [e]; rfl
    unfold fill
    rw [n, List.flatMap_nil]
    by_cases hl : left = 0
    · simp only [hl, true_and, if_true]
    · simp only [hl, false_and, if_false]
  | k + 1, left, counts, h => by
    conv => lhs; unfold fill
    conv => rhs; unfold fill
    by_cases hl : left = 0
    · rw [if_pos hl, if_pos hl]
    · rw [if_neg hl, if_neg hl]
      refine flatMap_congr fun l hl => ?_
      obtain ⟨c, h1, h2, _⟩ := next_first hl
      have h3 := pop_without (List.mem_of_mem_head? h1) h2
      rw [fill_more p k _ _ (by omega)]
theorem fill_any (p : Puzzle) {left : Nat} {counts : List Nat} : ∀ (j k : Nat), pop left ≤ k → fill p (k + j) left counts = fill p k left counts
  | 0, k, _ => rfl
  | j + 1, k, h => by
    rw [← Nat.add_assoc, fill_more p (k + j) left counts (by omega), fill_any p j k h]
/-- all fillings of what is left -/
def fl (p : Puzzle) (left : Nat) (counts : List Nat) : List (List Laid) := fill p 64 left counts
theorem fl_fill (p : Puzzle) {left : Nat} {counts : List Nat} {k : Nat} (h : pop left ≤ k) : fill p k left counts = fl p left counts := by
  unfold fl
  have h64 := pop_le left
  have e1 := fill_any p (counts := counts) (64 - pop left) (pop left) (Nat.le_refl _)
  have e2 := fill_any p (counts := counts) (k - pop left) (pop left) (Nat.le_refl _)
  rw [show pop left + (64 - pop left) = 64 by omega] at e1
  rw [show pop left + (k - pop left) = k by omega] at e2
  rw [e1, e2]
/-- may the filling end with these left over -/
def ends (p : Puzzle) (counts : List Nat) : Bool := !p.all_ || counts.all fun n => n == 0
theorem ends_iff {p : Puzzle} {counts : List Nat} : (p.all_ = false ∨ counts.all (fun n => n == 0) = true) ↔ ends p counts = true := by
  unfold ends
  cases p.all_ <;> simp
theorem fl_zero (p : Puzzle) (counts : List Nat) : fl p 0 counts = if ends p counts = true then [[]] else [] := by
  unfold fl fill
  rw [if_pos rfl]
  by_cases h : ends p counts = true
  · rw [if_pos h, if_pos (ends_iff.mpr h)]
  · rw [if_neg h, if_neg (fun z => h (ends_iff.mp z))]
def less (counts : List Nat) (i : Nat) : List Nat := counts.set i (counts.getD i 0 - 1)
theorem fl_step (p : Puzzle) {left : Nat} (counts : List Nat) (h : left ≠ 0) : fl p left counts = (next p left counts).flatMap fun l => (fl p (without left l.2) (less counts l.1)).map fun r => l :: r := by
  have e : fl p left counts = (next p left counts).flatMap fun l => (fill p 63 (without left l.2) (less counts l.1)).map fun r => l :: r := by
    show (if left = 0 then _ else _) = _
    rw [if_neg h]
    rfl
  rw [e]
  refine flatMap_congr fun l hl => ?_
  obtain ⟨c, h1, h2, _⟩ := next_first hl
  have h3 := pop_without (List.mem_of_mem_head? h1) h2
  have := pop_le left
  rw [fl_fill p (by omega)]
end Fb

namespace Fb
open Kg37
def code (q : Nat × Nat) : Nat := q.1 + 8 * q.2
end Fb

namespace Fb
open Kg37
/-- the puzzle that is told -/
def puz (board all : Int) (pieces counts : List Int) : Puzzle := ⟨board.toNat, (pieces.map Int.toNat).zip (counts.map Int.toNat), all != 0⟩
end Fb

namespace Fb
open Kg37
def lin (k : Nat) (p : Pt) : Pt :=
  let q : Pt := if k % 4 = 0 then p else if k % 4 = 1 then (-p.2, p.1) else if k % 4 = 2 then (-p.1, -p.2) else (p.2, -p.1)
  if k < 4 then q else (-q.1, q.2)
def off (k : Nat) : Pt :=
  let q : Pt := if k % 4 = 0 then (0, 0) else if k % 4 = 1 then (7, 0) else if k % 4 = 2 then (7, 7) else (0, 7)
  if k < 4 then q else (7 - q.1, q.2)
def addP (p q : Pt) : Pt := (p.1 + q.1, p.2 + q.2)
theorem addP_fst (p q : Pt) : (addP p q).1 = p.1 + q.1 := rfl
theorem addP_snd (p q : Pt) : (addP p q).2 = p.2 + q.2 := rfl
theorem k8 {P : Nat → Prop} (h0 : P 0) (h1 : P 1) (h2 : P 2) (h3 : P 3) (h4 : P 4) (h5 : P 5) (h6 : P 6) (h7 : P 7) : ∀ k, k < 8 → P k
  | 0, _ => h0
  | 1, _ => h1
  | 2, _ => h2
  | 3, _ => h3
  | 4, _ => h4
  | 5, _ => h5
  | 6, _ => h6
  | 7, _ => h7
theorem pt_image : ∀ k, k < 8 → ∀ c, c < 64 → pt (image k c) = addP (lin k (pt c)) (off k) := by
  refine k8 ?_ ?_ ?_ ?_ ?_ ?_ ?_ ?_ <;> intro c hc <;>
  · have h1 : c / 8 < 8 := by omega
    have h2 : c % 8 < 8 := by omega
    generalize e1 : c / 8 = y at *
    generalize e2 : c % 8 = x at *
    unfold pt image lin off addP
    simp only [e1, e2]
    refine Prod.ext ?_ ?_ <;> simp <;> omega
theorem image_lt : ∀ k, k < 8 → ∀ c, c < 64 → image k c < 64 := by
  refine k8 ?_ ?_ ?_ ?_ ?_ ?_ ?_ ?_ <;> intro c hc <;>
  · have h1 : c / 8 < 8 := by omega
    have h2 : c % 8 < 8 := by omega
    generalize e1 : c / 8 = y at *
    generalize e2 : c % 8 = x at *
    unfold image
    simp only [e1, e2]
    simp
    omega
def lowX (s : Nat) : Nat := (squares s).foldl (fun m c => min m (c % 8)) 7
def lowY (s : Nat) : Nat := (squares s).foldl (fun m c => min m (c / 8)) 7
def turnS (k s : Nat) : Nat := setOf ((squares s).map (image k))
theorem moved_eq (b k s : Nat) : Kg37.moved b k s = setOf ((squares (turnS k s)).map fun c => c % 8 + lowX b - lowX (turnS k b) + 8 * (c / 8 + lowY b - lowY (turnS k b))) := rfl
theorem fold_low (f : Nat → Nat) : ∀ (l : List Nat) (a : Nat), (l.foldl (fun m c => min m (f c)) a = a ∨ ∃ c ∈ l, l.foldl (fun m c => min m (f c)) a = f c) ∧ l.foldl (fun m c => min m (f c)) a ≤ a ∧ ∀ c ∈ l, l.foldl (fun m c => min m (f c)) a ≤ f c
  | [], a => ⟨.inl rfl, Nat.le_refl _, fun c hc => by cases hc⟩
  | x :: l, a => by
    obtain ⟨h1, h2, h3⟩ := fold_low f l (min a (f x))
    refine ⟨?_, ?_, ?_⟩
    · rcases h1 with h1 | ⟨c, hc, h1⟩
      · by_cases hx : a ≤ f x
        · left
          show l.foldl _ (min a (f x)) = a
          rw [h1, Nat.min_eq_left hx]
        · right
          refine ⟨x, List.mem_cons_self, ?_⟩
          show l.foldl _ (min a (f x)) = f x
          rw [h1, Nat.min_eq_right (by omega)]
      · exact .inr ⟨c, List.mem_cons_of_mem _ hc, h1⟩
    · show l.foldl _ (min a (f x)) ≤ a
      omega
    · intro c hc
      show l.foldl _ (min a (f x)) ≤ f c
      rcases List.mem_cons.mp hc with rfl | hc
      · omega
      · exact h3 c hc
theorem lowX_eq {s : Nat} (h : squares s ≠ []) : (lowX s : Int) = x0 (pts s) := by
  obtain ⟨h1, h2, h3⟩ := fold_low (fun c => c % 8) (squares s) 7
  refine (x0_eq ?_ ?_).symm
  · rcases h1 with h1 | ⟨c, hc, h1⟩
    · obtain ⟨c, hc⟩ := List.exists_mem_of_ne_nil _ h
      refine ⟨pt c, List.mem_map.mpr ⟨c, hc, rfl⟩, ?_⟩
      have := h3 c hc
      show ((c % 8 : Nat) : Int) = (lowX s : Int)
      unfold lowX
      omega
    · refine ⟨pt c, List.mem_map.mpr ⟨c, hc, rfl⟩, ?_⟩
      show ((c % 8 : Nat) : Int) = (lowX s : Int)
      unfold lowX
      rw [h1]
  · intro p hp
    obtain ⟨c, hc, rfl⟩ := List.mem_map.mp hp
    have := h3 c hc
    show (lowX s : Int) ≤ ((c % 8 : Nat) : Int)
    unfold lowX
    omega
theorem lowY_eq {s : Nat} (h : squares s ≠ []) : (lowY s : Int) = y0 (pts s) := by
  obtain ⟨h1, h2, h3⟩ := fold_low (fun c => c / 8) (squares s) 7
  refine (y0_eq ?_ ?_).symm
  · rcases h1 with h1 | ⟨c, hc, h1⟩
    · obtain ⟨c, hc⟩ := List.exists_mem_of_ne_nil _ h
      refine ⟨pt c, List.mem_map.mpr ⟨c, hc, rfl⟩, ?_⟩
      have := h3 c hc
      have := (mem_squares.mp hc).1
      show ((c / 8 : Nat) : Int) = (lowY s : Int)
      unfold lowY
      omega
    · refine ⟨pt c, List.mem_map.mpr ⟨c, hc, rfl⟩, ?_⟩
      show ((c / 8 : Nat) : Int) = (lowY s : Int)
      unfold lowY
      rw [h1]
  · intro p hp
    obtain ⟨c, hc, rfl⟩ := List.mem_map.mp hp
    have := h3 c hc
    show (lowY s : Int) ≤ ((c / 8 : Nat) : Int)
    unfold lowY
    omega
theorem mem_turnS {k s : Nat} (hk : k < 8) {d : Nat} : d ∈ squares (turnS k s) ↔ ∃ c ∈ squares s, image k c = d := by
  rw [mem_squares]
  unfold turnS
  rw [testBit_setOf, decide_eq_true_iff, List.mem_map]
  constructor
  · rintro ⟨_, c, hc, e⟩
    exact ⟨c, hc, e⟩
  · rintro ⟨c, hc, e⟩
    exact ⟨by rw [← e]; exact image_lt k hk c (mem_squares.mp hc).1, c, hc, e⟩
theorem mem_pts_turnS {k s : Nat} (hk : k < 8) {p : Pt} : p ∈ pts (turnS k s) ↔ ∃ q ∈ pts s, p = addP (lin k q) (off k) := by
  constructor
  · intro h
    obtain ⟨d, hd, rfl⟩ := List.mem_map.mp h
    obtain ⟨c, hc, rfl⟩ := (mem_turnS hk).mp hd
    exact ⟨pt c, List.mem_map.mpr ⟨c, hc, rfl⟩, pt_image k hk c (mem_squares.mp hc).1⟩
  · rintro ⟨q, hq, rfl⟩
    obtain ⟨c, hc, rfl⟩ := List.mem_map.mp hq
    exact List.mem_map.mpr ⟨image k c, (mem_turnS hk).mpr ⟨c, hc, rfl⟩, pt_image k hk c (mem_squares.mp hc).1⟩
/-- how far a turned board is moved back -/
def vec (k b : Nat) : Pt := (x0 (pts b) - x0 ((pts b).map (lin k)), y0 (pts b) - y0 ((pts b).map (lin k)))
def sym (b k : Nat) (p : Pt) : Pt := addP (lin k p) (vec k b)
theorem pts_ne {s : Nat} (h : squares s ≠ []) : pts s ≠ [] := fun z => h (List.map_eq_nil_iff.mp z)
theorem low_turn {k b : Nat} (hk : k < 8) (h : squares b ≠ []) : (lowX (turnS k b) : Int) = x0 ((pts b).map (lin k)) + (off k).1 ∧ (lowY (turnS k b) : Int) = y0 ((pts b).map (lin k)) + (off k).2 := by
  have hne : squares (turnS k b) ≠ [] := by
    obtain ⟨c, hc⟩ := List.exists_mem_of_ne_nil _ h
    exact List.ne_nil_of_mem ((mem_turnS hk).mpr ⟨c, hc, rfl⟩)
  have hl : (pts b).map (lin k) ≠ [] := fun z => pts_ne h (List.map_eq_nil_iff.mp z)
  rw [lowX_eq hne, lowY_eq hne]
  constructor
  · refine x0_eq ?_ ?_
    · obtain ⟨p, hp, e⟩ := x0_mem hl
      obtain ⟨q, hq, rfl⟩ := List.mem_map.mp hp
      exact ⟨_, (mem_pts_turnS hk).mpr ⟨q, hq, rfl⟩, by rw [addP_fst, e]⟩
    · intro p hp
      obtain ⟨q, hq, rfl⟩ := (mem_pts_turnS hk).mp hp
      have := x0_le (List.mem_map.mpr ⟨q, hq, rfl⟩ : lin k q ∈ (pts b).map (lin k))
      rw [addP_fst]
      omega
  · refine y0_eq ?_ ?_
    · obtain ⟨p, hp, e⟩ := y0_mem hl
      obtain ⟨q, hq, rfl⟩ := List.mem_map.mp hp
      exact ⟨_, (mem_pts_turnS hk).mpr ⟨q, hq, rfl⟩, by rw [addP_snd, e]⟩
    · intro p hp
      obtain ⟨q, hq, rfl⟩ := (mem_pts_turnS hk).mp hp
      have := y0_le (List.mem_map.mpr ⟨q, hq, rfl⟩ : lin k q ∈ (pts b).map (lin k))
      rw [addP_snd]
      omega
/-- a turned square stands at the board's corner or behind it, eight on at the most -/
theorem sym_lo {k b : Nat} {q : Pt} (h : q ∈ pts b) : x0 (pts b) ≤ (sym b k q).1 ∧ y0 (pts b) ≤ (sym b k q).2 := by
  have h1 := x0_le (List.mem_map.mpr ⟨q, h, rfl⟩ : lin k q ∈ (pts b).map (lin k))
  have h2 := y0_le (List.mem_map.mpr ⟨q, h, rfl⟩ : lin k q ∈ (pts b).map (lin k))
  unfold sym vec
  rw [addP_fst, addP_snd]
  simp only
  omega
theorem low_nonneg {b : Nat} {q : Pt} (h : q ∈ pts b) : 0 ≤ x0 (pts b) ∧ 0 ≤ y0 (pts b) := by
  have hne : pts b ≠ [] := List.ne_nil_of_mem h
  obtain ⟨p, hp, e⟩ := x0_mem hne
  obtain ⟨p', hp', e'⟩ := y0_mem hne
  have := pts_in hp
  have := pts_in hp'
  omega
/-- a part of the board, turned -/
theorem mem_moved {b k s : Nat} (hk : k < 8) (hs : ∀ c ∈ squares s, c ∈ squares b) {i : Nat} : (Kg37.moved b k s).testBit i = true ↔ ∃ q ∈ pts s, (sym b k q).1 + 8 * (sym b k q).2 = i := by
  rw [moved_eq, testBit_setOf, decide_eq_true_iff, List.mem_map]
  have hsub : ∀ q ∈ pts s, q ∈ pts b := fun q hq => by
    obtain ⟨c, hc, rfl⟩ := List.mem_map.mp hq
    exact List.mem_map.mpr ⟨c, hs c hc, rfl⟩
  have key : ∀ c, c ∈ squares s → ((image k c % 8 + lowX b - lowX (turnS k b) + 8 * (image k c / 8 + lowY b - lowY (turnS k b)) : Nat) : Int) = (sym b k (pt c)).1 + 8 * (sym b k (pt c)).2 := by
    intro c hc
    have hne : squares b ≠ [] := List.ne_nil_of_mem (hs c hc)
    obtain ⟨e1, e2⟩ := low_turn hk hne
    have e3 := lowX_eq hne
    have e4 := lowY_eq hne
    have hm := hsub _ (List.mem_map.mpr ⟨c, hc, rfl⟩ : pt c ∈ pts s)
    have h5 := sym_lo (k := k) hm
    have h6 := low_nonneg hm
    have e7 := pt_image k hk c (mem_squares.mp hc).1
    have e8 := congrArg Prod.fst e7
    have e9 := congrArg Prod.snd e7
    rw [addP_fst] at e8
    rw [addP_snd] at e9
    have e8 : ((image k c % 8 : Nat) : Int) = (lin k (pt c)).1 + (off k).1 := e8
    have e9 : ((image k c / 8 : Nat) : Int) = (lin k (pt c)).2 + (off k).2 := e9
    unfold sym vec at h5 ⊢
    rw [addP_fst, addP_snd] at h5 ⊢
    simp only at h5 ⊢
    omega
  constructor
  · rintro ⟨d, hd, e⟩
    obtain ⟨c, hc, rfl⟩ := (mem_turnS hk).mp hd
    refine ⟨pt c, List.mem_map.mpr ⟨c, hc, rfl⟩, ?_⟩
    rw [← key c hc]
    omega
  · rintro ⟨q, hq, e⟩
    obtain ⟨c, hc, rfl⟩ := List.mem_map.mp hq
    refine ⟨image k c, (mem_turnS hk).mpr ⟨c, hc, rfl⟩, ?_⟩
    rw [← key c hc] at e
    omega
end Fb

namespace Fb
open Kg37
theorem pt_code {x y : Int} (h1 : 0 ≤ x) (h2 : x < 8) (h3 : 0 ≤ y) (h4 : y < 8) : pt (x + 8 * y).toNat = (x, y) := by
  unfold pt
  refine Prod.ext ?_ ?_ <;> simp only <;> omega
theorem mem_pts_iff {s : Nat} {p : Pt} : p ∈ pts s ↔ (0 ≤ p.1 ∧ p.1 < 8 ∧ 0 ≤ p.2 ∧ p.2 < 8) ∧ s.testBit (p.1 + 8 * p.2).toNat = true := by
  constructor
  · intro h
    refine ⟨pts_in h, ?_⟩
    obtain ⟨c, hc, rfl⟩ := List.mem_map.mp h
    have := mem_squares.mp hc
    have e : ((pt c).1 + 8 * (pt c).2).toNat = c := by
      unfold pt
      simp only
      omega
    rw [e]
    exact this.2
  · rintro ⟨⟨h1, h2, h3, h4⟩, h5⟩
    refine List.mem_map.mpr ⟨(p.1 + 8 * p.2).toNat, mem_squares.mpr ⟨by omega, h5⟩, pt_code h1 h2 h3 h4⟩
theorem mem_sq_pts {s c : Nat} (hc : c < 64) : pt c ∈ pts s ↔ s.testBit c = true := by
  constructor
  · intro h
    obtain ⟨d, hd, e⟩ := List.mem_map.mp h
    have := pt_inj e
    subst this
    exact (mem_squares.mp hd).2
  · intro h
    exact List.mem_map.mpr ⟨c, mem_squares.mpr ⟨hc, h⟩, rfl⟩
/-- the turns under which the board stays -/
def Stays (b k : Nat) : Prop := k < 8 ∧ ∀ p ∈ pts b, sym b k p ∈ pts b
/-- a part of the board, turned: its squares -/
theorem mem_pts_moved {b k s : Nat} (h : Stays b k) (hs : ∀ c ∈ squares s, c ∈ squares b) {p : Pt} : p ∈ pts (Kg37.moved b k s) ↔ ∃ q ∈ pts s, p = sym b k q := by
  have hsub : ∀ q ∈ pts s, q ∈ pts b := fun q hq => by
    obtain ⟨c, hc, rfl⟩ := List.mem_map.mp hq
    exact List.mem_map.mpr ⟨c, hs c hc, rfl⟩
  rw [mem_pts_iff, mem_moved h.1 hs]
  constructor
  · rintro ⟨hr, q, hq, e⟩
    have := pts_in (h.2 q (hsub q hq))
    exact ⟨q, hq, Prod.ext (by omega) (by omega)⟩
  · rintro ⟨q, hq, rfl⟩
    have := pts_in (h.2 q (hsub q hq))
    exact ⟨this, q, hq, by omega⟩
theorem moved_lt {b k s : Nat} (h : Stays b k) (hs : ∀ c ∈ squares s, c ∈ squares b) : Kg37.moved b k s < 2 ^ 64 := lt64 fun c hc => by
  cases e : (Kg37.moved b k s).testBit c with
  | false => rfl
  | true =>
    obtain ⟨q, hq, e⟩ := (mem_moved h.1 hs).mp e
    obtain ⟨d, hd, rfl⟩ := List.mem_map.mp hq
    have := pts_in (h.2 _ (List.mem_map.mpr ⟨d, hs d hd, rfl⟩ : pt d ∈ pts b))
    omega
theorem moved_sub {b k s : Nat} (h : Stays b k) (hs : ∀ c ∈ squares s, c ∈ squares b) : ∀ c ∈ squares (Kg37.moved b k s), c ∈ squares b := fun c hc => by
  have := (mem_pts_moved h hs).mp (List.mem_map.mpr ⟨c, hc, rfl⟩ : pt c ∈ pts _)
  obtain ⟨q, hq, e⟩ := this
  obtain ⟨d, hd, rfl⟩ := List.mem_map.mp hq
  have h2 := h.2 _ (List.mem_map.mpr ⟨d, hs d hd, rfl⟩ : pt d ∈ pts b)
  rw [← e] at h2
  exact mem_squares.mpr ⟨(mem_squares.mp hc).1, (mem_sq_pts (mem_squares.mp hc).1).mp h2⟩
def Part (b s : Nat) : Prop := s < 2 ^ 64 ∧ ∀ c ∈ squares s, c ∈ squares b
theorem Part.pts {b s : Nat} (h : Part b s) {q : Pt} (hq : q ∈ Fb.pts s) : q ∈ Fb.pts b := by
  obtain ⟨c, hc, rfl⟩ := List.mem_map.mp hq
  exact List.mem_map.mpr ⟨c, h.2 c hc, rfl⟩
theorem Part.moved {b k s : Nat} (h : Part b s) (hk : Stays b k) : Part b (Kg37.moved b k s) := ⟨moved_lt hk h.2, moved_sub hk h.2⟩
end Fb

namespace Fb
open Kg37
/-- laid pieces that cover left, each square once -/
structure Tiles (left : Nat) (f : List Laid) : Prop where
  part : ∀ l ∈ f, Part left l.2
  some_ : ∀ l ∈ f, ∃ c, c ∈ squares l.2
  apart : f.Pairwise fun l m => ∀ c, c ∈ squares l.2 → ¬ c ∈ squares m.2
  all : ∀ c ∈ squares left, ∃ l ∈ f, c ∈ squares l.2
theorem laid_lt {w : Shape} {c s : Nat} (h : laid w c = some s) : s < 2 ^ 64 := by
  unfold laid at h
  cases w with
  | nil => cases h
  | cons q r =>
    obtain ⟨x, y⟩ := q
    simp only at h
    split at h
    · rename_i hw
      have h := Option.some.inj h
      rw [← h]
      refine lt64 fun i hi => ?_
      cases e : (setOf _).testBit i with
      | false => rfl
      | true =>
        rw [testBit_setOf, decide_eq_true_iff, List.mem_map] at e
        obtain ⟨q, hq, e⟩ := e
        have h1 := List.all_eq_true.mp hw q hq
        simp only [Bool.and_eq_true, decide_eq_true_iff] at h1
        omega
    · cases h
theorem next_lt {p : Puzzle} {left : Nat} {counts : List Nat} {l : Laid} (h : l ∈ next p left counts) : l.2 < 2 ^ 64 := by
  unfold next at h
  cases e : (squares left).head? with
  | none => rw [e] at h; cases h
  | some c =>
    rw [e] at h
    obtain ⟨i, hi, h⟩ := List.mem_flatMap.mp h
    by_cases hz : counts.getD i 0 = 0
    · rw [if_pos hz] at h; cases h
    · rw [if_neg hz] at h
      obtain ⟨w, hw, h⟩ := List.mem_filterMap.mp h
      cases q : laid w c with
      | none => rw [q] at h; cases h
      | some s =>
        rw [q] at h
        simp only [Option.bind_some] at h
        split at h
        · have h := Option.some.inj h
          subst h
          exact laid_lt q
        · cases h
theorem within_sub {a b : Nat} (h : within a b = true) : ∀ c ∈ squares a, c ∈ squares b := fun c hc => by
  have := mem_squares.mp hc
  exact mem_squares.mpr ⟨this.1, within_iff.mp h c this.1 this.2⟩
theorem mem_without {b a c : Nat} : c ∈ squares (without b a) ↔ c ∈ squares b ∧ ¬ c ∈ squares a := by
  rw [squares_without, List.mem_filter]
  constructor
  · rintro ⟨h1, h2⟩
    refine ⟨h1, fun h3 => ?_⟩
    rw [show has a c = a.testBit c from rfl, (mem_squares.mp h3).2] at h2
    cases h2
  · rintro ⟨h1, h2⟩
    refine ⟨h1, ?_⟩
    cases e : has a c with
    | false => rfl
    | true => exact absurd (mem_squares.mpr ⟨(mem_squares.mp h1).1, e⟩) h2
theorem fill_tiles (p : Puzzle) : ∀ (k left : Nat) (counts : List Nat), left < 2 ^ 64 → ∀ f ∈ fill p k left counts, Tiles left f
  | 0, left, counts, hl, f, hf => by
    unfold fill at hf
    split at hf
    · rename_i h
      rw [List.mem_singleton.mp hf, h.1]
      exact ⟨fun l hl => (by cases hl), fun l hl => (by cases hl), .nil, fun c hc => (by cases hc)⟩
    · cases hf
  | k + 1, left, counts, hl, f, hf => by
    unfold fill at hf
    split at hf
    · rename_i h
      split at hf
      · rw [List.mem_singleton.mp hf, h]
        exact ⟨fun l hl => (by cases hl), fun l hl => (by cases hl), .nil, fun c hc => (by cases hc)⟩
      · cases hf
    · obtain ⟨l, hl, hf⟩ := List.mem_flatMap.mp hf
      obtain ⟨r, hr, rfl⟩ := List.mem_map.mp hf
      have t := fill_tiles p k _ _ (without_lt left l.2) r hr
      obtain ⟨c, h1, h2, h3, _⟩ := next_first hl
      have hc := List.mem_of_mem_head? h1
      refine ⟨fun m hm => ?_, fun m hm => ?_, ?_, fun d hd => ?_⟩
      · rcases List.mem_cons.mp hm with rfl | hm
        · exact ⟨next_lt hl, within_sub h3⟩
        · exact ⟨(t.part m hm).1, fun d hd => (mem_without.mp ((t.part m hm).2 d hd)).1⟩
      · rcases List.mem_cons.mp hm with rfl | hm
        · exact ⟨c, mem_squares.mpr ⟨(mem_squares.mp hc).1, h2⟩⟩
        · exact t.some_ m hm
      · refine .cons (fun m hm d hd hd' => ?_) t.apart
        exact (mem_without.mp ((t.part m hm).2 d hd')).2 hd
      · by_cases hd' : d ∈ squares l.2
        · exact ⟨l, List.mem_cons_self, hd'⟩
        · obtain ⟨m, hm, h⟩ := t.all d (mem_without.mpr ⟨hd, hd'⟩)
          exact ⟨m, List.mem_cons_of_mem _ hm, h⟩
theorem pairwise_at {α : Type} {R : α → α → Prop} {l : List α} (h : l.Pairwise R) {a b : α} (ha : a ∈ l) (hb : b ∈ l) : a = b ∨ R a b ∨ R b a := by
  induction h with
  | nil => cases ha
  | @cons x l hx _ ih =>
    rcases List.mem_cons.mp ha with ha | ha
    · rcases List.mem_cons.mp hb with hb | hb
      · exact .inl (ha.trans hb.symm)
      · rw [ha]; exact .inr (.inl (hx b hb))
    · rcases List.mem_cons.mp hb with hb | hb
      · rw [hb]; exact .inr (.inr (hx a ha))
      · exact ih ha hb
/-- of two that lie on one square both are one -/
theorem Tiles.one {left : Nat} {f : List Laid} (t : Tiles left f) {l m : Laid} (hl : l ∈ f) (hm : m ∈ f) {c : Nat} (h1 : c ∈ squares l.2) (h2 : c ∈ squares m.2) : l = m := by
  rcases pairwise_at t.apart hl hm with h | h | h
  · exact h
  · exact absurd h2 (h c h1)
  · exact absurd h1 (h c h2)
end Fb

namespace Fb
open Kg37
theorem odd_part : ∀ (k n : Nat), n ≤ k → n ≠ 0 → ∃ t q, n = 2 ^ t * (2 * q + 1)
  | 0, n, h, h0 => absurd (Nat.le_zero.mp h) h0
  | k + 1, n, h, h0 => by
    by_cases e : n % 2 = 1
    · exact ⟨0, n / 2, by rw [Nat.pow_zero]; omega⟩
    · obtain ⟨t, q, hq⟩ := odd_part k (n / 2) (by omega) (by omega)
      refine ⟨t + 1, q, ?_⟩
      rw [Nat.pow_succ, Nat.mul_comm (2 ^ t) 2, Nat.mul_assoc, ← hq]
      omega
theorem testBit_mul_pow (t a i : Nat) : (2 ^ t * a).testBit i = (decide (t ≤ i) && a.testBit (i - t)) := by
  rw [Nat.mul_comm, Nat.testBit_mul_two_pow]
theorem pred_bits {t q : Nat} (i : Nat) : (2 ^ t * (2 * q + 1) - 1).testBit i = if i < t then true else (2 * q).testBit (i - t) := by
  have e : 2 ^ t * (2 * q + 1) - 1 = 2 ^ t * (2 * q) + (2 ^ t - 1) := by
    have : 0 < 2 ^ t := Nat.two_pow_pos t
    rw [Nat.mul_add, Nat.mul_one]
    omega
  have hlt : 2 ^ t - 1 < 2 ^ t := by have : 0 < 2 ^ t := Nat.two_pow_pos t; omega
  rw [e, Nat.testBit_two_pow_mul_add _ hlt]
  split
  · rename_i h
    rw [Nat.testBit_two_pow_sub_one, decide_eq_true h]
  · rfl
/-- all that is known of the lowest bit -/
structure Low (n t : Nat) : Prop where
  at_ : n.testBit t = true
  below : ∀ i, i < t → n.testBit i = false
  drop : ∀ i, (n &&& (n - 1)).testBit i = (n.testBit i && decide (i ≠ t))
theorem low_ex {n : Nat} (h : n ≠ 0) : ∃ t, Low n t := by
  obtain ⟨t, q, rfl⟩ := odd_part n n (Nat.le_refl _) h
  have b0 : (2 * q + 1).testBit 0 = true := by rw [Nat.testBit_zero]; simp
  have b0' : (2 * q).testBit 0 = false := by rw [Nat.testBit_zero]; simp
  refine ⟨t, ?_, fun i hi => ?_, fun i => ?_⟩
  · rw [testBit_mul_pow, decide_eq_true (Nat.le_refl _), Nat.sub_self, b0]
    rfl
  · rw [testBit_mul_pow, decide_eq_false (by omega), Bool.false_and]
  · rw [Nat.testBit_and, pred_bits, testBit_mul_pow]
    by_cases h1 : i < t
    · rw [decide_eq_false (by omega), Bool.false_and, Bool.false_and, Bool.false_and]
    · rw [if_neg h1, decide_eq_true (by omega), Bool.true_and]
      by_cases h2 : i = t
      · subst h2
        rw [Nat.sub_self, b0, b0', decide_eq_false (by simp)]
      · rw [decide_eq_true h2, Bool.and_true]
        obtain ⟨j, hj⟩ : ∃ j, i - t = j + 1 := ⟨i - t - 1, by omega⟩
        rw [hj, Nat.testBit_succ, Nat.testBit_succ, show (2 * q + 1) / 2 = q by omega, show 2 * q / 2 = q by omega, Bool.and_self]
theorem Low.lt {n t : Nat} (h : Low n t) (hn : n < 2 ^ 64) : t < 64 := by
  refine Classical.byContradiction fun z => ?_
  have := high hn (show 64 ≤ t by omega)
  rw [h.at_] at this
  cases this
theorem Low.or {n t : Nat} (h : Low n t) : (n &&& (n - 1)) + 2 ^ t = n := by
  have e : (n &&& (n - 1)).testBit t = false := by rw [h.drop, decide_eq_false (by simp), Bool.and_false]
  rw [add_two_pow e]
  refine Nat.eq_of_testBit_eq fun i => ?_
  rw [Nat.testBit_or, h.drop, Nat.testBit_two_pow]
  by_cases hi : i = t
  · subst hi
    rw [h.at_]
    simp
  · rw [decide_eq_true hi, decide_eq_false (fun z => hi z.symm), Bool.and_true, Bool.or_false]
/-- n & -n -/
def lowOf (n : Nat) : Nat := n - (n &&& (n - 1))
theorem Low.low {n t : Nat} (h : Low n t) : lowOf n = 2 ^ t := by
  have := h.or
  unfold lowOf
  generalize 2 ^ t = z at *
  omega
theorem range_split {t : Nat} (h : t < 64) : List.range 64 = List.range t ++ t :: List.range' (t + 1) (63 - t) := by
  have e : List.range 64 = List.range' 0 64 := List.range_eq_range'
  have e2 : List.range t = List.range' 0 t := List.range_eq_range'
  rw [e, e2, show 64 = t + (1 + (63 - t)) by omega, ← List.range'_append_1, ← List.range'_append_1, List.range'_one, Nat.zero_add]
  rfl
theorem Low.squares {n t : Nat} (h : Low n t) (hn : n < 2 ^ 64) : squares n = t :: squares (n &&& (n - 1)) := by
  have ht := h.lt hn
  unfold Kg37.squares
  rw [range_split ht, List.filter_append, List.filter_append, List.filter_cons, List.filter_cons]
  have e1 : (List.range t).filter (has n) = [] := List.filter_eq_nil_iff.mpr fun i hi => by
    have := h.below i (List.mem_range.mp hi)
    show ¬ n.testBit i = true
    rw [this]
    decide
  have e2 : (List.range t).filter (has (n &&& (n - 1))) = [] := List.filter_eq_nil_iff.mpr fun i hi => by
    have := h.below i (List.mem_range.mp hi)
    show ¬ (n &&& (n - 1)).testBit i = true
    rw [h.drop, this, Bool.false_and]
    decide
  have e3 : has n t = true := h.at_
  have e4 : ¬ has (n &&& (n - 1)) t = true := by
    show ¬ (n &&& (n - 1)).testBit t = true
    rw [h.drop, decide_eq_false (by simp), Bool.and_false]
    decide
  rw [e1, e2, if_pos e3, if_neg e4, List.nil_append, List.nil_append]
  congr 1
  refine List.filter_congr fun i hi => ?_
  have hi := List.mem_range'_1.mp hi
  show n.testBit i = (n &&& (n - 1)).testBit i
  rw [h.drop, decide_eq_true (by omega), Bool.and_true]
theorem and_lt (a b : Nat) (h : a < 2 ^ 64) : a &&& b < 2 ^ 64 := Nat.lt_of_le_of_lt Nat.and_le_left h
theorem pop_step {n : Nat} (h : n ≠ 0) (hn : n < 2 ^ 64) : pop n = pop (n &&& (n - 1)) + 1 := by
  obtain ⟨t, ht⟩ := low_ex h
  unfold pop
  rw [ht.squares hn]
  rfl
theorem pop_zero : pop 0 = 0 := by decide
theorem head_ex {n : Nat} (hn : n < 2 ^ 64) (h0 : n ≠ 0) : ∃ c, (squares n).head? = some c ∧ lowOf n = 2 ^ c ∧ c < 64 ∧ n.testBit c = true := by
  obtain ⟨t, ht⟩ := low_ex h0
  exact ⟨t, by rw [ht.squares hn]; rfl, ht.low, ht.lt hn, ht.at_⟩

def notLast : Nat := 9187201950435737471
def notFirst : Nat := 18374403900871474942
theorem testBit_notLast (i : Nat) : notLast.testBit i = (decide (i < 64) && decide (i % 8 ≠ 7)) := by
  by_cases h : i < 64
  · have : ∀ i : Fin 64, notLast.testBit i.1 = (decide (i.1 < 64) && decide (i.1 % 8 ≠ 7)) := by decide
    exact this ⟨i, h⟩
  · rw [high (by decide) (by omega), decide_eq_false h, Bool.false_and]
theorem testBit_notFirst (i : Nat) : notFirst.testBit i = (decide (i < 64) && decide (i % 8 ≠ 0)) := by
  by_cases h : i < 64
  · have : ∀ i : Fin 64, notFirst.testBit i.1 = (decide (i.1 < 64) && decide (i.1 % 8 ≠ 0)) := by decide
    exact this ⟨i, h⟩
  · rw [high (by decide) (by omega), decide_eq_false h, Bool.false_and]
/-- as the program joins them -/
def wn (n : Nat) : Nat := (((n ||| ((n &&& notLast) * 2 ^ 1)) ||| ((n &&& notFirst) / 2 ^ 1)) ||| (n * 2 ^ 8)) ||| (n / 2 ^ 8)
theorem adj_of {c d : Nat} (h : (c / 8 = d / 8 ∧ (c + 1 = d ∨ d + 1 = c)) ∨ c + 8 = d ∨ d + 8 = c) : adj c d = true := by
  unfold adj
  simp only [Bool.or_eq_true, Bool.and_eq_true, beq_iff_eq]
  omega
theorem testBit_wn {n c : Nat} (hn : n < 2 ^ 64) (hc : c < 64) : (wn n).testBit c = true ↔ c ∈ squares n ∨ ∃ d ∈ squares n, adj c d = true := by
  unfold wn
  rw [Nat.testBit_or, Nat.testBit_or, Nat.testBit_or, Nat.testBit_or, Nat.testBit_div_two_pow, Nat.testBit_div_two_pow, Nat.testBit_mul_two_pow, Nat.testBit_mul_two_pow, Nat.testBit_and, Nat.testBit_and, testBit_notLast, testBit_notFirst]
  simp only [Bool.or_eq_true, Bool.and_eq_true, decide_eq_true_iff]
  have inS : ∀ d, n.testBit d = true → d ∈ squares n := fun d hd => by
    refine mem_squares.mpr ⟨Classical.byContradiction fun z => ?_, hd⟩
    rw [high hn (show 64 ≤ d by omega)] at hd
    cases hd
  constructor
  · rintro ((((h | ⟨h1, h2, h3, h4⟩) | ⟨h1, h2, h3⟩) | ⟨h1, h2⟩) | h)
    · exact .inl (inS _ h)
    · exact .inr ⟨c - 1, inS _ h2, adj_of (by omega)⟩
    · exact .inr ⟨c + 1, inS _ (by first | exact h1 | (rw [Nat.add_comm]; exact h1)), adj_of (by omega)⟩
    · exact .inr ⟨c - 8, inS _ h2, adj_of (by omega)⟩
    · exact .inr ⟨c + 8, inS _ (by first | exact h | (rw [Nat.add_comm]; exact h)), adj_of (by omega)⟩
  · rintro (h | ⟨d, hd, ha⟩)
    · exact .inl (.inl (.inl (.inl (mem_squares.mp h).2)))
    · have hd := mem_squares.mp hd
      unfold adj at ha
      simp only [Bool.or_eq_true, Bool.and_eq_true, beq_iff_eq] at ha
      rcases ha with (⟨h1, h2 | h2⟩ | h2) | h2
      · refine .inl (.inl (.inr ⟨by first | (rw [show 1 + c = d by omega]; exact hd.2) | (rw [show c + 1 = d by omega]; exact hd.2), by omega, by omega⟩))
      · refine .inl (.inl (.inl (.inr ⟨by omega, by rw [show c - 1 = d by omega]; exact hd.2, by omega, by omega⟩)))
      · exact .inr (by first | (rw [show 8 + c = d by omega]; exact hd.2) | (rw [show c + 8 = d by omega]; exact hd.2))
      · exact .inl (.inr ⟨by omega, by rw [show c - 8 = d by omega]; exact hd.2⟩)

def jn (s k : Nat) : Nat := setOf (joined k s (start1 s))
theorem mem_jn {s k c : Nat} : c ∈ squares (jn s k) ↔ c ∈ joined k s (start1 s) := by
  rw [mem_squares]
  unfold jn
  rw [testBit_setOf, decide_eq_true_iff]
  exact ⟨fun h => h.2, fun h => ⟨(mem_squares.mp (joined_sub s k c h)).1, h⟩⟩
theorem bit_jn {s k c : Nat} : (jn s k).testBit c = true ↔ c ∈ joined k s (start1 s) := by
  unfold jn
  rw [testBit_setOf, decide_eq_true_iff]
theorem jn_lt (s k : Nat) : jn s k < 2 ^ 64 := lt64 fun c hc => by
  cases e : (jn s k).testBit c with
  | false => rfl
  | true => have := (mem_squares.mp (joined_sub s k c (bit_jn.mp e))).1; omega
theorem jn_zero {s : Nat} (hs : s < 2 ^ 64) : lowOf s = jn s 0 := by
  by_cases h : s = 0
  · subst h
    decide
  · obtain ⟨t, ht⟩ := low_ex h
    rw [ht.low]
    refine Nat.eq_of_testBit_eq fun i => ?_
    rw [Bool.eq_iff_iff, bit_jn, Nat.testBit_two_pow, decide_eq_true_iff]
    show _ ↔ i ∈ (squares s).take 1
    rw [ht.squares hs]
    simp
    exact eq_comm
theorem jn_succ {s : Nat} (hs : s < 2 ^ 64) (k : Nat) : wn (jn s k) &&& s = jn s (k + 1) := by
  refine Nat.eq_of_testBit_eq fun i => ?_
  rw [Bool.eq_iff_iff, bit_jn, joined_add, mem_spread, Nat.testBit_and, Bool.and_eq_true]
  constructor
  · rintro ⟨h1, h2⟩
    have hi : i < 64 := Classical.byContradiction fun z => by rw [high hs (by omega)] at h2; cases h2
    refine ⟨mem_squares.mpr ⟨hi, h2⟩, ?_⟩
    rcases (testBit_wn (jn_lt s k) hi).mp h1 with h | ⟨d, hd, ha⟩
    · exact .inl (mem_jn.mp h)
    · exact .inr ⟨d, mem_jn.mp hd, ha⟩
  · rintro ⟨h1, h2⟩
    have h1 := mem_squares.mp h1
    refine ⟨(testBit_wn (jn_lt s k) h1.1).mpr ?_, h1.2⟩
    rcases h2 with h | ⟨d, hd, ha⟩
    · exact .inl (mem_jn.mpr h)
    · exact .inr ⟨d, mem_jn.mpr hd, ha⟩
theorem pop_jn (s k : Nat) : pop (jn s k) = (joined k s (start1 s)).length := by
  unfold pop
  refine Nat.le_antisymm ?_ ?_
  · exact List.Nodup.length_le_of_subset (squares_nodup _) fun c hc => mem_jn.mp hc
  · exact List.Nodup.length_le_of_subset (joined_nodup s k) fun c hc => mem_jn.mpr hc
theorem jn_eq {s j k : Nat} (h : ∀ c, c ∈ joined j s (start1 s) ↔ c ∈ joined k s (start1 s)) : jn s j = jn s k :=
  Nat.eq_of_testBit_eq fun i => by rw [Bool.eq_iff_iff, bit_jn, bit_jn]; exact h i
theorem jn_grow {s k : Nat} (h : jn s (k + 1) ≠ jn s k) : pop (jn s k) < pop (jn s (k + 1)) := by
  rw [pop_jn, pop_jn]
  refine Nat.lt_of_le_of_ne (List.Nodup.length_le_of_subset (joined_nodup s k) fun c hc => joined_grow s k c hc) fun e => h ?_
  refine jn_eq fun c => ⟨fun hc => ?_, fun hc => joined_grow s k c hc⟩
  refine Classical.byContradiction fun hn => ?_
  have hnd : (c :: joined k s (start1 s)).Nodup := List.nodup_cons.mpr ⟨hn, joined_nodup s k⟩
  have := List.Nodup.length_le_of_subset (l₂ := joined (k + 1) s (start1 s)) hnd fun x hx => by
    rcases List.mem_cons.mp hx with rfl | hx
    · exact hc
    · exact joined_grow s k x hx
  rw [List.length_cons] at this
  omega
theorem joined_in {s : Nat} {S : Nat → Prop} (h0 : ∀ c ∈ start1 s, S c) (h1 : ∀ d, S d → ∀ c ∈ squares s, d ∈ squares s → adj c d = true → S c) : ∀ k, ∀ c ∈ joined k s (start1 s), S c
  | 0, c, hc => h0 c hc
  | k + 1, c, hc => by
    rw [joined_add] at hc
    obtain ⟨h2, h3 | ⟨d, hd, ha⟩⟩ := mem_spread.mp hc
    · exact joined_in h0 h1 k c h3
    · exact h1 d (joined_in h0 h1 k d hd) c h2 (joined_sub s k d hd) ha
theorem start_joined (s : Nat) : ∀ k, ∀ c ∈ start1 s, c ∈ joined k s (start1 s)
  | 0, c, h => h
  | k + 1, c, h => joined_grow s k c (start_joined s k c h)
/-- the first part -/
def comp (s : Nat) : Nat := jn s 64
theorem shut_all (s k : Nat) (h : pop s ≤ k) : Shut s (joined k s (start1 s)) := by
  by_cases hne : squares s = []
  · intro d hd c hc
    rw [hne] at hc
    cases hc
  · rcases shut_or s hne k with h' | h'
    · exact h'
    · have := joined_le s k
      unfold pop at h
      omega
theorem shut_fix {s k : Nat} (h : jn s (k + 1) = jn s k) : Shut s (joined k s (start1 s)) := fun d hd c hc ha => by
  rw [← bit_jn, ← h, bit_jn, joined_add]
  exact mem_spread.mpr ⟨hc, .inr ⟨d, hd, ha⟩⟩
theorem shut_same {s j k : Nat} (h1 : Shut s (joined j s (start1 s))) (h2 : Shut s (joined k s (start1 s))) : jn s j = jn s k :=
  jn_eq fun c => ⟨fun h => joined_in (start_joined s k) (fun d hd c hc _ ha => h2 d hd c hc ha) j c h, fun h => joined_in (start_joined s j) (fun d hd c hc _ ha => h1 d hd c hc ha) k c h⟩
theorem comp_fix {s k : Nat} (h : jn s (k + 1) = jn s k) : jn s k = comp s := shut_same (shut_fix h) (shut_all s 64 (pop_le s))
theorem comp_eq {s k : Nat} (h : pop s ≤ k) : jn s k = comp s := shut_same (shut_all s k h) (shut_all s 64 (pop_le s))
theorem comp_sub {s c : Nat} (h : c ∈ squares (comp s)) : c ∈ squares s := joined_sub s 64 c (mem_jn.mp h)
theorem comp_lt (s : Nat) : comp s < 2 ^ 64 := jn_lt s 64
theorem comp_shut (s : Nat) {c d : Nat} (hd : d ∈ squares (comp s)) (hc : c ∈ squares s) (ha : adj c d = true) : c ∈ squares (comp s) :=
  mem_jn.mpr (shut_all s 64 (pop_le s) d (mem_jn.mp hd) c hc ha)
theorem comp_zero : comp 0 = 0 := by decide
/-- two sets of squares with the same members -/
theorem set_eq {a b : Nat} (ha : a < 2 ^ 64) (hb : b < 2 ^ 64) (h : ∀ c, c ∈ squares a ↔ c ∈ squares b) : a = b := by
  refine Nat.eq_of_testBit_eq fun i => ?_
  by_cases hi : i < 64
  · rw [Bool.eq_iff_iff]
    have := h i
    rw [mem_squares, mem_squares] at this
    exact ⟨fun z => (this.mp ⟨hi, z⟩).2, fun z => (this.mpr ⟨hi, z⟩).2⟩
  · rw [high ha (by omega), high hb (by omega)]
theorem piece_iff {s : Nat} (hs : s < 2 ^ 64) : piece s = (decide (1 ≤ pop s) && (decide (pop s ≤ 8) && decide (comp s = s))) := by
  rw [piece_eq, show (pts s).length = pop s from List.length_map _]
  congr 1
  by_cases h8 : pop s ≤ 8
  · rw [decide_eq_true h8, Bool.true_and, Bool.true_and, Bool.eq_iff_iff, beq_iff_eq, decide_eq_true_iff]
    have e := comp_eq h8
    rw [← pop_jn, e]
    constructor
    · intro h
      refine set_eq (comp_lt s) hs fun c => ⟨comp_sub, fun hc => Classical.byContradiction fun hn => ?_⟩
      have hnd : (c :: squares (comp s)).Nodup := List.nodup_cons.mpr ⟨hn, squares_nodup _⟩
      have := List.Nodup.length_le_of_subset (l₂ := squares s) hnd fun x hx => by
        rcases List.mem_cons.mp hx with rfl | hx
        · exact hc
        · exact comp_sub hx
      rw [List.length_cons] at this
      unfold pop at h
      omega
    · intro h
      rw [h]
  · rw [decide_eq_false h8, Bool.false_and, Bool.false_and]
end Fb

namespace Fb
open Kg37
def Conn (P : Pt → Prop) : Prop := ∀ S : Pt → Prop, (∀ p q, P p → P q → q ∈ nb p → S p → S q) → ∀ a, P a → S a → ∀ b, P b → S b
theorem nb_iff {p q : Pt} : q ∈ nb p ↔ (q.2 = p.2 ∧ (q.1 = p.1 + 1 ∨ q.1 = p.1 - 1)) ∨ (q.1 = p.1 ∧ (q.2 = p.2 + 1 ∨ q.2 = p.2 - 1)) := by
  obtain ⟨a, b⟩ := p
  obtain ⟨c, d⟩ := q
  unfold nb
  simp only [List.mem_cons, List.not_mem_nil, or_false, Prod.mk.injEq]
  omega
theorem nb_symm {p q : Pt} (h : q ∈ nb p) : p ∈ nb q := by
  rw [nb_iff] at *
  omega
theorem conn_of_comp {s : Nat} (h : comp s = s) : Conn fun p => p ∈ pts s := by
  have key : ∀ S : Pt → Prop, (∀ p q, p ∈ pts s → q ∈ pts s → q ∈ nb p → S p → S q) → (∀ c ∈ start1 s, S (pt c)) → ∀ b ∈ pts s, S b := by
    intro S hS h0 b hb
    obtain ⟨c, hc, rfl⟩ := mem_pts.mp hb
    rw [← h] at hc
    refine joined_in (S := fun c => S (pt c)) h0 (fun d hd c hc hds ha => ?_) 64 c (mem_jn.mp hc)
    exact hS (pt d) (pt c) (mem_pts.mpr ⟨d, hds, rfl⟩) (mem_pts.mpr ⟨c, hc, rfl⟩) (nb_adj.mpr ha) hd
  intro S hS a ha hSa b hb
  by_cases h0 : ∀ c ∈ start1 s, S (pt c)
  · exact key S hS h0 b hb
  · exfalso
    refine key (fun p => ¬ S p) (fun p q hp hq hn hnp hSq => hnp (hS q p hq hp (nb_symm hn) hSq)) (fun c hc hSc => h0 fun c' hc' => ?_) a ha hSa
    have : c' = c := by
      unfold start1 at hc hc'
      cases e : squares s with
      | nil => rw [e] at hc; cases hc
      | cons x l => rw [e] at hc hc'; simp at hc hc'; rw [hc, hc']
    rw [this]
    exact hSc
/-- under a map that keeps neighbours -/
theorem Conn.map {P Q : Pt → Prop} (f : Pt → Pt) (h : Conn P) (hf : ∀ p q, q ∈ nb p → f q ∈ nb (f p)) (hPQ : ∀ p, P p → Q (f p)) (hsur : ∀ q, Q q → ∃ p, P p ∧ f p = q) : Conn Q := by
  intro S hS a ha hSa b hb
  obtain ⟨a', ha', rfl⟩ := hsur a ha
  obtain ⟨b', hb', rfl⟩ := hsur b hb
  exact h (fun p => S (f p)) (fun p q hp hq hn hs => hS _ _ (hPQ p hp) (hPQ q hq) (hf p q hn) hs) a' ha' hSa b' hb'
theorem conn_rot {l : List Pt} (h : Conn fun p => p ∈ l) : Conn fun p => p ∈ rot l := by
  refine h.map (fun p => (-p.2, p.1)) (fun p q hn => ?_) (fun p hp => List.mem_map.mpr ⟨p, hp, rfl⟩) (fun q hq => ?_)
  · rw [nb_iff] at *
    simp only
    omega
  · obtain ⟨p, hp, e⟩ := List.mem_map.mp hq
    exact ⟨p, hp, e⟩
theorem conn_mir {l : List Pt} (h : Conn fun p => p ∈ l) : Conn fun p => p ∈ mir l := by
  refine h.map (fun p => (-p.1, p.2)) (fun p q hn => ?_) (fun p hp => List.mem_map.mpr ⟨p, hp, rfl⟩) (fun q hq => ?_)
  · rw [nb_iff] at *
    simp only
    omega
  · obtain ⟨p, hp, e⟩ := List.mem_map.mp hq
    exact ⟨p, hp, e⟩
theorem conn_eight {l : List Pt} (h : Conn fun p => p ∈ l) : ∀ t ∈ eight l, Conn fun p => p ∈ t := by
  intro t ht
  unfold eight at ht
  simp only [List.mem_cons, List.not_mem_nil, or_false] at ht
  rcases ht with rfl | rfl | rfl | rfl | rfl | rfl | rfl | rfl
  · exact h
  · exact conn_rot h
  · exact conn_rot (conn_rot h)
  · exact conn_rot (conn_rot (conn_rot h))
  · exact conn_mir h
  · exact conn_rot (conn_mir h)
  · exact conn_rot (conn_rot (conn_mir h))
  · exact conn_rot (conn_rot (conn_rot (conn_mir h)))
/-- where a way lies: its points, moved -/
theorem laid_pts {t : List Pt} (hf : Fits t) {c s : Nat} (h : laid (placed t) c = some s) : ∃ dx dy : Int, ∀ p : Pt, p ∈ pts s ↔ (p.1 + dx, p.2 + dy) ∈ t := by
  cases hw : placed t with
  | nil => rw [hw] at h; cases h
  | cons q0 r =>
    obtain ⟨x, y⟩ := q0
    have h' := h
    rw [hw] at h'
    unfold laid at h'
    simp only at h'
    split at h'
    · rename_i hin
      have h' := Option.some.inj h'
      rw [← hw] at hin h'
      rw [List.all_eq_true] at hin
      have hin : ∀ q ∈ placed t, 0 ≤ ((c % 8 : Nat) : Int) + q.1 - x ∧ ((c % 8 : Nat) : Int) + q.1 - x < 8 ∧ 0 ≤ ((c / 8 : Nat) : Int) + q.2 - y ∧ ((c / 8 : Nat) : Int) + q.2 - y < 8 := fun q hq => by
        have := hin q hq
        simpa only [Bool.and_eq_true, decide_eq_true_iff] using this
      refine ⟨(x : Int) - ((c % 8 : Nat) : Int) + x0 t, (y : Int) - ((c / 8 : Nat) : Int) + y0 t, fun p => ?_⟩
      rw [mem_pts]
      constructor
      · rintro ⟨d, hd, rfl⟩
        have hd := (mem_squares.mp hd).2
        rw [← h', testBit_setOf, decide_eq_true_iff, List.mem_map] at hd
        obtain ⟨q, hq, e⟩ := hd
        have h1 := hin q hq
        have h2 := (mem_placed.mp hq).2
        have e1 : (pt d).1 = ((c % 8 : Nat) : Int) + q.1 - x := by unfold pt; simp only; omega
        have e2 : (pt d).2 = ((c / 8 : Nat) : Int) + q.2 - y := by unfold pt; simp only; omega
        rw [e1, e2]
        have e3 : ((c % 8 : Nat) : Int) + q.1 - x + ((x : Int) - ((c % 8 : Nat) : Int) + x0 t) = q.1 + x0 t := by omega
        have e4 : ((c / 8 : Nat) : Int) + q.2 - y + ((y : Int) - ((c / 8 : Nat) : Int) + y0 t) = q.2 + y0 t := by omega
        rw [e3, e4]
        exact h2
      · intro hp
        obtain ⟨q, hq, e1, e2⟩ := (mem_placed_int hf (a := p.1 + ((x : Int) - ((c % 8 : Nat) : Int))) (b := p.2 + ((y : Int) - ((c / 8 : Nat) : Int)))).mpr (by
          have e3 : p.1 + ((x : Int) - ((c % 8 : Nat) : Int)) + x0 t = p.1 + ((x : Int) - ((c % 8 : Nat) : Int) + x0 t) := by omega
          have e4 : p.2 + ((y : Int) - ((c / 8 : Nat) : Int)) + y0 t = p.2 + ((y : Int) - ((c / 8 : Nat) : Int) + y0 t) := by omega
          rw [e3, e4]
          exact hp)
        have h1 := hin q hq
        obtain ⟨px, py⟩ := p
        simp only at e1 e2
        refine ⟨(((c % 8 : Nat) : Int) + q.1 - x + 8 * (((c / 8 : Nat) : Int) + q.2 - y)).toNat, mem_squares.mpr ⟨by omega, ?_⟩, ?_⟩
        · rw [← h', testBit_setOf, decide_eq_true_iff, List.mem_map]
          exact ⟨q, hq, rfl⟩
        · unfold pt
          simp only [Prod.mk.injEq]
          omega
    · cases h'
theorem conn_moved {l : List Pt} {P : Pt → Prop} {dx dy : Int} (h : Conn fun p => p ∈ l) (hP : ∀ p : Pt, P p ↔ (p.1 + dx, p.2 + dy) ∈ l) : Conn P := by
  refine h.map (fun p => (p.1 - dx, p.2 - dy)) (fun p q hn => ?_) (fun p hp => ?_) (fun q hq => ?_)
  · rw [nb_iff] at *
    simp only
    omega
  · rw [hP]
    simp only
    rw [show p.1 - dx + dx = p.1 by omega, show p.2 - dy + dy = p.2 by omega]
    exact hp
  · refine ⟨(q.1 + dx, q.2 + dy), (hP q).mp hq, ?_⟩
    obtain ⟨a, b⟩ := q
    simp only [Prod.mk.injEq]
    omega
theorem nodup_rot {l : List Pt} (h : l.Nodup) : (rot l).Nodup := List.Pairwise.map (S := fun a b => a ≠ b) _ (fun a b hab e => hab (by
  obtain ⟨a1, a2⟩ := a
  obtain ⟨b1, b2⟩ := b
  simp only [Prod.mk.injEq] at *
  omega)) h
theorem nodup_mir {l : List Pt} (h : l.Nodup) : (mir l).Nodup := List.Pairwise.map (S := fun a b => a ≠ b) _ (fun a b hab e => hab (by
  obtain ⟨a1, a2⟩ := a
  obtain ⟨b1, b2⟩ := b
  simp only [Prod.mk.injEq] at *
  omega)) h
theorem eight_nodup {l : List Pt} (h : l.Nodup) : ∀ t ∈ eight l, t.Nodup ∧ t.length = l.length := by
  intro t ht
  unfold eight at ht
  simp only [List.mem_cons, List.not_mem_nil, or_false] at ht
  have r : ∀ l : List Pt, (rot l).length = l.length := fun l => List.length_map _
  have m : ∀ l : List Pt, (mir l).length = l.length := fun l => List.length_map _
  rcases ht with rfl | rfl | rfl | rfl | rfl | rfl | rfl | rfl
  · exact ⟨h, rfl⟩
  · exact ⟨nodup_rot h, by rw [r]⟩
  · exact ⟨nodup_rot (nodup_rot h), by rw [r, r]⟩
  · exact ⟨nodup_rot (nodup_rot (nodup_rot h)), by rw [r, r, r]⟩
  · exact ⟨nodup_mir h, by rw [m]⟩
  · exact ⟨nodup_rot (nodup_mir h), by rw [r, m]⟩
  · exact ⟨nodup_rot (nodup_rot (nodup_mir h)), by rw [r, r, m]⟩
  · exact ⟨nodup_rot (nodup_rot (nodup_rot (nodup_mir h))), by rw [r, r, r, m]⟩
/-- a piece laid: as many squares, and they hang together -/
structure Good (s n : Nat) : Prop where
  conn : Conn fun p => p ∈ pts s
  size : pop s = n
theorem way_eight {n : Nat} (hne : pts n ≠ []) {w : Shape} (h : w ∈ ways (shapeOf n)) : ∃ t ∈ eight (pts n), w = placed t := by
  rw [shapeOf_eq, ways_placed hne (pts_near n)] at h
  have : ∀ (L acc : List Shape) (x : Shape), x ∈ dd acc L → x ∈ acc ∨ x ∈ L := by
    intro L
    induction L with
    | nil => intro acc x hx; exact .inl hx
    | cons y L ih =>
      intro acc x hx
      have hx : x ∈ dd (if acc.contains y = true then acc else acc ++ [y]) L := hx
      rcases ih _ x hx with hx | hx
      · split at hx
        · exact .inl hx
        · rcases List.mem_append.mp hx with hx | hx
          · exact .inl hx
          · exact .inr (by rw [List.mem_singleton.mp hx]; exact List.mem_cons_self)
      · exact .inr (List.mem_cons_of_mem _ hx)
  rcases this _ _ _ h with h | h
  · cases h
  · obtain ⟨t, ht, rfl⟩ := List.mem_map.mp h
    exact ⟨t, ht, rfl⟩
theorem laid_good {n : Nat} (hn : n < 2 ^ 64) (hp : piece n = true) {w : Shape} (hw : w ∈ ways (shapeOf n)) {c s : Nat} (h : laid w c = some s) : Good s (pop n) := by
  rw [piece_iff hn, Bool.and_eq_true, Bool.and_eq_true, decide_eq_true_iff, decide_eq_true_iff, decide_eq_true_iff] at hp
  have hne : pts n ≠ [] := fun z => by
    have : (pts n).length = pop n := List.length_map _
    rw [z] at this
    have h0 : pop n = 0 := this.symm
    omega
  obtain ⟨t, ht, rfl⟩ := way_eight hne hw
  have near := eight_near (pts_near n) t ht
  obtain ⟨dx, dy, hm⟩ := laid_pts near.fits h
  have nd := eight_nodup (pts_nodup n) t ht
  refine ⟨conn_moved (conn_eight (conn_of_comp hp.2.2) t ht) hm, ?_⟩
  have e1 : (pts s).length = pop s := List.length_map _
  have e2 : (pts n).length = pop n := List.length_map _
  have nd2 : (t.map fun p : Pt => ((p.1 - dx, p.2 - dy) : Pt)).Nodup := List.Pairwise.map (S := fun a b => a ≠ b) _ (fun a b hab e => hab (by
    obtain ⟨a1, a2⟩ := a
    obtain ⟨b1, b2⟩ := b
    simp only [Prod.mk.injEq] at *
    omega)) nd.1
  have a1 := List.Nodup.length_le_of_subset (l₂ := t.map fun p : Pt => ((p.1 - dx, p.2 - dy) : Pt)) (pts_nodup s) fun p hp => by
    refine List.mem_map.mpr ⟨_, (hm p).mp hp, ?_⟩
    obtain ⟨a, b⟩ := p
    simp only [Prod.mk.injEq]
    omega
  have a2 := List.Nodup.length_le_of_subset (l₂ := pts s) nd2 fun p hp => by
    obtain ⟨q, hq, rfl⟩ := List.mem_map.mp hp
    rw [hm]
    simp only
    rw [show q.1 - dx + dx = q.1 by omega, show q.2 - dy + dy = q.2 by omega]
    exact hq
  rw [List.length_map] at a1 a2
  rw [← e1, ← e2, ← nd.2]
  omega
end Fb

namespace Fb
open Kg37
theorem add_or : ∀ (k a c : Nat), a ≤ k → (∀ i, ¬ (a.testBit i = true ∧ c.testBit i = true)) → a + c = a ||| c
  | 0, a, c, h, _ => by
    have : a = 0 := Nat.le_zero.mp h
    subst this
    rw [Nat.zero_add, Nat.zero_or]
  | k + 1, a, c, h, hd => by
    by_cases h0 : a = 0
    · subst h0
      rw [Nat.zero_add, Nat.zero_or]
    · have ih := add_or k (a / 2) (c / 2) (by omega) fun i z => hd (i + 1) (by rw [Nat.testBit_succ, Nat.testBit_succ]; exact z)
      have e1 : (a ||| c) / 2 = a / 2 ||| c / 2 := Nat.or_div_two
      have e2 := @Nat.or_mod_two_eq_one a c
      have h2 := hd 0
      rw [Nat.testBit_zero, Nat.testBit_zero] at h2
      simp only [decide_eq_true_iff] at h2
      have h3 : (a ||| c) % 2 = 0 ∨ (a ||| c) % 2 = 1 := by omega
      rcases h3 with h3 | h3
      · have : ¬ (a % 2 = 1 ∨ c % 2 = 1) := fun z => by have := e2.mpr z; omega
        omega
      · have := e2.mp h3
        omega
theorem sub_bits {a b : Nat} (h : ∀ i, a.testBit i = true → b.testBit i = true) : a + (b ^^^ a) = b ∧ ∀ i, (b - a).testBit i = (b.testBit i && !a.testBit i) := by
  have hx : ∀ i, (b ^^^ a).testBit i = (b.testBit i && !a.testBit i) := fun i => by
    rw [Nat.testBit_xor]
    have := h i
    cases e : a.testBit i with
    | false => simp
    | true => rw [this e]; rfl
  have e : a + (b ^^^ a) = b := by
    rw [add_or a a _ (Nat.le_refl _) fun i z => by rw [hx, z.1] at z; simp at z]
    refine Nat.eq_of_testBit_eq fun i => ?_
    rw [Nat.testBit_or, hx]
    have := h i
    cases e : a.testBit i with
    | false => simp
    | true => rw [this e]; rfl
  refine ⟨e, fun i => ?_⟩
  rw [← hx, show b - a = b ^^^ a by omega]
theorem within_bits {a b : Nat} (ha : a < 2 ^ 64) (h : within a b = true) : ∀ i, a.testBit i = true → b.testBit i = true := fun i hi => by
  by_cases h6 : i < 64
  · exact within_iff.mp h i h6 hi
  · rw [high ha (by omega)] at hi
    cases hi
theorem bits_within {a b : Nat} (h : ∀ i, a.testBit i = true → b.testBit i = true) : within a b = true := within_iff.mpr fun c _ hc => h c hc
theorem and_eq_iff {a b : Nat} : a &&& b = a ↔ ∀ i, a.testBit i = true → b.testBit i = true := by
  constructor
  · intro h i hi
    rw [← h, Nat.testBit_and, Bool.and_eq_true] at hi
    exact hi.2
  · intro h
    refine Nat.eq_of_testBit_eq fun i => ?_
    rw [Nat.testBit_and]
    have := h i
    cases e : a.testBit i with
    | false => rfl
    | true => rw [this e]; rfl
theorem without_sub {a b : Nat} (hb : b < 2 ^ 64) (h : ∀ i, a.testBit i = true → b.testBit i = true) : without b a = b - a := by
  refine Nat.eq_of_testBit_eq fun i => ?_
  rw [testBit_without, (sub_bits h).2]
  by_cases h6 : i < 64
  · rw [decide_eq_true h6, Bool.true_and]
  · rw [high hb (by omega), decide_eq_false h6, Bool.false_and, Bool.false_and]
theorem le_of_bits {a b : Nat} (h : ∀ i, a.testBit i = true → b.testBit i = true) : a ≤ b := by
  have := (sub_bits h).1
  omega
theorem and_ne_zero {a b : Nat} : a &&& b ≠ 0 ↔ ∃ i, a.testBit i = true ∧ b.testBit i = true := by
  constructor
  · intro h
    obtain ⟨t, ht⟩ := low_ex h
    have := ht.at_
    rw [Nat.testBit_and, Bool.and_eq_true] at this
    exact ⟨t, this⟩
  · rintro ⟨i, h1, h2⟩ z
    have : (a &&& b).testBit i = true := by rw [Nat.testBit_and, h1, h2]; rfl
    rw [z, Nat.zero_testBit] at this
    cases this

theorem comp_bits {N : Nat} (hN : N < 2 ^ 64) : ∀ i, (comp N).testBit i = true → N.testBit i = true := fun i hi => by
  have := joined_sub N 64 i (bit_jn.mp hi)
  exact (mem_squares.mp this).2
theorem rest_eq {N : Nat} (hN : N < 2 ^ 64) : N - comp N = without N (comp N) := (without_sub hN (comp_bits hN)).symm
theorem rest_lt {N : Nat} (hN : N < 2 ^ 64) : N - comp N < 2 ^ 64 := by omega
def pb : Nat → Nat → Nat
  | 0, _ => 0
  | k + 1, N => if N = 0 then 0 else 2 ^ pop (comp N) ||| pb k (N - comp N)
def partBits (N : Nat) : Nat := pb 64 N
theorem tiles_sum {left : Nat} {f : List Laid} (t : Tiles left f) : (f.map fun l => pop l.2).sum = pop left := by
  have e : (f.map fun l => pop l.2).sum = (f.flatMap fun l => squares l.2).length := by
    rw [List.length_flatMap]
    rfl
  rw [e]
  have nd : (f.flatMap fun l => squares l.2).Nodup := by
    refine List.pairwise_flatMap.mpr ⟨fun l _ => squares_nodup l.2, ?_⟩
    refine List.Pairwise.imp (fun {a b} h x hx y hy e => ?_) t.apart
    subst e
    exact h x hx hy
  refine Nat.le_antisymm ?_ ?_
  · refine List.Nodup.length_le_of_subset nd fun c hc => ?_
    obtain ⟨l, hl, hc⟩ := List.mem_flatMap.mp hc
    exact (t.part l hl).2 c hc
  · refine List.Nodup.length_le_of_subset (squares_nodup left) fun c hc => ?_
    obtain ⟨l, hl, hc⟩ := t.all c hc
    exact List.mem_flatMap.mpr ⟨l, hl, hc⟩
/-- a piece that hangs together lies in the first part or apart from it -/
theorem part_all {N s : Nat} (hN : N < 2 ^ 64) (hs : ∀ c ∈ squares s, c ∈ squares N) (hc : Conn fun p => p ∈ pts s) {d : Nat} (hd : d ∈ squares s) (hd' : d ∈ squares (comp N)) : ∀ c ∈ squares s, c ∈ squares (comp N) := by
  intro c hcs
  have := hc (fun p => p ∈ pts (comp N)) (fun p q hp hq hn hS => ?_) (pt d) (mem_pts.mpr ⟨d, hd, rfl⟩) (mem_pts.mpr ⟨d, hd', rfl⟩) (pt c) (mem_pts.mpr ⟨c, hcs, rfl⟩)
  · obtain ⟨c', hc', e⟩ := mem_pts.mp this
    rw [← pt_inj e]
    exact hc'
  · obtain ⟨x, hx, rfl⟩ := mem_pts.mp hS
    obtain ⟨y, hy, rfl⟩ := mem_pts.mp hq
    exact mem_pts.mpr ⟨y, comp_shut N hx (hs y hy) (nb_adj.mp hn), rfl⟩
def touches (a b : Nat) : Bool := (squares a).any (has b)
theorem touches_iff {a b : Nat} : touches a b = true ↔ ∃ c, c ∈ squares a ∧ c ∈ squares b := by
  unfold touches
  rw [List.any_eq_true]
  constructor
  · rintro ⟨c, h1, h2⟩
    exact ⟨c, h1, mem_squares.mpr ⟨(mem_squares.mp h1).1, h2⟩⟩
  · rintro ⟨c, h1, h2⟩
    exact ⟨c, h1, (mem_squares.mp h2).2⟩
theorem tiles_first {N : Nat} (hN : N < 2 ^ 64) {f : List Laid} (t : Tiles N f) (hc : ∀ l ∈ f, Conn fun p => p ∈ pts l.2) : Tiles (comp N) (f.filter fun l => touches l.2 (comp N)) ∧ Tiles (N - comp N) (f.filter fun l => !touches l.2 (comp N)) := by
  constructor
  · refine ⟨fun l hl => ?_, fun l hl => t.some_ l (List.mem_filter.mp hl).1, t.apart.sublist List.filter_sublist, fun c hc' => ?_⟩
    · have hl := List.mem_filter.mp hl
      obtain ⟨d, h1, h2⟩ := touches_iff.mp hl.2
      exact ⟨(t.part l hl.1).1, part_all hN (t.part l hl.1).2 (hc l hl.1) h1 h2⟩
    · obtain ⟨l, hl, h⟩ := t.all c (comp_sub hc')
      exact ⟨l, List.mem_filter.mpr ⟨hl, touches_iff.mpr ⟨c, h, hc'⟩⟩, h⟩
  · rw [rest_eq hN]
    refine ⟨fun l hl => ?_, fun l hl => t.some_ l (List.mem_filter.mp hl).1, t.apart.sublist List.filter_sublist, fun c hc' => ?_⟩
    · have hl := List.mem_filter.mp hl
      refine ⟨(t.part l hl.1).1, fun c hcl => mem_without.mpr ⟨(t.part l hl.1).2 c hcl, fun z => ?_⟩⟩
      have := touches_iff.mpr ⟨c, hcl, z⟩
      rw [this] at hl
      exact absurd hl.2 (by decide)
    · have hc' := mem_without.mp hc'
      obtain ⟨l, hl, h⟩ := t.all c hc'.1
      refine ⟨l, List.mem_filter.mpr ⟨hl, ?_⟩, h⟩
      cases e : touches l.2 (comp N) with
      | false => rfl
      | true =>
        obtain ⟨d, h1, h2⟩ := touches_iff.mp e
        exact absurd (part_all hN (t.part l hl).2 (hc l hl) h1 h2 c h) hc'.2
theorem parts_met : ∀ (k N : Nat), N < 2 ^ 64 → ∀ f : List Laid, Tiles N f → (∀ l ∈ f, Conn fun p => p ∈ pts l.2) → ∀ n, (pb k N).testBit n = true → ∃ g : List Laid, g.Sublist f ∧ (g.map fun l => pop l.2).sum = n
  | 0, N, hN, f, t, hc, n, h => by
    unfold pb at h
    rw [Nat.zero_testBit] at h
    cases h
  | k + 1, N, hN, f, t, hc, n, h => by
    unfold pb at h
    split at h
    · rw [Nat.zero_testBit] at h
      cases h
    · obtain ⟨t1, t2⟩ := tiles_first hN t hc
      rw [Nat.testBit_or, Bool.or_eq_true, Nat.testBit_two_pow, decide_eq_true_iff] at h
      rcases h with h | h
      · exact ⟨_, List.filter_sublist, (tiles_sum t1).trans h⟩
      · obtain ⟨g, h1, h2⟩ := parts_met k _ (rest_lt hN) _ t2 (fun l hl => hc l (List.mem_filter.mp hl).1) n h
        exact ⟨g, h1.trans List.filter_sublist, h2⟩

def rep (size : Nat) : Nat → Nat → Nat
  | 0, m => m
  | j + 1, m => rep size j m ||| rep size j m * 2 ^ size
theorem rep_bit {size m x : Nat} (h : m.testBit x = true) : ∀ (j i : Nat), i ≤ j → (rep size j m).testBit (x + i * size) = true
  | 0, i, hi => by
    have : i = 0 := by omega
    subst this
    rw [Nat.zero_mul]
    exact h
  | j + 1, i, hi => by
    unfold rep
    rw [Nat.testBit_or, Bool.or_eq_true, Nat.testBit_mul_two_pow, Bool.and_eq_true, decide_eq_true_iff]
    by_cases e : i ≤ j
    · exact .inl (rep_bit h j i e)
    · have e : i = j + 1 := by omega
      subst e
      refine .inr ⟨?_, ?_⟩
      · rw [Nat.add_mul]; omega
      · rw [Nat.add_mul, Nat.one_mul, ← Nat.add_assoc, Nat.add_sub_cancel]
        exact rep_bit h j j (Nat.le_refl _)
def metStep (most m : Nat) (z : Nat × Nat) : Nat := rep z.1 (min z.2 (most / z.1)) m
def metOf (most : Nat) (zs : List (Nat × Nat)) : Nat := zs.foldl (metStep most) 1
theorem sum_parts {α : Type} (p : α → Bool) (w : α → Nat) : ∀ g : List α, (g.map w).sum = ((g.filter p).map w).sum + ((g.filter fun x => !p x).map w).sum
  | [] => rfl
  | a :: g => by
    have ih := sum_parts p w g
    rw [List.filter_cons, List.filter_cons, List.map_cons, List.sum_cons]
    cases p a with
    | true => simp; omega
    | false => simp; omega
theorem sum_const {α : Type} (w : α → Nat) (c : Nat) : ∀ g : List α, (∀ x ∈ g, w x = c) → (g.map w).sum = g.length * c
  | [], _ => by simp
  | a :: g, h => by
    rw [List.map_cons, List.sum_cons, sum_const w c g fun x hx => h x (List.mem_cons_of_mem _ hx), h a List.mem_cons_self, List.length_cons, Nat.add_mul]
    omega
theorem met_bit {most : Nat} (w : Laid → Nat) : ∀ (zs : List (Nat × Nat)) (j m x : Nat) (g : List Laid), m.testBit x = true → (∀ l ∈ g, j ≤ l.1 ∧ l.1 < j + zs.length) →
    (∀ (i : Nat) (z : Nat × Nat), zs[i]? = some z → (g.filter fun l => l.1 == j + i).length ≤ z.2 ∧ 0 < z.1) → (∀ l ∈ g, ∀ z, zs[l.1 - j]? = some z → w l = z.1) → x + (g.map w).sum ≤ most →
    (zs.foldl (metStep most) m).testBit (x + (g.map w).sum) = true
  | [], j, m, x, g, hm, h1, h2, h3, h4 => by
    have : g = [] := by
      cases g with
      | nil => rfl
      | cons l g => have := h1 l List.mem_cons_self; simp at this; omega
    subst this
    exact hm
  | z :: zs, j, m, x, g, hm, h1, h2, h3, h4 => by
    have hs := sum_parts (fun l : Laid => l.1 == j) w g
    have h20 := h2 0 z rfl
    rw [Nat.add_zero] at h20
    have hc := sum_const w z.1 (g.filter fun l => l.1 == j) fun l hl => by
      have hl := List.mem_filter.mp hl
      have e : l.1 = j := by simpa using hl.2
      exact h3 l hl.1 z (by rw [e, Nat.sub_self]; rfl)
    have hle : (g.filter fun l => l.1 == j).length ≤ min z.2 (most / z.1) := by
      refine Nat.le_min.mpr ⟨h20.1, ?_⟩
      rw [Nat.le_div_iff_mul_le h20.2]
      omega
    have hb := rep_bit (size := z.1) hm (min z.2 (most / z.1)) _ hle
    have := met_bit (most := most) w zs (j + 1) (metStep most m z) (x + (g.filter fun l => l.1 == j).length * z.1) (g.filter fun l => !(l.1 == j)) hb (fun l hl => ?_) (fun i z' hz' => ?_) (fun l hl z' hz' => ?_) (by omega)
    · rw [List.foldl_cons]
      rw [hs, hc, ← Nat.add_assoc]
      exact this
    · have hl := List.mem_filter.mp hl
      have := h1 l hl.1
      have e : ¬ l.1 = j := by simpa using hl.2
      rw [List.length_cons] at this
      omega
    · have := h2 (i + 1) z' hz'
      rw [List.filter_filter]
      refine ⟨Nat.le_trans (List.Sublist.length_le ?_) this.1, this.2⟩
      have : (g.filter fun l => (l.1 == j + 1 + i) && !(l.1 == j)) = (g.filter fun l => l.1 == j + (i + 1)) := List.filter_congr fun l _ => by
        rw [Bool.eq_iff_iff]
        simp
        omega
      rw [this]
      exact List.Sublist.refl _
    · have hl := List.mem_filter.mp hl
      have h5 := h1 l hl.1
      have e : ¬ l.1 = j := by simpa using hl.2
      refine h3 l hl.1 z' ?_
      rw [show l.1 - j = (l.1 - (j + 1)) + 1 by omega]
      exact hz'
/-- the sizes that no pieces have together -/
def notMet (most : Nat) (zs : List (Nat × Nat)) : Nat := (2 ^ (most + 1) - 1) - ((2 ^ (most + 1) - 1) &&& metOf most zs)
theorem testBit_notMet (most : Nat) (zs : List (Nat × Nat)) (n : Nat) : (notMet most zs).testBit n = (decide (n < most + 1) && !(metOf most zs).testBit n) := by
  unfold notMet
  rw [(sub_bits (fun i hi => by rw [Nat.testBit_and, Bool.and_eq_true] at hi; exact hi.1)).2, Nat.testBit_and, Nat.testBit_two_pow_sub_one]
  cases decide (n < most + 1) <;> simp

theorem less_getD {counts : List Nat} {i j : Nat} (h : counts.getD i 0 ≠ 0) : (less counts i).getD j 0 = if i = j then counts.getD i 0 - 1 else counts.getD j 0 := by
  unfold less
  have hi : i < counts.length := Classical.byContradiction fun z => h (by simp [List.getD, List.getElem?_eq_none (show counts.length ≤ i by omega)])
  simp only [List.getD_eq_getElem?_getD, List.getElem?_set]
  by_cases e : i = j
  · subst e
    simp [hi]
  · simp [e]
theorem fill_counts (p : Puzzle) : ∀ (k left : Nat) (counts : List Nat), ∀ f ∈ fill p k left counts, ∀ i, (f.filter fun l => l.1 == i).length ≤ counts.getD i 0
  | 0, left, counts, f, hf, i => by
    unfold fill at hf
    split at hf
    · rw [List.mem_singleton.mp hf]; simp
    · cases hf
  | k + 1, left, counts, f, hf, i => by
    unfold fill at hf
    split at hf
    · split at hf
      · rw [List.mem_singleton.mp hf]; simp
      · cases hf
    · obtain ⟨l, hl, hf⟩ := List.mem_flatMap.mp hf
      obtain ⟨r, hr, rfl⟩ := List.mem_map.mp hf
      obtain ⟨c, _, _, _, _, h0⟩ := next_first hl
      have := fill_counts p k _ _ r hr i
      rw [show (counts.set l.1 (counts.getD l.1 0 - 1)) = less counts l.1 from rfl, less_getD h0] at this
      rw [List.filter_cons]
      by_cases e : l.1 = i
      · rw [if_pos e] at this
        subst e
        simp
        simp at this h0
        omega
      · rw [if_neg e] at this
        simp [e]
        simpa using this
end Fb

namespace Fb
open Kg37
def enc : List Nat → Nat
  | [] => 0
  | a :: r => a + 256 * enc r
theorem enc_div : ∀ (st : List Nat), (∀ x ∈ st, x < 256) → ∀ k, enc st / 2 ^ (8 * k) % 256 = st.getD k 0
  | [], _, k => by simp [enc]
  | a :: r, h, 0 => by
    have := h a List.mem_cons_self
    show (a + 256 * enc r) / 2 ^ 0 % 256 = a
    rw [Nat.pow_zero, Nat.div_one]
    omega
  | a :: r, h, k + 1 => by
    have h1 := h a List.mem_cons_self
    have ih := enc_div r (fun x hx => h x (List.mem_cons_of_mem _ hx)) k
    show (a + 256 * enc r) / 2 ^ (8 * (k + 1)) % 256 = r.getD k 0
    rw [← ih, show 8 * (k + 1) = 8 + 8 * k by omega, Nat.pow_add, ← Nat.div_div_eq_div_mul]
    congr 2
    omega
theorem enc_less : ∀ (st : List Nat) (i : Nat), st.getD i 0 ≠ 0 → enc (less st i) + 2 ^ (8 * i) = enc st
  | [], i, h => by simp at h
  | a :: r, 0, h => by
    have h : a ≠ 0 := by simpa using h
    show (a - 1) + 256 * enc r + 1 = a + 256 * enc r
    omega
  | a :: r, i + 1, h => by
    have ih := enc_less r i (by simpa using h)
    have e : less (a :: r) (i + 1) = a :: less r i := by unfold less; simp
    rw [e]
    show a + 256 * enc (less r i) + 2 ^ (8 * (i + 1)) = a + 256 * enc r
    rw [← ih, show 8 * (i + 1) = 8 * i + 8 by omega, Nat.pow_add, Nat.mul_add, Nat.mul_comm (2 ^ (8 * i)) (2 ^ 8)]
    show a + 256 * enc (less r i) + 256 * 2 ^ (8 * i) = _
    omega
def stN (left : Nat) (st : List Nat) : Nat := left + 2 ^ 64 * enc st
theorem stN_mod {left : Nat} (h : left < 2 ^ 64) (st : List Nat) : stN left st % 2 ^ 64 = left := by
  unfold stN
  omega
theorem stN_div {left : Nat} (h : left < 2 ^ 64) (st : List Nat) : stN left st / 2 ^ 64 = enc st := by
  unfold stN
  omega
theorem testBit_stN {left : Nat} (h : left < 2 ^ 64) (st : List Nat) (j : Nat) : (stN left st).testBit (64 + j) = (enc st).testBit j := by
  unfold stN
  rw [Nat.add_comm left, Nat.testBit_two_pow_mul_add _ h, if_neg (by omega), show 64 + j - 64 = j by omega]
theorem mod_bit (n k j : Nat) (hj : j < 8) : (n / 2 ^ (8 * k) % 256).testBit j = n.testBit (8 * k + j) := by
  rw [show 256 = 2 ^ 8 from rfl, Nat.testBit_mod_two_pow, decide_eq_true hj, Bool.true_and, Nat.testBit_div_two_pow, Nat.add_comm]
theorem stock_bit (i j : Nat) : (255 * 2 ^ (64 + 8 * i)).testBit j = (decide (64 + 8 * i ≤ j) && decide (j < 64 + 8 * i + 8)) := by
  rw [Nat.testBit_mul_two_pow, show (255 : Nat) = 2 ^ 8 - 1 from rfl, Nat.testBit_two_pow_sub_one]
  by_cases h : 64 + 8 * i ≤ j
  · rw [decide_eq_true h, Bool.true_and, Bool.true_and]
    rw [Bool.eq_iff_iff, decide_eq_true_iff, decide_eq_true_iff]
    omega
  · rw [decide_eq_false h, Bool.false_and, Bool.false_and]
theorem stock_iff {left : Nat} (h : left < 2 ^ 64) {st : List Nat} (hs : ∀ x ∈ st, x < 256) (i : Nat) : stN left st &&& 255 * 2 ^ (64 + 8 * i) ≠ 0 ↔ st.getD i 0 ≠ 0 := by
  rw [and_ne_zero, ← enc_div st hs i]
  constructor
  · rintro ⟨j, h1, h2⟩ z
    rw [stock_bit, Bool.and_eq_true, decide_eq_true_iff, decide_eq_true_iff] at h2
    have e : j = 64 + (8 * i + (j - 64 - 8 * i)) := by omega
    rw [e, testBit_stN h, ← mod_bit _ _ _ (by omega), z, Nat.zero_testBit] at h1
    cases h1
  · intro z
    obtain ⟨t, ht⟩ := low_ex z
    have ht := ht.at_
    have h8 : t < 8 := Classical.byContradiction fun q => by
      rw [show 256 = 2 ^ 8 from rfl, Nat.testBit_mod_two_pow, decide_eq_false q, Bool.false_and] at ht
      cases ht
    rw [mod_bit _ _ _ h8] at ht
    refine ⟨64 + (8 * i + t), by rw [testBit_stN h]; exact ht, ?_⟩
    rw [stock_bit, decide_eq_true (by omega), decide_eq_true (by omega)]
    rfl

structure Inst where
  B : Nat
  ps : List Nat
  cs : List Nat
structure Inst.Ok (I : Inst) : Prop where
  b : I.B < 2 ^ 64
  len : I.cs.length = I.ps.length
  m : I.ps.length ≤ 32
  pc : ∀ p ∈ I.ps, p < 2 ^ 64 ∧ piece p = true
  ct : ∀ c ∈ I.cs, c < 256
def Inst.puz (I : Inst) (all : Bool) : Puzzle := ⟨I.B, I.ps.zip I.cs, all⟩
/-- a lay -/
structure Ly where
  piece : Nat
  sq : Nat
  stock : Nat
  cost : Nat
  deriving DecidableEq
def Inst.size (I : Inst) (i : Nat) : Nat := pop (I.ps.getD i 0)
/-- it can't run out -/
def Inst.free (I : Inst) (i : Nat) : Bool := decide (pop I.B ≤ I.cs.getD i 0 * I.size i)
def Inst.taken (I : Inst) (i : Nat) : Nat := if I.free i = true then 0 else 2 ^ (64 + 8 * i)
def Inst.ly (I : Inst) (i s : Nat) : Ly := ⟨i, s, 255 * 2 ^ (64 + 8 * i), s + I.taken i⟩
def Inst.lyL (I : Inst) (l : Laid) : Ly := I.ly l.1 l.2
/-- the lays of piece i on the board whose first square is c -/
def Inst.byp (I : Inst) (i c : Nat) : List Ly := (ways (shapeOf (I.ps.getD i 0))).filterMap fun w => (laid w c).bind fun s => if within s I.B = true then some (I.ly i s) else none
def Inst.byc (I : Inst) (c : Nat) : List Ly := (List.range I.ps.length).flatMap fun i => if I.cs.getD i 0 = 0 then [] else I.byp i c
def Inst.cnt (I : Inst) (stock : Nat) : List Nat := (List.range I.ps.length).map fun k => stock / 2 ^ (8 * k) % 256
def Inst.imp (I : Inst) (stock : Nat) : Nat := notMet (pop I.B) ((I.ps.map pop).zip (I.cnt stock))
def Inst.start (I : Inst) : Nat := stN I.B I.cs
def Inst.fitA (I : Inst) (left : Nat) : List Ly := match (squares left).head? with
  | none => []
  | some c => (I.byc c).filter fun l => decide (l.sq &&& left = l.sq)
def Inst.fitL (I : Inst) (left : Nat) : List Ly := (I.fitA left).filter fun l => decide (partBits (left - l.sq) &&& I.imp (I.start / 2 ^ 64) = 0)
def Inst.nextL (I : Inst) (s : Nat) : List Ly := if partBits (s % 2 ^ 64) &&& I.imp (s / 2 ^ 64) ≠ 0 then [] else (I.fitL (s % 2 ^ 64)).filter fun l => decide (s &&& l.stock ≠ 0)
def Inst.FsF (I : Inst) : Nat → Nat → List (List Ly)
  | 0, s => if s % 2 ^ 64 = 0 then [[]] else []
  | k + 1, s => if s % 2 ^ 64 = 0 then [[]] else (I.nextL s).flatMap fun l => (I.FsF k (s - l.cost)).map fun r => l :: r
/-- a state of the program, and of the specification -/
structure Inst.Rel (I : Inst) (left : Nat) (st counts : List Nat) : Prop where
  sub : ∀ i, left.testBit i = true → I.B.testBit i = true
  sl : st.length = I.ps.length
  cl : counts.length = I.ps.length
  fr : ∀ i, i < I.ps.length → I.free i = true → st.getD i 0 = I.cs.getD i 0 ∧ pop left ≤ counts.getD i 0 * I.size i
  ti : ∀ i, i < I.ps.length → I.free i = false → st.getD i 0 = counts.getD i 0
  le : ∀ i, counts.getD i 0 ≤ I.cs.getD i 0
theorem getD_mem {l : List Nat} {i : Nat} (h : i < l.length) : l.getD i 0 ∈ l := by
  rw [List.getD_eq_getElem?_getD, List.getElem?_eq_getElem h]
  exact List.getElem_mem h
theorem getD_out {l : List Nat} {i : Nat} (h : l.length ≤ i) : l.getD i 0 = 0 := by
  rw [List.getD_eq_getElem?_getD, List.getElem?_eq_none h]
  rfl
section
variable {I : Inst} (O : I.Ok)
include O
theorem Inst.Ok.pieceAt {i : Nat} (h : i < I.ps.length) : I.ps.getD i 0 < 2 ^ 64 ∧ piece (I.ps.getD i 0) = true := O.pc _ (getD_mem h)
theorem Inst.Ok.size_pos {i : Nat} (h : i < I.ps.length) : 1 ≤ I.size i ∧ I.size i ≤ 8 := by
  obtain ⟨h1, h2⟩ := O.pieceAt h
  rw [piece_iff h1, Bool.and_eq_true, Bool.and_eq_true, decide_eq_true_iff, decide_eq_true_iff] at h2
  exact ⟨h2.1, h2.2.1⟩
theorem Inst.Ok.ct_lt (i : Nat) : I.cs.getD i 0 < 256 := by
  by_cases h : i < I.cs.length
  · exact O.ct _ (getD_mem h)
  · rw [getD_out (by omega)]; decide
theorem Inst.Ok.st_lt {left : Nat} {st counts : List Nat} (R : I.Rel left st counts) : ∀ x ∈ st, x < 256 := by
  intro x hx
  obtain ⟨i, hi, rfl⟩ := List.getElem_of_mem hx
  have hi' : i < I.ps.length := by rw [← R.sl]; exact hi
  have e : st[i] = st.getD i 0 := by rw [List.getD_eq_getElem?_getD, List.getElem?_eq_getElem hi]; rfl
  rw [e]
  have h1 := O.ct_lt i
  cases h : I.free i with
  | true => rw [(R.fr i hi' h).1]; exact h1
  | false => rw [R.ti i hi' h]; have := R.le i; omega
theorem Inst.Ok.c_le_st {left : Nat} {st counts : List Nat} (R : I.Rel left st counts) (i : Nat) : counts.getD i 0 ≤ st.getD i 0 := by
  by_cases hi : i < I.ps.length
  · cases h : I.free i with
    | true => rw [(R.fr i hi h).1]; exact R.le i
    | false => rw [R.ti i hi h]; exact Nat.le_refl _
  · rw [getD_out (l := counts) (by rw [R.cl]; omega)]; exact Nat.zero_le _
theorem Inst.Ok.st_zero {left : Nat} (h0 : left ≠ 0) (hl : left < 2 ^ 64) {st counts : List Nat} (R : I.Rel left st counts) {i : Nat} (hi : i < I.ps.length) : st.getD i 0 ≠ 0 ↔ counts.getD i 0 ≠ 0 := by
  have hp : pop left ≠ 0 := fun z => h0 ((eq_zero_iff hl).mpr (List.length_eq_zero_iff.mp z))
  cases h : I.free i with
  | true =>
    have h1 := R.fr i hi h
    have h2 := R.le i
    have h3 : counts.getD i 0 ≠ 0 := fun z => by
      have := h1.2
      rw [z, Nat.zero_mul] at this
      omega
    rw [h1.1]
    exact ⟨fun _ => h3, fun _ => by omega⟩
  | false => rw [R.ti i hi h]
theorem Inst.Ok.start_rel : I.Rel I.B I.cs I.cs := by
  refine ⟨fun _ h => h, O.len, O.len, fun i hi h => ⟨rfl, ?_⟩, fun i hi h => rfl, fun i => Nat.le_refl _⟩
  unfold Inst.free at h
  exact of_decide_eq_true h
omit O in
theorem puz_len (O : I.Ok) (all : Bool) : (I.puz all).pieces.length = I.ps.length := by
  show (I.ps.zip I.cs).length = _
  rw [List.length_zip, O.len, Nat.min_self]
omit O in
theorem puz_at (O : I.Ok) (all : Bool) (i : Nat) (hi : i < I.ps.length) : ((I.puz all).pieces.getD i (0, 0)).1 = I.ps.getD i 0 := by
  show ((I.ps.zip I.cs).getD i (0, 0)).1 = _
  have hc : i < I.cs.length := by rw [O.len]; exact hi
  rw [List.getD_eq_getElem?_getD, List.getD_eq_getElem?_getD, List.getElem?_zip_eq_some (z := (I.ps[i], I.cs[i])) |>.mpr ⟨List.getElem?_eq_getElem hi, List.getElem?_eq_getElem hc⟩, List.getElem?_eq_getElem hi]
  rfl
/-- what covers the first square next, by the specification -/
theorem Inst.Ok.next_eq (all : Bool) {left c : Nat} (hc : (squares left).head? = some c) (counts : List Nat) : next (I.puz all) left counts = (List.range I.ps.length).flatMap fun i => if counts.getD i 0 = 0 then [] else (ways (shapeOf (I.ps.getD i 0))).filterMap fun w => (laid w c).bind fun s => if within s left = true then some (i, s) else none := by
  unfold next
  rw [hc]
  simp only
  rw [puz_len O]
  refine flatMap_congr fun i hi => ?_
  rw [puz_at O all i (List.mem_range.mp hi)]
theorem Inst.Ok.next_in {all : Bool} {left : Nat} {counts : List Nat} {l : Laid} (h : l ∈ next (I.puz all) left counts) : l.1 < I.ps.length ∧ counts.getD l.1 0 ≠ 0 ∧ l.2 < 2 ^ 64 ∧ Good l.2 (I.size l.1) ∧ within l.2 left = true ∧ ∃ c, (squares left).head? = some c ∧ l.2.testBit c = true := by
  obtain ⟨c, h1, h2, h3, h4, h5⟩ := next_first h
  have hlt := next_lt h
  rw [puz_len O] at h4
  refine ⟨h4, h5, hlt, ?_, h3, c, h1, h2⟩
  rw [O.next_eq all h1] at h
  obtain ⟨i, hi, h⟩ := List.mem_flatMap.mp h
  have hi := List.mem_range.mp hi
  split at h
  · cases h
  · obtain ⟨w, hw, h⟩ := List.mem_filterMap.mp h
    cases q : laid w c with
    | none => rw [q] at h; cases h
    | some s =>
      rw [q] at h
      simp only [Option.bind_some] at h
      split at h
      · have h := Option.some.inj h
        subst h
        obtain ⟨p1, p2⟩ := O.pieceAt hi
        exact laid_good p1 p2 hw q
      · cases h
omit O in
theorem pop_split {a b : Nat} (h : within a b = true) : pop b = pop a + pop (without b a) := by
  have h1 : (squares a ++ squares (without b a)).Nodup := by
    rw [List.nodup_append]
    refine ⟨squares_nodup a, squares_nodup _, fun x hx y hy e => ?_⟩
    subst e
    exact (mem_without.mp hy).2 hx
  have h2 := List.Nodup.length_le_of_subset (l₂ := squares b) h1 fun x hx => by
    rcases List.mem_append.mp hx with hx | hx
    · exact within_sub h x hx
    · exact (mem_without.mp hx).1
  have h3 := List.Nodup.length_le_of_subset (l₂ := squares a ++ squares (without b a)) (squares_nodup b) fun x hx => by
    by_cases hxa : x ∈ squares a
    · exact List.mem_append_left _ hxa
    · exact List.mem_append_right _ (mem_without.mpr ⟨hx, hxa⟩)
  rw [List.length_append] at h2 h3
  unfold pop
  omega
/-- the program's stock behind a lay -/
def Inst.after (I : Inst) (st : List Nat) (i : Nat) : List Nat := if I.free i = true then st else less st i
omit O in
theorem less_len (c : List Nat) (i : Nat) : (less c i).length = c.length := by unfold less; rw [List.length_set]
theorem Inst.Ok.rel_step {all : Bool} {left : Nat} (hl : left < 2 ^ 64) (h0 : left ≠ 0) {st counts : List Nat} (R : I.Rel left st counts) {l : Laid} (h : l ∈ next (I.puz all) left counts) :
    I.Rel (without left l.2) (I.after st l.1) (less counts l.1) ∧ stN left st - (I.lyL l).cost = stN (without left l.2) (I.after st l.1) ∧ pop (without left l.2) < pop left ∧ (I.lyL l).cost ≤ stN left st := by
  obtain ⟨h1, h2, h3, h4, h5, c, h6, h7⟩ := O.next_in h
  have hsp := pop_split h5
  rw [h4.size] at hsp
  have hst := (O.st_zero h0 hl R h1).mpr h2
  have hsub := within_bits h3 h5
  have hw := without_sub hl hsub
  have hle := le_of_bits hsub
  have hsz := O.size_pos h1
  refine ⟨⟨fun i hi => ?_, ?_, by rw [less_len]; exact R.cl, fun i hi hf => ?_, fun i hi hf => ?_, fun i => ?_⟩, ?_, by omega, ?_⟩
  · rw [hw, (sub_bits hsub).2, Bool.and_eq_true] at hi
    exact R.sub i hi.1
  · unfold Inst.after
    split
    · exact R.sl
    · rw [less_len]; exact R.sl
  · obtain ⟨r1, r2⟩ := R.fr i hi hf
    rw [less_getD h2]
    by_cases e : l.1 = i
    · subst e
      rw [if_pos rfl]
      unfold Inst.after
      rw [if_pos hf]
      refine ⟨r1, ?_⟩
      rw [Nat.sub_mul, Nat.one_mul]
      omega
    · rw [if_neg e]
      refine ⟨?_, by omega⟩
      unfold Inst.after
      split
      · exact r1
      · rw [less_getD hst, if_neg e]; exact r1
  · have r := R.ti i hi hf
    rw [less_getD h2]
    by_cases e : l.1 = i
    · subst e
      rw [if_pos rfl]
      unfold Inst.after
      rw [if_neg (by rw [hf]; decide), less_getD hst, if_pos rfl, r]
    · rw [if_neg e]
      unfold Inst.after
      split
      · exact r
      · rw [less_getD hst, if_neg e]; exact r
  · rw [less_getD h2]
    have := R.le i
    split
    · rename_i e
      subst e
      omega
    · exact this
  · rw [hw]
    show left + 2 ^ 64 * enc st - (l.2 + I.taken l.1) = left - l.2 + 2 ^ 64 * enc (I.after st l.1)
    unfold Inst.taken Inst.after
    cases hf : I.free l.1 with
    | true => simp only [if_true]; omega
    | false =>
      simp only [Bool.false_eq_true, if_false]
      have e := enc_less st l.1 hst
      have e3 : 2 ^ (64 + 8 * l.1) = 2 ^ 64 * 2 ^ (8 * l.1) := Nat.pow_add 2 64 (8 * l.1)
      rw [← e, e3]
      generalize 2 ^ (8 * l.1) = z at *
      omega
  · have key : ∀ x : Nat, x ≤ left → x + I.taken l.1 ≤ left + 2 ^ 64 * enc st := by
      intro x hx
      unfold Inst.taken
      split
      · omega
      · have e := enc_less st l.1 hst
        have e3 : 2 ^ (64 + 8 * l.1) = 2 ^ 64 * 2 ^ (8 * l.1) := Nat.pow_add 2 64 (8 * l.1)
        rw [← e, e3]
        generalize 2 ^ (8 * l.1) = z at *
        omega
    exact key l.2 hle
omit O in
/-- the lays that the program filters, and those of the specification -/
theorem lays_filter {left c : Nat} {t : Nat → Bool} (hsub : ∀ i, left.testBit i = true → I.B.testBit i = true) (i : Nat) (ht : t (255 * 2 ^ (64 + 8 * i)) = true) : ∀ ws : List Shape,
    ((ws.filterMap fun w => (laid w c).bind fun s => if within s I.B = true then some (I.ly i s) else none).filter fun l => decide (l.sq &&& left = l.sq) && t l.stock) =
    (ws.filterMap fun w => (laid w c).bind fun s => if within s left = true then some (i, s) else none).map I.lyL
  | [] => rfl
  | w :: ws => by
    have ih := lays_filter (c := c) hsub i ht ws
    rw [List.filterMap_cons, List.filterMap_cons]
    cases q : laid w c with
    | none => exact ih
    | some s =>
      have hs : s < 2 ^ 64 := laid_lt q
      simp only [Option.bind_some]
      by_cases hw : within s left = true
      · have hB : within s I.B = true := bits_within fun i hi => hsub i (within_bits hs hw i hi)
        rw [if_pos hw, if_pos hB]
        simp only
        rw [List.filter_cons, List.map_cons]
        have : (decide ((I.ly i s).sq &&& left = (I.ly i s).sq) && t (I.ly i s).stock) = true := by
          rw [Bool.and_eq_true]
          exact ⟨decide_eq_true (and_eq_iff.mpr (within_bits hs hw)), ht⟩
        rw [if_pos this, ih]
        rfl
      · rw [if_neg hw]
        simp only
        by_cases hB : within s I.B = true
        · rw [if_pos hB]
          simp only
          rw [List.filter_cons]
          have : ¬ (decide ((I.ly i s).sq &&& left = (I.ly i s).sq) && t (I.ly i s).stock) = true := by
            rw [Bool.and_eq_true]
            rintro ⟨z, _⟩
            exact hw (bits_within (and_eq_iff.mp (of_decide_eq_true z)))
          rw [if_neg this]
          exact ih
        · rw [if_neg hB]
          exact ih
omit O in
theorem lays_none {left c : Nat} {t : Nat → Bool} (i : Nat) (ht : t (255 * 2 ^ (64 + 8 * i)) = false) (ws : List Shape) :
    ((ws.filterMap fun w => (laid w c).bind fun s => if within s I.B = true then some (I.ly i s) else none).filter fun l => decide (l.sq &&& left = l.sq) && t l.stock) = [] := by
  refine List.filter_eq_nil_iff.mpr fun l hl => ?_
  obtain ⟨w, hw, h⟩ := List.mem_filterMap.mp hl
  cases q : laid w c with
  | none => rw [q] at h; cases h
  | some s =>
    rw [q] at h
    simp only [Option.bind_some] at h
    split at h
    · have h := Option.some.inj h
      subst h
      rw [show (I.ly i s).stock = 255 * 2 ^ (64 + 8 * i) from rfl, ht, Bool.and_false]
      decide
    · cases h
theorem Inst.Ok.byc_next {left c : Nat} (hl : left < 2 ^ 64) (h0 : left ≠ 0) (hc : (squares left).head? = some c) {st counts : List Nat} (R : I.Rel left st counts) :
    ((I.byc c).filter fun l => decide (l.sq &&& left = l.sq) && decide (stN left st &&& l.stock ≠ 0)) = (next (I.puz false) left counts).map I.lyL := by
  rw [O.next_eq false hc, List.map_flatMap]
  unfold Inst.byc
  rw [List.filter_flatMap]
  refine flatMap_congr fun i hi => ?_
  have hi := List.mem_range.mp hi
  have hs := stock_iff hl (O.st_lt R) i
  have hz := O.st_zero h0 hl R hi
  have hle := R.le i
  by_cases hcs : I.cs.getD i 0 = 0
  · rw [if_pos hcs, if_pos (by omega)]
    rfl
  · rw [if_neg hcs]
    by_cases hct : counts.getD i 0 = 0
    · rw [if_pos hct]
      exact lays_none (I := I) (t := fun z => decide (stN left st &&& z ≠ 0)) i (decide_eq_false (fun z => hz.mp (hs.mp z) hct)) _
    · rw [if_neg hct]
      exact lays_filter (I := I) (t := fun z => decide (stN left st &&& z ≠ 0)) R.sub i (decide_eq_true (hs.mpr (hz.mpr hct))) _
theorem Inst.Ok.fl_good (all : Bool) : ∀ (k left : Nat) (counts : List Nat), ∀ f ∈ fill (I.puz all) k left counts, ∀ l ∈ f, l.1 < I.ps.length ∧ l.2 < 2 ^ 64 ∧ Good l.2 (I.size l.1)
  | 0, left, counts, f, hf, l, hl => by
    unfold fill at hf
    split at hf
    · rw [List.mem_singleton.mp hf] at hl; cases hl
    · cases hf
  | k + 1, left, counts, f, hf, l, hl => by
    unfold fill at hf
    split at hf
    · split at hf
      · rw [List.mem_singleton.mp hf] at hl; cases hl
      · cases hf
    · obtain ⟨l', hl', hf⟩ := List.mem_flatMap.mp hf
      obtain ⟨r, hr, rfl⟩ := List.mem_map.mp hf
      rcases List.mem_cons.mp hl with rfl | hl
      · have := O.next_in hl'
        exact ⟨this.1, this.2.2.1, this.2.2.2.1⟩
      · exact Inst.Ok.fl_good all k _ _ r hr l hl
/-- what can be filled isn't pruned -/
theorem Inst.Ok.unpruned {left : Nat} (hl : left < 2 ^ 64) (hsub : ∀ i, left.testBit i = true → I.B.testBit i = true) {counts cc : List Nat} (hcc : cc.length = I.ps.length) (hle : ∀ i, counts.getD i 0 ≤ cc.getD i 0) {f : List Laid} (hf : f ∈ fl (I.puz false) left counts) :
    partBits left &&& notMet (pop I.B) ((I.ps.map pop).zip cc) = 0 := by
  refine Classical.byContradiction fun hne => ?_
  obtain ⟨n, h1, h2⟩ := and_ne_zero.mp hne
  have t := fill_tiles (I.puz false) 64 left counts hl f hf
  have hg := O.fl_good false 64 left counts f hf
  obtain ⟨g, hg1, hg2⟩ := parts_met 64 left hl f t (fun l hl => (hg l hl).2.2.conn) n h1
  rw [testBit_notMet, Bool.and_eq_true, decide_eq_true_iff] at h2
  have hmet : (metOf (pop I.B) ((I.ps.map pop).zip cc)).testBit n = true := by
    have hzl : ((I.ps.map pop).zip cc).length = I.ps.length := by rw [List.length_zip, List.length_map, hcc, Nat.min_self]
    have := met_bit (most := pop I.B) (fun l => pop l.2) ((I.ps.map pop).zip cc) 0 1 0 g (by decide) (fun l hl => ⟨Nat.zero_le _, ?_⟩) (fun i z hz => ?_) (fun l hl z hz => ?_) (by rw [hg2]; omega)
    · rw [hg2, Nat.zero_add] at this
      exact this
    · rw [Nat.zero_add, hzl]
      exact (hg l (hg1.subset hl)).1
    · obtain ⟨z1, z2⟩ := List.getElem?_zip_eq_some.mp hz
      have hi : i < I.ps.length := by
        have := (List.getElem?_eq_some_iff.mp hz).1
        omega
      constructor
      · rw [Nat.zero_add]
        have a := fill_counts (I.puz false) 64 left counts f hf i
        have b := hle i
        have c : cc.getD i 0 = z.2 := by rw [List.getD_eq_getElem?_getD, z2]; rfl
        have d := (hg1.filter (fun l => l.1 == i)).length_le
        omega
      · rw [List.getElem?_map, List.getElem?_eq_getElem hi] at z1
        have z1 : pop I.ps[i] = z.1 := Option.some.inj z1
        have := (O.size_pos hi).1
        unfold Inst.size at this
        rw [List.getD_eq_getElem?_getD, List.getElem?_eq_getElem hi] at this
        rw [← z1]
        exact this
    · obtain ⟨z1, z2⟩ := List.getElem?_zip_eq_some.mp hz
      have hi := (hg l (hg1.subset hl)).1
      rw [Nat.sub_zero, List.getElem?_map, List.getElem?_eq_getElem hi] at z1
      have z1 : pop I.ps[l.1] = z.1 := Option.some.inj z1
      have := (hg l (hg1.subset hl)).2.2.size
      unfold Inst.size at this
      rw [List.getD_eq_getElem?_getD, List.getElem?_eq_getElem hi] at this
      rw [← z1]
      exact this
  rw [hmet] at h2
  exact absurd h2.2 (by decide)
theorem Inst.Ok.cnt_eq {left : Nat} {st counts : List Nat} (R : I.Rel left st counts) : I.cnt (enc st) = st := by
  unfold Inst.cnt
  refine List.ext_getElem (by rw [List.length_map, List.length_range, R.sl]) fun i h1 h2 => ?_
  rw [List.getElem_map, List.getElem_range, enc_div st (O.st_lt R) i, List.getD_eq_getElem?_getD, List.getElem?_eq_getElem h2]
  rfl
omit O in
theorem flatMap_filter {α β : Type} (q : α → Bool) (f : α → List β) : ∀ l : List α, (∀ x ∈ l, q x = false → f x = []) → (l.filter q).flatMap f = l.flatMap f
  | [], _ => rfl
  | a :: l, h => by
    rw [List.filter_cons, List.flatMap_cons]
    have ih := flatMap_filter q f l fun x hx => h x (List.mem_cons_of_mem _ hx)
    cases e : q a with
    | true => simp only [if_true]; rw [List.flatMap_cons, ih]
    | false => rw [h a List.mem_cons_self e]; simpa using ih
theorem Inst.Ok.nextL_eq {left : Nat} (hl : left < 2 ^ 64) (h0 : left ≠ 0) {st counts : List Nat} (R : I.Rel left st counts) :
    I.nextL (stN left st) = if partBits left &&& I.imp (enc st) ≠ 0 then [] else ((next (I.puz false) left counts).filter fun l => decide (partBits (left - l.2) &&& I.imp (enc I.cs) = 0)).map I.lyL := by
  obtain ⟨c, hc, _⟩ := head_ex hl h0
  unfold Inst.nextL
  rw [stN_mod hl, stN_div hl]
  split
  · rfl
  · unfold Inst.fitL Inst.fitA
    rw [hc]
    simp only
    rw [show I.start / 2 ^ 64 = enc I.cs from stN_div O.b _, List.filter_filter, List.filter_filter]
    have e : ((I.byc c).filter fun l => (decide (stN left st &&& l.stock ≠ 0) && decide (partBits (left - l.sq) &&& I.imp (enc I.cs) = 0)) && decide (l.sq &&& left = l.sq)) =
        (((I.byc c).filter fun l => decide (l.sq &&& left = l.sq) && decide (stN left st &&& l.stock ≠ 0)).filter fun l => decide (partBits (left - l.sq) &&& I.imp (enc I.cs) = 0)) := by
      rw [List.filter_filter]
      refine List.filter_congr fun l _ => ?_
      cases decide (stN left st &&& l.stock ≠ 0) <;> cases decide (partBits (left - l.sq) &&& I.imp (enc I.cs) = 0) <;> cases decide (l.sq &&& left = l.sq) <;> rfl
    refine Eq.trans ?_ (e.trans ?_)
    · refine List.filter_congr fun l _ => ?_
      cases decide (stN left st &&& l.stock ≠ 0) <;> cases decide (partBits (left - l.sq) &&& I.imp (enc I.cs) = 0) <;> cases decide (l.sq &&& left = l.sq) <;> rfl
    · rw [O.byc_next hl h0 hc R, List.filter_map]
      rfl
theorem Inst.Ok.Fs_fl : ∀ (k left : Nat) (st counts : List Nat), left < 2 ^ 64 → pop left ≤ k → I.Rel left st counts → I.FsF k (stN left st) = (fl (I.puz false) left counts).map fun f => f.map I.lyL
  | k, left, st, counts, hl, hk, R => by
    by_cases h0 : left = 0
    · subst h0
      have e : fl (I.puz false) 0 counts = [[]] := by rw [fl_zero, if_pos (by rfl)]
      rw [e]
      have e2 : stN 0 st % 2 ^ 64 = 0 := stN_mod (by decide) st
      cases k with
      | zero => unfold Inst.FsF; rw [if_pos e2]; rfl
      | succ k => unfold Inst.FsF; rw [if_pos e2]; rfl
    · have hp : pop left ≠ 0 := fun z => h0 ((eq_zero_iff hl).mpr (List.length_eq_zero_iff.mp z))
      cases k with
      | zero => omega
      | succ k =>
        unfold Inst.FsF
        rw [if_neg (by rw [stN_mod hl]; exact h0), O.nextL_eq hl h0 R, fl_step (I.puz false) counts h0, List.map_flatMap]
        split
        · rename_i hpr
          rw [List.flatMap_nil]
          have : fl (I.puz false) left counts = [] := by
            cases e : fl (I.puz false) left counts with
            | nil => rfl
            | cons f r =>
              have hu := O.unpruned hl R.sub R.sl (fun i => O.c_le_st R i) (f := f) (by rw [e]; exact List.mem_cons_self)
              unfold Inst.imp at hpr
              rw [O.cnt_eq R] at hpr
              exact absurd hu hpr
          rw [fl_step (I.puz false) counts h0] at this
          have h2 : ((next (I.puz false) left counts).flatMap fun l => (fl (I.puz false) (without left l.2) (less counts l.1)).map fun r => l :: r).map (fun f => f.map I.lyL) = [] := by rw [this]; rfl
          rw [List.map_flatMap] at h2
          exact h2.symm
        · rw [List.flatMap_map]
          refine Eq.trans (flatMap_filter _ _ _ fun l hl' hq => ?_) (flatMap_congr fun l hl' => ?_)
          · obtain ⟨r1, r2, r3, r4⟩ := O.rel_step hl h0 R hl'
            have hin := O.next_in hl'
            have hw : without left l.2 = left - l.2 := without_sub hl (within_bits hin.2.2.1 hin.2.2.2.2.1)
            rw [r2, Inst.Ok.Fs_fl k _ _ _ (without_lt _ _) (by omega) r1]
            have : fl (I.puz false) (without left l.2) (less counts l.1) = [] := by
              cases e : fl (I.puz false) (without left l.2) (less counts l.1) with
              | nil => rfl
              | cons f r =>
                have hu := O.unpruned (cc := I.cs) (without_lt _ _) r1.sub O.len (fun i => r1.le i) (f := f) (by rw [e]; exact List.mem_cons_self)
                rw [hw] at hu
                have hq := of_decide_eq_false hq
                unfold Inst.imp at hq
                rw [O.cnt_eq O.start_rel] at hq
                exact absurd hu hq
            rw [this]
            rfl
          · obtain ⟨r1, r2, r3, r4⟩ := O.rel_step hl h0 R hl'
            rw [r2, Inst.Ok.Fs_fl k _ _ _ (without_lt _ _) (by omega) r1, List.map_map, List.map_map]
            rfl
end
end Fb

namespace Fb
open Kg37
section
variable {I : Inst} (O : I.Ok)
include O
end
end Fb

namespace Fb
open Kg37
def Inst.Okst (I : Inst) (s : Nat) : Prop := ∃ left st counts, left < 2 ^ 64 ∧ I.Rel left st counts ∧ s = stN left st
def Inst.Fs (I : Inst) (s : Nat) : List (List Ly) := I.FsF 64 s
section
variable {I : Inst} (O : I.Ok)
include O
theorem Inst.Ok.okst_start : I.Okst I.start := ⟨I.B, I.cs, I.cs, O.b, O.start_rel, rfl⟩
theorem Inst.Ok.Fs_node {s : Nat} (k : I.Okst s) (h : s % 2 ^ 64 ≠ 0) : I.Fs s = (I.nextL s).flatMap fun l => (I.Fs (s - l.cost)).map fun r => l :: r := by
  obtain ⟨left, st, counts, hl, R, rfl⟩ := k
  have e : I.Fs (stN left st) = I.FsF 65 (stN left st) := by
    unfold Inst.Fs
    rw [O.Fs_fl 64 left st counts hl (pop_le left) R, O.Fs_fl 65 left st counts hl (by have := pop_le left; omega) R]
  rw [e]
  show (if _ then _ else _) = _
  rw [if_neg h]
  rfl
end
def Inst.wtF (I : Inst) : Nat → Nat → Nat
  | 0, _ => 0
  | k + 1, s => 1 + ((I.nextL s).map fun l => 1 + I.wtF k (s - l.cost)).sum
def Inst.wt (I : Inst) (s : Nat) : Nat := I.wtF (pop (s % 2 ^ 64) + 1) s
structure Stp where
  state : Nat
  lays : List Ly
  tried : Nat
  before : Nat
def ly0 : Ly := ⟨0, 0, 0, 0⟩
/-- what was laid last -/
def Stp.pick (s : Stp) : Ly := s.lays.getD (s.tried - 1) ly0
/-- the steps' lays; the last step stands first -/
def pathOf : List Stp → List Ly
  | [] => []
  | s :: r => pathOf r ++ [s.pick]
def Inst.restOf (I : Inst) : List Stp → List (List Ly)
  | [] => []
  | s :: r => ((s.lays.drop s.tried).flatMap fun l => (I.Fs (s.state - l.cost)).map fun x => pathOf r ++ l :: x) ++ I.restOf r
def Inst.left (I : Inst) : List Stp → Nat
  | [] => 0
  | s :: r => 1 + ((s.lays.drop s.tried).map fun l => 1 + I.wt (s.state - l.cost)).sum + I.left r
def key (l : Ly) : Nat × Nat := (l.piece, l.sq)
/-- from this state in these steps' course -/
def Inst.Link (I : Inst) (T : List Stp) (st : Nat) : Prop := match T with
  | [] => st = I.start
  | s :: _ => 1 ≤ s.tried ∧ s.tried ≤ s.lays.length ∧ st = s.state - s.pick.cost
def Inst.Stack (I : Inst) : List Stp → Prop
  | [] => True
  | s :: r => (I.Okst s.state ∧ s.state % 2 ^ 64 ≠ 0) ∧ s.lays = I.nextL s.state ∧ s.tried ≤ s.lays.length ∧ s.before + (I.Fs s.state).length + (I.restOf r).length = (I.Fs I.start).length ∧
    (∀ x ∈ I.Fs s.state, pathOf r ++ x ∈ I.Fs I.start) ∧ I.Link r s.state ∧ I.Stack r
def Inst.Cov (I : Inst) (U : Nat × Nat → Prop) (s : Nat) : Prop := ∀ x ∈ I.Fs s, ∀ l ∈ x, U (key l)
def Inst.Upto (I : Inst) (U : Nat × Nat → Prop) (n : Nat) (s : Stp) : Prop := ∀ i, i < n → ∀ l, s.lays[i]? = some l → (I.Fs (s.state - l.cost) ≠ [] → U (key l)) ∧ I.Cov U (s.state - l.cost)
def Inst.UsedR (I : Inst) (U : Nat × Nat → Prop) : List Stp → Prop
  | [] => True
  | s :: r => I.Upto U (s.tried - 1) s ∧ I.UsedR U r
def Inst.UsedH (I : Inst) (U : Nat × Nat → Prop) : List Stp → Prop
  | [] => I.Cov U I.start
  | s :: r => I.Upto U s.tried s ∧ I.UsedR U r
/-- what is known, and what is used, tell no lies -/
structure Inst.Fair (I : Inst) (K : Nat → Option Nat) (U : Nat × Nat → Prop) : Prop where
  known : ∀ s n, K s = some n → n = (I.Fs s).length ∧ I.Cov U s
  sound : ∀ k, U k → ∃ f ∈ I.Fs I.start, ∃ l ∈ f, key l = k
/-- ahead of a turn of the loop -/
structure Inst.Head (I : Inst) (first : Nat) (K : Nat → Option Nat) (U : Nat × Nat → Prop) (T : List Stp) (passed : Nat) (found : List (List Ly)) : Prop where
  stk : I.Stack T
  used : I.UsedH U T
  fair : I.Fair K U
  pos : ∃ D, I.Fs I.start = D ++ I.restOf T ∧ D.length = passed ∧ found = D.drop first
/-- ahead of a state that is entered -/
structure Inst.Ent (I : Inst) (first : Nat) (K : Nat → Option Nat) (U : Nat × Nat → Prop) (T : List Stp) (st passed : Nat) (found : List (List Ly)) : Prop where
  ok : I.Okst st
  stk : I.Stack T
  link : I.Link T st
  used : I.UsedR U T
  fair : I.Fair K U
  pos : ∃ D, I.Fs I.start = D ++ ((I.Fs st).map (fun x => pathOf T ++ x) ++ I.restOf T) ∧ D.length = passed ∧ found = D.drop first
section
variable {I : Inst} {first passed st : Nat} {K K' : Nat → Option Nat} {U U' : Nat × Nat → Prop} {T r : List Stp} {s : Stp} {found : List (List Ly)}
theorem Inst.Upto.mono {n : Nat} (h : I.Upto U n s) (hU : ∀ k, U k → U' k) : I.Upto U' n s := fun i hi l hl => ⟨fun z => hU _ ((h i hi l hl).1 z), fun x hx m hm => hU _ ((h i hi l hl).2 x hx m hm)⟩
theorem Inst.UsedR.mono (hU : ∀ k, U k → U' k) : ∀ {T : List Stp}, I.UsedR U T → I.UsedR U' T
  | [], _ => trivial
  | s :: r, h => ⟨h.1.mono hU, Inst.UsedR.mono hU h.2⟩
theorem Inst.Cov.mono (hU : ∀ k, U k → U' k) (h : I.Cov U st) : I.Cov U' st := fun x hx l hl => hU _ (h x hx l hl)
theorem pick_at (h1 : 1 ≤ s.tried) (h2 : s.tried ≤ s.lays.length) : s.lays[s.tried - 1]? = some s.pick := by
  unfold Stp.pick
  rw [List.getD_eq_getElem?_getD, List.getElem?_eq_getElem (by omega)]
  rfl
/-- a state is done with -/
theorem used_done (hl : I.Link T st) (hu : I.UsedR U T) (hc : I.Cov U st) (hU : ∀ k, U k → U' k) (hm : I.Fs st ≠ [] → ∀ s r, T = s :: r → U' (key s.pick)) : I.UsedH U' T := by
  cases T with
  | nil =>
    have : st = I.start := hl
    subst this
    exact hc.mono hU
  | cons s r =>
    obtain ⟨h1, h2, h3⟩ := hl
    refine ⟨fun i hi l hil => ?_, hu.2.mono hU⟩
    by_cases e : i = s.tried - 1
    · subst e
      rw [pick_at h1 h2] at hil
      have e : s.pick = l := Option.some.inj hil
      subst e
      rw [← h3]
      exact ⟨fun z => hm z s r rfl, hc.mono hU⟩
    · have := hu.1 i (by omega) l hil
      exact ⟨fun z => hU _ (this.1 z), this.2.mono hU⟩
theorem Inst.Ent.inAll (E : I.Ent first K U T st passed found) : ∀ x ∈ I.Fs st, pathOf T ++ x ∈ I.Fs I.start := by
  intro x hx
  obtain ⟨D, e, _⟩ := E.pos
  rw [e]
  exact List.mem_append_right _ (List.mem_append_left _ (List.mem_map.mpr ⟨x, hx, rfl⟩))
/-- past a state that has no fillings -/
theorem Inst.Ent.none (E : I.Ent first K U T st passed found) (h : I.Fs st = []) : I.Head first K U T passed found := by
  have hc : I.Cov U st := fun x hx => by rw [h] at hx; cases hx
  refine ⟨E.stk, used_done E.link E.used hc (fun k hk => hk) fun z => absurd h z, E.fair, ?_⟩
  obtain ⟨D, e1, e2, e3⟩ := E.pos
  refine ⟨D, ?_, e2, e3⟩
  rw [e1, h]
  rfl
theorem Inst.Ent.push (O : I.Ok) (E : I.Ent first K U T st passed found) (h : st % 2 ^ 64 ≠ 0) : I.Head first K U (⟨st, I.nextL st, 0, passed⟩ :: T) passed found := by
  have hF := O.Fs_node E.ok h
  obtain ⟨D, e1, e2, e3⟩ := E.pos
  have hr : I.restOf (⟨st, I.nextL st, 0, passed⟩ :: T) = (I.Fs st).map (fun x => pathOf T ++ x) ++ I.restOf T := by
    show ((I.nextL st).drop 0).flatMap _ ++ _ = _
    rw [List.drop_zero, hF, List.map_flatMap]
    congr 1
    refine flatMap_congr fun l _ => ?_
    rw [List.map_map]
    rfl
  refine ⟨⟨⟨E.ok, h⟩, rfl, Nat.zero_le _, ?_, E.inAll, E.link, E.stk⟩, ⟨fun i hi => absurd hi (Nat.not_lt_zero _), E.used⟩, E.fair, D, by rw [e1, hr], e2, e3⟩
  show passed + (I.Fs st).length + _ = _
  rw [e1, List.length_append, List.length_append, List.length_map, e2]
  omega
theorem Inst.Ent.start (O : I.Ok) (F : I.Fair K U) : I.Ent first K U [] I.start 0 [] := by
  refine ⟨O.okst_start, trivial, rfl, trivial, F, [], ?_, rfl, by simp⟩
  show _ = [] ++ ((I.Fs I.start).map (fun x => [] ++ x) ++ [])
  simp
/-- what has come of it -/
structure Inst.Done (I : Inst) (first last : Nat) (U : Nat × Nat → Prop) (passed : Nat) (found : List (List Ly)) : Prop where
  num : passed = min (I.Fs I.start).length (last + 1)
  list : found = ((I.Fs I.start).take passed).drop first
  sound : ∀ k, U k → ∃ f ∈ I.Fs I.start, ∃ l ∈ f, key l = k
  cov : (I.Fs I.start).length ≤ last → I.Cov U I.start
theorem Inst.Head.done {last : Nat} (H : I.Head first K U T passed found) (hp : passed ≤ last + 1) (h : T = [] ∨ last < passed) : I.Done first last U passed found := by
  obtain ⟨_, hu, hf, D, e1, e2, e3⟩ := H
  have hlen : (I.Fs I.start).length = passed + (I.restOf T).length := by rw [e1, List.length_append, e2]
  have ht : (I.Fs I.start).take passed = D := by
    rw [e1, ← e2, List.take_left']
    rfl
  rcases h with rfl | h
  · have h0 : (I.restOf []).length = 0 := rfl
    exact ⟨by omega, by rw [ht]; exact e3, hf.sound, fun _ => hu⟩
  · refine ⟨by omega, by rw [ht]; exact e3, hf.sound, fun z => by omega⟩
end
end Fb

namespace Fb
open Kg37
def shift (way : List Pt) (sq : Pt) : List Pt := way.map fun p => (p.1 + (sq.1 - (way.headD (0, 0)).1), p.2 + (sq.2 - (way.headD (0, 0)).2))
def outside (p : Pt) : Bool := decide (p.1 < 0) || (decide (8 ≤ p.1) || decide (8 ≤ p.2))
def mo (way : List Pt) (sq : Pt) : Nat := if (shift way sq).any outside = true then 0 else numOf (shift way sq)
theorem eight_ne {l : List Pt} (h : l ≠ []) : ∀ t ∈ eight l, t ≠ [] := by
  intro t ht z
  have hl : t.length = l.length := by
    unfold eight at ht
    simp only [List.mem_cons, List.not_mem_nil, or_false] at ht
    rcases ht with rfl | rfl | rfl | rfl | rfl | rfl | rfl | rfl <;> simp [rot, mir]
  rw [z] at hl
  exact h (List.length_eq_zero_iff.mp hl.symm)
theorem piece_pts {n : Nat} (hn : n < 2 ^ 64) (hp : piece n = true) : pts n ≠ [] := by
  rw [piece_iff hn, Bool.and_eq_true, decide_eq_true_iff] at hp
  intro z
  have : (pts n).length = pop n := List.length_map _
  rw [z] at this
  have h0 : pop n = 0 := this.symm
  omega
/-- the lays of a piece on a square, as the program finds them -/
def Inst.found (I : Inst) (i : Nat) (ns : List Nat) (c : Nat) : List Ly := ((ns.map fun n => mo (pts n) (pt c)).filter fun s => decide (s ≠ 0) && decide (s &&& I.B = s)).map (I.ly i)
theorem dd_len' : ∀ (L acc : List Nat), (dd acc L).length ≤ acc.length + L.length
  | [], acc => Nat.le_refl _
  | x :: L, acc => by
    show (dd (if acc.contains x = true then acc else acc ++ [x]) L).length ≤ _
    have h := dd_len' L (if acc.contains x = true then acc else acc ++ [x])
    have h2 : (if acc.contains x = true then acc else acc ++ [x]).length ≤ acc.length + 1 := by
      split
      · omega
      · simp
    rw [List.length_cons]
    omega
theorem lies_len (l : List Pt) : (lies l).length ≤ 8 := by
  have := dd_len' ((eight l).map fun t => numOf (moved t)) []
  exact this
end Fb

namespace Fb
open Kg37
section
variable {I : Inst} (O : I.Ok)
include O
end
end Fb

namespace L2
open PySem PySem.Spec PyProof.Rows

/-- the module's def x keeps the promise sp, k calls deep -/
def Def (P : Program) (w : World) (K : PySem.W.Frag) (mg : Str → Option Value) (base : Heap) (k : Nat) (x : Str) (ps : List Str) (sp : Sp) : Prop :=
  ∃ (f : Addr) (fd : FuncData), FnOk P w K mg base CX0 k f fd ps sp ∧ Binds K fd ps [] ∧ PySem.W.keepIn K (.ref f) = true ∧ mg x = some (.ref f)
section
variable {X : Cx} {x : Str} {p pos : Pos} {e : Expr} {es : List Expr} {t : TA} {k : Nat} {ps : List Str} {sp : Sp}
theorem pe_def (D : Def X.prog X.w X.K X.mg X.base k x ps sp) (hr : Room k X.A) (ha : PA X (e :: es) t) (hg : Gl X x := by rfl) (hdb : (x == ("__debug__" : Str)) = false := by decide)
    (he : starEach (e :: es) X.env = (false, eval e X.env) :: starEach es X.env := by rfl) (hpl : (backTo pos (starEach es X.env)).any (·.1) = false := by rfl) :
    PE X (.Call (.Name x p) (e :: es) [] pos) (tCall sp [] E0 t) := by
  obtain ⟨f, fd, G, b, kp, m⟩ := D
  exact pe_call G hr hg m kp b .nil pass0 ha hdb he hpl
/-- a module's whole number -/
theorem pe_gint {i : Int} (hg : Gl X x) (h : ∃ t, X.mg x = some (.int i t)) (hd : (x == ("__debug__" : Str)) = false := by decide) : PE X (.Name x pos) (tC (.int i)) := by
  obtain ⟨t, h⟩ := h
  exact pe_glob hg h ⟨t, rfl⟩ hd
end

section
variable {X : Cx} {K : PySem.W.Frag}
theorem pg_tupK {es : List Expr} {k : Nat} {t : TGs} {n : Nat} {pos : Pos} (hK : X.K = K) (hc : X.calm = true) (h : PGs X es t) (hn : (assignEach es X.env).length = n) (hst : (assignEach es X.env).findIdx? (·.1) = none) : PG X (.Tuple es k pos) (gTup K n t) := by
  subst hK
  exact pg_tup hc h hn hst
theorem ix_tupK (hK : X.K = K) : IxR X (rIxT K) := by subst hK; exact ix_tup
end

theorem iteP {b : Bool} {A B : Prop} (h : b = true) (x : A) : if b = true then A else B := by rw [if_pos h]; exact x
theorem iteM {b : Bool} {A B : Prop} (h : b = false) (x : B) : if b = true then A else B := by rw [h, if_neg Bool.false_ne_true]; exact x

/-- a comprehension without a test -/
theorem yes_if {σ : St} {H : Hp} {A B : Hp → Prop} (x : A H) : tYes σ H fun b H3 => if b = true then A H3 else B H3 := by
  show (if true = true then A H else B H)
  rw [if_pos rfl]
  exact x

theorem Same.new {H : Hp} {p : Addr} (h : H p = none) (o : HO) : Same H (upd H p o) := fun b u q => by rw [upd_ne (ne_of_none q h)]; exact q
/-- all but D stays -/
def Ext (D : Addr) (H H' : Hp) : Prop := ∀ b o, H b = some o → b ≠ D → H' b = some o
theorem Ext.set {D : Addr} {H : Hp} {o : HO} : Ext D H (upd H D o) := fun b u q hb => by rw [upd_ne hb]; exact q
theorem Same.ext {D : Addr} {H H' : Hp} (e : Same H H') : Ext D H H' := fun b o q _ => e b o q
theorem Ext.trans {D : Addr} {H H1 H2 : Hp} (a : Ext D H H1) (b : Ext D H1 H2) : Ext D H H2 := fun c o q hc => b c o (a c o q hc) hc
/-- what was there ahead of D stays -/
theorem Same.by_ext {D : Addr} {H0 H H' : Hp} (s : Same H0 H) (e : Ext D H H') (h : H0 D = none) : Same H0 H' := fun b o q => e b o (s b o q) (ne_of_none q h)
theorem SqT.ext {K : PySem.W.Frag} {D a : Addr} {H H' : Hp} {xs ys : List V} (e : Ext D H H') (hD : H D = some (.lst ys)) (h : SqT K H a xs) : SqT K H' a xs := by
  rcases h with (h | ⟨o, h⟩) | h
  · exact .inl (.inl (e a _ h (ne_of h hD (by intro z; cases z))))
  · exact .inl (.inr ⟨o, e a _ h (ne_of h hD (by intro z; cases z))⟩)
  · exact .inr h
theorem SqT.same {K : PySem.W.Frag} {a : Addr} {H H' : Hp} {xs : List V} (e : Same H H') (h : SqT K H a xs) : SqT K H' a xs := by
  rcases h with (h | ⟨o, h⟩) | h
  · exact .inl (.inl (e a _ h))
  · exact .inl (.inr ⟨o, e a _ h⟩)
  · exact .inr h

def PairAt (K : PySem.W.Frag) (H : Hp) (p : Addr) (q : Int × Int) : Prop := SqT K H p [.int q.1, .int q.2]
abbrev Pairs (K : PySem.W.Frag) (H : Hp) (ps : List Addr) (l : List (Int × Int)) : Prop := Paired (PairAt K H) ps l
/-- the list at a holds the pairs l -/
def PtsL (K : PySem.W.Frag) (H : Hp) (a : Addr) (l : List (Int × Int)) : Prop := ∃ ps : List Addr, H a = some (.lst (ps.map V.ref)) ∧ Pairs K H ps l
section
variable {K : PySem.W.Frag} {H H' H0 : Hp} {a D p : Addr} {l : List (Int × Int)} {ps : List Addr} {q : Int × Int}
theorem Pairs.len (h : Pairs K H ps l) : ps.length = l.length := Paired.length h
theorem Pairs.same (e : Same H H') (h : Pairs K H ps l) : Pairs K H' ps l := Paired.mapP h fun _ _ z => SqT.same e z
theorem Pairs.ext {ys : List V} (e : Ext D H H') (hD : H D = some (.lst ys)) (h : Pairs K H ps l) : Pairs K H' ps l := Paired.mapP h fun _ _ z => SqT.ext e hD z
theorem Pairs.at {i : Nat} (h : Pairs K H ps l) (e : l[i]? = some q) : ∃ p, ps[i]? = some p ∧ PairAt K H p q := by
  induction h generalizing i with
  | nil => simp at e
  | cons r t ih =>
    cases i with
    | zero => simp at e; subst e; exact ⟨_, rfl, r⟩
    | succ i => obtain ⟨p, h1, h2⟩ := ih (by simpa using e); exact ⟨p, by simpa using h1, h2⟩
theorem Pairs.at' {i : Nat} (h : Pairs K H ps l) (e : ps[i]? = some p) : ∃ q, l[i]? = some q ∧ PairAt K H p q := by
  induction h generalizing i with
  | nil => simp at e
  | cons r t ih =>
    cases i with
    | zero => simp at e; subst e; exact ⟨_, rfl, r⟩
    | succ i => obtain ⟨q, h1, h2⟩ := ih (by simpa using e); exact ⟨q, by simpa using h1, h2⟩
theorem PtsL.same (e : Same H H') (h : PtsL K H a l) : PtsL K H' a l := let ⟨ps, h1, h2⟩ := h; ⟨ps, e _ _ h1, h2.same e⟩
theorem PtsL.ext {ys : List V} (e : Ext D H H') (hD : H D = some (.lst ys)) (hne : a ≠ D) (h : PtsL K H a l) : PtsL K H' a l := let ⟨ps, h1, h2⟩ := h; ⟨ps, e _ _ h1 hne, h2.ext e hD⟩
/-- a new list that holds the pairs l -/
structure NewPts (K : PySem.W.Frag) (H0 H : Hp) (D : Addr) (l : List (Int × Int)) : Prop where
  same : Same H0 H
  new : H0 D = none
  pts : PtsL K H D l
theorem NewPts.nil (h : H0 D = none) : NewPts K H0 (upd H0 D (.lst [])) D [] := ⟨Same.new h _, h, [], upd_same, .nil⟩
theorem NewPts.lst (h : NewPts K H0 H D l) : ∃ ys, H D = some (.lst ys) ∧ ys.length = l.length := let ⟨ps, h1, h2⟩ := h.pts; ⟨_, h1, by rw [List.length_map, h2.len]⟩
/-- a new pair is laid and appended -/
theorem NewPts.push {x y : Int} (h : NewPts K H0 H D l) (hp : H p = none) (hz : l.length < sizeLine) :
    ∃ acc, (upd H p (.tup [.int x, .int y])) D = some (.lst acc) ∧ acc.length < sizeLine ∧ NewPts K H0 (upd (upd H p (.tup [.int x, .int y])) D (.lst (acc ++ [.ref p]))) D (l ++ [(x, y)]) := by
  obtain ⟨ps, h1, h2⟩ := h.pts
  have hne : D ≠ p := ne_of_none h1 hp
  have hD : (upd H p (.tup [.int x, .int y])) D = some (.lst (ps.map V.ref)) := by rw [upd_ne hne]; exact h1
  have e1 : Same H (upd H p (.tup [.int x, .int y])) := Same.new hp _
  have s1 : Same H0 (upd H p (.tup [.int x, .int y])) := h.same.trans e1
  refine ⟨_, hD, by rw [List.length_map, h2.len]; exact hz, s1.by_ext Ext.set h.new, h.new, ps ++ [p], by rw [upd_same, List.map_append]; rfl, ?_⟩
  refine Paired.snoc ((h2.same e1).ext Ext.set hD) (SqT.ext Ext.set hD ?_)
  exact SqT.of upd_same
end

section
variable {X : Cx}
theorem Inv.pair {pins : List (Addr × Obj)} {σ : St} {H : Hp} {s : Shared} {p : Addr} {q : Int × Int} (I : Inv X pins σ H s) (h : PairAt X.K H p q) : ∃ t u, s.heap.IsTuple p #[.int q.1 t, .int q.2 u] := by
  obtain ⟨its, r, pl, _⟩ := I.tuple h
  obtain ⟨u, v, rfl, ⟨t, rfl⟩, ⟨t', rfl⟩⟩ := r.two
  exact ⟨t, t', pl⟩
end

/-- over a list that the turns leave as it is -/
theorem lcL {K : PySem.W.Frag} {a : Addr} {xs : List V} {g : TG} {tt : TT} {te : TE} {vs : List Nat} {σ : St} {H1 : Hp} {Qd : Addr → Hp → Prop} (Pv : Nat → Addr → Hp → Prop) (h0 : ∀ D, H1 D = none → Pv 0 D (upd H1 D (.lst [])))
    (hl : ∀ i D H, Pv i D H → SqL K H a xs)
    (hs : ∀ i x D H, xs[i]? = some x → Pv i D H → g x (wipe σ vs) H fun σ2 H2 => wipe σ2 vs = wipe σ vs ∧ tt σ2 H2 fun b H3 =>
      if b = true then te σ2 H3 fun y H4 => ∃ acc, H4 D = some (.lst acc) ∧ acc.length < sizeLine ∧ Pv (i + 1) D (upd H4 D (.lst (acc ++ [y]))) else Pv (i + 1) D H3)
    (hd : ∀ D H, Pv xs.length D H → Qd D H) :
    ∀ D, H1 D = none → ∃ W : Nat → Nat → Hp → Prop, (∃ m, W 0 m (upd H1 D (.lst []))) ∧ ∀ i m H, W i m H →
      ((Itl K a).stop i H ∧ Qd D H) ∨ ((Itl K a).go i H ∧ ∃ Nx : Hp → Prop, (∀ H', Nx H' → ∃ m', m' < m ∧ W (i + 1) m' H') ∧ ∀ x H', (Itl K a).yld i H x H' → g x (wipe σ vs) H' fun σ2 H2 => wipe σ2 vs = wipe σ vs ∧ tt σ2 H2 fun b H3 =>
        if b = true then te σ2 H3 fun y H4 => ∃ acc, H4 D = some (.lst acc) ∧ acc.length < sizeLine ∧ Nx (upd H4 D (.lst (acc ++ [y]))) else Nx H3) := by
  intro D hD
  refine ⟨fun i m H => m = xs.length - i ∧ i ≤ xs.length ∧ Pv i D H, ⟨xs.length, by simp, Nat.zero_le _, h0 D hD⟩, ?_⟩
  rintro i m H ⟨rfl, hi, p⟩
  have q := hl i D H p
  by_cases hlt : i < xs.length
  · refine .inr ⟨⟨xs, xs[i], q, by simp [hlt]⟩, Pv (i + 1) D, fun H' p' => ⟨xs.length - (i + 1), by omega, rfl, hlt, p'⟩, fun x H' y => ?_⟩
    obtain ⟨e, y⟩ := y
    subst e
    exact hs i x D _ (y xs q) p
  · have e : i = xs.length := by omega
    subst e
    exact .inl ⟨⟨xs, q, Nat.le_refl _⟩, hd D H p⟩
/-- over lo, lo + 1, .. -/
theorem lcR {lo : Int} {n : Nat} {g : TG} {tt : TT} {te : TE} {vs : List Nat} {σ : St} {H1 : Hp} {Qd : Addr → Hp → Prop} (Pv : Nat → Addr → Hp → Prop) (h0 : ∀ D, H1 D = none → Pv 0 D (upd H1 D (.lst [])))
    (hs : ∀ (i : Nat) D H, i < n → Pv i D H → g (.int (lo + i)) (wipe σ vs) H fun σ2 H2 => wipe σ2 vs = wipe σ vs ∧ tt σ2 H2 fun b H3 =>
      if b = true then te σ2 H3 fun y H4 => ∃ acc, H4 D = some (.lst acc) ∧ acc.length < sizeLine ∧ Pv (i + 1) D (upd H4 D (.lst (acc ++ [y]))) else Pv (i + 1) D H3)
    (hd : ∀ D H, Pv n D H → Qd D H) :
    ∀ D, H1 D = none → ∃ W : Nat → Nat → Hp → Prop, (∃ m, W 0 m (upd H1 D (.lst []))) ∧ ∀ i m H, W i m H →
      ((Itr lo n).stop i H ∧ Qd D H) ∨ ((Itr lo n).go i H ∧ ∃ Nx : Hp → Prop, (∀ H', Nx H' → ∃ m', m' < m ∧ W (i + 1) m' H') ∧ ∀ x H', (Itr lo n).yld i H x H' → g x (wipe σ vs) H' fun σ2 H2 => wipe σ2 vs = wipe σ vs ∧ tt σ2 H2 fun b H3 =>
        if b = true then te σ2 H3 fun y H4 => ∃ acc, H4 D = some (.lst acc) ∧ acc.length < sizeLine ∧ Nx (upd H4 D (.lst (acc ++ [y]))) else Nx H3) := by
  intro D hD
  refine ⟨fun i m H => m = n - i ∧ i ≤ n ∧ Pv i D H, ⟨n, by simp, Nat.zero_le _, h0 D hD⟩, ?_⟩
  rintro i m H ⟨rfl, hi, p⟩
  by_cases hlt : i < n
  · refine .inr ⟨hlt, Pv (i + 1) D, fun H' p' => ⟨n - (i + 1), by omega, rfl, hlt, p'⟩, fun x H' y => ?_⟩
    obtain ⟨e, y⟩ := y
    subst e y
    exact hs i D _ hlt p
  · have e : i = n := by omega
    subst e
    exact .inl ⟨Nat.le_refl _, hd D H p⟩

theorem bitOr_nat (a b : Nat) : Builtin.bitOr (a : Int) (b : Int) = ((a ||| b : Nat) : Int) := by
  have h1 : ¬ (0 : Int) ≤ Builtin.bitNot (a : Int) := by unfold Builtin.bitNot; omega
  have h2 : ¬ (0 : Int) ≤ Builtin.bitNot (b : Int) := by unfold Builtin.bitNot; omega
  have e : ∀ c : Int, Builtin.bitNot (Builtin.bitNot c) = c := fun c => by unfold Builtin.bitNot; omega
  unfold Builtin.bitOr Builtin.bitAnd
  rw [decide_eq_false h1, decide_eq_false h2]
  show Builtin.bitNot (Builtin.bitNot _) = _
  rw [e, e, e, Int.toNat_natCast, Int.toNat_natCast]
theorem shr_bit (n i : Nat) : (Builtin.bitAnd ((n : Int) / 2 ^ i) 1 = 1) ↔ n.testBit i = true := by
  rw [bitAnd_m1, Nat.testBit_eq_decide_div_mod_eq, decide_eq_true_iff]
  have : ((n : Int) / 2 ^ i) = ((n / 2 ^ i : Nat) : Int) := by simp
  rw [this]
  omega
theorem take_snoc {α : Type} {l : List α} {i : Nat} {x : α} (h : l[i]? = some x) : l.take (i + 1) = l.take i ++ [x] := by
  rw [List.take_add_one, h]; rfl
theorem line64 {n : Nat} (h : n ≤ 1000) : n ≤ sizeLine := by rw [sizeLine_eq]; omega

structure NewInts (H0 H : Hp) (D : Addr) (ns : List Int) : Prop where
  same : Same H0 H
  new : H0 D = none
  lst : H D = some (.lst (ns.map V.int))
theorem NewInts.nil {H0 : Hp} {D : Addr} (h : H0 D = none) : NewInts H0 (upd H0 D (.lst [])) D [] := ⟨Same.new h _, h, upd_same⟩
theorem NewInts.push {H0 H : Hp} {D : Addr} {ns : List Int} {x : Int} (h : NewInts H0 H D ns) (hz : ns.length < sizeLine) :
    ∃ acc, H D = some (.lst acc) ∧ acc.length < sizeLine ∧ NewInts H0 (upd H D (.lst (acc ++ [.int x]))) D (ns ++ [x]) :=
  ⟨_, h.lst, by rw [List.length_map]; exact hz, h.same.by_ext Ext.set h.new, h.new, by rw [upd_same, List.map_append]; rfl⟩
theorem map_at {α β : Type} {f : α → β} {l : List α} {i : Nat} {y : β} (h : (l.map f)[i]? = some y) : ∃ x, l[i]? = some x ∧ y = f x := by
  rw [List.getElem?_map] at h
  cases e : l[i]? with
  | none => rw [e] at h; cases h
  | some x => rw [e] at h; exact ⟨x, rfl, (Option.some.inj h).symm⟩
theorem inV_ints (x : Int) (ns : List Int) : inV (.int x) (ns.map V.int) = decide (x ∈ ns) := by
  unfold inV
  rw [List.any_map, Bool.eq_iff_iff, List.any_eq_true, decide_eq_true_iff]
  constructor
  · rintro ⟨y, hy, e⟩
    have e : (y == x) = true := e
    rw [beq_iff_eq] at e
    subst e
    exact hy
  · intro h
    exact ⟨x, h, by show (x == x) = true; simp⟩
theorem flat_ints (ns : List Int) : (ns.map V.int).all flatV = true := by
  rw [List.all_map, List.all_eq_true]
  intro x _
  rfl
end L2

namespace L2
open PySem PySem.Spec PyProof.Rows
section
variable {X : Cx} {x m : Str} {p pos apos : Pos} {e o : Expr} {es : List Expr} {t : TA} {ta : TE} {k : Nat} {ps : List Str} {sp : Sp} {C : Addr}
end
theorem bitAnd_nat (a b : Nat) : Builtin.bitAnd (a : Int) (b : Int) = ((a &&& b : Nat) : Int) := by
  have h1 : (0 : Int) ≤ (a : Int) := by omega
  have h2 : (0 : Int) ≤ (b : Int) := by omega
  unfold Builtin.bitAnd
  rw [decide_eq_true h1, decide_eq_true h2]
  show (((a : Int).toNat &&& (b : Int).toNat : Nat) : Int) = _
  rw [Int.toNat_natCast, Int.toNat_natCast]
theorem bitAnd_neg (n : Nat) : Builtin.bitAnd (n : Int) (-(n : Int)) = ((n - (n &&& (n - 1)) : Nat) : Int) := by
  by_cases h : n = 0
  · subst h
    rfl
  · have h1 : (0 : Int) ≤ (n : Int) := by omega
    have h2 : ¬ (0 : Int) ≤ -(n : Int) := by omega
    unfold Builtin.bitAnd
    rw [decide_eq_true h1, decide_eq_false h2]
    show (n : Int) - (((n : Int).toNat &&& (Builtin.bitNot (-(n : Int))).toNat : Nat) : Int) = _
    have e : (Builtin.bitNot (-(n : Int))).toNat = n - 1 := by unfold Builtin.bitNot; omega
    rw [Int.toNat_natCast, e]
    have : n &&& (n - 1) ≤ n := Nat.and_le_left
    omega
theorem shl_nat (a k : Nat) : (a : Int) * 2 ^ k = ((a * 2 ^ k : Nat) : Int) := by simp
theorem shr_nat (a k : Nat) : (a : Int) / 2 ^ k = ((a / 2 ^ k : Nat) : Int) := by simp
/-- all but these stays, and these are still there -/
structure But (L : List Addr) (H H' : Hp) : Prop where
  keep : ∀ b o, H b = some o → b ∉ L → H' b = some o
  live : ∀ b, H' b = none → H b = none
section
variable {L L' : List Addr} {H H1 H2 : Hp} {a : Addr} {o : HO}
theorem But.refl : But L H H := ⟨fun _ _ h _ => h, fun _ h => h⟩
theorem Same.live (h : Same H H1) {b : Addr} (q : H1 b = none) : H b = none := by
  cases e : H b with
  | none => rfl
  | some u => rw [h b u e] at q; cases q
theorem Same.but (h : Same H H1) : But L H H1 := ⟨fun b o q _ => h b o q, fun b q => h.live q⟩
theorem But.trans (h : But L H H1) (h' : But L H1 H2) : But L H H2 := ⟨fun b o q hb => h'.keep b o (h.keep b o q hb) hb, fun b q => h.live b (h'.live b q)⟩
theorem But.mono (h : But L H H1) (hs : ∀ b ∈ L, b ∈ L') : But L' H H1 := ⟨fun b o q hb => h.keep b o q fun z => hb (hs b z), h.live⟩
theorem But.set (ha : a ∈ L) : But L H (upd H a o) := ⟨fun b u q hb => by rw [upd_ne (fun z : b = a => hb (by rw [z]; exact ha))]; exact q, fun b q => by
  by_cases e : b = a
  · subst e; rw [upd_same] at q; cases q
  · rw [upd_ne e] at q; exact q⟩
theorem But.new (ha : H a = none) : But L H (upd H a o) := Same.but (Same.new ha o)
theorem But.drop (h : But (a :: L) H H1) (hn : H a = none) : But L H H1 := ⟨fun b o q hb => h.keep b o q fun z => by
  rcases List.mem_cons.mp z with rfl | z
  · rw [hn] at q; cases q
  · exact hb z, h.live⟩
theorem But.there (h : But L H H1) (q : H a = some o) : ∃ u, H1 a = some u := by
  cases e : H1 a with
  | none => rw [h.live a e] at q; cases q
  | some u => exact ⟨u, rfl⟩
theorem But.same (h : But [] H H1) : Same H H1 := fun b o q => h.keep b o q (by simp)
end
def RefsL {α : Type} (R : Addr → α → Prop) (H : Hp) (a : Addr) (l : List α) : Prop := ∃ ps : List Addr, H a = some (.lst (ps.map V.ref)) ∧ Paired R ps l
section
variable {α : Type} {R R' : Addr → α → Prop} {ps : List Addr} {l : List α} {i : Nat} {x : α} {p : Addr}
theorem Paired.at (h : Paired R ps l) (e : l[i]? = some x) : ∃ p, ps[i]? = some p ∧ R p x := by
  induction h generalizing i with
  | nil => simp at e
  | cons r t ih =>
    cases i with
    | zero => simp at e; subst e; exact ⟨_, rfl, r⟩
    | succ i => obtain ⟨p, h1, h2⟩ := ih (by simpa using e); exact ⟨p, by simpa using h1, h2⟩
theorem Paired.at' (h : Paired R ps l) (e : ps[i]? = some p) : ∃ x, l[i]? = some x ∧ R p x := by
  induction h generalizing i with
  | nil => simp at e
  | cons r t ih =>
    cases i with
    | zero => simp at e; subst e; exact ⟨_, rfl, r⟩
    | succ i => obtain ⟨q, h1, h2⟩ := ih (by simpa using e); exact ⟨q, by simpa using h1, h2⟩
theorem Paired.mem (h : Paired R ps l) (e : p ∈ ps) : ∃ x, x ∈ l ∧ R p x := by
  obtain ⟨i, hi⟩ := List.getElem?_of_mem e
  obtain ⟨x, hx, r⟩ := Paired.at' h hi
  exact ⟨x, List.mem_of_getElem? hx, r⟩
theorem Paired.app {qs : List Addr} {m : List α} (h : Paired R ps l) (h' : Paired R qs m) : Paired R (ps ++ qs) (l ++ m) := by
  induction h with
  | nil => exact h'
  | cons r t ih => exact .cons r ih
end
section
variable {K : PySem.W.Frag} {a b : Addr} {xs ys : List V} {g : TG} {tb : TS} {D : Ends} {σ : St} {H : Hp}
end
end L2

namespace FbW
open PySem PySem.Spec PyProof.Rows L2
open PySem.W (Codec)
/-- the classes -/
structure Cs where
  Lay : Addr
  Puzzle : Addr
  Step : Addr
  Walk : Addr
  Turn : Addr
def sp_squares_of (K : PySem.W.Frag) (_ : Cs) : Sp := fun vs H Q _ => ∃ n : Nat, vs = [.int n] ∧ n < 2 ^ 64 ∧ ∀ (b : Addr) (H' : Hp), NewPts K H H' b (Fb.pts n) → Q (.ref b) H'
def sp_number_of (K : PySem.W.Frag) (_ : Cs) : Sp := fun vs H Q _ => ∃ (a : Addr) (l : List Fb.Pt), vs = [.ref a] ∧ PtsL K H a l ∧ (∀ p ∈ l, (0 ≤ p.1 ∧ p.1 < 8) ∧ 0 ≤ p.2 ∧ p.2 < 8) ∧ Q (.int (Fb.numOf l : Nat)) H
def sp_size_of (_ : PySem.W.Frag) (_ : Cs) : Sp := fun vs H Q _ => ∃ n : Nat, vs = [.int n] ∧ n < 2 ^ 64 ∧ Q (.int (Fb.pop n : Nat)) H
def sp_with_neighbours (_ : PySem.W.Frag) (_ : Cs) : Sp := fun vs H Q _ => ∃ n : Nat, vs = [.int n] ∧ n < 2 ^ 64 ∧ Q (.int (Fb.wn n : Nat)) H
def sp_first_part (_ : PySem.W.Frag) (_ : Cs) : Sp := fun vs H Q _ => ∃ n : Nat, vs = [.int n] ∧ n < 2 ^ 64 ∧ Q (.int (Fb.comp n : Nat)) H
def sp_is_piece (_ : PySem.W.Frag) (_ : Cs) : Sp := fun vs H Q _ => ∃ n : Nat, vs = [.int n] ∧ n < 2 ^ 64 ∧ Q (.bl (Kg37.piece n)) H
def sp_turned (K : PySem.W.Frag) (_ : Cs) : Sp := fun vs H Q _ => ∃ (a : Addr) (l : List Fb.Pt), vs = [.ref a] ∧ PtsL K H a l ∧ l.length ≤ 64 ∧ ∀ (b : Addr) (H' : Hp), NewPts K H H' b (Fb.rot l) → Q (.ref b) H'
def sp_mirrored (K : PySem.W.Frag) (_ : Cs) : Sp := fun vs H Q _ => ∃ (a : Addr) (l : List Fb.Pt), vs = [.ref a] ∧ PtsL K H a l ∧ l.length ≤ 64 ∧ ∀ (b : Addr) (H' : Hp), NewPts K H H' b (Fb.mir l) → Q (.ref b) H'
def sp_corner_of (K : PySem.W.Frag) (_ : Cs) : Sp := fun vs H Q _ => ∃ (a : Addr) (l : List Fb.Pt), vs = [.ref a] ∧ PtsL K H a l ∧ l ≠ [] ∧ l.length ≤ 64 ∧ ∀ (b : Addr) (H' : Hp), Same H H' → PairAt K H' b (Fb.x0 l, Fb.y0 l) → Q (.ref b) H'
/-- moved so that the corner is q -/
def movedTo (l : List Fb.Pt) (q : Fb.Pt) : List Fb.Pt := l.map fun p => (p.1 - Fb.x0 l + q.1, p.2 - Fb.y0 l + q.2)
def sp_moved_to (K : PySem.W.Frag) (_ : Cs) : Sp := fun vs H Q _ => ∃ (a b : Addr) (l : List Fb.Pt) (q : Fb.Pt), vs = [.ref a, .ref b] ∧ PtsL K H a l ∧ PairAt K H b q ∧ l ≠ [] ∧ l.length ≤ 64 ∧ ∀ (d : Addr) (H' : Hp), NewPts K H H' d (movedTo l q) → Q (.ref d) H'
/-- a new list of lists of pairs; each is new, or is at a -/
structure NewPtss (K : PySem.W.Frag) (H0 H : Hp) (D a : Addr) (ls : List (List Fb.Pt)) : Prop where
  same : Same H0 H
  new : H0 D = none
  lst : ∃ ps : List Addr, H D = some (.lst (ps.map V.ref)) ∧ Paired (fun p l => PtsL K H p l ∧ p ≠ D ∧ (p = a ∨ H0 p = none)) ps ls
def sp_turns_of (K : PySem.W.Frag) (_ : Cs) : Sp := fun vs H Q _ => ∃ (a : Addr) (l : List Fb.Pt), vs = [.ref a] ∧ PtsL K H a l ∧ l.length ≤ 64 ∧ ∀ (b : Addr) (H' : Hp), NewPtss K H H' b a (Fb.eight l) → Q (.ref b) H'
def asInts (l : List Nat) : List Int := l.map fun (c : Nat) => (c : Int)
def sp_ways_to_lie (K : PySem.W.Frag) (_ : Cs) : Sp := fun vs H Q _ => ∃ (a : Addr) (l : List Fb.Pt), vs = [.ref a] ∧ PtsL K H a l ∧ l ≠ [] ∧ l.length ≤ 64 ∧ Fb.Near l ∧ ∀ (b : Addr) (H' : Hp), NewInts H H' b (asInts (Fb.lies l)) → Q (.ref b) H'
def sp_ways (K : PySem.W.Frag) (_ : Cs) : Sp := fun vs H Q _ => ∃ n : Nat, vs = [.int n] ∧ n < 2 ^ 64 ∧ ∀ (b : Addr) (H' : Hp), H' b = some (.lst ((PyKg37.ways (n : Int)).map V.int)) → Q (.ref b) H'
def rotN : Nat → List Fb.Pt → List Fb.Pt
  | 0, t => t
  | j + 1, t => Fb.rot (rotN j t)
def side (i : Nat) (l : List Fb.Pt) : List Fb.Pt := if i = 0 then l else Fb.mir l
theorem eight_at (l : List Fb.Pt) : ∀ i, i < 2 → ∀ j, j < 4 → (Fb.eight l)[4 * i + j]? = some (rotN j (side i l))
  | 0, _, 0, _ => rfl
  | 0, _, 1, _ => rfl
  | 0, _, 2, _ => rfl
  | 0, _, 3, _ => rfl
  | 1, _, 0, _ => rfl
  | 1, _, 1, _ => rfl
  | 1, _, 2, _ => rfl
  | 1, _, 3, _ => rfl
theorem rotN_len (t : List Fb.Pt) : ∀ j, (rotN j t).length = t.length
  | 0 => rfl
  | j + 1 => by show (Fb.rot (rotN j t)).length = _; rw [Fb.rot, List.length_map]; exact rotN_len t j
structure Turning (K : PySem.W.Frag) (H H' : Hp) (a fa sl m : Addr) (l : List Fb.Pt) (k : Nat) : Prop where
  found : NewPtss K H H' fa a ((Fb.eight l).take k)
  sides : H' sl = some (.lst [.ref a, .ref m])
  pa : PtsL K H' a l
  pm : PtsL K H' m (Fb.mir l)
  n1 : sl ≠ fa
  n2 : a ≠ fa
  n3 : m ≠ fa
  mn : H m = none
theorem NewPtss.grow {K : PySem.W.Frag} {H0 H H' : Hp} {D a : Addr} {ls : List (List Fb.Pt)} (n : NewPtss K H0 H D a ls) (e : Same H H') : NewPtss K H0 H' D a ls := by
  obtain ⟨ps, h1, h2⟩ := n.lst
  exact ⟨n.same.trans e, n.new, ps, e _ _ h1, Paired.mapP h2 fun p l z => ⟨z.1.same e, z.2⟩⟩
theorem Turning.same {K : PySem.W.Frag} {H H' H2 : Hp} {a fa sl m : Addr} {l : List Fb.Pt} {k : Nat} (t : Turning K H H' a fa sl m l k) (e : Same H' H2) : Turning K H H2 a fa sl m l k :=
  ⟨t.found.grow e, e _ _ t.sides, t.pa.same e, t.pm.same e, t.n1, t.n2, t.n3, t.mn⟩
theorem Turning.push {K : PySem.W.Frag} {H H' : Hp} {a fa sl m c : Addr} {l x : List Fb.Pt} {k : Nat} {qs : List Addr} (t : Turning K H H' a fa sl m l k) (hq : H' fa = some (.lst (qs.map V.ref))) (hx : (Fb.eight l)[k]? = some x) (hc : PtsL K H' c x) (nc : c ≠ fa) (oc : c = a ∨ H c = none) :
    Turning K H (upd H' fa (.lst (qs.map V.ref ++ [.ref c]))) a fa sl m l (k + 1) := by
  obtain ⟨ps, h1, h2⟩ := t.found.lst
  rw [h1] at hq
  have hq : ps.map V.ref = qs.map V.ref := HO.lst.inj (Option.some.inj hq)
  rw [← hq]
  refine ⟨⟨t.found.same.by_ext Ext.set t.found.new, t.found.new, ps ++ [c], by rw [upd_same, List.map_append]; rfl, ?_⟩, by rw [upd_ne t.n1]; exact t.sides, t.pa.ext Ext.set h1 t.n2, t.pm.ext Ext.set h1 t.n3, t.n1, t.n2, t.n3, t.mn⟩
  rw [take_snoc hx]
  exact Paired.snoc (Paired.mapP h2 fun p z w => ⟨w.1.ext Ext.set h1 w.2.1, w.2⟩) ⟨hc.ext Ext.set h1 nc, nc, oc⟩
theorem NewInts.grow {H0 H H' : Hp} {D : Addr} {ns : List Int} (n : NewInts H0 H D ns) (e : Same H H') : NewInts H0 H' D ns := ⟨n.same.trans e, n.new, e _ _ n.lst⟩
def nums (l : List Fb.Pt) : List Nat := (Fb.eight l).map fun t => Fb.numOf (Fb.moved t)
theorem nums_len (l : List Fb.Pt) : (nums l).length = 8 := rfl
theorem dd_snoc (L acc : List Nat) (x : Nat) : Fb.dd acc (L ++ [x]) = if (Fb.dd acc L).contains x = true then Fb.dd acc L else Fb.dd acc L ++ [x] := by
  unfold Fb.dd
  rw [List.foldl_append]
  rfl
theorem dd_ints_len (l : List Fb.Pt) (k : Nat) : (asInts (Fb.dd [] ((nums l).take k))).length ≤ 8 := by
  have h := Fb.dd_len' ((nums l).take k) []
  have h2 : ((nums l).take k).length ≤ 8 := by rw [List.length_take, nums_len]; omega
  unfold asInts
  rw [List.length_map]
  rw [List.length_nil, Nat.zero_add] at h
  omega
theorem mem_ints {x : Nat} {l : List Nat} : (x : Int) ∈ asInts l ↔ x ∈ l := by
  unfold asInts
  rw [List.mem_map]
  constructor
  · rintro ⟨y, hy, e⟩
    have : y = x := by omega
    subst this
    exact hy
  · intro h
    exact ⟨x, h, rfl⟩
theorem movedTo_zero (l : List Fb.Pt) : movedTo l (0, 0) = Fb.moved l := by
  unfold movedTo Fb.moved
  refine List.map_congr_left fun p _ => ?_
  simp
theorem moved_in {l : List Fb.Pt} (h : Fb.Near l) : ∀ p ∈ Fb.moved l, (0 ≤ p.1 ∧ p.1 < 8) ∧ 0 ≤ p.2 ∧ p.2 < 8 := fun p hp => by
  obtain ⟨q, hq, rfl⟩ := List.mem_map.mp hp
  have h1 := h.fits q hq
  have h2 := Fb.x0_le hq
  have h3 := Fb.y0_le hq
  simp only
  omega
theorem neI {a b : Nat} (h : ¬ a = b) : (!decide (V.int (a : Int) = V.int (b : Int))) = true := by
  rw [decide_eq_false]
  · rfl
  · rw [V.int.injEq]
    omega
theorem neI0 {a b : Nat} (h : a = b) : (!decide (V.int (a : Int) = V.int (b : Int))) = false := by
  subst h
  rw [decide_eq_true rfl]
  rfl
def layF (l : Fb.Ly) : List (Str × V) := [("piece", .int l.piece), ("squares", .int l.sq), ("stock", .int l.stock), ("cost", .int l.cost)]
def LayAt (c : Cs) (H : Hp) (a : Addr) (l : Fb.Ly) : Prop := ∃ dx, H a = some (.ins c.Lay dx (layF l))
/-- a list of lays that is none of M -/
def LaysM (c : Cs) (H : Hp) (M : List Addr) (a : Addr) (ls : List Fb.Ly) : Prop := a ∉ M ∧ RefsL (LayAt c H) H a ls
section
variable {c : Cs} {H H' : Hp} {L M M' : List Addr} {a b : Addr} {l : Fb.Ly} {ls : List Fb.Ly} {o : HO}
theorem LayAt.but (h : But L H H') (hL : ∀ b ∈ L, ∀ dx fs, H b ≠ some (.ins c.Lay dx fs)) (x : LayAt c H a l) : LayAt c H' a l := by
  obtain ⟨dx, e⟩ := x
  exact ⟨dx, h.keep a _ e fun z => hL a z dx _ e⟩
theorem LayAt.same (h : Same H H') (x : LayAt c H a l) : LayAt c H' a l := by
  obtain ⟨dx, e⟩ := x
  exact ⟨dx, h a _ e⟩
theorem LaysM.same (h : Same H H') (x : LaysM c H M a ls) : LaysM c H' M a ls := by
  obtain ⟨h1, ps, h2, h3⟩ := x
  exact ⟨h1, ps, h a _ h2, Paired.mapP h3 fun p l z => z.same h⟩
theorem LaysM.but (h : But L H H') (hL : ∀ b ∈ L, ∀ dx fs, H b ≠ some (.ins c.Lay dx fs)) (ha : a ∉ L) (x : LaysM c H M a ls) : LaysM c H' M a ls := by
  obtain ⟨h1, ps, h2, h3⟩ := x
  exact ⟨h1, ps, h.keep a _ h2 ha, Paired.mapP h3 fun p l z => z.but h hL⟩
theorem LaysM.sub (hM : ∀ b ∈ M', b ∈ M) (x : LaysM c H M a ls) : LaysM c H M' a ls := ⟨fun z => x.1 (hM a z), x.2⟩
theorem LaysM.more (hb : H b = none) (x : LaysM c H M a ls) : LaysM c H (b :: M) a ls := by
  refine ⟨fun z => ?_, x.2⟩
  rcases List.mem_cons.mp z with rfl | z
  · obtain ⟨_, ps, h2, _⟩ := x
    rw [hb] at h2
    cases h2
  · exact x.1 z
end
/-- what is done to a list of lays that is being made -/
structure NewLays (c : Cs) (H0 H : Hp) (D : Addr) (ls : List Fb.Ly) : Prop where
  same : Same H0 H
  new : H0 D = none
  lst : RefsL (LayAt c H) H D ls
section
variable {c : Cs} {H0 H H' : Hp} {D p : Addr} {l : Fb.Ly} {ls : List Fb.Ly}
theorem NewLays.nil (h : H0 D = none) : NewLays c H0 (upd H0 D (.lst [])) D [] := ⟨Same.new h _, h, [], upd_same, .nil⟩
theorem NewLays.grow (n : NewLays c H0 H D ls) (e : Same H H') : NewLays c H0 H' D ls := by
  obtain ⟨ps, h1, h2⟩ := n.lst
  exact ⟨n.same.trans e, n.new, ps, e _ _ h1, Paired.mapP h2 fun p l z => z.same e⟩
theorem LayAt.set {ys : List V} {o : HO} (hD : H D = some (.lst ys)) (x : LayAt c H p l) : LayAt c (upd H D o) p l := by
  obtain ⟨dx, e⟩ := x
  exact ⟨dx, by rw [upd_ne (ne_of e hD (by intro z; cases z))]; exact e⟩
end
end FbW

namespace FbW
open PySem PySem.Spec PyProof.Rows L2
open PySem.W (Codec)
set_option maxHeartbeats 1000000


def top (i : Nat) : Stmt := PySem.Challenge.pw_fillboard_s01_ways.main.body.getD i (.Pass ⟨0, 0, 0, 0⟩)
abbrev s_squares_of : Stmt := top 6
abbrev s_number_of : Stmt := top 7
abbrev s_size_of : Stmt := top 8
abbrev s_with_neighbours : Stmt := top 9
abbrev s_first_part : Stmt := top 10
abbrev s_is_piece : Stmt := top 11
abbrev s_turned : Stmt := top 12
abbrev s_mirrored : Stmt := top 13
abbrev s_corner_of : Stmt := top 14
abbrev s_moved_to : Stmt := top 15
abbrev s_turns_of : Stmt := top 16
abbrev s_ways_to_lie : Stmt := top 17
abbrev s_ways : Stmt := top 20
structure Txt (K : PySem.W.Frag) (mg : Str → Option Value) (c : Cs) : Prop where
  g_SIDE : ∃ t, mg "SIDE" = some (.int (8) t)
  g_MOST_SQUARES : ∃ t, mg "MOST_SQUARES" = some (.int (8) t)
  g_QUARTERS : ∃ t, mg "QUARTERS" = some (.int (4) t)
  g_NOT_IN_FIRST_COLUMN : ∃ t, mg "NOT_IN_FIRST_COLUMN" = some (.int (18374403900871474942) t)
  g_NOT_IN_LAST_COLUMN : ∃ t, mg "NOT_IN_LAST_COLUMN" = some (.int (9187201950435737471) t)
  g_NO_PIECE : ∃ t, mg "NO_PIECE" = some (.int (-2) t)
  b_len : mg "len" = none
  b_min : mg "min" = none
  b_range : mg "range" = none
section
variable {P : Program} {w : World} {K : PySem.W.Frag} {mg : Str → Option Value} {base : Heap} {f : Addr} {fd : FuncData} {c : Cs}
theorem sc_squares_of : FnScope ["number", "bit"] ["number"] (defScope s_squares_of) := ⟨rfl, rfl, rfl, by decide +kernel, rfl, by decide +kernel, by decide +kernel⟩
theorem ok_squares_of (F : Fun K "squares_of" "squares_of" s_squares_of f fd) (T : Txt K mg c) : FnOk P w K mg base CX0 1 f fd ["number"] (sp_squares_of K c) := by
  refine F.ok sc_squares_of (fun vs H Q E h => ?_) (fun cdv A outer s H vs Q E hr h => ?_)
  · obtain ⟨n, rfl, _⟩ := h; rfl
  have hu := hu_of hr
  obtain ⟨n, rfl, hn, k⟩ := h
  refine ⟨_, (pss_one (ps_ret (pe_lc (own := [("bit", 1)]) rfl sc_squares_of.nd (pi_range1 rfl T.b_range (pa_cons (pe_op op_mul (pe_gint rfl T.g_SIDE) (pe_gint rfl T.g_SIDE)) pa_nil)) (show BlkOk ["number", "bit"] (defScope s_squares_of) _ [("bit", 1)] from ⟨rfl, by decide +kernel, by decide +kernel, by decide +kernel, by decide +kernel⟩) (fun _ _ _ _ _ => (pg_name (i := 1) sc_squares_of.nd rfl (Or.inl rfl) (.inr rfl))) (fun _ _ _ _ _ => (pts_one (pt_cmpR op_eq (pe_op op_and (pe_op op_shr (pv 0) (pv 1)) pe_int) pe_int (nomark _)))) (fun _ _ _ _ _ => (pe_tup (pa_cons (pe_op op_mod (pv 1) (pe_gint rfl T.g_SIDE)) (pa_cons (pe_op op_fdiv (pv 1) (pe_gint rfl T.g_SIDE)) pa_nil))))))), ?_⟩
  refine ⟨_, _, rfl, rfl, .inl ⟨by decide, by decide⟩, _, rfl, by decide, by decide, lcR (n := 64) (fun i D H' => NewPts K H H' D (((List.range i).filter (Kg37.has n)).map Fb.pt)) (fun D hD => NewPts.nil hD) (fun i D H' hi h => ?_) (fun D H' h => k D H' h)⟩
  refine ⟨rfl, _, rfl, _, rfl, _, _, rfl, rfl, (by show (0 : Int) ≤ 0 + i; omega), _, _, rfl, rfl, rfl, _, rfl, ?_⟩
  have e0 : ((0 : Int) + (i : Int)).toNat = i := by omega
  have el : ((List.range (i + 1)).filter (Kg37.has n)).map Fb.pt = ((List.range i).filter (Kg37.has n)).map Fb.pt ++ (if Kg37.has n i = true then [Fb.pt i] else []) := by
    rw [List.range_succ, List.filter_append, List.map_append]
    congr 1
    by_cases hb : Kg37.has n i = true
    · simp [hb]
    · simp [hb]
  have hz : (((List.range i).filter (Kg37.has n)).map Fb.pt).length < sizeLine := by
    rw [List.length_map]
    have := List.length_filter_le (Kg37.has n) (List.range i)
    rw [List.length_range] at this
    rw [sizeLine_eq]
    omega
  by_cases hb : n.testBit i = true
  · have c : decide (V.int (Builtin.bitAnd ((n : Int) / 2 ^ ((0 : Int) + (i : Int)).toNat) 1) = V.int 1) = true := decide_eq_true (by rw [e0, (shr_bit n i).mpr hb])
    refine iteP c ?_
    refine ⟨_, rfl, _, _, rfl, rfl, (by show (0 : Int) < 8; decide), _, rfl, _, _, rfl, rfl, ⟨by decide, by decide⟩, line64 (by show 2 ≤ 1000; decide), fun p hp => ?_⟩
    have e1 : ((((0 : Int) + (i : Int)) % 8, ((0 : Int) + (i : Int)) / 8) : Fb.Pt) = Fb.pt i := by
      unfold Fb.pt
      rw [Int.zero_add]
      rfl
    have key := h.push (x := ((0 : Int) + (i : Int)) % 8) (y := ((0 : Int) + (i : Int)) / 8) hp hz
    rw [e1] at key
    rw [if_pos (show Kg37.has n i = true from hb)] at el
    rw [← el] at key
    exact key
  · have c : ¬ decide (V.int (Builtin.bitAnd ((n : Int) / 2 ^ ((0 : Int) + (i : Int)).toNat) 1) = V.int 1) = true := by
      rw [e0]
      intro z
      have z := of_decide_eq_true z
      rw [V.int.injEq] at z
      exact hb ((shr_bit n i).mp z)
    rw [if_neg (show ¬ Kg37.has n i = true from hb), List.append_nil] at el
    refine iteM (by simpa using c) ?_
    have key := h
    rw [← el] at key
    exact key
theorem sc_number_of : FnScope ["squares", "number", "x", "y"] ["squares"] (defScope s_number_of) := ⟨rfl, rfl, rfl, by decide +kernel, rfl, by decide +kernel, by decide +kernel⟩
theorem ok_number_of (F : Fun K "number_of" "number_of" s_number_of f fd) (T : Txt K mg c) : FnOk P w K mg base CX0 1 f fd ["squares"] (sp_number_of K c) := by
  refine F.ok sc_number_of (fun vs H Q E h => ?_) (fun cdv A outer s H vs Q E hr h => ?_)
  · obtain ⟨a, l, rfl, _⟩ := h; rfl
  have hu := hu_of hr
  obtain ⟨a, l, rfl, ⟨ps, ha, hP⟩, hin, k⟩ := h
  refine ⟨_, (pss_cons (ps_set (i := 1) sc_number_of.nd rfl (Or.inl rfl) pe_int)
      (pss_cons (ps_for PassesOwn.never rfl (pi_list (pv 0)) (pg_tupK (K := K) (n := 2) rfl rfl (pgs_cons (pg_name (i := 2) sc_number_of.nd rfl (Or.inl rfl) (.inl rfl)) (pgs_cons (pg_name (i := 3) sc_number_of.nd rfl (Or.inl rfl) (.inl rfl)) pgs_nil)) rfl rfl)
      (pss_one (ps_set (i := 1) sc_number_of.nd rfl (Or.inl rfl) (pe_op op_or (pv 1) (pe_op op_shl pe_int (pe_op op_add (pv 2) (pe_op op_mul (pe_gint rfl T.g_SIDE) (pv 3))))))))
      (pss_one (ps_ret (pv 1))))), ?_⟩
  refine ⟨_, rfl, a, rfl, ⟨_, SqL.of ha⟩, for_list (K := K) (a := a) (xs := ps.map V.ref) (fun i σ H' => H' = H ∧ ∃ x y : Option V, σ = [some (.ref a), some (.int (Fb.numOf (l.take i) : Nat)), x, y]) ⟨rfl, none, none, rfl⟩ (fun i σ H' _ h => ?_) ?_ ?_⟩
  · rw [h.1]
    exact SqL.of ha
  · rintro i y σ H' hi ⟨e, x0, y0, rfl⟩
    subst e
    obtain ⟨p, hp, rfl⟩ := map_at hi
    obtain ⟨q, hq, hpq⟩ := hP.at' hp
    have hb := hin q (List.mem_of_getElem? hq)
    refine ⟨p, _, rfl, hpq, rfl, _, _, rfl, _, _, rfl, rfl, ?_⟩
    refine ⟨_, rfl, _, rfl, _, rfl, _, _, rfl, rfl, .inl ⟨by decide, by decide⟩, _, _, rfl, rfl, _, _, rfl, rfl, ⟨by omega, by omega, by decide⟩, _, _, rfl, rfl, ?_⟩
    refine ⟨rfl, some (.int q.1), some (.int q.2), ?_⟩
    have e : Builtin.bitOr ((Fb.numOf (l.take i) : Nat) : Int) (1 * 2 ^ (q.1 + 8 * q.2).toNat) = ((Fb.numOf (l.take (i + 1)) : Nat) : Int) := by
      have e1 : (1 : Int) * 2 ^ (q.1 + 8 * q.2).toNat = ((2 ^ (q.1 + 8 * q.2).toNat : Nat) : Int) := by simp
      rw [e1, bitOr_nat, take_snoc hq]
      unfold Fb.numOf
      rw [List.foldl_append]
      rfl
    show [_, some (V.int (Builtin.bitOr ((Fb.numOf (l.take i) : Nat) : Int) (1 * 2 ^ (q.1 + 8 * q.2).toNat))), _, _] = _
    rw [e]
  · rintro σ H' ⟨e, x0, y0, rfl⟩
    subst e
    rw [List.length_map, hP.len, List.take_length]
    exact ⟨_, rfl, k⟩
theorem sc_size_of : FnScope ["number", "size"] ["number"] (defScope s_size_of) := ⟨rfl, rfl, rfl, by decide +kernel, rfl, by decide +kernel, by decide +kernel⟩
theorem ok_size_of (F : Fun K "size_of" "size_of" s_size_of f fd) (T : Txt K mg c) : FnOk P w K mg base CX0 1 f fd ["number"] (sp_size_of K c) := by
  refine F.ok sc_size_of (fun vs H Q E h => ?_) (fun cdv A outer s H vs Q E hr h => ?_)
  · obtain ⟨n, rfl, _⟩ := h; rfl
  have hu := hu_of hr
  obtain ⟨n, rfl, hn, k⟩ := h
  refine ⟨_, (pss_cons (ps_set (i := 1) sc_size_of.nd rfl (Or.inl rfl) pe_int)
      (pss_cons (ps_while PassesOwn.never (pt_cmpR op_ne (pv 0) pe_int (nomark _))
      (pss_cons (ps_set (i := 0) sc_size_of.nd rfl (Or.inl rfl) (pe_op op_and (pv 0) (pe_op op_sub (pv 0) pe_int)))
      (pss_one (ps_set (i := 1) sc_size_of.nd rfl (Or.inl rfl) (pe_op op_add (pv 1) pe_int)))))
      (pss_one (ps_ret (pv 1))))), ?_⟩
  refine ⟨fun m σ H' => H' = H ∧ ∃ num size : Nat, m = Fb.pop num ∧ num < 2 ^ 64 ∧ size + Fb.pop num = Fb.pop n ∧ σ = [some (.int num), some (.int size)], ⟨_, rfl, n, 0, rfl, hn, by omega, rfl⟩, ?_⟩
  rintro m σ H' ⟨e, num, size, rfl, hnum, hs, rfl⟩
  subst e
  refine ⟨_, rfl, rfl, _, rfl, ?_⟩
  by_cases h0 : num = 0
  · subst h0
    refine iteM (by rfl) ?_
    refine ⟨_, rfl, ?_⟩
    rw [Fb.pop_zero, Nat.add_zero] at hs
    subst hs
    exact k
  · refine iteP (neI h0) ?_
    refine ⟨_, fun σ' H'' h => h, ?_⟩
    refine ⟨_, rfl, _, rfl, _, _, rfl, rfl, _, _, rfl, rfl, ?_⟩
    refine ⟨_, rfl, _, _, rfl, rfl, ?_⟩
    have hp := Fb.pop_step h0 hnum
    refine ⟨Fb.pop (num &&& (num - 1)), by omega, rfl, num &&& (num - 1), size + 1, rfl, Fb.and_lt _ _ hnum, by omega, ?_⟩
    show [some (V.int (Builtin.bitAnd (num : Int) ((num : Int) - 1))), some (V.int ((size : Int) + 1))] = _
    rw [show ((num : Int) - 1) = ((num - 1 : Nat) : Int) by omega, bitAnd_nat]
    rfl
theorem sc_with_neighbours : FnScope ["number", "right", "left"] ["number"] (defScope s_with_neighbours) := ⟨rfl, rfl, rfl, by decide +kernel, rfl, by decide +kernel, by decide +kernel⟩
theorem ok_with_neighbours (F : Fun K "with_neighbours" "with_neighbours" s_with_neighbours f fd) (T : Txt K mg c) : FnOk P w K mg base CX0 1 f fd ["number"] (sp_with_neighbours K c) := by
  refine F.ok sc_with_neighbours (fun vs H Q E h => ?_) (fun cdv A outer s H vs Q E hr h => ?_)
  · obtain ⟨n, rfl, _⟩ := h; rfl
  have hu := hu_of hr
  obtain ⟨n, rfl, hn, k⟩ := h
  refine ⟨_, (pss_cons (ps_set (i := 1) sc_with_neighbours.nd rfl (Or.inl rfl) (pe_op op_shl (pe_op op_and (pv 0) (pe_gint rfl T.g_NOT_IN_LAST_COLUMN)) pe_int))
      (pss_cons (ps_set (i := 2) sc_with_neighbours.nd rfl (Or.inl rfl) (pe_op op_shr (pe_op op_and (pv 0) (pe_gint rfl T.g_NOT_IN_FIRST_COLUMN)) pe_int))
      (pss_one (ps_ret (pe_op op_or (pe_op op_or (pe_op op_or (pe_op op_or (pv 0) (pv 1)) (pv 2)) (pe_op op_shl (pv 0) (pe_gint rfl T.g_SIDE))) (pe_op op_shr (pv 0) (pe_gint rfl T.g_SIDE))))))), ?_⟩
  have hl : (Builtin.bitAnd (n : Int) 9187201950435737471) = ((n &&& Fb.notLast : Nat) : Int) := bitAnd_nat n Fb.notLast
  have hf : (Builtin.bitAnd (n : Int) 18374403900871474942) = ((n &&& Fb.notFirst : Nat) : Int) := bitAnd_nat n Fb.notFirst
  have hln : n &&& Fb.notLast < 2 ^ 64 := Fb.and_lt _ _ hn
  refine ⟨_, rfl, _, _, rfl, rfl, _, _, rfl, rfl, ⟨by decide, by decide, by rw [hl]; simpa using hln⟩, ?_⟩
  refine ⟨_, rfl, _, _, rfl, rfl, _, _, rfl, rfl, (by decide : (0 : Int) ≤ 1), ?_⟩
  refine ⟨_, rfl, _, rfl, _, _, rfl, rfl, _, rfl, _, _, rfl, rfl, _, rfl, _, _, rfl, rfl, ⟨by decide, by decide, by simpa using hn⟩, _, _, rfl, rfl, _, rfl, _, _, rfl, rfl, (by decide : (0 : Int) ≤ 8), _, _, rfl, rfl, ?_⟩
  have e : Builtin.bitOr (Builtin.bitOr (Builtin.bitOr (Builtin.bitOr (n : Int) (Builtin.bitAnd (n : Int) 9187201950435737471 * 2 ^ (1 : Int).toNat)) (Builtin.bitAnd (n : Int) 18374403900871474942 / 2 ^ (1 : Int).toNat)) ((n : Int) * 2 ^ (8 : Int).toNat)) ((n : Int) / 2 ^ (8 : Int).toNat) = ((Fb.wn n : Nat) : Int) := by
    rw [hl, hf, show (1 : Int).toNat = 1 from rfl, show (8 : Int).toNat = 8 from rfl, shl_nat, shl_nat, shr_nat, shr_nat, bitOr_nat, bitOr_nat, bitOr_nat, bitOr_nat]
    rfl
  show Q (.int _) H
  rw [e]
  exact k
theorem sc_first_part : FnScope ["number", "part", "grown"] ["number"] (defScope s_first_part) := ⟨rfl, rfl, rfl, by decide +kernel, rfl, by decide +kernel, by decide +kernel⟩
theorem ok_first_part (F : Fun K "first_part" "first_part" s_first_part f fd) (T : Txt K mg c) (d_with_neighbours : Def P w K mg base 1 "with_neighbours" ["number"] (sp_with_neighbours K c)) : FnOk P w K mg base CX0 2 f fd ["number"] (sp_first_part K c) := by
  refine F.ok sc_first_part (fun vs H Q E h => ?_) (fun cdv A outer s H vs Q E hr h => ?_)
  · obtain ⟨n, rfl, _⟩ := h; rfl
  have hu := hu_of hr
  obtain ⟨n, rfl, hn, k⟩ := h
  refine ⟨_, (pss_cons (ps_set (i := 1) sc_first_part.nd rfl (Or.inl rfl) pe_int)
      (pss_cons (ps_set (i := 2) sc_first_part.nd rfl (Or.inl rfl) (pe_op op_and (pv 0) (pe_un un_neg (pv 0))))
      (pss_cons (ps_while PassesOwn.never (pt_cmpR op_ne (pv 2) (pv 1) (nomark _))
      (pss_cons (ps_set (i := 1) sc_first_part.nd rfl (Or.inl rfl) (pv 2))
      (pss_one (ps_set (i := 2) sc_first_part.nd rfl (Or.inl rfl) (pe_op op_and (pe_def d_with_neighbours (hr.mono (by decide)) (pa_cons (pv 1) pa_nil)) (pv 0))))))
      (pss_one (ps_ret (pv 1)))))), ?_⟩
  refine ⟨_, rfl, _, rfl, _, rfl, _, _, rfl, rfl, ?_⟩
  have e0 : Builtin.bitAnd (n : Int) (-(n : Int)) = ((Fb.jn n 0 : Nat) : Int) := by rw [bitAnd_neg, ← Fb.jn_zero hn]; rfl
  refine ⟨fun m σ H' => H' = H ∧ ∃ part j : Nat, m = 65 - Fb.pop part ∧ ((part = 0 ∧ j = 0) ∨ ∃ i, part = Fb.jn n i ∧ j = i + 1) ∧ σ = [some (.int n), some (.int part), some (.int (Fb.jn n j : Nat))], ⟨_, rfl, 0, 0, rfl, .inl ⟨rfl, rfl⟩, ?_⟩, ?_⟩
  · show [_, _, some (V.int (Builtin.bitAnd (n : Int) (-(n : Int))))] = _
    rw [e0]
    all_goals rfl
  rintro m σ H' ⟨e, part, j, rfl, hc, rfl⟩
  subst e
  refine ⟨_, rfl, _, rfl, rfl, _, rfl, ?_⟩
  by_cases h0 : Fb.jn n j = part
  · refine iteM (neI0 h0) ?_
    refine ⟨_, rfl, ?_⟩
    have e : part = Fb.comp n := by
      rcases hc with ⟨rfl, rfl⟩ | ⟨i, rfl, rfl⟩
      · by_cases hz : n = 0
        · subst hz
          exact Fb.comp_zero.symm
        · obtain ⟨c, _, h2, _⟩ := Fb.head_ex hn hz
          rw [← Fb.jn_zero hn, h2] at h0
          have := Nat.two_pow_pos c
          omega
      · exact Fb.comp_fix h0
    subst e
    exact k
  · refine iteP (neI h0) ?_
    refine ⟨_, fun σ' H'' h => h, ?_⟩
    refine ⟨_, rfl, ?_⟩
    refine ⟨_, rfl, Fb.jn n j, rfl, Fb.jn_lt n j, _, rfl, _, _, rfl, rfl, ?_⟩
    have e1 : Builtin.bitAnd ((Fb.wn (Fb.jn n j) : Nat) : Int) (n : Int) = ((Fb.jn n (j + 1) : Nat) : Int) := by rw [bitAnd_nat, Fb.jn_succ hn]
    have hle := Fb.pop_le (Fb.jn n j)
    have hgr : Fb.pop part < Fb.pop (Fb.jn n j) := by
      rcases hc with ⟨rfl, rfl⟩ | ⟨i, rfl, rfl⟩
      · rw [Fb.pop_zero]
        have := Fb.pop_step h0 (Fb.jn_lt n 0)
        omega
      · exact Fb.jn_grow h0
    refine ⟨65 - Fb.pop (Fb.jn n j), by omega, rfl, Fb.jn n j, j + 1, rfl, .inr ⟨j, rfl, rfl⟩, ?_⟩
    show [_, _, some (V.int (Builtin.bitAnd ((Fb.wn (Fb.jn n j) : Nat) : Int) (n : Int)))] = _
    rw [e1]
    all_goals rfl
theorem sc_is_piece : FnScope ["number"] ["number"] (defScope s_is_piece) := ⟨rfl, rfl, rfl, by decide +kernel, rfl, by decide +kernel, by decide +kernel⟩
theorem ok_is_piece (F : Fun K "is_piece" "is_piece" s_is_piece f fd) (T : Txt K mg c) (d_first_part : Def P w K mg base 2 "first_part" ["number"] (sp_first_part K c)) (d_size_of : Def P w K mg base 1 "size_of" ["number"] (sp_size_of K c)) : FnOk P w K mg base CX0 3 f fd ["number"] (sp_is_piece K c) := by
  refine F.ok sc_is_piece (fun vs H Q E h => ?_) (fun cdv A outer s H vs Q E hr h => ?_)
  · obtain ⟨n, rfl, _⟩ := h; rfl
  have hu := hu_of hr
  obtain ⟨n, rfl, hn, k⟩ := h
  refine ⟨_, (pss_one (ps_ret (pe_and (pe_chain op_le op_le pe_int (pe_def d_size_of (hr.mono (by decide)) (pa_cons (pv 0) pa_nil)) (pe_gint rfl T.g_MOST_SQUARES)) (pe_one (pe_cmpR op_eq (pe_def d_first_part (hr.mono (by decide)) (pa_cons (pv 0) pa_nil)) (pv 0) (nomark _)))))), ?_⟩
  rw [Fb.piece_iff hn] at k
  refine ⟨_, rfl, n, rfl, hn, _, _, rfl, rfl, _, rfl, ?_⟩
  by_cases c1 : 1 ≤ Fb.pop n
  · refine iteP (decide_eq_true (by omega)) ?_
    refine ⟨_, _, rfl, rfl, _, rfl, ?_⟩
    by_cases c2 : Fb.pop n ≤ 8
    · refine iteP (decide_eq_true (by omega)) ?_
      refine ⟨_, rfl, n, rfl, hn, _, rfl, rfl, ?_⟩
      rw [decide_eq_true c1, decide_eq_true c2, Bool.true_and, Bool.true_and] at k
      have d : decide (V.int ((Fb.comp n : Nat) : Int) = V.int (n : Int)) = decide (Fb.comp n = n) := by
        rw [Bool.eq_iff_iff, decide_eq_true_iff, decide_eq_true_iff, V.int.injEq]
        omega
      rw [d]
      exact k
    · refine iteM (decide_eq_false (by omega)) ?_
      rw [decide_eq_false c2, Bool.false_and, Bool.and_false] at k
      exact k
  · refine iteM (decide_eq_false (by omega)) ?_
    rw [decide_eq_false c1, Bool.false_and] at k
    first | exact k | exact ⟨false, rfl, k⟩
theorem sc_turned : FnScope ["squares", "x", "y"] ["squares"] (defScope s_turned) := ⟨rfl, rfl, rfl, by decide +kernel, rfl, by decide +kernel, by decide +kernel⟩
theorem ok_turned (F : Fun K "turned" "turned" s_turned f fd) (T : Txt K mg c) : FnOk P w K mg base CX0 1 f fd ["squares"] (sp_turned K c) := by
  refine F.ok sc_turned (fun vs H Q E h => ?_) (fun cdv A outer s H vs Q E hr h => ?_)
  · obtain ⟨a, l, rfl, _⟩ := h; rfl
  have hu := hu_of hr
  obtain ⟨a, l, rfl, ⟨ps, ha, hP⟩, h64, k⟩ := h
  refine ⟨_, (pss_one (ps_ret (pe_lc (own := [("x", 1), ("y", 2)]) rfl sc_turned.nd (pi_list (pv 0)) (show BlkOk ["squares", "x", "y"] (defScope s_turned) _ [("x", 1), ("y", 2)] from ⟨rfl, by decide +kernel, by decide +kernel, by decide +kernel, by decide +kernel⟩) (fun _ _ _ _ _ => (pg_tupK (K := K) (n := 2) rfl rfl (pgs_cons (pg_name (i := 1) sc_turned.nd rfl (Or.inl rfl) (.inr rfl)) (pgs_cons (pg_name (i := 2) sc_turned.nd rfl (Or.inl rfl) (.inr rfl)) pgs_nil)) rfl rfl)) (fun _ _ _ _ _ => pts_nil) (fun _ _ _ _ _ => (pe_tup (pa_cons (pe_un un_neg (pv 2)) (pa_cons (pv 1) pa_nil))))))), ?_⟩
  refine ⟨_, rfl, a, rfl, ⟨_, SqL.of ha⟩, lcL (K := K) (a := a) (xs := ps.map V.ref) (fun i D H' => NewPts K H H' D ((l.take i).map fun p => (-p.2, p.1))) (fun D hD => NewPts.nil hD) (fun i D H' h => SqL.of (h.same _ _ ha)) (fun i x D H' hi h => ?_) (fun D H' h => ?_)⟩
  · obtain ⟨p, hp, rfl⟩ := map_at hi
    obtain ⟨q, hq, hpq⟩ := hP.at' hp
    refine ⟨p, _, rfl, SqT.same h.same hpq, rfl, _, _, rfl, _, _, rfl, rfl, rfl, yes_if ?_⟩
    refine ⟨_, rfl, _, rfl, _, rfl, line64 (by show 2 ≤ 1000; decide), fun p' hp' => ?_⟩
    rw [take_snoc hq, List.map_append]
    exact h.push hp' (by rw [List.length_map, List.length_take, sizeLine_eq]; omega)
  · rw [List.length_map, hP.len, List.take_length] at h
    exact k D H' h
theorem sc_mirrored : FnScope ["squares", "x", "y"] ["squares"] (defScope s_mirrored) := ⟨rfl, rfl, rfl, by decide +kernel, rfl, by decide +kernel, by decide +kernel⟩
theorem ok_mirrored (F : Fun K "mirrored" "mirrored" s_mirrored f fd) (T : Txt K mg c) : FnOk P w K mg base CX0 1 f fd ["squares"] (sp_mirrored K c) := by
  refine F.ok sc_mirrored (fun vs H Q E h => ?_) (fun cdv A outer s H vs Q E hr h => ?_)
  · obtain ⟨a, l, rfl, _⟩ := h; rfl
  have hu := hu_of hr
  obtain ⟨a, l, rfl, ⟨ps, ha, hP⟩, h64, k⟩ := h
  refine ⟨_, (pss_one (ps_ret (pe_lc (own := [("x", 1), ("y", 2)]) rfl sc_mirrored.nd (pi_list (pv 0)) (show BlkOk ["squares", "x", "y"] (defScope s_mirrored) _ [("x", 1), ("y", 2)] from ⟨rfl, by decide +kernel, by decide +kernel, by decide +kernel, by decide +kernel⟩) (fun _ _ _ _ _ => (pg_tupK (K := K) (n := 2) rfl rfl (pgs_cons (pg_name (i := 1) sc_mirrored.nd rfl (Or.inl rfl) (.inr rfl)) (pgs_cons (pg_name (i := 2) sc_mirrored.nd rfl (Or.inl rfl) (.inr rfl)) pgs_nil)) rfl rfl)) (fun _ _ _ _ _ => pts_nil) (fun _ _ _ _ _ => (pe_tup (pa_cons (pe_un un_neg (pv 1)) (pa_cons (pv 2) pa_nil))))))), ?_⟩
  refine ⟨_, rfl, a, rfl, ⟨_, SqL.of ha⟩, lcL (K := K) (a := a) (xs := ps.map V.ref) (fun i D H' => NewPts K H H' D ((l.take i).map fun p => (-p.1, p.2))) (fun D hD => NewPts.nil hD) (fun i D H' h => SqL.of (h.same _ _ ha)) (fun i x D H' hi h => ?_) (fun D H' h => ?_)⟩
  · obtain ⟨p, hp, rfl⟩ := map_at hi
    obtain ⟨q, hq, hpq⟩ := hP.at' hp
    refine ⟨p, _, rfl, SqT.same h.same hpq, rfl, _, _, rfl, _, _, rfl, rfl, rfl, yes_if ?_⟩
    refine ⟨_, rfl, _, rfl, _, rfl, line64 (by show 2 ≤ 1000; decide), fun p' hp' => ?_⟩
    rw [take_snoc hq, List.map_append]
    exact h.push hp' (by rw [List.length_map, List.length_take, sizeLine_eq]; omega)
  · rw [List.length_map, hP.len, List.take_length] at h
    exact k D H' h
theorem sc_corner_of : FnScope ["squares", "x", "y"] ["squares"] (defScope s_corner_of) := ⟨rfl, rfl, rfl, by decide +kernel, rfl, by decide +kernel, by decide +kernel⟩
theorem ok_corner_of (F : Fun K "corner_of" "corner_of" s_corner_of f fd) (T : Txt K mg c) : FnOk P w K mg base CX0 1 f fd ["squares"] (sp_corner_of K c) := by
  refine F.ok sc_corner_of (fun vs H Q E h => ?_) (fun cdv A outer s H vs Q E hr h => ?_)
  · obtain ⟨a, l, rfl, _⟩ := h; rfl
  have hu := hu_of hr
  obtain ⟨a, l, rfl, ⟨ps, ha, hP⟩, hne, h64, k⟩ := h
  refine ⟨_, (pss_one (ps_ret (pe_tup (pa_cons (pe_callB (cr_min rfl) rfl T.b_min PyProof.Rows.boot_min (pa_cons (pe_lc (own := [("x", 1), ("y", 2)]) rfl sc_corner_of.nd (pi_list (pv 0)) (show BlkOk ["squares", "x", "y"] (defScope s_corner_of) _ [("x", 1), ("y", 2)] from ⟨rfl, by decide +kernel, by decide +kernel, by decide +kernel, by decide +kernel⟩) (fun _ _ _ _ _ => (pg_tupK (K := K) (n := 2) rfl rfl (pgs_cons (pg_name (i := 1) sc_corner_of.nd rfl (Or.inl rfl) (.inr rfl)) (pgs_cons (pg_name (i := 2) sc_corner_of.nd rfl (Or.inl rfl) (.inr rfl)) pgs_nil)) rfl rfl)) (fun _ _ _ _ _ => pts_nil) (fun _ _ _ _ _ => (pv 1))) pa_nil)) (pa_cons (pe_callB (cr_min rfl) rfl T.b_min PyProof.Rows.boot_min (pa_cons (pe_lc (own := [("x", 1), ("y", 2)]) rfl sc_corner_of.nd (pi_list (pv 0)) (show BlkOk ["squares", "x", "y"] (defScope s_corner_of) _ [("x", 1), ("y", 2)] from ⟨rfl, by decide +kernel, by decide +kernel, by decide +kernel, by decide +kernel⟩) (fun _ _ _ _ _ => (pg_tupK (K := K) (n := 2) rfl rfl (pgs_cons (pg_name (i := 1) sc_corner_of.nd rfl (Or.inl rfl) (.inr rfl)) (pgs_cons (pg_name (i := 2) sc_corner_of.nd rfl (Or.inl rfl) (.inr rfl)) pgs_nil)) rfl rfl)) (fun _ _ _ _ _ => pts_nil) (fun _ _ _ _ _ => (pv 2))) pa_nil)) pa_nil))))), ?_⟩
  have hpos : 0 < l.length := List.length_pos_iff.mpr hne
  refine ⟨_, rfl, a, rfl, ⟨_, SqL.of ha⟩, lcL (K := K) (a := a) (xs := ps.map V.ref) (fun i D H' => NewInts H H' D ((l.take i).map fun (p : Fb.Pt) => p.1)) (fun D hD => NewInts.nil hD) (fun i D H' h => SqL.of (h.same _ _ ha)) (fun i x D H' hi h => ?_) (fun D1 H1 h1 => ?_)⟩
  · obtain ⟨p, hp, rfl⟩ := map_at hi
    obtain ⟨q, hq, hpq⟩ := hP.at' hp
    refine ⟨p, _, rfl, SqT.same h.same hpq, rfl, _, _, rfl, _, _, rfl, rfl, rfl, yes_if ?_⟩
    refine ⟨_, rfl, ?_⟩
    rw [take_snoc hq, List.map_append]
    exact h.push (by rw [List.length_map, List.length_take, sizeLine_eq]; omega)
  rw [List.length_map, hP.len, List.take_length] at h1
  refine ⟨D1, _, rfl, SqL.of h1.lst, by rw [List.length_map]; exact hpos, fun mx hx1 hx2 => ?_⟩
  have ex : mx = Fb.x0 l := by
    obtain ⟨p, hp, e⟩ := List.mem_map.mp hx1
    exact (Fb.x0_eq ⟨p, hp, e⟩ fun q hq => hx2 _ (List.mem_map.mpr ⟨q, hq, rfl⟩)).symm
  subst ex
  refine ⟨_, rfl, a, rfl, ⟨_, SqL.of (h1.same _ _ ha)⟩, lcL (K := K) (a := a) (xs := ps.map V.ref) (fun i D H' => NewInts H1 H' D ((l.take i).map fun (p : Fb.Pt) => p.2)) (fun D hD => NewInts.nil hD) (fun i D H' h => SqL.of (h.same _ _ (h1.same _ _ ha))) (fun i x D H' hi h => ?_) (fun D2 H2 h2 => ?_)⟩
  · obtain ⟨p, hp, rfl⟩ := map_at hi
    obtain ⟨q, hq, hpq⟩ := hP.at' hp
    refine ⟨p, _, rfl, SqT.same h.same (SqT.same h1.same hpq), rfl, _, _, rfl, _, _, rfl, rfl, rfl, yes_if ?_⟩
    refine ⟨_, rfl, ?_⟩
    rw [take_snoc hq, List.map_append]
    exact h.push (by rw [List.length_map, List.length_take, sizeLine_eq]; omega)
  rw [List.length_map, hP.len, List.take_length] at h2
  refine ⟨D2, _, rfl, SqL.of h2.lst, by rw [List.length_map]; exact hpos, fun my hy1 hy2 => ?_⟩
  have ey : my = Fb.y0 l := by
    obtain ⟨p, hp, e⟩ := List.mem_map.mp hy1
    exact (Fb.y0_eq ⟨p, hp, e⟩ fun q hq => hy2 _ (List.mem_map.mpr ⟨q, hq, rfl⟩)).symm
  subst ey
  refine ⟨line64 (by show 2 ≤ 1000; decide), fun p hp => ?_⟩
  exact k p _ ((h1.same.trans h2.same).trans (Same.new hp _)) (SqT.of upd_same)
theorem sc_moved_to : FnScope ["squares", "corner", "least", "x", "y"] ["squares", "corner"] (defScope s_moved_to) := ⟨rfl, rfl, rfl, by decide +kernel, rfl, by decide +kernel, by decide +kernel⟩
theorem ok_moved_to (F : Fun K "moved_to" "moved_to" s_moved_to f fd) (T : Txt K mg c) (d_corner_of : Def P w K mg base 1 "corner_of" ["squares"] (sp_corner_of K c)) : FnOk P w K mg base CX0 2 f fd ["squares", "corner"] (sp_moved_to K c) := by
  refine F.ok sc_moved_to (fun vs H Q E h => ?_) (fun cdv A outer s H vs Q E hr h => ?_)
  · obtain ⟨a, b, l, q, rfl, _⟩ := h; rfl
  have hu := hu_of hr
  obtain ⟨a, b, l, q, rfl, ⟨ps, ha, hP⟩, hq, hne, h64, k⟩ := h
  refine ⟨_, (pss_cons (ps_set (i := 2) sc_moved_to.nd rfl (Or.inr rfl) (pe_def d_corner_of (hr.mono (by decide)) (pa_cons (pv 0) pa_nil)))
      (pss_one (ps_ret (pe_lc (own := [("x", 3), ("y", 4)]) rfl sc_moved_to.nd (pi_list (pv 0)) (show BlkOk ["squares", "corner", "least", "x", "y"] (defScope s_moved_to) _ [("x", 3), ("y", 4)] from ⟨rfl, by decide +kernel, by decide +kernel, by decide +kernel, by decide +kernel⟩) (fun _ _ _ _ _ => (pg_tupK (K := K) (n := 2) rfl rfl (pgs_cons (pg_name (i := 3) sc_moved_to.nd rfl (Or.inl rfl) (.inr rfl)) (pgs_cons (pg_name (i := 4) sc_moved_to.nd rfl (Or.inl rfl) (.inr rfl)) pgs_nil)) rfl rfl)) (fun _ _ _ _ _ => pts_nil) (fun _ _ _ _ _ => (pe_tup (pa_cons (pe_op op_add (pe_op op_sub (pv 3) (pe_ix (ix_tupK (K := K) rfl) (pv 2) pe_int (fun _ _ => rfl))) (pe_ix (ix_tupK (K := K) rfl) (pv 1) pe_int (fun _ _ => rfl))) (pa_cons (pe_op op_add (pe_op op_sub (pv 4) (pe_ix (ix_tupK (K := K) rfl) (pv 2) pe_int (fun _ _ => rfl))) (pe_ix (ix_tupK (K := K) rfl) (pv 1) pe_int (fun _ _ => rfl))) pa_nil)))))))), ?_⟩
  refine ⟨_, rfl, a, l, rfl, ⟨ps, ha, hP⟩, hne, h64, fun lp H1 s1 hlp => ?_⟩
  refine ⟨_, rfl, a, rfl, ⟨_, SqL.of (s1 _ _ ha)⟩, lcL (K := K) (a := a) (xs := ps.map V.ref) (fun i D H' => NewPts K H1 H' D ((l.take i).map fun p => (p.1 - Fb.x0 l + q.1, p.2 - Fb.y0 l + q.2))) (fun D hD => NewPts.nil hD) (fun i D H' h => SqL.of (h.same _ _ (s1 _ _ ha))) (fun i x D H' hi h => ?_) (fun D3 H3 h3 => ?_)⟩
  · obtain ⟨p, hp, rfl⟩ := map_at hi
    obtain ⟨z, hz, hpz⟩ := hP.at' hp
    refine ⟨p, _, rfl, SqT.same h.same (SqT.same s1 hpz), rfl, _, _, rfl, _, _, rfl, rfl, rfl, yes_if ?_⟩
    have hl2 : PairAt K H' lp (Fb.x0 l, Fb.y0 l) := SqT.same h.same hlp
    have hq2 : PairAt K H' b q := SqT.same h.same (SqT.same s1 hq)
    refine ⟨_, rfl, _, rfl, lp, _, _, _, rfl, rfl, hl2, at_of (j := 0) rfl rfl, _, _, rfl, rfl, _, rfl, b, _, _, _, rfl, rfl, hq2, at_of (j := 0) rfl rfl, _, _, rfl, rfl, ?_⟩
    refine ⟨_, rfl, _, rfl, lp, _, _, _, rfl, rfl, hl2, at_of (j := 1) rfl rfl, _, _, rfl, rfl, _, rfl, b, _, _, _, rfl, rfl, hq2, at_of (j := 1) rfl rfl, _, _, rfl, rfl, line64 (by show 2 ≤ 1000; decide), fun p' hp' => ?_⟩
    rw [take_snoc hz, List.map_append]
    exact h.push hp' (by rw [List.length_map, List.length_take, sizeLine_eq]; omega)
  rw [List.length_map, hP.len, List.take_length] at h3
  exact k D3 H3 ⟨s1.trans h3.same, s1.free h3.new, h3.pts⟩
theorem sc_turns_of : FnScope ["squares", "found", "side_up", "lying", "quarter"] ["squares"] (defScope s_turns_of) := ⟨rfl, rfl, rfl, by decide +kernel, rfl, by decide +kernel, by decide +kernel⟩
theorem ok_turns_of (F : Fun K "turns_of" "turns_of" s_turns_of f fd) (T : Txt K mg c) (d_mirrored : Def P w K mg base 1 "mirrored" ["squares"] (sp_mirrored K c)) (d_turned : Def P w K mg base 1 "turned" ["squares"] (sp_turned K c)) : FnOk P w K mg base CX0 2 f fd ["squares"] (sp_turns_of K c) := by
  refine F.ok sc_turns_of (fun vs H Q E h => ?_) (fun cdv A outer s H vs Q E hr h => ?_)
  · obtain ⟨a, l, rfl, _⟩ := h; rfl
  have hu := hu_of hr
  obtain ⟨a, l, rfl, hA, h64, k⟩ := h
  refine ⟨_, (pss_cons (ps_set (i := 1) sc_turns_of.nd rfl (Or.inl rfl) (pe_lst pa_nil))
      (pss_cons (ps_for PassesOwn.never rfl (pi_list (pe_lst (pa_cons (pv 0) (pa_cons (pe_def d_mirrored (hr.mono (by decide)) (pa_cons (pv 0) pa_nil)) pa_nil)))) (pg_name (i := 2) sc_turns_of.nd rfl (Or.inl rfl) (.inl rfl))
      (pss_cons (ps_set (i := 3) sc_turns_of.nd rfl (Or.inl rfl) (pv 2))
      (pss_one (ps_for PassesOwn.never rfl (pi_range1 rfl T.b_range (pa_cons (pe_gint rfl T.g_QUARTERS) pa_nil)) (pg_name (i := 4) sc_turns_of.nd rfl (Or.inl rfl) (.inl rfl))
      (pss_cons (ps_expr (pe_bm PySem.F.plainAttrs_list PySem.F.slot_list_append PySem.F.type_list_append mt_append (pv 1) (pa_cons (pv 3) pa_nil)))
      (pss_one (ps_set (i := 3) sc_turns_of.nd rfl (Or.inl rfl) (pe_def d_turned (hr.mono (by decide)) (pa_cons (pv 3) pa_nil)))))))))
      (pss_one (ps_ret (pv 1))))), ?_⟩
  obtain ⟨ps, ha, hP⟩ := id hA
  refine ⟨Nat.zero_le _, fun fa hfa => ?_⟩
  have s0 : Same H (upd H fa (.lst [])) := Same.new hfa _
  refine ⟨_, rfl, _, rfl, a, l, rfl, hA.same s0, h64, fun m H1 N1 => ?_⟩
  refine ⟨line64 (by show 2 ≤ 1000; decide), fun sl hsl => ?_⟩
  have s1 : Same H1 (upd H1 sl (.lst [.ref a, .ref m])) := Same.new hsl _
  have nm : m ≠ fa := fun z => by have := N1.new; rw [z, upd_same] at this; cases this
  have nsl : sl ≠ fa := fun z => by rw [z, N1.same _ _ upd_same] at hsl; cases hsl
  have na : a ≠ fa := ne_of_none ha hfa
  have t0 : Turning K H (upd H1 sl (.lst [.ref a, .ref m])) a fa sl m l 0 :=
    ⟨⟨(s0.trans N1.same).trans s1, hfa, [], s1 _ _ (N1.same _ _ upd_same), .nil⟩, upd_same, ((hA.same s0).same N1.same).same s1, N1.pts.same s1, nsl, na, nm, s0.free N1.new⟩
  refine ⟨sl, rfl, ⟨_, SqL.of upd_same⟩, for_list (K := K) (a := sl) (xs := [.ref a, .ref m]) (fun i σ H' => ∃ so lo qo : Option V, σ = [some (.ref a), some (.ref fa), so, lo, qo] ∧ Turning K H H' a fa sl m l (4 * i)) ⟨none, none, none, rfl, t0⟩
    (fun i σ H' _ ⟨_, _, _, _, t⟩ => SqL.of t.sides) ?_ ?_⟩
  · rintro i y σ H' hi ⟨so, lo, qo, rfl, t⟩
    have hi2 : i < 2 := (List.getElem?_eq_some_iff.mp hi).1
    obtain ⟨c0, rfl, hc, nc0, oc0⟩ : ∃ c, y = .ref c ∧ PtsL K H' c (side i l) ∧ c ≠ fa ∧ (c = a ∨ H c = none) := by
      match i, hi2 with
      | 0, _ => exact ⟨a, (Option.some.inj hi).symm, t.pa, t.n2, .inl rfl⟩
      | 1, _ => exact ⟨m, (Option.some.inj hi).symm, t.pm, t.n3, .inr t.mn⟩
    have slen : (side i l).length = l.length := by
      unfold side
      split
      · rfl
      · simp [Fb.mir]
    refine ⟨_, rfl, ?_⟩
    refine ⟨_, rfl, by decide, by decide, for_range (n := 4) (fun j σ H2 => ∃ (qo : Option V) (c : Addr), σ = [some (.ref a), some (.ref fa), some (.ref c0), some (.ref c), qo] ∧ Turning K H H2 a fa sl m l (4 * i + j) ∧ PtsL K H2 c (rotN j (side i l)) ∧ c ≠ fa ∧ (c = a ∨ H c = none)) ⟨qo, c0, rfl, t, hc, nc0, oc0⟩ ?_ ?_⟩
    · rintro j σ H2 hj ⟨qo2, c2, rfl, t2, hc2, nc, oc⟩
      have len2 : (rotN j (side i l)).length ≤ 64 := by rw [rotN_len, slen]; exact h64
      obtain ⟨qs, hqs, hqP⟩ := t2.found.lst
      have hz : (qs.map V.ref).length < sizeLine := by
        rw [List.length_map, Paired.length hqP, List.length_take, sizeLine_eq, show (Fb.eight l).length = 8 from rfl]
        omega
      refine ⟨_, rfl, .inl ⟨rfl, _, SqL.of hqs⟩, _, rfl, fa, _, _, rfl, rfl, hqs, hz, ?_⟩
      have t3 := t2.push hqs (eight_at l i hi2 j hj) hc2 nc oc
      have hc3 : PtsL K (upd H2 fa (.lst (qs.map V.ref ++ [.ref c2]))) c2 (rotN j (side i l)) := hc2.ext Ext.set hqs nc
      refine ⟨_, rfl, c2, _, rfl, hc3, len2, fun b2 H4 N4 => ?_⟩
      refine ⟨_, b2, rfl, t3.same N4.same, N4.pts, fun z => ?_, .inr (t3.found.same.free N4.new)⟩
      have := N4.new
      rw [z, upd_same] at this
      cases this
    · rintro σ H2 ⟨qo2, c2, rfl, t2, _⟩
      exact ⟨_, _, _, rfl, t2⟩
  · rintro σ H' ⟨so, lo, qo, rfl, t⟩
    refine ⟨_, rfl, ?_⟩
    refine k fa H' ?_
    have f := t.found
    rw [List.take_of_length_le (show (Fb.eight l).length ≤ 4 * ([.ref a, .ref m] : List V).length by exact Nat.le_refl 8)] at f
    exact f
theorem sc_ways_to_lie : FnScope ["squares", "found", "lying", "number"] ["squares"] (defScope s_ways_to_lie) := ⟨rfl, rfl, rfl, by decide +kernel, rfl, by decide +kernel, by decide +kernel⟩
theorem ok_ways_to_lie (F : Fun K "ways_to_lie" "ways_to_lie" s_ways_to_lie f fd) (T : Txt K mg c) (d_turns_of : Def P w K mg base 2 "turns_of" ["squares"] (sp_turns_of K c)) (d_number_of : Def P w K mg base 1 "number_of" ["squares"] (sp_number_of K c)) (d_moved_to : Def P w K mg base 2 "moved_to" ["squares", "corner"] (sp_moved_to K c)) : FnOk P w K mg base CX0 3 f fd ["squares"] (sp_ways_to_lie K c) := by
  refine F.ok sc_ways_to_lie (fun vs H Q E h => ?_) (fun cdv A outer s H vs Q E hr h => ?_)
  · obtain ⟨a, l, rfl, _⟩ := h; rfl
  have hu := hu_of hr
  obtain ⟨a, l, rfl, hA, hne, h64, hN, k⟩ := h
  refine ⟨_, (pss_cons (ps_set (i := 1) sc_ways_to_lie.nd rfl (Or.inl rfl) (pe_lst pa_nil))
      (pss_cons (ps_for PassesOwn.never rfl (pi_list (pe_def d_turns_of (hr.mono (by decide)) (pa_cons (pv 0) pa_nil))) (pg_name (i := 2) sc_ways_to_lie.nd rfl (Or.inl rfl) (.inl rfl))
      (pss_cons (ps_set (i := 3) sc_ways_to_lie.nd rfl (Or.inl rfl) (pe_def d_number_of (hr.mono (by decide)) (pa_cons (pe_def d_moved_to (hr.mono (by decide)) (pa_cons (pv 2) (pa_cons (pe_tup (pa_cons pe_int (pa_cons pe_int pa_nil))) pa_nil))) pa_nil)))
      (pss_one (ps_if (pt_cmpR op_notIn_seq (pv 3) (pv 1) (by with_unfolding_all rfl)) (pss_one (ps_expr (pe_bm PySem.F.plainAttrs_list PySem.F.slot_list_append PySem.F.type_list_append mt_append (pv 1) (pa_cons (pv 3) pa_nil)))) pss_nil))))
      (pss_one (ps_ret (pv 1))))), ?_⟩
  refine ⟨Nat.zero_le _, fun fa hfa => ?_⟩
  have s0 : Same H (upd H fa (.lst [])) := Same.new hfa _
  refine ⟨_, rfl, a, l, rfl, hA.same s0, h64, fun tl H1 N1 => ?_⟩
  obtain ⟨ts, hts, htP⟩ := N1.lst
  have htl : tl ≠ fa := fun z => by have := N1.new; rw [z, upd_same] at this; cases this
  have hel : ts.length = 8 := by rw [Paired.length htP]; rfl
  have hna : a ≠ fa := by
    obtain ⟨ps, ha, _⟩ := hA
    exact ne_of_none ha hfa
  refine ⟨tl, rfl, ⟨_, SqL.of hts⟩, for_list (K := K) (a := tl) (xs := ts.map V.ref) (fun i σ H' => ∃ (lo no : Option V), σ = [some (.ref a), some (.ref fa), lo, no] ∧ NewInts H H' fa (asInts (Fb.dd [] ((nums l).take i))) ∧ H' tl = some (.lst (ts.map V.ref)) ∧ ∀ (j : Nat) (t : List Fb.Pt), (Fb.eight l)[j]? = some t → ∃ p, ts[j]? = some p ∧ PtsL K H' p t ∧ p ≠ fa) ?_ (fun i σ H' _ ⟨_, _, _, _, z, _⟩ => SqL.of z) ?_ ?_⟩
  · refine ⟨none, none, rfl, ⟨s0.trans N1.same, hfa, N1.same _ _ upd_same⟩, hts, fun j t hj => ?_⟩
    obtain ⟨p, hp, hpt, _, ho⟩ := Paired.at htP hj
    refine ⟨p, hp, hpt, ?_⟩
    rcases ho with rfl | ho
    · exact hna
    · intro z
      rw [z, upd_same] at ho
      cases ho
  · rintro i y σ H' hi ⟨lo, no, rfl, fd, htl', hel'⟩
    obtain ⟨p, hp, rfl⟩ := map_at hi
    have hi8 : i < 8 := by rw [← hel]; exact (List.getElem?_eq_some_iff.mp hp).1
    obtain ⟨t, ht⟩ : ∃ t, (Fb.eight l)[i]? = some t := ⟨_, List.getElem?_eq_getElem (show i < (Fb.eight l).length from hi8)⟩
    have hmem := List.mem_of_getElem? ht
    obtain ⟨p', hp', hpt, hpf⟩ := hel' i t ht
    rw [hp] at hp'
    have hp' : p = p' := Option.some.inj hp'
    subst hp'
    have tne := Fb.eight_ne hne t hmem
    have tlen : t.length ≤ 64 := by
      have : t.length = l.length := by
        unfold Fb.eight at hmem
        simp only [List.mem_cons, List.not_mem_nil, or_false] at hmem
        rcases hmem with rfl | rfl | rfl | rfl | rfl | rfl | rfl | rfl <;> simp [Fb.rot, Fb.mir]
      omega
    have tnear := Fb.eight_near hN t hmem
    have hx : (nums l)[i]? = some (Fb.numOf (Fb.moved t)) := by
      unfold nums
      rw [List.getElem?_map, ht]
      rfl
    refine ⟨_, rfl, line64 (by show 2 ≤ 1000; decide), fun tp htp => ?_⟩
    have e1 : Same H' (upd H' tp (.tup [.int 0, .int 0])) := Same.new htp _
    refine ⟨p, tp, t, (0, 0), rfl, hpt.same e1, SqT.of upd_same, tne, tlen, fun d H3 N3 => ?_⟩
    have e3 : Same H' H3 := e1.trans N3.same
    have hp3 := N3.pts
    rw [movedTo_zero] at hp3
    refine ⟨d, _, rfl, hp3, moved_in tnear, ?_⟩
    have f3 := NewInts.grow fd e3
    refine ⟨_, rfl, _, rfl, fa, _, rfl, .inl (SqL.of f3.lst), rfl, flat_ints _, _, rfl, ?_⟩
    by_cases hm : Fb.numOf (Fb.moved t) ∈ Fb.dd [] ((nums l).take i)
    · refine iteM (show (!inV _ _) = false by rw [inV_ints, decide_eq_true (mem_ints.mpr hm)]; rfl) ?_
      refine ⟨_, _, rfl, ?_, e3 _ _ htl', fun j t' hj => ?_⟩
      · rw [take_snoc hx, dd_snoc, if_pos (List.contains_iff_mem.mpr hm)]
        exact f3
      · obtain ⟨p', a1, a2, a3⟩ := hel' j t' hj
        exact ⟨p', a1, a2.same e3, a3⟩
    · refine iteP (show (!inV _ _) = true by rw [inV_ints, decide_eq_false (fun z => hm (mem_ints.mp z))]; rfl) ?_
      have hz : ((asInts (Fb.dd [] ((nums l).take i))).map V.int).length < sizeLine := by
        have := dd_ints_len l i
        rw [List.length_map, sizeLine_eq]
        omega
      refine ⟨_, rfl, .inl ⟨rfl, _, SqL.of f3.lst⟩, _, rfl, fa, _, _, rfl, rfl, f3.lst, hz, ?_⟩
      refine ⟨_, _, rfl, ?_, by rw [upd_ne htl]; exact e3 _ _ htl', fun j t' hj => ?_⟩
      · rw [take_snoc hx, dd_snoc, if_neg (fun z => hm (List.contains_iff_mem.mp z))]
        refine ⟨f3.same.by_ext Ext.set f3.new, f3.new, ?_⟩
        rw [upd_same]
        unfold asInts
        rw [List.map_append, List.map_append]
        rfl
      · obtain ⟨p', a1, a2, a3⟩ := hel' j t' hj
        exact ⟨p', a1, (a2.same e3).ext Ext.set f3.lst a3, a3⟩
  · rintro σ H' ⟨lo, no, rfl, fd, _⟩
    refine ⟨_, rfl, ?_⟩
    refine k fa H' ?_
    rw [List.length_map, List.take_of_length_le (by rw [nums_len, hel]; exact Nat.le_refl 8)] at fd
    exact fd
theorem sc_ways : FnScope ["piece", "found"] ["piece"] (defScope s_ways) := ⟨rfl, rfl, rfl, by decide +kernel, rfl, by decide +kernel, by decide +kernel⟩
theorem ok_ways (F : Fun K "ways" "ways" s_ways f fd) (T : Txt K mg c) (d_ways_to_lie : Def P w K mg base 3 "ways_to_lie" ["squares"] (sp_ways_to_lie K c)) (d_squares_of : Def P w K mg base 1 "squares_of" ["number"] (sp_squares_of K c)) (d_is_piece : Def P w K mg base 3 "is_piece" ["number"] (sp_is_piece K c)) : FnOk P w K mg base CX0 4 f fd ["piece"] (sp_ways K c) := by
  refine F.ok sc_ways (fun vs H Q E h => ?_) (fun cdv A outer s H vs Q E hr h => ?_)
  · obtain ⟨n, rfl, _⟩ := h; rfl
  have hu := hu_of hr
  obtain ⟨n, rfl, hn, k⟩ := h
  refine ⟨_, (pss_cons (ps_if (pt_not (pt_truth (pe_def d_is_piece (hr.mono (by decide)) (pa_cons (pv 0) pa_nil)) (fun _ => rfl))) (pss_one (ps_ret (pe_lst (pa_cons (pe_gint rfl T.g_NO_PIECE) pa_nil)))) pss_nil)
      (pss_cons (ps_set (i := 1) sc_ways.nd rfl (Or.inl rfl) (pe_def d_ways_to_lie (hr.mono (by decide)) (pa_cons (pe_def d_squares_of (hr.mono (by decide)) (pa_cons (pv 0) pa_nil)) pa_nil)))
      (pss_one (ps_ret (pe_op op_cat (pe_lst (pa_cons (pe_callB call_len_seq rfl T.b_len PySem.boot_len (pa_cons (pv 1) pa_nil)) pa_nil)) (pv 1)))))), ?_⟩
  refine ⟨_, rfl, n, rfl, hn, ?_⟩
  refine ⟨_, rfl, ?_⟩
  by_cases hp : Kg37.piece n = true
  · refine iteM (show (!Kg37.piece n) = false by rw [hp]; rfl) ?_
    have hne := Fb.piece_pts hn hp
    have hlen : (Fb.pts n).length ≤ 64 := by
      have : (Fb.pts n).length = Fb.pop n := List.length_map _
      have := Fb.pop_le n
      omega
    refine ⟨_, rfl, n, rfl, hn, fun a H1 N1 => ?_⟩
    refine ⟨a, _, rfl, N1.pts, hne, hlen, Fb.pts_near n, fun fa H3 N3 => ?_⟩
    refine ⟨_, rfl, fa, _, rfl, .inl (SqL.of N3.lst), line64 (by show 1 ≤ 1000; decide), fun p hp' => ?_⟩
    have s3 : Same H3 (upd H3 p (.lst [.int ((((asInts (Fb.lies (Fb.pts n))).map V.int).length : Nat) : Int)])) := Same.new hp' _
    have hl8 := Fb.lies_len (Fb.pts n)
    refine ⟨_, rfl, p, fa, _, _, rfl, rfl, upd_same, s3 _ _ N3.lst, ?_, fun b hb => ?_⟩
    · unfold asInts
      rw [List.length_map, List.length_map, sizeLine_eq, List.length_singleton]
      omega
    · refine k b _ ?_
      unfold asInts
      rw [upd_same, Fb.ways_due n hn, if_neg (by rw [hp]; decide), List.length_map, List.length_map]
      rfl
  · have hp' : Kg37.piece n = false := by simpa using hp
    refine iteP (show (!Kg37.piece n) = true by rw [hp']; rfl) ?_
    refine ⟨line64 (by show 1 ≤ 1000; decide), fun b hb => ?_⟩
    refine k b _ ?_
    rw [upd_same, Fb.ways_due n hn, if_pos hp']
    rfl
theorem all_mk {h : Heap} {fa : Addr} (X : K.In h) (G : h.Ns mainGlobals mg) (hfa : mg "ways" = some (.ref fa))
    {f0 : Addr} {od0 an0 : Option Addr} {sl0 : Array (Option Value)} {oc0 kV0 dc0 pm0 cd0 ct0 : Value}
    {f1 : Addr} {od1 an1 : Option Addr} {sl1 : Array (Option Value)} {oc1 kV1 dc1 pm1 cd1 ct1 : Value}
    {f2 : Addr} {od2 an2 : Option Addr} {sl2 : Array (Option Value)} {oc2 kV2 dc2 pm2 cd2 ct2 : Value}
    {f3 : Addr} {od3 an3 : Option Addr} {sl3 : Array (Option Value)} {oc3 kV3 dc3 pm3 cd3 ct3 : Value}
    {f4 : Addr} {od4 an4 : Option Addr} {sl4 : Array (Option Value)} {oc4 kV4 dc4 pm4 cd4 ct4 : Value}
    {f5 : Addr} {od5 an5 : Option Addr} {sl5 : Array (Option Value)} {oc5 kV5 dc5 pm5 cd5 ct5 : Value}
    {f6 : Addr} {od6 an6 : Option Addr} {sl6 : Array (Option Value)} {oc6 kV6 dc6 pm6 cd6 ct6 : Value}
    {f7 : Addr} {od7 an7 : Option Addr} {sl7 : Array (Option Value)} {oc7 kV7 dc7 pm7 cd7 ct7 : Value}
    {f8 : Addr} {od8 an8 : Option Addr} {sl8 : Array (Option Value)} {oc8 kV8 dc8 pm8 cd8 ct8 : Value}
    {f9 : Addr} {od9 an9 : Option Addr} {sl9 : Array (Option Value)} {oc9 kV9 dc9 pm9 cd9 ct9 : Value}
    {f10 : Addr} {od10 an10 : Option Addr} {sl10 : Array (Option Value)} {oc10 kV10 dc10 pm10 cd10 ct10 : Value}
    {f11 : Addr} {od11 an11 : Option Addr} {sl11 : Array (Option Value)} {oc11 kV11 dc11 pm11 cd11 ct11 : Value}
    {f12 : Addr} {od12 an12 : Option Addr} {sl12 : Array (Option Value)} {oc12 kV12 dc12 pm12 cd12 ct12 : Value}
    {gt0 : Tok}
    {gt1 : Tok}
    {gt2 : Tok}
    {gt3 : Tok}
    {gt4 : Tok}
    {gt5 : Tok}
    (a0 : PySem.W.nsIn K mainGlobals "squares_of" = some (some (.ref f0)))
    (l0 : K.lookup f0 = some ⟨oc0, od0, .func (PySem.W.fnOf "squares_of" "squares_of" (defArgs s_squares_of) (defBody s_squares_of) (defScope s_squares_of) .none kV0 dc0 pm0 an0 cd0 ct0), sl0⟩) (c0 : PySem.W.codeIn K cd0 "squares_of" = true) (k0 : PySem.W.keepIn K (.ref f0) = true)
    (a1 : PySem.W.nsIn K mainGlobals "number_of" = some (some (.ref f1)))
    (l1 : K.lookup f1 = some ⟨oc1, od1, .func (PySem.W.fnOf "number_of" "number_of" (defArgs s_number_of) (defBody s_number_of) (defScope s_number_of) .none kV1 dc1 pm1 an1 cd1 ct1), sl1⟩) (c1 : PySem.W.codeIn K cd1 "number_of" = true) (k1 : PySem.W.keepIn K (.ref f1) = true)
    (a2 : PySem.W.nsIn K mainGlobals "size_of" = some (some (.ref f2)))
    (l2 : K.lookup f2 = some ⟨oc2, od2, .func (PySem.W.fnOf "size_of" "size_of" (defArgs s_size_of) (defBody s_size_of) (defScope s_size_of) .none kV2 dc2 pm2 an2 cd2 ct2), sl2⟩) (c2 : PySem.W.codeIn K cd2 "size_of" = true) (k2 : PySem.W.keepIn K (.ref f2) = true)
    (a3 : PySem.W.nsIn K mainGlobals "with_neighbours" = some (some (.ref f3)))
    (l3 : K.lookup f3 = some ⟨oc3, od3, .func (PySem.W.fnOf "with_neighbours" "with_neighbours" (defArgs s_with_neighbours) (defBody s_with_neighbours) (defScope s_with_neighbours) .none kV3 dc3 pm3 an3 cd3 ct3), sl3⟩) (c3 : PySem.W.codeIn K cd3 "with_neighbours" = true) (k3 : PySem.W.keepIn K (.ref f3) = true)
    (a4 : PySem.W.nsIn K mainGlobals "first_part" = some (some (.ref f4)))
    (l4 : K.lookup f4 = some ⟨oc4, od4, .func (PySem.W.fnOf "first_part" "first_part" (defArgs s_first_part) (defBody s_first_part) (defScope s_first_part) .none kV4 dc4 pm4 an4 cd4 ct4), sl4⟩) (c4 : PySem.W.codeIn K cd4 "first_part" = true) (k4 : PySem.W.keepIn K (.ref f4) = true)
    (a5 : PySem.W.nsIn K mainGlobals "is_piece" = some (some (.ref f5)))
    (l5 : K.lookup f5 = some ⟨oc5, od5, .func (PySem.W.fnOf "is_piece" "is_piece" (defArgs s_is_piece) (defBody s_is_piece) (defScope s_is_piece) .none kV5 dc5 pm5 an5 cd5 ct5), sl5⟩) (c5 : PySem.W.codeIn K cd5 "is_piece" = true) (k5 : PySem.W.keepIn K (.ref f5) = true)
    (a6 : PySem.W.nsIn K mainGlobals "turned" = some (some (.ref f6)))
    (l6 : K.lookup f6 = some ⟨oc6, od6, .func (PySem.W.fnOf "turned" "turned" (defArgs s_turned) (defBody s_turned) (defScope s_turned) .none kV6 dc6 pm6 an6 cd6 ct6), sl6⟩) (c6 : PySem.W.codeIn K cd6 "turned" = true) (k6 : PySem.W.keepIn K (.ref f6) = true)
    (a7 : PySem.W.nsIn K mainGlobals "mirrored" = some (some (.ref f7)))
    (l7 : K.lookup f7 = some ⟨oc7, od7, .func (PySem.W.fnOf "mirrored" "mirrored" (defArgs s_mirrored) (defBody s_mirrored) (defScope s_mirrored) .none kV7 dc7 pm7 an7 cd7 ct7), sl7⟩) (c7 : PySem.W.codeIn K cd7 "mirrored" = true) (k7 : PySem.W.keepIn K (.ref f7) = true)
    (a8 : PySem.W.nsIn K mainGlobals "corner_of" = some (some (.ref f8)))
    (l8 : K.lookup f8 = some ⟨oc8, od8, .func (PySem.W.fnOf "corner_of" "corner_of" (defArgs s_corner_of) (defBody s_corner_of) (defScope s_corner_of) .none kV8 dc8 pm8 an8 cd8 ct8), sl8⟩) (c8 : PySem.W.codeIn K cd8 "corner_of" = true) (k8 : PySem.W.keepIn K (.ref f8) = true)
    (a9 : PySem.W.nsIn K mainGlobals "moved_to" = some (some (.ref f9)))
    (l9 : K.lookup f9 = some ⟨oc9, od9, .func (PySem.W.fnOf "moved_to" "moved_to" (defArgs s_moved_to) (defBody s_moved_to) (defScope s_moved_to) .none kV9 dc9 pm9 an9 cd9 ct9), sl9⟩) (c9 : PySem.W.codeIn K cd9 "moved_to" = true) (k9 : PySem.W.keepIn K (.ref f9) = true)
    (a10 : PySem.W.nsIn K mainGlobals "turns_of" = some (some (.ref f10)))
    (l10 : K.lookup f10 = some ⟨oc10, od10, .func (PySem.W.fnOf "turns_of" "turns_of" (defArgs s_turns_of) (defBody s_turns_of) (defScope s_turns_of) .none kV10 dc10 pm10 an10 cd10 ct10), sl10⟩) (c10 : PySem.W.codeIn K cd10 "turns_of" = true) (k10 : PySem.W.keepIn K (.ref f10) = true)
    (a11 : PySem.W.nsIn K mainGlobals "ways_to_lie" = some (some (.ref f11)))
    (l11 : K.lookup f11 = some ⟨oc11, od11, .func (PySem.W.fnOf "ways_to_lie" "ways_to_lie" (defArgs s_ways_to_lie) (defBody s_ways_to_lie) (defScope s_ways_to_lie) .none kV11 dc11 pm11 an11 cd11 ct11), sl11⟩) (c11 : PySem.W.codeIn K cd11 "ways_to_lie" = true) (k11 : PySem.W.keepIn K (.ref f11) = true)
    (a12 : PySem.W.nsIn K mainGlobals "ways" = some (some (.ref f12)))
    (l12 : K.lookup f12 = some ⟨oc12, od12, .func (PySem.W.fnOf "ways" "ways" (defArgs s_ways) (defBody s_ways) (defScope s_ways) .none kV12 dc12 pm12 an12 cd12 ct12), sl12⟩) (c12 : PySem.W.codeIn K cd12 "ways" = true) (k12 : PySem.W.keepIn K (.ref f12) = true)
    (g0 : PySem.W.nsIn K mainGlobals "SIDE" = some (some (.int (8) gt0)))
    (g1 : PySem.W.nsIn K mainGlobals "MOST_SQUARES" = some (some (.int (8) gt1)))
    (g2 : PySem.W.nsIn K mainGlobals "QUARTERS" = some (some (.int (4) gt2)))
    (g3 : PySem.W.nsIn K mainGlobals "NOT_IN_FIRST_COLUMN" = some (some (.int (18374403900871474942) gt3)))
    (g4 : PySem.W.nsIn K mainGlobals "NOT_IN_LAST_COLUMN" = some (some (.int (9187201950435737471) gt4)))
    (g5 : PySem.W.nsIn K mainGlobals "NO_PIECE" = some (some (.int (-2) gt5)))
    (z0 : PySem.W.nsIn K mainGlobals "len" = some none)
    (z1 : PySem.W.nsIn K mainGlobals "min" = some none)
    (z2 : PySem.W.nsIn K mainGlobals "range" = some none) :
    ∃ fd : FuncData, (∀ (s : Shared) (us : List Value), us.length = (["piece"] : List Str).length → BindsTo s fd ⟨us, []⟩ ((["piece"] : List Str).zip us)) ∧ ∀ base : Heap, K.In base → base.Ns mainGlobals mg → FnOk P w K mg base CX0 4 fa fd ["piece"] (sp_ways K ⟨0, 0, 0, 0, 0⟩) := by
  have e := hfa.symm.trans (PySem.W.mg_of X G a12)
  cases e
  have T : Txt K mg (⟨0, 0, 0, 0, 0⟩ : Cs) := ⟨⟨_, PySem.W.mg_of X G g0⟩, ⟨_, PySem.W.mg_of X G g1⟩, ⟨_, PySem.W.mg_of X G g2⟩, ⟨_, PySem.W.mg_of X G g3⟩, ⟨_, PySem.W.mg_of X G g4⟩, ⟨_, PySem.W.mg_of X G g5⟩, PySem.W.mg_none_of X G z0, PySem.W.mg_none_of X G z1, PySem.W.mg_none_of X G z2⟩
  have F0 := fun_mk (st := s_squares_of) l0 c0 k0
  have b0 := F0.binds (ps := ["number"]) fun _ _ _ _ _ _ us hl => match us, hl with | [_], _ => rfl
  have F1 := fun_mk (st := s_number_of) l1 c1 k1
  have b1 := F1.binds (ps := ["squares"]) fun _ _ _ _ _ _ us hl => match us, hl with | [_], _ => rfl
  have F2 := fun_mk (st := s_size_of) l2 c2 k2
  have b2 := F2.binds (ps := ["number"]) fun _ _ _ _ _ _ us hl => match us, hl with | [_], _ => rfl
  have F3 := fun_mk (st := s_with_neighbours) l3 c3 k3
  have b3 := F3.binds (ps := ["number"]) fun _ _ _ _ _ _ us hl => match us, hl with | [_], _ => rfl
  have F4 := fun_mk (st := s_first_part) l4 c4 k4
  have b4 := F4.binds (ps := ["number"]) fun _ _ _ _ _ _ us hl => match us, hl with | [_], _ => rfl
  have F5 := fun_mk (st := s_is_piece) l5 c5 k5
  have b5 := F5.binds (ps := ["number"]) fun _ _ _ _ _ _ us hl => match us, hl with | [_], _ => rfl
  have F6 := fun_mk (st := s_turned) l6 c6 k6
  have b6 := F6.binds (ps := ["squares"]) fun _ _ _ _ _ _ us hl => match us, hl with | [_], _ => rfl
  have F7 := fun_mk (st := s_mirrored) l7 c7 k7
  have b7 := F7.binds (ps := ["squares"]) fun _ _ _ _ _ _ us hl => match us, hl with | [_], _ => rfl
  have F8 := fun_mk (st := s_corner_of) l8 c8 k8
  have b8 := F8.binds (ps := ["squares"]) fun _ _ _ _ _ _ us hl => match us, hl with | [_], _ => rfl
  have F9 := fun_mk (st := s_moved_to) l9 c9 k9
  have b9 := F9.binds (ps := ["squares", "corner"]) fun _ _ _ _ _ _ us hl => match us, hl with | [_, _], _ => rfl
  have F10 := fun_mk (st := s_turns_of) l10 c10 k10
  have b10 := F10.binds (ps := ["squares"]) fun _ _ _ _ _ _ us hl => match us, hl with | [_], _ => rfl
  have F11 := fun_mk (st := s_ways_to_lie) l11 c11 k11
  have b11 := F11.binds (ps := ["squares"]) fun _ _ _ _ _ _ us hl => match us, hl with | [_], _ => rfl
  have F12 := fun_mk (st := s_ways) l12 c12 k12
  have b12 := F12.binds (ps := ["piece"]) fun _ _ _ _ _ _ us hl => match us, hl with | [_], _ => rfl
  refine ⟨PySem.W.fnOf "ways" "ways" (defArgs s_ways) (defBody s_ways) (defScope s_ways) .none kV12 dc12 pm12 an12 cd12 ct12, fun s us hu => match us, hu with | [_], _ => .of_eq rfl, fun base _ _ => ?_⟩
  have d_squares_of : Def P w K mg base 1 "squares_of" ["number"] (sp_squares_of K (⟨0, 0, 0, 0, 0⟩ : Cs)) := ⟨_, _, ok_squares_of F0 T, b0, k0, PySem.W.mg_of X G a0⟩
  have d_number_of : Def P w K mg base 1 "number_of" ["squares"] (sp_number_of K (⟨0, 0, 0, 0, 0⟩ : Cs)) := ⟨_, _, ok_number_of F1 T, b1, k1, PySem.W.mg_of X G a1⟩
  have d_size_of : Def P w K mg base 1 "size_of" ["number"] (sp_size_of K (⟨0, 0, 0, 0, 0⟩ : Cs)) := ⟨_, _, ok_size_of F2 T, b2, k2, PySem.W.mg_of X G a2⟩
  have d_with_neighbours : Def P w K mg base 1 "with_neighbours" ["number"] (sp_with_neighbours K (⟨0, 0, 0, 0, 0⟩ : Cs)) := ⟨_, _, ok_with_neighbours F3 T, b3, k3, PySem.W.mg_of X G a3⟩
  have d_first_part : Def P w K mg base 2 "first_part" ["number"] (sp_first_part K (⟨0, 0, 0, 0, 0⟩ : Cs)) := ⟨_, _, ok_first_part F4 T d_with_neighbours, b4, k4, PySem.W.mg_of X G a4⟩
  have d_is_piece : Def P w K mg base 3 "is_piece" ["number"] (sp_is_piece K (⟨0, 0, 0, 0, 0⟩ : Cs)) := ⟨_, _, ok_is_piece F5 T d_first_part d_size_of, b5, k5, PySem.W.mg_of X G a5⟩
  have d_turned : Def P w K mg base 1 "turned" ["squares"] (sp_turned K (⟨0, 0, 0, 0, 0⟩ : Cs)) := ⟨_, _, ok_turned F6 T, b6, k6, PySem.W.mg_of X G a6⟩
  have d_mirrored : Def P w K mg base 1 "mirrored" ["squares"] (sp_mirrored K (⟨0, 0, 0, 0, 0⟩ : Cs)) := ⟨_, _, ok_mirrored F7 T, b7, k7, PySem.W.mg_of X G a7⟩
  have d_corner_of : Def P w K mg base 1 "corner_of" ["squares"] (sp_corner_of K (⟨0, 0, 0, 0, 0⟩ : Cs)) := ⟨_, _, ok_corner_of F8 T, b8, k8, PySem.W.mg_of X G a8⟩
  have d_moved_to : Def P w K mg base 2 "moved_to" ["squares", "corner"] (sp_moved_to K (⟨0, 0, 0, 0, 0⟩ : Cs)) := ⟨_, _, ok_moved_to F9 T d_corner_of, b9, k9, PySem.W.mg_of X G a9⟩
  have d_turns_of : Def P w K mg base 2 "turns_of" ["squares"] (sp_turns_of K (⟨0, 0, 0, 0, 0⟩ : Cs)) := ⟨_, _, ok_turns_of F10 T d_mirrored d_turned, b10, k10, PySem.W.mg_of X G a10⟩
  have d_ways_to_lie : Def P w K mg base 3 "ways_to_lie" ["squares"] (sp_ways_to_lie K (⟨0, 0, 0, 0, 0⟩ : Cs)) := ⟨_, _, ok_ways_to_lie F11 T d_turns_of d_number_of d_moved_to, b11, k11, PySem.W.mg_of X G a11⟩
  exact ok_ways F12 T d_ways_to_lie d_squares_of d_is_piece
end
end FbW
open PySem PySem.W PyProof.Rows
set_option maxRecDepth 100000 in
set_option maxHeartbeats 0 in
theorem PySem.Challenge.cw_fillboard_s01_ways_holds : PySem.Challenge.rw_fillboard_s01_ways.Holds := by
  w_on; k_headS; (case hw => exact ⟨[.int 1], by decide +kernel, by decide +kernel⟩)
  k_fillS
  refine L2.walk_specK (r := PySem.Challenge.rw_fillboard_s01_ways) (k := 4) (CX := L2.CX0) (ps := ["piece"]) (sp := fun K => FbW.sp_ways K ⟨0, 0, 0, 0, 0⟩) (by decide +kernel) rfl rfl ⟨rfl, by decide, by decide⟩ (fun w h Y => PySem.W.kIn_of Y) ?F ?S (fun _ _ _ _ z => z)
  case F =>
    intro w mg fa h Y KX G hmg
    refine' FbW.all_mk KX G hmg ?qa0 ?ql0 ?qc0 ?qk0 ?qa1 ?ql1 ?qc1 ?qk1 ?qa2 ?ql2 ?qc2 ?qk2 ?qa3 ?ql3 ?qc3 ?qk3 ?qa4 ?ql4 ?qc4 ?qk4 ?qa5 ?ql5 ?qc5 ?qk5 ?qa6 ?ql6 ?qc6 ?qk6 ?qa7 ?ql7 ?qc7 ?qk7 ?qa8 ?ql8 ?qc8 ?qk8 ?qa9 ?ql9 ?qc9 ?qk9 ?qa10 ?ql10 ?qc10 ?qk10 ?qa11 ?ql11 ?qc11 ?qk11 ?qa12 ?ql12 ?qc12 ?qk12 ?qg0 ?qg1 ?qg2 ?qg3 ?qg4 ?qg5 ?qz0 ?qz1 ?qz2
    (case qa0 => k_is)
    (case ql0 => k_is)
    (case qc0 => k_is)
    (case qk0 => k_is)
    (case qa1 => k_is)
    (case ql1 => k_is)
    (case qc1 => k_is)
    (case qk1 => k_is)
    (case qa2 => k_is)
    (case ql2 => k_is)
    (case qc2 => k_is)
    (case qk2 => k_is)
    (case qa3 => k_is)
    (case ql3 => k_is)
    (case qc3 => k_is)
    (case qk3 => k_is)
    (case qa4 => k_is)
    (case ql4 => k_is)
    (case qc4 => k_is)
    (case qk4 => k_is)
    (case qa5 => k_is)
    (case ql5 => k_is)
    (case qc5 => k_is)
    (case qk5 => k_is)
    (case qa6 => k_is)
    (case ql6 => k_is)
    (case qc6 => k_is)
    (case qk6 => k_is)
    (case qa7 => k_is)
    (case ql7 => k_is)
    (case qc7 => k_is)
    (case qk7 => k_is)
    (case qa8 => k_is)
    (case ql8 => k_is)
    (case qc8 => k_is)
    (case qk8 => k_is)
    (case qa9 => k_is)
    (case ql9 => k_is)
    (case qc9 => k_is)
    (case qk9 => k_is)
    (case qa10 => k_is)
    (case ql10 => k_is)
    (case qc10 => k_is)
    (case qk10 => k_is)
    (case qa11 => k_is)
    (case ql11 => k_is)
    (case qc11 => k_is)
    (case qk11 => k_is)
    (case qa12 => k_is)
    (case ql12 => k_is)
    (case qc12 => k_is)
    (case qk12 => k_is)
    (case qg0 => k_is)
    (case qg1 => k_is)
    (case qg2 => k_is)
    (case qg3 => k_is)
    (case qg4 => k_is)
    (case qg5 => k_is)
    (case qz0 => k_is)
    (case qz1 => k_is)
    (case qz2 => k_is)
  case S =>
    intro K H xs a hO hwi hask hx
    cases hx with
    | cons h1 h2 =>
      cases h2
      cases h1 with
      | int i =>
        have q : (Codec.inInt 0 18446744073709551615 a.1 && true) = true := hwi
        rw [Bool.and_true] at q
        have q2 := Codec.inInt_iff.mp q
        refine ⟨a.1.toNat, ?_, by omega, fun b H' hb => ?_⟩
        · rw [Int.toNat_of_nonneg q2.1]
        · rw [Int.toNat_of_nonneg q2.1] at hb
          exact .lst (L2.SqL.of hb) (L2.dw_ints _)
#print axioms PySem.Challenge.cw_fillboard_s01_ways_holds

